/- CONTRACTS: the marked sheet, the numbers of turns, turns behind turns. -/
import Derived.Test.YtpgfmigbjffemaaNt
import Derived.Test.YtpgfmigbjffemaaKp
import Derived.ChangeKeysEq
import Derived.Deep.RegionHeld3
import Derived.WalkKit
import Derived.ProofKit
import Derived.OpenShut
import Derived.Lib.Hide
import Derived.WalkSpells
import Derived.Below
import Derived.BigQuiet
import Derived.LoopN
namespace Go.Proofs.Ytpgfmigbjffemaa
open Go.ChangeShapes Go.WideShapes Go.ChangeAt Go.RowKit
set_option linter.unusedVariables false
theorem neq26 (a0 a1 a2 a3 a4 a5 : Int) (b0 b1 b2 b3 b4 b5 : Int) (w : World) : (binOp .neq 28 (.agg #[.int .i64 a0, .int .i64 a1, .int .i64 a2, .int .i64 a3, .int .i64 a4, .int .i64 a5]) (.agg #[.int .i64 b0, .int .i64 b1, .int .i64 b2, .int .i64 b3, .int .i64 b4, .int .i64 b5])).run Try.prog w = .ok (.bool (!(a0 == b0 && a1 == b1 && a2 == b2 && a3 == b3 && a4 == b4 && a5 == b5))) w := by
  have h := eq26 a0 a1 a2 a3 a4 a5 b0 b1 b2 b3 b4 b5 w
  rw [run_eql_struct] at h
  rw [run_neq_struct]
  generalize (Op.equalIn 10000 28 (.agg #[.int .i64 a0, .int .i64 a1, .int .i64 a2, .int .i64 a3, .int .i64 a4, .int .i64 a5]) (.agg #[.int .i64 b0, .int .i64 b1, .int .i64 b2, .int .i64 b3, .int .i64 b4, .int .i64 b5])).run Try.prog w = x at h ⊢
  cases x with
  | ok v w' =>
    simp only [Result.andThen_ok, Result.ok.injEq, Value.bool.injEq] at h ⊢
    exact ⟨by rw [h.1], h.2⟩
  | halt e w' => cases h
def mk0 : Nat → Nat → Bool := fun y x => (y == 0 && (x == 0 || x == 1 || x == 3)) || (y == 1 && x == 0)
/-- The number of the turn m of the turn k. -/
def tb (k m : Nat) : Nat := (k / 4 + m / 4) % 2 * 4 + (if k < 4 then k + m else 8 + k - m) % 4
/-- The number of the turn that leads back. -/
def bk (k : Nat) : Nat := if k < 4 then (4 - k) % 4 else k
theorem marks_ne8 : ∀ a b : Fin 8, (fun n m : Nat => (rowv (tf n mk0 0) == rowv (tf m mk0 0) && rowv (tf n mk0 1) == rowv (tf m mk0 1) && rowv (tf n mk0 2) == rowv (tf m mk0 2) && rowv (tf n mk0 3) == rowv (tf m mk0 3) && rowv (tf n mk0 4) == rowv (tf m mk0 4) && rowv (tf n mk0 5) == rowv (tf m mk0 5)) == decide (n = m)) a.val b.val = true := by decide +kernel
theorem marks_ne {n m : Nat} (hn : n < 8) (hm : m < 8) : (rowv (tf n mk0 0) == rowv (tf m mk0 0) && rowv (tf n mk0 1) == rowv (tf m mk0 1) && rowv (tf n mk0 2) == rowv (tf m mk0 2) && rowv (tf n mk0 3) == rowv (tf m mk0 3) && rowv (tf n mk0 4) == rowv (tf m mk0 4) && rowv (tf n mk0 5) == rowv (tf m mk0 5)) = decide (n = m) := by simpa using marks_ne8 ⟨n, hn⟩ ⟨m, hm⟩
theorem marks_tb8 : ∀ a b : Fin 8, (fun k m : Nat => decide (tb k m < 8) && (rowv (tf m (tf k mk0) 0) == rowv (tf (tb k m) mk0 0) && rowv (tf m (tf k mk0) 1) == rowv (tf (tb k m) mk0 1) && rowv (tf m (tf k mk0) 2) == rowv (tf (tb k m) mk0 2) && rowv (tf m (tf k mk0) 3) == rowv (tf (tb k m) mk0 3) && rowv (tf m (tf k mk0) 4) == rowv (tf (tb k m) mk0 4) && rowv (tf m (tf k mk0) 5) == rowv (tf (tb k m) mk0 5))) a.val b.val = true := by decide +kernel
theorem marks_tb {k m : Nat} (hk : k < 8) (hm : m < 8) : tb k m < 8 ∧ rowv (tf m (tf k mk0) 0) = rowv (tf (tb k m) mk0 0) ∧ rowv (tf m (tf k mk0) 1) = rowv (tf (tb k m) mk0 1) ∧ rowv (tf m (tf k mk0) 2) = rowv (tf (tb k m) mk0 2) ∧ rowv (tf m (tf k mk0) 3) = rowv (tf (tb k m) mk0 3) ∧ rowv (tf m (tf k mk0) 4) = rowv (tf (tb k m) mk0 4) ∧ rowv (tf m (tf k mk0) 5) = rowv (tf (tb k m) mk0 5) := by
  have h := marks_tb8 ⟨k, hk⟩ ⟨m, hm⟩
  simp only [Bool.and_eq_true, decide_eq_true_eq, beq_iff_eq] at h
  obtain ⟨h, ⟨⟨⟨⟨h0, h1⟩, h2⟩, h3⟩, h4⟩, h5⟩ := h
  exact ⟨h, h0, h1, h2, h3, h4, h5⟩
theorem bk_tb8 : ∀ a b : Fin 8, (fun k m : Nat => decide (bk k < 8) && (decide (tb k m = 0) == decide (m = bk k))) a.val b.val = true := by decide +kernel
theorem bk_tb {k m : Nat} (hk : k < 8) (hm : m < 8) : bk k < 8 ∧ decide (tb k m = 0) = decide (m = bk k) := by
  have h := bk_tb8 ⟨k, hk⟩ ⟨m, hm⟩
  simp only [Bool.and_eq_true, decide_eq_true_eq, beq_iff_eq] at h
  exact h
theorem marked_any (w : World) : Calls Try.prog 143 #[] w fun e w' => e = .returned (.agg #[.int .i64 (rowv (mk0 0)), .int .i64 (rowv (mk0 1)), .int .i64 (rowv (mk0 2)), .int .i64 (rowv (mk0 3)), .int .i64 (rowv (mk0 4)), .int .i64 (rowv (mk0 5))]) ∧ Below w.heap.size w w' := by
  have e : .agg #[.int .i64 (rowv (mk0 0)), .int .i64 (rowv (mk0 1)), .int .i64 (rowv (mk0 2)), .int .i64 (rowv (mk0 3)), .int .i64 (rowv (mk0 4)), .int .i64 (rowv (mk0 5))] = (.agg #[.int .i64 11, .int .i64 1, .int .i64 0, .int .i64 0, .int .i64 0, .int .i64 0] : Value) := by
    rw [show rowv (mk0 0) = 11 by decide +kernel, show rowv (mk0 1) = 1 by decide +kernel, show rowv (mk0 2) = 0 by decide +kernel, show rowv (mk0 3) = 0 by decide +kernel, show rowv (mk0 4) = 0 by decide +kernel, show rowv (mk0 5) = 0 by decide +kernel]
  rw [e]
  go_enter Try.func143, Try.ntmps143
  go_wp2_with fail
  refine bodyPost_ret (v := .agg #[.int .i64 11, .int .i64 1, .int .i64 0, .int .i64 0, .int .i64 0, .int .i64 0]) (by simp [results, Try.results143, go_sem]) rfl ⟨rfl, ?_⟩
  (repeat (first | exact Below.refl _ _ | assumption | refine Below.setCell ?_ (by first | (simp; done) | (simp; omega)) _ | refine Below.alloc ?_ (by first | (simp; done) | (simp; omega)) _ | refine Below.drew ?_))
set_option maxHeartbeats 4000000 in
theorem number_f {n : Nat} (hn : n < 8) (w : World) : Calls Try.prog 142 #[.agg #[.int .i64 (rowv (tf n mk0 0)), .int .i64 (rowv (tf n mk0 1)), .int .i64 (rowv (tf n mk0 2)), .int .i64 (rowv (tf n mk0 3)), .int .i64 (rowv (tf n mk0 4)), .int .i64 (rowv (tf n mk0 5))]] w fun e w' => e = .returned (.int .i64 (n : Int)) ∧ Below w.heap.size w w' := by
  go_enter Try.func142, Try.ntmps142
  go_wp2_with fail
  generalize hW : (World.alloc _ _ : World) = W0
  have k0 : W0.cell? ⟨w.heap.size, 0, none⟩ = some (.int .i64 (rowv (tf n mk0 0))) ∧ W0.cell? ⟨w.heap.size, 1, none⟩ = some (.int .i64 (rowv (tf n mk0 1))) ∧ W0.cell? ⟨w.heap.size, 2, none⟩ = some (.int .i64 (rowv (tf n mk0 2))) ∧ W0.cell? ⟨w.heap.size, 3, none⟩ = some (.int .i64 (rowv (tf n mk0 3))) ∧ W0.cell? ⟨w.heap.size, 4, none⟩ = some (.int .i64 (rowv (tf n mk0 4))) ∧ W0.cell? ⟨w.heap.size, 5, none⟩ = some (.int .i64 (rowv (tf n mk0 5))) ∧ Below w.heap.size w W0 := by
    subst hW
    refine ⟨by go_simp, by go_simp, by go_simp, by go_simp, by go_simp, by go_simp, ?_⟩
    (repeat (first | exact Below.refl _ _ | assumption | refine Below.setCell ?_ (by first | (simp; done) | (simp; omega)) _ | refine Below.alloc ?_ (by first | (simp; done) | (simp; omega)) _ | refine Below.drew ?_))
  clear hW
  have K0 := Lib.hid k0
  clear k0
  go_loopw [3] (fun k wr => ∃ j : Nat, j ≤ n ∧ k = .int .i64 j ∧ Hid (wr.cell? ⟨w.heap.size, 0, none⟩ = some (.int .i64 (rowv (tf n mk0 0))) ∧ wr.cell? ⟨w.heap.size, 1, none⟩ = some (.int .i64 (rowv (tf n mk0 1))) ∧ wr.cell? ⟨w.heap.size, 2, none⟩ = some (.int .i64 (rowv (tf n mk0 2))) ∧ wr.cell? ⟨w.heap.size, 3, none⟩ = some (.int .i64 (rowv (tf n mk0 3))) ∧ wr.cell? ⟨w.heap.size, 4, none⟩ = some (.int .i64 (rowv (tf n mk0 4))) ∧ wr.cell? ⟨w.heap.size, 5, none⟩ = some (.int .i64 (rowv (tf n mk0 5))) ∧ Below w.heap.size w wr)) (fun k _ => 8 - (intOf k).toNat)
  case atStart => exact ⟨0, by omega, rfl, K0⟩
  case round =>
    obtain ⟨j, hj, rfl, HS⟩ := hrel
    have HM := Lib.hid marked_any
    have HT := Lib.hid (turn_f mk0 (show j < 8 by omega))
    have E : ∀ w, (binOp .neq 28 (.agg #[.int .i64 (rowv (tf j mk0 0)), .int .i64 (rowv (tf j mk0 1)), .int .i64 (rowv (tf j mk0 2)), .int .i64 (rowv (tf j mk0 3)), .int .i64 (rowv (tf j mk0 4)), .int .i64 (rowv (tf j mk0 5))]) (.agg #[.int .i64 (rowv (tf n mk0 0)), .int .i64 (rowv (tf n mk0 1)), .int .i64 (rowv (tf n mk0 2)), .int .i64 (rowv (tf n mk0 3)), .int .i64 (rowv (tf n mk0 4)), .int .i64 (rowv (tf n mk0 5))])).run Try.prog w = .ok (.bool (!(decide (j = n)))) w := by
      intro w
      rw [neq26, marks_ne (show j < 8 by omega) hn]
    have k0 := HS.out
    go_wp2_with fail
    go_region_held3 (fun U => U.cell? ⟨w.heap.size, 0, none⟩ = some (.int .i64 (rowv (tf n mk0 0))) ∧ U.cell? ⟨w.heap.size, 1, none⟩ = some (.int .i64 (rowv (tf n mk0 1))) ∧ U.cell? ⟨w.heap.size, 2, none⟩ = some (.int .i64 (rowv (tf n mk0 2))) ∧ U.cell? ⟨w.heap.size, 3, none⟩ = some (.int .i64 (rowv (tf n mk0 3))) ∧ U.cell? ⟨w.heap.size, 4, none⟩ = some (.int .i64 (rowv (tf n mk0 4))) ∧ U.cell? ⟨w.heap.size, 5, none⟩ = some (.int .i64 (rowv (tf n mk0 5))) ∧ Below w.heap.size w U) (first | with_reducible exact drewc6 k0 | with_reducible assumption) (first | (go_at_call 143; refine (HM.out _).mono ?_; rintro e w' ⟨rfl, hb'⟩; have hk := keepc6 (by with_reducible assumption) hb' rfl) | (go_at_call 139; refine (HT.out _).mono ?_; rintro e w' ⟨rfl, hb'⟩; have hk := keepc6 (by with_reducible assumption) hb' rfl))
    clear HM HT E k0
    by_cases e : j = n
    · subst e
      rw [decide_eq_true rfl]
      go_wp2_with fail
      go_ret
      exact ⟨rfl, hk.2.2.2.2.2.2⟩
    · rw [decide_eq_false e]
      have HK := Lib.hid hk
      clear hk HS
      go_wp2_with fail
      go_roundw
      case rel => exact ⟨j + 1, by omega, by go_num, HK⟩
      case measure => simp [intOf]; omega
set_option maxHeartbeats 4000000 in
theorem lback_f {k : Nat} (hk8 : k < 8) (w : World) : Calls Try.prog 145 #[.int .i64 (k : Int)] w fun e w' => e = .returned (.int .i64 (bk k : Int)) ∧ Below w.heap.size w w' := by
  have HM := Lib.hid marked_any
  have HT := Lib.hid (turn_f mk0 hk8)
  have hb8 := (bk_tb hk8 hk8).1
  go_enter Try.func145, Try.ntmps145
  go_wp2_with fail
  go_loopw [3] (fun k' wr => ∃ j : Nat, j ≤ bk k ∧ k' = .int .i64 j ∧ Hid (Below w.heap.size w wr)) (fun k _ => 8 - (intOf k).toNat)
  case atStart => exact ⟨0, by omega, rfl, Lib.hid (Below.refl _ _)⟩
  case round =>
    obtain ⟨j, hj, rfl, HS⟩ := hrel
    have hj8 : j < 8 := by omega
    have HU := Lib.hid (turn_f (tf k mk0) hj8)
    have E : ∀ w, (binOp .neq 28 (.agg #[.int .i64 (rowv (tf j (tf k mk0) 0)), .int .i64 (rowv (tf j (tf k mk0) 1)), .int .i64 (rowv (tf j (tf k mk0) 2)), .int .i64 (rowv (tf j (tf k mk0) 3)), .int .i64 (rowv (tf j (tf k mk0) 4)), .int .i64 (rowv (tf j (tf k mk0) 5))]) (.agg #[.int .i64 (rowv (mk0 0)), .int .i64 (rowv (mk0 1)), .int .i64 (rowv (mk0 2)), .int .i64 (rowv (mk0 3)), .int .i64 (rowv (mk0 4)), .int .i64 (rowv (mk0 5))])).run Try.prog w = .ok (.bool (!(decide (j = bk k)))) w := by
      intro w
      obtain ⟨h8, e0, e1, e2, e3, e4, e5⟩ := marks_tb hk8 hj8
      have h := marks_ne h8 (show 0 < 8 by decide)
      rw [← e0, ← e1, ← e2, ← e3, ← e4, ← e5] at h
      rw [show tf 0 mk0 = mk0 from rfl] at h
      rw [neq26, h, (bk_tb hk8 hj8).2]
    by_cases e : j = bk k
    · rw [decide_eq_true e, Bool.not_true] at E
      have HE := Lib.hid e
      clear e
      have k0 := HS.out
      go_wp2_with fail
      refine (HM.out _).mono ?_
      rintro e1 w1 ⟨rfl, hb⟩
      have k1 := Lib.hid (below_of k0 hb k0.size)
      clear hb k0
      go_wp2_with fail
      refine (HT.out _).mono ?_
      rintro e1 w2 ⟨rfl, hb⟩
      have k2 := Lib.hid (below_of k1.out hb k1.out.size)
      clear hb k1
      go_wp2_with fail
      refine (HU.out _).mono ?_
      rintro e1 w3 ⟨rfl, hb⟩
      have k3 := Lib.hid (below_of k2.out hb k2.out.size)
      clear hb k2
      go_wp2_with fail
      refine (HM.out _).mono ?_
      rintro e1 w4 ⟨rfl, hb⟩
      have k4 := Lib.hid (below_of k3.out hb k3.out.size)
      clear hb k3
      go_wp2_with fail
      go_ret
      exact ⟨by rw [HE.out]; rfl, k4.out⟩
    · rw [decide_eq_false e, Bool.not_false] at E
      have HE := Lib.hid e
      clear e
      have k0 := HS.out
      go_wp2_with fail
      refine (HM.out _).mono ?_
      rintro e1 w1 ⟨rfl, hb⟩
      have k1 := Lib.hid (below_of k0 hb k0.size)
      clear hb k0
      go_wp2_with fail
      refine (HT.out _).mono ?_
      rintro e1 w2 ⟨rfl, hb⟩
      have k2 := Lib.hid (below_of k1.out hb k1.out.size)
      clear hb k1
      go_wp2_with fail
      refine (HU.out _).mono ?_
      rintro e1 w3 ⟨rfl, hb⟩
      have k3 := Lib.hid (below_of k2.out hb k2.out.size)
      clear hb k2
      go_wp2_with fail
      refine (HM.out _).mono ?_
      rintro e1 w4 ⟨rfl, hb⟩
      have k4 := Lib.hid (below_of k3.out hb k3.out.size)
      clear hb k3
      go_wp2_with fail
      go_roundw
      case rel => exact ⟨j + 1, by have := HE.out; omega, by go_num, k4⟩
      case measure => simp [intOf]; omega
theorem cback_f {k : Nat} (hk8 : k < 8) (w : World) : Calls Try.prog 146 #[.int .i64 (k : Int)] w fun e w' => e = .returned (.int .i64 (bk k : Int)) ∧ w' = w := by
  rcases eight hk8 with rfl | rfl | rfl | rfl | rfl | rfl | rfl | rfl
  all_goals
    go_enter Try.func146, Try.ntmps146
    go_wp2_with fail
    go_ret
    exact ⟨rfl, rfl⟩
set_option maxHeartbeats 4000000 in
theorem cbehind_f {k m : Nat} (hk8 : k < 8) (hm8 : m < 8) (w : World) : Calls Try.prog 144 #[.int .i64 (k : Int), .int .i64 (m : Int)] w fun e w' => e = .returned (.int .i64 (tb k m : Int)) ∧ w' = w := by
  rcases eight hk8 with rfl | rfl | rfl | rfl | rfl | rfl | rfl | rfl <;> rcases eight hm8 with rfl | rfl | rfl | rfl | rfl | rfl | rfl | rfl
  all_goals
    go_enter Try.func144, Try.ntmps144
    go_wp2_with fail
    go_ret
    exact ⟨rfl, rfl⟩
end Go.Proofs.Ytpgfmigbjffemaa
