/- CONTRACTS: motions: what is one, in the model and in the code. -/
import Derived.Test.YtpgfmigbjffemaaNt
import Derived.Test.YtpgfmigbjffemaaSv
import Derived.Test.YtpgfmigbjffemaaKr
import Derived.ChangeKeysEq
import Derived.WalkSmall
import Derived.Deep.RegionHeld3
import Derived.WalkKit
import Derived.ProofKit
import Derived.OpenShut
import Derived.Lib.Hide
import Derived.WalkSpells
import Derived.Below
import Derived.BigQuiet
import Derived.LoopN
namespace Go.Proofs.Ytpgfmigbjffemaa
open Go.ChangeShapes Go.WideShapes Go.ChangeAt Go.RowKit
set_option linter.unusedVariables false
def in5 (z : Int) : Bool := decide (0 ≤ z) && decide (z ≤ 5)
def okm (a b c : Int) : Bool := okt a && (in5 b && in5 c)
theorem in5_in {z : Int} (h : in5 z = true) : ∃ n : Nat, n < 6 ∧ z = n := by
  simp only [in5, Bool.and_eq_true, decide_eq_true_eq] at h
  exact ⟨z.toNat, by omega, by omega⟩
theorem okm_in {a b c : Int} (h : okm a b c = true) : ∃ k x y : Nat, k < 8 ∧ x < 6 ∧ y < 6 ∧ a = k ∧ b = x ∧ c = y := by
  simp only [okm, Bool.and_eq_true] at h
  obtain ⟨k, hk, rfl⟩ := okt_in h.1
  obtain ⟨x, hx, rfl⟩ := in5_in h.2.1
  obtain ⟨y, hy, rfl⟩ := in5_in h.2.2
  exact ⟨k, x, y, hk, hx, hy, rfl, rfl, rfl⟩
theorem in5_mod (z : Int) : (z == z % 6) = in5 z := by
  by_cases h : 0 ≤ z ∧ z ≤ 5
  · rw [in5, decide_eq_true h.1, decide_eq_true h.2]; simp; omega
  · have : in5 z = false := by simp [in5]; omega
    rw [this]; simp; omega
theorem eq67 (x y z u v t : Int) (w : World) : (binOp .eql 67 (.agg #[.int .i64 x, .int .i64 y, .int .i64 z]) (.agg #[.int .i64 u, .int .i64 v, .int .i64 t])).run Try.prog w = .ok (.bool (x == u && y == v && z == t)) w := by
  rw [run_eql_struct]
  have h : (Op.equalIn 10000 67 (.agg #[.int .i64 x, .int .i64 y, .int .i64 z]) (.agg #[.int .i64 u, .int .i64 v, .int .i64 t])).run Try.prog w = .ok (x == u && (y == v && (z == t && true))) w := by
    rw [run_equalIn_array w 9999 _ _ Try.underlying67 (i := (Try.prog.info? 3).get (by kernel_rfl)) (by kernel_rfl)]
    have e : Try.prog.cellsOf 3 = 1 := by kernel_rfl
    have hl : List.range 3 = [0, 1, 2] := rfl
    rw [e, hl]
    iterate 3 refine items_step _ _ _ _ _ _ _ _ _ (by kernel_rfl) (by kernel_rfl) ?_
    rfl
  rw [h, Bool.and_true, ← Bool.and_assoc]
  rfl
theorem tst_s (k : Int) {b : Bool} (h : okt k = b) : Hid (∀ w, Calls Try.prog 138 #[.int .i64 k] w fun e w' => e = .returned (.bool b) ∧ w' = w) := Lib.hid (fun w => h ▸ sturns_any k w)
theorem tin_s (z : Int) {b : Bool} (h : in5 z = b) : Hid (∀ w, Calls Try.prog 169 #[.int .i64 z, .int .i64 0, .int .i64 5] w fun e w' => e = .returned (.bool b) ∧ w' = w) := Lib.hid (fun w => h ▸ l1in_any z 0 5 w)
theorem smotion_any (a b c : Int) (w : World) : Calls Try.prog 147 #[.agg #[.int .i64 a, .int .i64 b, .int .i64 c]] w fun e w' => e = .returned (.bool (okm a b c)) ∧ Below w.heap.size w w' := by
  cases ha : okt a
  · have H0 := tst_s a ha
    go_enter Try.func147, Try.ntmps147
    go_wp2_with fail
    refine (H0.out _).mono ?_
    rintro e w1 ⟨rfl, rfl⟩
    go_wp2_with fail
    go_ret
    exact ⟨by simp [okm, ha], by (repeat (first | exact Below.refl _ _ | assumption | refine Below.setCell ?_ (by first | (simp; done) | (simp; omega)) _ | refine Below.alloc ?_ (by first | (simp; done) | (simp; omega)) _ | refine Below.drew ?_))⟩
  · have H0 := tst_s a ha
    cases hb : in5 b
    · have H1 := tin_s b hb
      go_enter Try.func147, Try.ntmps147
      go_wp2_with fail
      refine (H0.out _).mono ?_
      rintro e w1 ⟨rfl, rfl⟩
      go_wp2_with fail
      refine (H1.out _).mono ?_
      rintro e w1 ⟨rfl, rfl⟩
      go_wp2_with fail
      go_ret
      exact ⟨by simp [okm, ha, hb], by (repeat (first | exact Below.refl _ _ | assumption | refine Below.setCell ?_ (by first | (simp; done) | (simp; omega)) _ | refine Below.alloc ?_ (by first | (simp; done) | (simp; omega)) _ | refine Below.drew ?_))⟩
    · have H1 := tin_s b hb
      cases hc : in5 c
      · have H2 := tin_s c hc
        go_enter Try.func147, Try.ntmps147
        go_wp2_with fail
        refine (H0.out _).mono ?_
        rintro e w1 ⟨rfl, rfl⟩
        go_wp2_with fail
        refine (H1.out _).mono ?_
        rintro e w1 ⟨rfl, rfl⟩
        go_wp2_with fail
        refine (H2.out _).mono ?_
        rintro e w1 ⟨rfl, rfl⟩
        go_wp2_with fail
        go_ret
        exact ⟨by simp [okm, ha, hb, hc], by (repeat (first | exact Below.refl _ _ | assumption | refine Below.setCell ?_ (by first | (simp; done) | (simp; omega)) _ | refine Below.alloc ?_ (by first | (simp; done) | (simp; omega)) _ | refine Below.drew ?_))⟩
      · have H2 := tin_s c hc
        go_enter Try.func147, Try.ntmps147
        go_wp2_with fail
        refine (H0.out _).mono ?_
        rintro e w1 ⟨rfl, rfl⟩
        go_wp2_with fail
        refine (H1.out _).mono ?_
        rintro e w1 ⟨rfl, rfl⟩
        go_wp2_with fail
        refine (H2.out _).mono ?_
        rintro e w1 ⟨rfl, rfl⟩
        go_wp2_with fail
        go_ret
        exact ⟨by simp [okm, ha, hb, hc], by (repeat (first | exact Below.refl _ _ | assumption | refine Below.setCell ?_ (by first | (simp; done) | (simp; omega)) _ | refine Below.alloc ?_ (by first | (simp; done) | (simp; omega)) _ | refine Below.drew ?_))⟩
theorem mby_any (k x y : Int) (hx : (Lit.int .i64 x).wf = true) (hy : (Lit.int .i64 y).wf = true) (w : World) : Calls Try.prog 154 #[.int .i64 k, .int .i64 x, .int .i64 y] w fun e w' => e = .returned (.agg #[.int .i64 k, .int .i64 (x % 6), .int .i64 (y % 6)]) ∧ Below w.heap.size w w' := by
  have HA := Lib.hid (around_any x y hx hy)
  clear hx hy
  go_enter Try.func154, Try.ntmps154
  go_wp2_with fail
  have hq0 : (w.alloc (.cells #[.int .i64 0, .int .i64 0, .int .i64 0] 67)).heap[w.heap.size]? = some (.cells #[.int .i64 0, .int .i64 0, .int .i64 0] 67 (0, 0)) := alloc_at rfl
  have hB0 : Below w.heap.size w (w.alloc (.cells #[.int .i64 0, .int .i64 0, .int .i64 0] 67)) := by (repeat (first | exact Below.refl _ _ | assumption | refine Below.setCell ?_ (by first | (simp; done) | (simp; omega)) _ | refine Below.alloc ?_ (by first | (simp; done) | (simp; omega)) _ | refine Below.drew ?_))
  refine (HA.out _).mono ?_
  rintro e w1 ⟨rfl, hb⟩
  have hq1 := rowk hq0 hb rfl
  have hB1 := below_of hB0 hb hB0.size
  clear hb hq0 hB0
  have hlt := row_lt hq1
  have c_c := fun k => cell_of_row w1 _ k _ _ _ hq1
  have c_f := fun k => frozen_of_row w1 _ k _ _ hq1
  go_wp2_with fail
  refine bodyPost_ret (v := .agg #[.int .i64 k, .int .i64 (x % 6), .int .i64 (y % 6)]) (by simp [results, Try.results154, go_sem, c_c, hlt]) rfl ⟨rfl, ?_⟩
  exact (belowc3 hB1 (Nat.le_refl _)).alloc (by simp; omega) _
theorem imotion_any (a b c : Int) (hb : (Lit.int .i64 b).wf = true) (hc : (Lit.int .i64 c).wf = true) (w : World) : Calls Try.prog 149 #[.agg #[.int .i64 a, .int .i64 b, .int .i64 c]] w fun e w' => e = .returned (.bool (okm a b c)) ∧ Below w.heap.size w w' := by
  cases ha : okt a
  · have H1 : Hid (∀ w, Calls Try.prog 140 #[.int .i64 a] w fun e w' => e = .returned (.bool false) ∧ w' = w) := Lib.hid (fun w => ha ▸ iturns_any a w)
    have HE := Lib.hid (show okm a b c = false by simp [okm, ha])
    clear ha
    go_enter Try.func149, Try.ntmps149
    go_wp2_with fail
    generalize hW : (World.alloc _ _ : World) = W0
    have k0 : (fun U => U.cell? ⟨w.heap.size, 0, none⟩ = some (.int .i64 a) ∧ U.cell? ⟨w.heap.size, 1, none⟩ = some (.int .i64 b) ∧ U.cell? ⟨w.heap.size, 2, none⟩ = some (.int .i64 c) ∧ Below w.heap.size w U) W0 := by
      subst hW
      refine ⟨by go_simp, by go_simp, by go_simp, ?_⟩
      (repeat (first | exact Below.refl _ _ | assumption | refine Below.setCell ?_ (by first | (simp; done) | (simp; omega)) _ | refine Below.alloc ?_ (by first | (simp; done) | (simp; omega)) _ | refine Below.drew ?_))
    dsimp only at k0
    clear hW
    obtain ⟨c0, c1, c2, hB⟩ := k0
    go_quiet (first | exact Calls.quiet_of_same (H1.out _))
    go_wp2_with fail
    go_ret
    exact ⟨by rw [HE.out]; rfl, below_drewN hB _⟩
  · have H0 := tk_i a ha
    have HB := Lib.hid (mby_any a b c hb hc)
    have E := eq67 a b c a (b % 6) (c % 6)
    have HE := Lib.hid (show okm a b c = (b == b % 6 && c == c % 6) by rw [in5_mod, in5_mod]; simp [okm, ha])
    clear ha hb hc
    go_enter Try.func149, Try.ntmps149
    go_wp2_with fail
    generalize hW : (World.alloc _ _ : World) = W0
    have k0 : (fun U => U.cell? ⟨w.heap.size, 0, none⟩ = some (.int .i64 a) ∧ U.cell? ⟨w.heap.size, 1, none⟩ = some (.int .i64 b) ∧ U.cell? ⟨w.heap.size, 2, none⟩ = some (.int .i64 c) ∧ Below w.heap.size w U) W0 := by
      subst hW
      refine ⟨by go_simp, by go_simp, by go_simp, ?_⟩
      (repeat (first | exact Below.refl _ _ | assumption | refine Below.setCell ?_ (by first | (simp; done) | (simp; omega)) _ | refine Below.alloc ?_ (by first | (simp; done) | (simp; omega)) _ | refine Below.drew ?_))
    dsimp only at k0
    clear hW
    go_region_held3 (fun U => U.cell? ⟨w.heap.size, 0, none⟩ = some (.int .i64 a) ∧ U.cell? ⟨w.heap.size, 1, none⟩ = some (.int .i64 b) ∧ U.cell? ⟨w.heap.size, 2, none⟩ = some (.int .i64 c) ∧ Below w.heap.size w U) (first | with_reducible exact drewc3 k0 | with_reducible assumption) (first | (go_at_call 140; refine (H0.out _).mono ?_; rintro e w' ⟨rfl, hb'⟩; have hk := keepc3 (by with_reducible assumption) hb' rfl) | (go_at_call 154; refine (HB.out _).mono ?_; rintro e w' ⟨rfl, hb'⟩; have hk := keepc3 (by with_reducible assumption) hb' rfl))
    all_goals
      go_wp2_with fail
      go_ret
      exact ⟨by rw [HE.out]; rfl, hk.2.2.2⟩
theorem mo_s (a b c : Int) {r : Bool} (h : okm a b c = r) : Hid (∀ w, Calls Try.prog 147 #[.agg #[.int .i64 a, .int .i64 b, .int .i64 c]] w fun e w' => e = .returned (.bool r) ∧ Below w.heap.size w w') := Lib.hid (fun w => h ▸ smotion_any a b c w)
theorem mo_i (a b c : Int) (hb : (Lit.int .i64 b).wf = true) (hc : (Lit.int .i64 c).wf = true) {r : Bool} (h : okm a b c = r) : Hid (∀ w, Calls Try.prog 149 #[.agg #[.int .i64 a, .int .i64 b, .int .i64 c]] w fun e w' => e = .returned (.bool r) ∧ Below w.heap.size w w') := Lib.hid (fun w => h ▸ imotion_any a b c hb hc w)
end Go.Proofs.Ytpgfmigbjffemaa
