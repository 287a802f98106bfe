/- CONTRACTS: powers, odd presses, fractions; one press's tally. -/
import Derived.Test.YtkjaaaefcmpokaaTa9
import Derived.Test.YtkjaaaefcmpokaaSc
import Derived.Test.YtkjaaaefcmpokaaKp
import Derived.Test.YtkjaaaefcmpokaaRk
import Derived.RegionTactic
import Derived.Deep.RegionHeld3
import Derived.StillTailTactics
import Derived.Laws.EntriesVeiled
import Derived.WalkKit
import Derived.ProofKit
import Derived.OpenShut
import Derived.Lib.Hide
import Derived.WalkSpells
import Derived.Below
import Derived.BigQuiet
import Derived.LoopN
namespace Go.Proofs.Ytkjaaaefcmpokaa
open Go.ChangeShapes Go.WideShapes Go.ChangeAt Go.RowKit
set_option linter.unusedVariables false
theorem lpow_f {x n : Nat} (hx : x ≤ 36) (hn : n ≤ 6) (w : World) : Calls Try.prog 198 #[.int .i64 (x : Int), .int .i64 (n : Int)] w fun e w' => e = .returned (.int .i64 ((x ^ n : Nat) : Int)) ∧ w' = w := by
  obtain ⟨X, hX⟩ : ∃ X : Int, X = (x : Int) := ⟨_, rfl⟩
  rw [← hX]
  have HX := Lib.hid hX
  clear hX
  go_enter Try.func198, Try.ntmps198
  go_wp2_with fail
  go_loop [5, 6] (fun o i => ∃ k : Nat, k ≤ n ∧ i = .int .i64 k ∧ o = .int .i64 ((x ^ k : Nat) : Int)) (fun _ i => n - (intOf i).toNat)
  case atStart => exact ⟨0, by omega, rfl, by simp⟩
  case round =>
    obtain ⟨k, hk, rfl, rfl⟩ := hrel
    by_cases hlt : k < n
    · have hb := pow_le9 hx (show k + 1 ≤ 6 by omega)
      obtain ⟨q, HQ⟩ : ∃ q : Int, Hid (q = ((x ^ (k + 1) : Nat) : Int)) := ⟨_, Lib.hid rfl⟩
      have hm : wrap64 (((x ^ k : Nat) : Int) * X) = q := by
        rw [HQ.out, HX.out, ← Int.natCast_mul, ← Nat.pow_succ]
        exact w_nat9 (Nat.le_trans hb (by decide))
      generalize ((x ^ k : Nat) : Int) = p at *
      have hlt' : (k : Int) < n := by omega
      clear hb
      go_wp2_with fail
      go_round
      case rel => exact ⟨k + 1, by omega, by go_num, by first | rw [HQ.out] | rw [hm, HQ.out]⟩
      case measure => simp [intOf]; omega
    · obtain rfl : k = n := by omega
      go_wp2_with fail
      go_ret
      exact ⟨rfl, rfl⟩
theorem lists_f {n : Nat} (hn : n ≤ 6) (w : World) : Calls Try.prog 205 #[.int .i64 (n : Int)] w fun e w' => e = .returned (.int .i64 ((36 ^ n : Nat) : Int)) ∧ w' = w := by
  go_enter Try.func205, Try.ntmps205
  go_wp2_with fail
  go_loop [3, 5] (fun o i => ∃ k : Nat, k ≤ n ∧ i = .int .i64 k ∧ o = .int .i64 ((36 ^ k : Nat) : Int)) (fun _ i => n - (intOf i).toNat)
  case atStart => exact ⟨0, by omega, rfl, by simp⟩
  case round =>
    obtain ⟨k, hk, rfl, rfl⟩ := hrel
    by_cases hlt : k < n
    · have hb := pow36 (show k + 1 ≤ 6 by omega)
      obtain ⟨q, HQ⟩ : ∃ q : Int, Hid (q = ((36 ^ (k + 1) : Nat) : Int)) := ⟨_, Lib.hid rfl⟩
      have hm : wrap64 (((36 ^ k : Nat) : Int) * 36) = q := by
        rw [HQ.out, show (36 : Int) = ((36 : Nat) : Int) from rfl, ← Int.natCast_mul, ← Nat.pow_succ]
        exact w_nat9 (Nat.le_trans hb (by decide))
      generalize ((36 ^ k : Nat) : Int) = p at *
      have hlt' : (k : Int) < n := by omega
      clear hb
      go_wp2_with fail
      go_round
      case rel => exact ⟨k + 1, by omega, by go_num, by first | rw [HQ.out] | rw [hm, HQ.out]⟩
      case measure => simp [intOf]; omega
    · obtain rfl : k = n := by omega
      go_wp2_with fail
      go_ret
      exact ⟨rfl, rfl⟩
/-- What the walk computes for one more press that toggles. -/
theorem odd_step {h n : Nat} (hh : h ≤ 36) (hn : n + 1 ≤ 6) : ((tn9 0 h (1, 0) (n + 1)).1 = (tn9 0 h (1, 0) n).1 * (36 - h) + (tn9 0 h (1, 0) n).2 * h) ∧ ((tn9 0 h (1, 0) (n + 1)).2 = (tn9 0 h (1, 0) n).2 * (36 - h) + (tn9 0 h (1, 0) n).1 * h) ∧ (tn9 0 h (1, 0) (n + 1)).1 ≤ 2176782336 ∧ (tn9 0 h (1, 0) (n + 1)).2 ≤ 2176782336 := by
  have hs := tn9_sum 0 h hh (1, 0) (n + 1)
  have hb := pow36 hn
  refine ⟨rfl, rfl, ?_, ?_⟩ <;> (simp only [Nat.add_zero, Nat.one_mul] at hs; omega)
theorem lodd_f {h n : Nat} (hh : h ≤ 36) (hn : n ≤ 6) (w : World) : Calls Try.prog 197 #[.int .i64 (h : Int), .int .i64 (n : Int)] w fun e w' => e = .returned (.int .i64 (((tn9 0 h (1, 0) n).2 : Nat) : Int)) ∧ w' = w := by
  obtain ⟨X, hX⟩ : ∃ X : Int, X = (h : Int) := ⟨_, rfl⟩
  rw [← hX]
  have HX := Lib.hid hX
  obtain ⟨d, HD⟩ : ∃ d : Int, Hid (d = ((36 - h : Nat) : Int)) := ⟨_, Lib.hid rfl⟩
  have hd : wrap64 (36 - X) = d := by
    rw [HD.out, hX]
    rw [wr9 (by omega) (by omega)]
    omega
  clear hX
  go_enter Try.func197, Try.ntmps197
  go_wp2_with fail
  go_loop [5, 6, 7] (fun a o i => ∃ k : Nat, k ≤ n ∧ i = .int .i64 k ∧ a = .int .i64 (((tn9 0 h (1, 0) k).1 : Nat) : Int) ∧ o = .int .i64 (((tn9 0 h (1, 0) k).2 : Nat) : Int)) (fun _ _ i => n - (intOf i).toNat)
  case atStart => exact ⟨0, by omega, rfl, rfl, rfl⟩
  case round =>
    obtain ⟨k, hk, rfl, rfl, rfl⟩ := hrel
    by_cases hlt : k < n
    · obtain ⟨s1, s2, s3, s4⟩ := odd_step (n := k) hh (by omega)
      obtain ⟨e1, He⟩ : ∃ q : Int, Hid (q = (((tn9 0 h (1, 0) (k + 1)).1 : Nat) : Int)) := ⟨_, Lib.hid rfl⟩
      obtain ⟨o1, Ho⟩ : ∃ q : Int, Hid (q = (((tn9 0 h (1, 0) (k + 1)).2 : Nat) : Int)) := ⟨_, Lib.hid rfl⟩
      have he := He.out
      have ho := Ho.out
      generalize tn9 0 h (1, 0) (k + 1) = b at he ho s1 s2 s3 s4
      generalize tn9 0 h (1, 0) k = a at s1 s2 s3 s4 ⊢
      obtain ⟨a1, a2⟩ := a
      dsimp only at s1 s2 ⊢
      rw [s1] at he s3
      rw [s2] at ho s4
      clear s1 s2
      have r1 : wrap64 ((a1 : Int) * d) = ((a1 * (36 - h) : Nat) : Int) := by
        rw [HD.out, ← Int.natCast_mul]; exact w_nat9 (by omega)
      have r2 : wrap64 ((a2 : Int) * X) = ((a2 * h : Nat) : Int) := by
        rw [HX.out, ← Int.natCast_mul]; exact w_nat9 (by omega)
      have r3 : wrap64 ((a2 : Int) * d) = ((a2 * (36 - h) : Nat) : Int) := by
        rw [HD.out, ← Int.natCast_mul]; exact w_nat9 (by omega)
      have r4 : wrap64 ((a1 : Int) * X) = ((a1 * h : Nat) : Int) := by
        rw [HX.out, ← Int.natCast_mul]; exact w_nat9 (by omega)
      have r5 : wrap64 (((a1 * (36 - h) : Nat) : Int) + ((a2 * h : Nat) : Int)) = e1 := by
        rw [he, ← Int.natCast_add]; exact w_nat9 (by omega)
      have r6 : wrap64 (((a2 * (36 - h) : Nat) : Int) + ((a1 * h : Nat) : Int)) = o1 := by
        rw [ho, ← Int.natCast_add]; exact w_nat9 (by omega)
      generalize ((a1 * (36 - h) : Nat) : Int) = p1 at *
      generalize ((a2 * h : Nat) : Int) = p2 at *
      generalize ((a2 * (36 - h) : Nat) : Int) = p3 at *
      generalize ((a1 * h : Nat) : Int) = p4 at *
      have hlt' : (k : Int) < n := by omega
      generalize (a1 : Int) = x1 at *
      generalize (a2 : Int) = x2 at *
      clear he ho s3 s4
      go_wp2_with fail
      go_round
      case rel => exact ⟨k + 1, by omega, by go_num, by first | rw [He.out] | rw [r5, He.out], by first | rw [Ho.out] | rw [r6, Ho.out]⟩
      case measure => simp [intOf]; omega
    · obtain rfl : k = n := by omega
      go_wp2_with fail
      go_ret
      exact ⟨rfl, rfl⟩
theorem lmost_f {g : Nat} (hg : 0 < g) (w : World) : Calls Try.prog 262 #[.int .i64 (g : Int), .int .i64 1] w fun e w' => e = .returned (.int .i64 (g : Int)) ∧ w' = w := by
  by_cases h1 : (1 : Int) < g
  · go_enter Try.func262, Try.ntmps262
    go_wp2_with fail
    go_ret
    exact ⟨rfl, rfl⟩
  · obtain rfl : g = 1 := by omega
    go_enter Try.func262, Try.ntmps262
    go_wp2_with fail
    go_ret
    exact ⟨rfl, rfl⟩
set_option maxRecDepth 20000 in
set_option maxHeartbeats 1000000 in
theorem lcut_f {a b : Nat} (hb : 0 < b) (ha2 : a ≤ 4611686018427387904) (hb2 : b ≤ 4611686018427387904) (w : World) : Calls Try.prog 185 #[.int .i64 (a : Int), .int .i64 (b : Int)] w fun e w' => e = .returned (.agg #[.int .i64 (cut9 a b).1, .int .i64 (cut9 a b).2]) ∧ Below w.heap.size w w' := by
  go_enter Try.func185, Try.ntmps185
  go_wp2_with fail
  have HQ : Hid ((w.alloc (.cells #[.int .i64 0, .int .i64 0] 47)).heap[w.heap.size]? = some (.cells #[.int .i64 0, .int .i64 0] 47 (0, 0)) ∧ Below w.heap.size w (w.alloc (.cells #[.int .i64 0, .int .i64 0] 47))) := Lib.hid ⟨alloc_at rfl, by (repeat (first | exact Below.refl _ _ | assumption | refine Below.setCell ?_ (by first | (simp; done) | (simp; omega)) _ | refine Below.alloc ?_ (by first | (simp; done) | (simp; omega)) _ | refine Below.drew ?_))⟩
  generalize (World.alloc _ _ : World) = W0 at HQ ⊢
  go_loopw [5, 6] (fun p q wr => ∃ x y : Nat, 0 < x + y ∧ x ≤ 4611686018427387904 ∧ y ≤ 4611686018427387904 ∧ Hid (Nat.gcd x y = Nat.gcd a b) ∧ p = .int .i64 x ∧ q = .int .i64 y ∧ Hid (wr.heap[w.heap.size]? = some (.cells #[.int .i64 0, .int .i64 0] 47 (0, 0)) ∧ Below w.heap.size w wr)) (fun _ q _ => (intOf q).toNat)
  case atStart => exact ⟨a, b, by omega, by omega, by omega, Lib.hid rfl, rfl, rfl, HQ⟩
  case round =>
    obtain ⟨x, y, hxy, hx, hy, HG, rfl, rfl, HW⟩ := hrel
    by_cases h0 : 0 < y
    · have hy0 : (0 : Int) < y := by omega
      have hyn : ¬ (y : Int) = 0 := by omega
      have hyn2 : ¬ y = 0 := by omega
      have hm : (x : Int) % (y : Int) = ((x % y : Nat) : Int) := (Int.natCast_emod _ _).symm
      have hm2 : (x : Int).tmod (y : Int) = ((x % y : Nat) : Int) := (Int.ofNat_tmod _ _).symm
      have hlt : x % y < y := Nat.mod_lt _ h0
      have HG2 : Hid (Nat.gcd y (x % y) = Nat.gcd a b) := Lib.hid ((gcd_step9 x y).trans HG.out)
      obtain ⟨z, hz⟩ : ∃ z, z = x % y := ⟨_, rfl⟩
      rw [← hz] at hm hm2 hlt HG2
      clear hz
      go_wp2_with fail
      go_region
      all_goals
        go_wp2_with fail
        go_roundw
        case rel => exact ⟨y, z, by omega, by omega, by omega, HG2, rfl, rfl, Lib.hid (by first | exact HW.out | exact ⟨drew_row HW.out.1, HW.out.2.drew⟩)⟩
        case measure => simp [intOf]; omega
    · obtain rfl : y = 0 := by omega
      have hg : x = Nat.gcd a b := by have := HG.out; rw [Nat.gcd_zero_right] at this; exact this
      have hx0 : 0 < x := by omega
      have HC : Hid ((((a / x : Nat) : Int), ((b / x : Nat) : Int)) = cut9 a b) := Lib.hid (by rw [hg]; rfl)
      clear hg HG
      have HL := Lib.hid (lmost_f hx0)
      have hx1 : (0 : Int) < x := by omega
      have hxn : ¬ (x : Int) = 0 := by omega
      have hxn2 : ¬ x = 0 := by omega
      have d1 : (a : Int) / (x : Int) = ((a / x : Nat) : Int) := (Int.natCast_ediv _ _).symm
      have d2 : (b : Int) / (x : Int) = ((b / x : Nat) : Int) := (Int.natCast_ediv _ _).symm
      have d3 : (a : Int).tdiv (x : Int) = ((a / x : Nat) : Int) := (Int.ofNat_tdiv _ _).symm
      have d4 : (b : Int).tdiv (x : Int) = ((b / x : Nat) : Int) := (Int.ofNat_tdiv _ _).symm
      have l1 : a / x ≤ a := Nat.div_le_self _ _
      have l2 : b / x ≤ b := Nat.div_le_self _ _
      have ww1 : IntKind.i64.wrap ((a / x : Nat) : Int) = ((a / x : Nat) : Int) := i_nat9 (by omega)
      have ww2 : IntKind.i64.wrap ((b / x : Nat) : Int) = ((b / x : Nat) : Int) := i_nat9 (by omega)
      obtain ⟨p, hp⟩ : ∃ p : Int, p = ((a / x : Nat) : Int) := ⟨_, rfl⟩
      obtain ⟨q, hq⟩ : ∃ p : Int, p = ((b / x : Nat) : Int) := ⟨_, rfl⟩
      rw [← hp] at d1 d3 ww1 HC
      rw [← hq] at d2 d4 ww2 HC
      clear hp hq l1 l2
      have z_c := fun j => cell_of_row wr _ j _ _ _ HW.out.1
      have z_f := fun j => frozen_of_row wr _ j _ _ HW.out.1
      go_wp2_with fail
      refine wp_region_still_tail 9 (by kernel_rfl) (by kernel_rfl) ?_
      simp only [List.take_succ_cons, List.take_zero, List.drop_succ_cons, List.drop_zero]
      repeat still_step
      still_call (HL.out _)
      repeat still_step
      still_call (HL.out _)
      repeat still_step
      refine wpStill_nil ?_
      change wpList _ _ _ _ _ wr.drew
      go_wp2_with fail
      refine bodyPost_ret (v := .agg #[.int .i64 p, .int .i64 q]) (by simp [results, Try.results185, go_sem, z_c]) rfl ⟨by rw [← HC.out], ?_⟩
      have hB := HW.out.2.drew
      have hB2 := HW.out.2
      (repeat (first | exact Below.refl _ _ | assumption | refine Below.setCell ?_ (by first | (simp; done) | (simp; omega)) _ | refine Below.alloc ?_ (by first | (simp; done) | (simp; omega)) _ | refine Below.drew ?_))
set_option maxRecDepth 20000 in
set_option maxHeartbeats 1000000 in
theorem frac_f {a b : Nat} (hb : 0 < b) (ha2 : a ≤ 4611686018427387904) (hb2 : b ≤ 4611686018427387904) (w : World) : Calls Try.prog 184 #[.int .i64 (a : Int), .int .i64 (b : Int)] w fun e w' => e = .returned (.agg #[.int .i64 (cut9 a b).1, .int .i64 (cut9 a b).2]) ∧ Below w.heap.size w w' := by
  go_enter Try.func184, Try.ntmps184
  go_wp2_with fail
  have HQ : Hid ((w.alloc (.cells #[.int .i64 0, .int .i64 0] 47)).heap[w.heap.size]? = some (.cells #[.int .i64 0, .int .i64 0] 47 (0, 0)) ∧ Below w.heap.size w (w.alloc (.cells #[.int .i64 0, .int .i64 0] 47))) := Lib.hid ⟨alloc_at rfl, by (repeat (first | exact Below.refl _ _ | assumption | refine Below.setCell ?_ (by first | (simp; done) | (simp; omega)) _ | refine Below.alloc ?_ (by first | (simp; done) | (simp; omega)) _ | refine Below.drew ?_))⟩
  generalize (World.alloc _ _ : World) = W0 at HQ ⊢
  go_loopw [5, 6] (fun p q wr => ∃ x y : Nat, 0 < x + y ∧ x ≤ 4611686018427387904 ∧ y ≤ 4611686018427387904 ∧ Hid (Nat.gcd x y = Nat.gcd a b) ∧ p = .int .i64 x ∧ q = .int .i64 y ∧ Hid (wr.heap[w.heap.size]? = some (.cells #[.int .i64 0, .int .i64 0] 47 (0, 0)) ∧ Below w.heap.size w wr)) (fun _ q _ => (intOf q).toNat)
  case atStart => exact ⟨b, a, by omega, by omega, by omega, Lib.hid (Nat.gcd_comm _ _), rfl, rfl, HQ⟩
  case round =>
    obtain ⟨x, y, hxy, hx, hy, HG, rfl, rfl, HW⟩ := hrel
    by_cases h0 : 0 < y
    · have hy0 : (0 : Int) < y := by omega
      have hyn : ¬ (y : Int) = 0 := by omega
      have hyn2 : ¬ y = 0 := by omega
      have hm : (x : Int) % (y : Int) = ((x % y : Nat) : Int) := (Int.natCast_emod _ _).symm
      have hm2 : (x : Int).tmod (y : Int) = ((x % y : Nat) : Int) := (Int.ofNat_tmod _ _).symm
      have hlt : x % y < y := Nat.mod_lt _ h0
      have HG2 : Hid (Nat.gcd y (x % y) = Nat.gcd a b) := Lib.hid ((gcd_step9 x y).trans HG.out)
      obtain ⟨z, hz⟩ : ∃ z, z = x % y := ⟨_, rfl⟩
      rw [← hz] at hm hm2 hlt HG2
      clear hz
      go_wp2_with fail
      go_region
      all_goals
        go_wp2_with fail
        go_roundw
        case rel => exact ⟨y, z, by omega, by omega, by omega, HG2, rfl, rfl, Lib.hid (by first | exact HW.out | exact ⟨drew_row HW.out.1, HW.out.2.drew⟩)⟩
        case measure => simp [intOf]; omega
    · obtain rfl : y = 0 := by omega
      have hg : x = Nat.gcd a b := by have := HG.out; rw [Nat.gcd_zero_right] at this; exact this
      have hx0 : 0 < x := by omega
      have HC : Hid ((((a / x : Nat) : Int), ((b / x : Nat) : Int)) = cut9 a b) := Lib.hid (by rw [hg]; rfl)
      clear hg HG
      have HL := Lib.hid (lmost_f hx0)
      have hx1 : (0 : Int) < x := by omega
      have hxn : ¬ (x : Int) = 0 := by omega
      have hxn2 : ¬ x = 0 := by omega
      have d1 : (a : Int) / (x : Int) = ((a / x : Nat) : Int) := (Int.natCast_ediv _ _).symm
      have d2 : (b : Int) / (x : Int) = ((b / x : Nat) : Int) := (Int.natCast_ediv _ _).symm
      have d3 : (a : Int).tdiv (x : Int) = ((a / x : Nat) : Int) := (Int.ofNat_tdiv _ _).symm
      have d4 : (b : Int).tdiv (x : Int) = ((b / x : Nat) : Int) := (Int.ofNat_tdiv _ _).symm
      have l1 : a / x ≤ a := Nat.div_le_self _ _
      have l2 : b / x ≤ b := Nat.div_le_self _ _
      have ww1 : IntKind.i64.wrap ((a / x : Nat) : Int) = ((a / x : Nat) : Int) := i_nat9 (by omega)
      have ww2 : IntKind.i64.wrap ((b / x : Nat) : Int) = ((b / x : Nat) : Int) := i_nat9 (by omega)
      obtain ⟨p, hp⟩ : ∃ p : Int, p = ((a / x : Nat) : Int) := ⟨_, rfl⟩
      obtain ⟨q, hq⟩ : ∃ p : Int, p = ((b / x : Nat) : Int) := ⟨_, rfl⟩
      rw [← hp] at d1 d3 ww1 HC
      rw [← hq] at d2 d4 ww2 HC
      clear hp hq l1 l2
      have z_c := fun j => cell_of_row wr _ j _ _ _ HW.out.1
      have z_f := fun j => frozen_of_row wr _ j _ _ HW.out.1
      go_wp2_with fail
      go_region
      all_goals
        go_wp2_with fail
        refine bodyPost_ret (v := .agg #[.int .i64 p, .int .i64 q]) (by simp [results, Try.results184, go_sem, z_c]) rfl ⟨by rw [← HC.out], ?_⟩
        have hB := HW.out.2.drew
        have hB2 := HW.out.2
        (repeat (first | exact Below.refl _ _ | assumption | refine Below.setCell ?_ (by first | (simp; done) | (simp; omega)) _ | refine Below.alloc ?_ (by first | (simp; done) | (simp; omega)) _ | refine Below.drew ?_))
theorem tal0_f (a b : Int) (w : World) : Calls Try.prog 336 #[.agg #[.int .i64 a, .int .i64 b]] w fun e w' => e = .returned (.agg #[.int .i64 b, .int .i64 a]) ∧ Below w.heap.size w w' := by
  go_enter Try.func336, Try.ntmps336
  go_wp2_with fail
  refine bodyPost_ret (v := .agg #[.int .i64 b, .int .i64 a]) (by simp [results, Try.results336, go_sem]) rfl ⟨rfl, ?_⟩
  (repeat (first | exact Below.refl _ _ | assumption | refine Below.setCell ?_ (by first | (simp; done) | (simp; omega)) _ | refine Below.alloc ?_ (by first | (simp; done) | (simp; omega)) _ | refine Below.drew ?_))
theorem hitby0 (w : World) : Calls Try.prog 325 #[.int .i64 0] w fun e w' => e = .returned (.func (.func 336) #[] #[]) ∧ Below w.heap.size w w' := by
  go_enter Try.func325, Try.ntmps325
  go_wp2_with fail
  go_ret
  exact ⟨rfl, by (repeat (first | exact Below.refl _ _ | assumption | refine Below.setCell ?_ (by first | (simp; done) | (simp; omega)) _ | refine Below.alloc ?_ (by first | (simp; done) | (simp; omega)) _ | refine Below.drew ?_))⟩
theorem tal1_f (a b s : Int) (hs : wrap64 (a + b) = s) (w : World) : Calls Try.prog 337 #[.agg #[.int .i64 a, .int .i64 b]] w fun e w' => e = .returned (.agg #[.int .i64 0, .int .i64 s]) ∧ Below w.heap.size w w' := by
  go_enter Try.func337, Try.ntmps337
  go_wp2_with fail
  refine bodyPost_ret (v := .agg #[.int .i64 0, .int .i64 s]) (by simp [results, Try.results337, go_sem]) rfl ⟨rfl, ?_⟩
  (repeat (first | exact Below.refl _ _ | assumption | refine Below.setCell ?_ (by first | (simp; done) | (simp; omega)) _ | refine Below.alloc ?_ (by first | (simp; done) | (simp; omega)) _ | refine Below.drew ?_))
theorem hitby1 (w : World) : Calls Try.prog 325 #[.int .i64 1] w fun e w' => e = .returned (.func (.func 337) #[] #[]) ∧ Below w.heap.size w w' := by
  go_enter Try.func325, Try.ntmps325
  go_wp2_with fail
  go_ret
  exact ⟨rfl, by (repeat (first | exact Below.refl _ _ | assumption | refine Below.setCell ?_ (by first | (simp; done) | (simp; omega)) _ | refine Below.alloc ?_ (by first | (simp; done) | (simp; omega)) _ | refine Below.drew ?_))⟩
theorem tal2_f (a b s : Int) (hs : wrap64 (a + b) = s) (w : World) : Calls Try.prog 338 #[.agg #[.int .i64 a, .int .i64 b]] w fun e w' => e = .returned (.agg #[.int .i64 s, .int .i64 0]) ∧ Below w.heap.size w w' := by
  go_enter Try.func338, Try.ntmps338
  go_wp2_with fail
  refine bodyPost_ret (v := .agg #[.int .i64 s, .int .i64 0]) (by simp [results, Try.results338, go_sem]) rfl ⟨rfl, ?_⟩
  (repeat (first | exact Below.refl _ _ | assumption | refine Below.setCell ?_ (by first | (simp; done) | (simp; omega)) _ | refine Below.alloc ?_ (by first | (simp; done) | (simp; omega)) _ | refine Below.drew ?_))
theorem hitby2 (w : World) : Calls Try.prog 325 #[.int .i64 2] w fun e w' => e = .returned (.func (.func 338) #[] #[]) ∧ Below w.heap.size w w' := by
  go_enter Try.func325, Try.ntmps325
  go_wp2_with fail
  go_ret
  exact ⟨rfl, by (repeat (first | exact Below.refl _ _ | assumption | refine Below.setCell ?_ (by first | (simp; done) | (simp; omega)) _ | refine Below.alloc ?_ (by first | (simp; done) | (simp; omega)) _ | refine Below.drew ?_))⟩
end Go.Proofs.Ytkjaaaefcmpokaa
