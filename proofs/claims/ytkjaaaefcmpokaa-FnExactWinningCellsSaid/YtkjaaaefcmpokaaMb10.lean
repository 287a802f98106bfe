/- MERGED, for one claim's sake: Sl, Lx, Cg10, Gn1, Gc10, Ap10. -/
import Derived.Test.YtkjaaaefcmpokaaSb
import Derived.Test.YtkjaaaefcmpokaaSc
import Derived.Test.YtkjaaaefcmpokaaKp
import Derived.Test.YtkjaaaefcmpokaaMa10
import Derived.Test.YtkjaaaefcmpokaaSw5
import Derived.Test.YtkjaaaefcmpokaaMc10
import Derived.Test.YtkjaaaefcmpokaaCo
import Derived.Deep.RegionHeld3
import Derived.RegionTactic
import Derived.WalkKit
import Derived.ProofKit
import Derived.OpenShut
import Derived.Lib.Hide
import Derived.WalkSpells
import Derived.Below
import Derived.BigQuiet
import Derived.LoopN
import Derived.Sort.Grow
import Derived.Deep.Draws
import Derived.Laws.IdiomCopy
import Derived.Laws.OwnMore
import Derived.Maps.AppendAt
namespace Go.Proofs.Ytkjaaaefcmpokaa
open Go.ChangeShapes Go.WideShapes Go.ChangeAt Go.RowKit
set_option linter.unusedVariables false
/- Sl -/
theorem nan_any (x : Int) (w : World) : Calls Try.prog 335 #[.int .i64 x] w fun e w' => e = .returned (.bool false) ∧ w' = w := by
  go_enter Try.func335, Try.ntmps335
  go_wp2_with fail
  go_ret
  exact ⟨rfl, rfl⟩
theorem cmp_lt (x y : Int) (h : x < y) (w : World) : Calls Try.prog 324 #[.int .i64 x, .int .i64 y] w fun e w' => e = .returned (.int .i64 (-1)) ∧ w' = w := by
  go_enter Try.func324, Try.ntmps324
  go_wp2_with fail
  refine (nan_any _ _).mono ?_
  rintro e w' ⟨rfl, rfl⟩
  go_wp2_with fail
  refine (nan_any _ _).mono ?_
  rintro e w' ⟨rfl, rfl⟩
  go_wp2_with fail
  go_ret
  exact ⟨rfl, rfl⟩
theorem cmp_gt (x y : Int) (h : y < x) (w : World) : Calls Try.prog 324 #[.int .i64 x, .int .i64 y] w fun e w' => e = .returned (.int .i64 (1)) ∧ w' = w := by
  go_enter Try.func324, Try.ntmps324
  go_wp2_with fail
  refine (nan_any _ _).mono ?_
  rintro e w' ⟨rfl, rfl⟩
  go_wp2_with fail
  refine (nan_any _ _).mono ?_
  rintro e w' ⟨rfl, rfl⟩
  go_wp2_with fail
  go_ret
  exact ⟨rfl, rfl⟩
theorem cmp_eq (x y : Int) (h : x = y) (w : World) : Calls Try.prog 324 #[.int .i64 x, .int .i64 y] w fun e w' => e = .returned (.int .i64 (0)) ∧ w' = w := by
  subst h
  go_enter Try.func324, Try.ntmps324
  go_wp2_with fail
  refine (nan_any _ _).mono ?_
  rintro e w' ⟨rfl, rfl⟩
  go_wp2_with fail
  refine (nan_any _ _).mono ?_
  rintro e w' ⟨rfl, rfl⟩
  go_wp2_with fail
  go_ret
  exact ⟨rfl, rfl⟩
theorem before_0lt (a0 a1 a2 a3 a4 a5 : Int) (b0 b1 b2 b3 b4 b5 : Int) (h : a0 < b0) (w : World) : Calls Try.prog 256 #[.agg #[.int .i64 a0, .int .i64 a1, .int .i64 a2, .int .i64 a3, .int .i64 a4, .int .i64 a5], .agg #[.int .i64 b0, .int .i64 b1, .int .i64 b2, .int .i64 b3, .int .i64 b4, .int .i64 b5]] w fun e w' => e = .returned (.bool true) ∧ Below w.heap.size w w' := by
  go_enter Try.func256, Try.ntmps256
  go_wp2_with fail
  refine wp_loop_rounds 7 ?_
  rw [rounds_succ]
  go_wp2_with fail
  go_region
  go_wp2_with fail
  go_region
  go_wp2_with fail
  go_ret
  exact ⟨rfl, by (repeat (first | exact Below.refl _ _ | assumption | refine Below.setCell ?_ (by first | (simp; done) | (simp; omega)) _ | refine Below.alloc ?_ (by first | (simp; done) | (simp; omega)) _ | refine Below.drew ?_))⟩
theorem compare_0lt (a0 a1 a2 a3 a4 a5 : Int) (b0 b1 b2 b3 b4 b5 : Int) (h : a0 < b0) (ga gb : Nat) (w : World) (hc : w.cell? ⟨ga, 0, none⟩ = some (.int .i64 a0) ∧ w.cell? ⟨ga, 1, none⟩ = some (.int .i64 a1) ∧ w.cell? ⟨ga, 2, none⟩ = some (.int .i64 a2) ∧ w.cell? ⟨ga, 3, none⟩ = some (.int .i64 a3) ∧ w.cell? ⟨ga, 4, none⟩ = some (.int .i64 a4) ∧ w.cell? ⟨ga, 5, none⟩ = some (.int .i64 a5)) (hd : w.cell? ⟨gb, 0, none⟩ = some (.int .i64 b0) ∧ w.cell? ⟨gb, 1, none⟩ = some (.int .i64 b1) ∧ w.cell? ⟨gb, 2, none⟩ = some (.int .i64 b2) ∧ w.cell? ⟨gb, 3, none⟩ = some (.int .i64 b3) ∧ w.cell? ⟨gb, 4, none⟩ = some (.int .i64 b4) ∧ w.cell? ⟨gb, 5, none⟩ = some (.int .i64 b5)) : Calls Try.prog 302 #[.slice (some ⟨ga, 0, none⟩) 6 6, .slice (some ⟨gb, 0, none⟩) 6 6] w fun e w' => e = .returned (.int .i64 (-1)) ∧ w' = w := by
  obtain ⟨c0, c1, c2, c3, c4, c5⟩ := hc
  obtain ⟨d0, d1, d2, d3, d4, d5⟩ := hd
  have HE := Lib.hid (fun z => cmp_eq z z rfl)
  have HF := Lib.hid (cmp_lt a0 b0 h)
  go_enter Try.func302, Try.ntmps302
  go_wp2_with fail
  refine wp_loop_rounds 7 ?_
  rw [rounds_succ]
  go_wp2_with fail
  refine (HF.out _).mono ?_
  rintro e w' ⟨rfl, rfl⟩
  go_wp2_with fail
  go_ret
  exact ⟨rfl, rfl⟩
theorem before_0gt (a0 a1 a2 a3 a4 a5 : Int) (b0 b1 b2 b3 b4 b5 : Int) (h : b0 < a0) (w : World) : Calls Try.prog 256 #[.agg #[.int .i64 a0, .int .i64 a1, .int .i64 a2, .int .i64 a3, .int .i64 a4, .int .i64 a5], .agg #[.int .i64 b0, .int .i64 b1, .int .i64 b2, .int .i64 b3, .int .i64 b4, .int .i64 b5]] w fun e w' => e = .returned (.bool false) ∧ Below w.heap.size w w' := by
  go_enter Try.func256, Try.ntmps256
  go_wp2_with fail
  refine wp_loop_rounds 7 ?_
  rw [rounds_succ]
  go_wp2_with fail
  go_region
  go_wp2_with fail
  go_region
  go_wp2_with fail
  go_ret
  exact ⟨by simp <;> omega, by (repeat (first | exact Below.refl _ _ | assumption | refine Below.setCell ?_ (by first | (simp; done) | (simp; omega)) _ | refine Below.alloc ?_ (by first | (simp; done) | (simp; omega)) _ | refine Below.drew ?_))⟩
theorem compare_0gt (a0 a1 a2 a3 a4 a5 : Int) (b0 b1 b2 b3 b4 b5 : Int) (h : b0 < a0) (ga gb : Nat) (w : World) (hc : w.cell? ⟨ga, 0, none⟩ = some (.int .i64 a0) ∧ w.cell? ⟨ga, 1, none⟩ = some (.int .i64 a1) ∧ w.cell? ⟨ga, 2, none⟩ = some (.int .i64 a2) ∧ w.cell? ⟨ga, 3, none⟩ = some (.int .i64 a3) ∧ w.cell? ⟨ga, 4, none⟩ = some (.int .i64 a4) ∧ w.cell? ⟨ga, 5, none⟩ = some (.int .i64 a5)) (hd : w.cell? ⟨gb, 0, none⟩ = some (.int .i64 b0) ∧ w.cell? ⟨gb, 1, none⟩ = some (.int .i64 b1) ∧ w.cell? ⟨gb, 2, none⟩ = some (.int .i64 b2) ∧ w.cell? ⟨gb, 3, none⟩ = some (.int .i64 b3) ∧ w.cell? ⟨gb, 4, none⟩ = some (.int .i64 b4) ∧ w.cell? ⟨gb, 5, none⟩ = some (.int .i64 b5)) : Calls Try.prog 302 #[.slice (some ⟨ga, 0, none⟩) 6 6, .slice (some ⟨gb, 0, none⟩) 6 6] w fun e w' => e = .returned (.int .i64 (1)) ∧ w' = w := by
  obtain ⟨c0, c1, c2, c3, c4, c5⟩ := hc
  obtain ⟨d0, d1, d2, d3, d4, d5⟩ := hd
  have HE := Lib.hid (fun z => cmp_eq z z rfl)
  have HF := Lib.hid (cmp_gt a0 b0 h)
  go_enter Try.func302, Try.ntmps302
  go_wp2_with fail
  refine wp_loop_rounds 7 ?_
  rw [rounds_succ]
  go_wp2_with fail
  refine (HF.out _).mono ?_
  rintro e w' ⟨rfl, rfl⟩
  go_wp2_with fail
  go_ret
  exact ⟨rfl, rfl⟩
theorem before_1lt (a0 a1 a2 a3 a4 a5 : Int) (b1 b2 b3 b4 b5 : Int) (h : a1 < b1) (w : World) : Calls Try.prog 256 #[.agg #[.int .i64 a0, .int .i64 a1, .int .i64 a2, .int .i64 a3, .int .i64 a4, .int .i64 a5], .agg #[.int .i64 a0, .int .i64 b1, .int .i64 b2, .int .i64 b3, .int .i64 b4, .int .i64 b5]] w fun e w' => e = .returned (.bool true) ∧ Below w.heap.size w w' := by
  go_enter Try.func256, Try.ntmps256
  go_wp2_with fail
  refine wp_loop_rounds 7 ?_
  rw [rounds_succ]
  go_wp2_with fail
  go_region
  go_wp2_with fail
  rw [rounds_succ]
  go_wp2_with fail
  go_region
  go_wp2_with fail
  go_region
  go_wp2_with fail
  go_ret
  exact ⟨rfl, by (repeat (first | exact Below.refl _ _ | assumption | refine Below.setCell ?_ (by first | (simp; done) | (simp; omega)) _ | refine Below.alloc ?_ (by first | (simp; done) | (simp; omega)) _ | refine Below.drew ?_))⟩
theorem compare_1lt (a0 a1 a2 a3 a4 a5 : Int) (b1 b2 b3 b4 b5 : Int) (h : a1 < b1) (ga gb : Nat) (w : World) (hc : w.cell? ⟨ga, 0, none⟩ = some (.int .i64 a0) ∧ w.cell? ⟨ga, 1, none⟩ = some (.int .i64 a1) ∧ w.cell? ⟨ga, 2, none⟩ = some (.int .i64 a2) ∧ w.cell? ⟨ga, 3, none⟩ = some (.int .i64 a3) ∧ w.cell? ⟨ga, 4, none⟩ = some (.int .i64 a4) ∧ w.cell? ⟨ga, 5, none⟩ = some (.int .i64 a5)) (hd : w.cell? ⟨gb, 0, none⟩ = some (.int .i64 a0) ∧ w.cell? ⟨gb, 1, none⟩ = some (.int .i64 b1) ∧ w.cell? ⟨gb, 2, none⟩ = some (.int .i64 b2) ∧ w.cell? ⟨gb, 3, none⟩ = some (.int .i64 b3) ∧ w.cell? ⟨gb, 4, none⟩ = some (.int .i64 b4) ∧ w.cell? ⟨gb, 5, none⟩ = some (.int .i64 b5)) : Calls Try.prog 302 #[.slice (some ⟨ga, 0, none⟩) 6 6, .slice (some ⟨gb, 0, none⟩) 6 6] w fun e w' => e = .returned (.int .i64 (-1)) ∧ w' = w := by
  obtain ⟨c0, c1, c2, c3, c4, c5⟩ := hc
  obtain ⟨d0, d1, d2, d3, d4, d5⟩ := hd
  have HE := Lib.hid (fun z => cmp_eq z z rfl)
  have HF := Lib.hid (cmp_lt a1 b1 h)
  go_enter Try.func302, Try.ntmps302
  go_wp2_with fail
  refine wp_loop_rounds 7 ?_
  rw [rounds_succ]
  go_wp2_with fail
  refine (HE.out _ _).mono ?_
  rintro e w' ⟨rfl, rfl⟩
  go_wp2_with fail
  rw [rounds_succ]
  go_wp2_with fail
  refine (HF.out _).mono ?_
  rintro e w' ⟨rfl, rfl⟩
  go_wp2_with fail
  go_ret
  exact ⟨rfl, rfl⟩
theorem before_1gt (a0 a1 a2 a3 a4 a5 : Int) (b1 b2 b3 b4 b5 : Int) (h : b1 < a1) (w : World) : Calls Try.prog 256 #[.agg #[.int .i64 a0, .int .i64 a1, .int .i64 a2, .int .i64 a3, .int .i64 a4, .int .i64 a5], .agg #[.int .i64 a0, .int .i64 b1, .int .i64 b2, .int .i64 b3, .int .i64 b4, .int .i64 b5]] w fun e w' => e = .returned (.bool false) ∧ Below w.heap.size w w' := by
  go_enter Try.func256, Try.ntmps256
  go_wp2_with fail
  refine wp_loop_rounds 7 ?_
  rw [rounds_succ]
  go_wp2_with fail
  go_region
  go_wp2_with fail
  rw [rounds_succ]
  go_wp2_with fail
  go_region
  go_wp2_with fail
  go_region
  go_wp2_with fail
  go_ret
  exact ⟨by simp <;> omega, by (repeat (first | exact Below.refl _ _ | assumption | refine Below.setCell ?_ (by first | (simp; done) | (simp; omega)) _ | refine Below.alloc ?_ (by first | (simp; done) | (simp; omega)) _ | refine Below.drew ?_))⟩
theorem compare_1gt (a0 a1 a2 a3 a4 a5 : Int) (b1 b2 b3 b4 b5 : Int) (h : b1 < a1) (ga gb : Nat) (w : World) (hc : w.cell? ⟨ga, 0, none⟩ = some (.int .i64 a0) ∧ w.cell? ⟨ga, 1, none⟩ = some (.int .i64 a1) ∧ w.cell? ⟨ga, 2, none⟩ = some (.int .i64 a2) ∧ w.cell? ⟨ga, 3, none⟩ = some (.int .i64 a3) ∧ w.cell? ⟨ga, 4, none⟩ = some (.int .i64 a4) ∧ w.cell? ⟨ga, 5, none⟩ = some (.int .i64 a5)) (hd : w.cell? ⟨gb, 0, none⟩ = some (.int .i64 a0) ∧ w.cell? ⟨gb, 1, none⟩ = some (.int .i64 b1) ∧ w.cell? ⟨gb, 2, none⟩ = some (.int .i64 b2) ∧ w.cell? ⟨gb, 3, none⟩ = some (.int .i64 b3) ∧ w.cell? ⟨gb, 4, none⟩ = some (.int .i64 b4) ∧ w.cell? ⟨gb, 5, none⟩ = some (.int .i64 b5)) : Calls Try.prog 302 #[.slice (some ⟨ga, 0, none⟩) 6 6, .slice (some ⟨gb, 0, none⟩) 6 6] w fun e w' => e = .returned (.int .i64 (1)) ∧ w' = w := by
  obtain ⟨c0, c1, c2, c3, c4, c5⟩ := hc
  obtain ⟨d0, d1, d2, d3, d4, d5⟩ := hd
  have HE := Lib.hid (fun z => cmp_eq z z rfl)
  have HF := Lib.hid (cmp_gt a1 b1 h)
  go_enter Try.func302, Try.ntmps302
  go_wp2_with fail
  refine wp_loop_rounds 7 ?_
  rw [rounds_succ]
  go_wp2_with fail
  refine (HE.out _ _).mono ?_
  rintro e w' ⟨rfl, rfl⟩
  go_wp2_with fail
  rw [rounds_succ]
  go_wp2_with fail
  refine (HF.out _).mono ?_
  rintro e w' ⟨rfl, rfl⟩
  go_wp2_with fail
  go_ret
  exact ⟨rfl, rfl⟩
theorem before_2lt (a0 a1 a2 a3 a4 a5 : Int) (b2 b3 b4 b5 : Int) (h : a2 < b2) (w : World) : Calls Try.prog 256 #[.agg #[.int .i64 a0, .int .i64 a1, .int .i64 a2, .int .i64 a3, .int .i64 a4, .int .i64 a5], .agg #[.int .i64 a0, .int .i64 a1, .int .i64 b2, .int .i64 b3, .int .i64 b4, .int .i64 b5]] w fun e w' => e = .returned (.bool true) ∧ Below w.heap.size w w' := by
  go_enter Try.func256, Try.ntmps256
  go_wp2_with fail
  refine wp_loop_rounds 7 ?_
  rw [rounds_succ]
  go_wp2_with fail
  go_region
  go_wp2_with fail
  rw [rounds_succ]
  go_wp2_with fail
  go_region
  go_wp2_with fail
  rw [rounds_succ]
  go_wp2_with fail
  go_region
  go_wp2_with fail
  go_region
  go_wp2_with fail
  go_ret
  exact ⟨rfl, by (repeat (first | exact Below.refl _ _ | assumption | refine Below.setCell ?_ (by first | (simp; done) | (simp; omega)) _ | refine Below.alloc ?_ (by first | (simp; done) | (simp; omega)) _ | refine Below.drew ?_))⟩
theorem compare_2lt (a0 a1 a2 a3 a4 a5 : Int) (b2 b3 b4 b5 : Int) (h : a2 < b2) (ga gb : Nat) (w : World) (hc : w.cell? ⟨ga, 0, none⟩ = some (.int .i64 a0) ∧ w.cell? ⟨ga, 1, none⟩ = some (.int .i64 a1) ∧ w.cell? ⟨ga, 2, none⟩ = some (.int .i64 a2) ∧ w.cell? ⟨ga, 3, none⟩ = some (.int .i64 a3) ∧ w.cell? ⟨ga, 4, none⟩ = some (.int .i64 a4) ∧ w.cell? ⟨ga, 5, none⟩ = some (.int .i64 a5)) (hd : w.cell? ⟨gb, 0, none⟩ = some (.int .i64 a0) ∧ w.cell? ⟨gb, 1, none⟩ = some (.int .i64 a1) ∧ w.cell? ⟨gb, 2, none⟩ = some (.int .i64 b2) ∧ w.cell? ⟨gb, 3, none⟩ = some (.int .i64 b3) ∧ w.cell? ⟨gb, 4, none⟩ = some (.int .i64 b4) ∧ w.cell? ⟨gb, 5, none⟩ = some (.int .i64 b5)) : Calls Try.prog 302 #[.slice (some ⟨ga, 0, none⟩) 6 6, .slice (some ⟨gb, 0, none⟩) 6 6] w fun e w' => e = .returned (.int .i64 (-1)) ∧ w' = w := by
  obtain ⟨c0, c1, c2, c3, c4, c5⟩ := hc
  obtain ⟨d0, d1, d2, d3, d4, d5⟩ := hd
  have HE := Lib.hid (fun z => cmp_eq z z rfl)
  have HF := Lib.hid (cmp_lt a2 b2 h)
  go_enter Try.func302, Try.ntmps302
  go_wp2_with fail
  refine wp_loop_rounds 7 ?_
  rw [rounds_succ]
  go_wp2_with fail
  refine (HE.out _ _).mono ?_
  rintro e w' ⟨rfl, rfl⟩
  go_wp2_with fail
  rw [rounds_succ]
  go_wp2_with fail
  refine (HE.out _ _).mono ?_
  rintro e w' ⟨rfl, rfl⟩
  go_wp2_with fail
  rw [rounds_succ]
  go_wp2_with fail
  refine (HF.out _).mono ?_
  rintro e w' ⟨rfl, rfl⟩
  go_wp2_with fail
  go_ret
  exact ⟨rfl, rfl⟩
theorem before_2gt (a0 a1 a2 a3 a4 a5 : Int) (b2 b3 b4 b5 : Int) (h : b2 < a2) (w : World) : Calls Try.prog 256 #[.agg #[.int .i64 a0, .int .i64 a1, .int .i64 a2, .int .i64 a3, .int .i64 a4, .int .i64 a5], .agg #[.int .i64 a0, .int .i64 a1, .int .i64 b2, .int .i64 b3, .int .i64 b4, .int .i64 b5]] w fun e w' => e = .returned (.bool false) ∧ Below w.heap.size w w' := by
  go_enter Try.func256, Try.ntmps256
  go_wp2_with fail
  refine wp_loop_rounds 7 ?_
  rw [rounds_succ]
  go_wp2_with fail
  go_region
  go_wp2_with fail
  rw [rounds_succ]
  go_wp2_with fail
  go_region
  go_wp2_with fail
  rw [rounds_succ]
  go_wp2_with fail
  go_region
  go_wp2_with fail
  go_region
  go_wp2_with fail
  go_ret
  exact ⟨by simp <;> omega, by (repeat (first | exact Below.refl _ _ | assumption | refine Below.setCell ?_ (by first | (simp; done) | (simp; omega)) _ | refine Below.alloc ?_ (by first | (simp; done) | (simp; omega)) _ | refine Below.drew ?_))⟩
theorem compare_2gt (a0 a1 a2 a3 a4 a5 : Int) (b2 b3 b4 b5 : Int) (h : b2 < a2) (ga gb : Nat) (w : World) (hc : w.cell? ⟨ga, 0, none⟩ = some (.int .i64 a0) ∧ w.cell? ⟨ga, 1, none⟩ = some (.int .i64 a1) ∧ w.cell? ⟨ga, 2, none⟩ = some (.int .i64 a2) ∧ w.cell? ⟨ga, 3, none⟩ = some (.int .i64 a3) ∧ w.cell? ⟨ga, 4, none⟩ = some (.int .i64 a4) ∧ w.cell? ⟨ga, 5, none⟩ = some (.int .i64 a5)) (hd : w.cell? ⟨gb, 0, none⟩ = some (.int .i64 a0) ∧ w.cell? ⟨gb, 1, none⟩ = some (.int .i64 a1) ∧ w.cell? ⟨gb, 2, none⟩ = some (.int .i64 b2) ∧ w.cell? ⟨gb, 3, none⟩ = some (.int .i64 b3) ∧ w.cell? ⟨gb, 4, none⟩ = some (.int .i64 b4) ∧ w.cell? ⟨gb, 5, none⟩ = some (.int .i64 b5)) : Calls Try.prog 302 #[.slice (some ⟨ga, 0, none⟩) 6 6, .slice (some ⟨gb, 0, none⟩) 6 6] w fun e w' => e = .returned (.int .i64 (1)) ∧ w' = w := by
  obtain ⟨c0, c1, c2, c3, c4, c5⟩ := hc
  obtain ⟨d0, d1, d2, d3, d4, d5⟩ := hd
  have HE := Lib.hid (fun z => cmp_eq z z rfl)
  have HF := Lib.hid (cmp_gt a2 b2 h)
  go_enter Try.func302, Try.ntmps302
  go_wp2_with fail
  refine wp_loop_rounds 7 ?_
  rw [rounds_succ]
  go_wp2_with fail
  refine (HE.out _ _).mono ?_
  rintro e w' ⟨rfl, rfl⟩
  go_wp2_with fail
  rw [rounds_succ]
  go_wp2_with fail
  refine (HE.out _ _).mono ?_
  rintro e w' ⟨rfl, rfl⟩
  go_wp2_with fail
  rw [rounds_succ]
  go_wp2_with fail
  refine (HF.out _).mono ?_
  rintro e w' ⟨rfl, rfl⟩
  go_wp2_with fail
  go_ret
  exact ⟨rfl, rfl⟩
theorem before_3lt (a0 a1 a2 a3 a4 a5 : Int) (b3 b4 b5 : Int) (h : a3 < b3) (w : World) : Calls Try.prog 256 #[.agg #[.int .i64 a0, .int .i64 a1, .int .i64 a2, .int .i64 a3, .int .i64 a4, .int .i64 a5], .agg #[.int .i64 a0, .int .i64 a1, .int .i64 a2, .int .i64 b3, .int .i64 b4, .int .i64 b5]] w fun e w' => e = .returned (.bool true) ∧ Below w.heap.size w w' := by
  go_enter Try.func256, Try.ntmps256
  go_wp2_with fail
  refine wp_loop_rounds 7 ?_
  rw [rounds_succ]
  go_wp2_with fail
  go_region
  go_wp2_with fail
  rw [rounds_succ]
  go_wp2_with fail
  go_region
  go_wp2_with fail
  rw [rounds_succ]
  go_wp2_with fail
  go_region
  go_wp2_with fail
  rw [rounds_succ]
  go_wp2_with fail
  go_region
  go_wp2_with fail
  go_region
  go_wp2_with fail
  go_ret
  exact ⟨rfl, by (repeat (first | exact Below.refl _ _ | assumption | refine Below.setCell ?_ (by first | (simp; done) | (simp; omega)) _ | refine Below.alloc ?_ (by first | (simp; done) | (simp; omega)) _ | refine Below.drew ?_))⟩
theorem compare_3lt (a0 a1 a2 a3 a4 a5 : Int) (b3 b4 b5 : Int) (h : a3 < b3) (ga gb : Nat) (w : World) (hc : w.cell? ⟨ga, 0, none⟩ = some (.int .i64 a0) ∧ w.cell? ⟨ga, 1, none⟩ = some (.int .i64 a1) ∧ w.cell? ⟨ga, 2, none⟩ = some (.int .i64 a2) ∧ w.cell? ⟨ga, 3, none⟩ = some (.int .i64 a3) ∧ w.cell? ⟨ga, 4, none⟩ = some (.int .i64 a4) ∧ w.cell? ⟨ga, 5, none⟩ = some (.int .i64 a5)) (hd : w.cell? ⟨gb, 0, none⟩ = some (.int .i64 a0) ∧ w.cell? ⟨gb, 1, none⟩ = some (.int .i64 a1) ∧ w.cell? ⟨gb, 2, none⟩ = some (.int .i64 a2) ∧ w.cell? ⟨gb, 3, none⟩ = some (.int .i64 b3) ∧ w.cell? ⟨gb, 4, none⟩ = some (.int .i64 b4) ∧ w.cell? ⟨gb, 5, none⟩ = some (.int .i64 b5)) : Calls Try.prog 302 #[.slice (some ⟨ga, 0, none⟩) 6 6, .slice (some ⟨gb, 0, none⟩) 6 6] w fun e w' => e = .returned (.int .i64 (-1)) ∧ w' = w := by
  obtain ⟨c0, c1, c2, c3, c4, c5⟩ := hc
  obtain ⟨d0, d1, d2, d3, d4, d5⟩ := hd
  have HE := Lib.hid (fun z => cmp_eq z z rfl)
  have HF := Lib.hid (cmp_lt a3 b3 h)
  go_enter Try.func302, Try.ntmps302
  go_wp2_with fail
  refine wp_loop_rounds 7 ?_
  rw [rounds_succ]
  go_wp2_with fail
  refine (HE.out _ _).mono ?_
  rintro e w' ⟨rfl, rfl⟩
  go_wp2_with fail
  rw [rounds_succ]
  go_wp2_with fail
  refine (HE.out _ _).mono ?_
  rintro e w' ⟨rfl, rfl⟩
  go_wp2_with fail
  rw [rounds_succ]
  go_wp2_with fail
  refine (HE.out _ _).mono ?_
  rintro e w' ⟨rfl, rfl⟩
  go_wp2_with fail
  rw [rounds_succ]
  go_wp2_with fail
  refine (HF.out _).mono ?_
  rintro e w' ⟨rfl, rfl⟩
  go_wp2_with fail
  go_ret
  exact ⟨rfl, rfl⟩
theorem before_3gt (a0 a1 a2 a3 a4 a5 : Int) (b3 b4 b5 : Int) (h : b3 < a3) (w : World) : Calls Try.prog 256 #[.agg #[.int .i64 a0, .int .i64 a1, .int .i64 a2, .int .i64 a3, .int .i64 a4, .int .i64 a5], .agg #[.int .i64 a0, .int .i64 a1, .int .i64 a2, .int .i64 b3, .int .i64 b4, .int .i64 b5]] w fun e w' => e = .returned (.bool false) ∧ Below w.heap.size w w' := by
  go_enter Try.func256, Try.ntmps256
  go_wp2_with fail
  refine wp_loop_rounds 7 ?_
  rw [rounds_succ]
  go_wp2_with fail
  go_region
  go_wp2_with fail
  rw [rounds_succ]
  go_wp2_with fail
  go_region
  go_wp2_with fail
  rw [rounds_succ]
  go_wp2_with fail
  go_region
  go_wp2_with fail
  rw [rounds_succ]
  go_wp2_with fail
  go_region
  go_wp2_with fail
  go_region
  go_wp2_with fail
  go_ret
  exact ⟨by simp <;> omega, by (repeat (first | exact Below.refl _ _ | assumption | refine Below.setCell ?_ (by first | (simp; done) | (simp; omega)) _ | refine Below.alloc ?_ (by first | (simp; done) | (simp; omega)) _ | refine Below.drew ?_))⟩
theorem compare_3gt (a0 a1 a2 a3 a4 a5 : Int) (b3 b4 b5 : Int) (h : b3 < a3) (ga gb : Nat) (w : World) (hc : w.cell? ⟨ga, 0, none⟩ = some (.int .i64 a0) ∧ w.cell? ⟨ga, 1, none⟩ = some (.int .i64 a1) ∧ w.cell? ⟨ga, 2, none⟩ = some (.int .i64 a2) ∧ w.cell? ⟨ga, 3, none⟩ = some (.int .i64 a3) ∧ w.cell? ⟨ga, 4, none⟩ = some (.int .i64 a4) ∧ w.cell? ⟨ga, 5, none⟩ = some (.int .i64 a5)) (hd : w.cell? ⟨gb, 0, none⟩ = some (.int .i64 a0) ∧ w.cell? ⟨gb, 1, none⟩ = some (.int .i64 a1) ∧ w.cell? ⟨gb, 2, none⟩ = some (.int .i64 a2) ∧ w.cell? ⟨gb, 3, none⟩ = some (.int .i64 b3) ∧ w.cell? ⟨gb, 4, none⟩ = some (.int .i64 b4) ∧ w.cell? ⟨gb, 5, none⟩ = some (.int .i64 b5)) : Calls Try.prog 302 #[.slice (some ⟨ga, 0, none⟩) 6 6, .slice (some ⟨gb, 0, none⟩) 6 6] w fun e w' => e = .returned (.int .i64 (1)) ∧ w' = w := by
  obtain ⟨c0, c1, c2, c3, c4, c5⟩ := hc
  obtain ⟨d0, d1, d2, d3, d4, d5⟩ := hd
  have HE := Lib.hid (fun z => cmp_eq z z rfl)
  have HF := Lib.hid (cmp_gt a3 b3 h)
  go_enter Try.func302, Try.ntmps302
  go_wp2_with fail
  refine wp_loop_rounds 7 ?_
  rw [rounds_succ]
  go_wp2_with fail
  refine (HE.out _ _).mono ?_
  rintro e w' ⟨rfl, rfl⟩
  go_wp2_with fail
  rw [rounds_succ]
  go_wp2_with fail
  refine (HE.out _ _).mono ?_
  rintro e w' ⟨rfl, rfl⟩
  go_wp2_with fail
  rw [rounds_succ]
  go_wp2_with fail
  refine (HE.out _ _).mono ?_
  rintro e w' ⟨rfl, rfl⟩
  go_wp2_with fail
  rw [rounds_succ]
  go_wp2_with fail
  refine (HF.out _).mono ?_
  rintro e w' ⟨rfl, rfl⟩
  go_wp2_with fail
  go_ret
  exact ⟨rfl, rfl⟩
theorem before_4lt (a0 a1 a2 a3 a4 a5 : Int) (b4 b5 : Int) (h : a4 < b4) (w : World) : Calls Try.prog 256 #[.agg #[.int .i64 a0, .int .i64 a1, .int .i64 a2, .int .i64 a3, .int .i64 a4, .int .i64 a5], .agg #[.int .i64 a0, .int .i64 a1, .int .i64 a2, .int .i64 a3, .int .i64 b4, .int .i64 b5]] w fun e w' => e = .returned (.bool true) ∧ Below w.heap.size w w' := by
  go_enter Try.func256, Try.ntmps256
  go_wp2_with fail
  refine wp_loop_rounds 7 ?_
  rw [rounds_succ]
  go_wp2_with fail
  go_region
  go_wp2_with fail
  rw [rounds_succ]
  go_wp2_with fail
  go_region
  go_wp2_with fail
  rw [rounds_succ]
  go_wp2_with fail
  go_region
  go_wp2_with fail
  rw [rounds_succ]
  go_wp2_with fail
  go_region
  go_wp2_with fail
  rw [rounds_succ]
  go_wp2_with fail
  go_region
  go_wp2_with fail
  go_region
  go_wp2_with fail
  go_ret
  exact ⟨rfl, by (repeat (first | exact Below.refl _ _ | assumption | refine Below.setCell ?_ (by first | (simp; done) | (simp; omega)) _ | refine Below.alloc ?_ (by first | (simp; done) | (simp; omega)) _ | refine Below.drew ?_))⟩
theorem compare_4lt (a0 a1 a2 a3 a4 a5 : Int) (b4 b5 : Int) (h : a4 < b4) (ga gb : Nat) (w : World) (hc : w.cell? ⟨ga, 0, none⟩ = some (.int .i64 a0) ∧ w.cell? ⟨ga, 1, none⟩ = some (.int .i64 a1) ∧ w.cell? ⟨ga, 2, none⟩ = some (.int .i64 a2) ∧ w.cell? ⟨ga, 3, none⟩ = some (.int .i64 a3) ∧ w.cell? ⟨ga, 4, none⟩ = some (.int .i64 a4) ∧ w.cell? ⟨ga, 5, none⟩ = some (.int .i64 a5)) (hd : w.cell? ⟨gb, 0, none⟩ = some (.int .i64 a0) ∧ w.cell? ⟨gb, 1, none⟩ = some (.int .i64 a1) ∧ w.cell? ⟨gb, 2, none⟩ = some (.int .i64 a2) ∧ w.cell? ⟨gb, 3, none⟩ = some (.int .i64 a3) ∧ w.cell? ⟨gb, 4, none⟩ = some (.int .i64 b4) ∧ w.cell? ⟨gb, 5, none⟩ = some (.int .i64 b5)) : Calls Try.prog 302 #[.slice (some ⟨ga, 0, none⟩) 6 6, .slice (some ⟨gb, 0, none⟩) 6 6] w fun e w' => e = .returned (.int .i64 (-1)) ∧ w' = w := by
  obtain ⟨c0, c1, c2, c3, c4, c5⟩ := hc
  obtain ⟨d0, d1, d2, d3, d4, d5⟩ := hd
  have HE := Lib.hid (fun z => cmp_eq z z rfl)
  have HF := Lib.hid (cmp_lt a4 b4 h)
  go_enter Try.func302, Try.ntmps302
  go_wp2_with fail
  refine wp_loop_rounds 7 ?_
  rw [rounds_succ]
  go_wp2_with fail
  refine (HE.out _ _).mono ?_
  rintro e w' ⟨rfl, rfl⟩
  go_wp2_with fail
  rw [rounds_succ]
  go_wp2_with fail
  refine (HE.out _ _).mono ?_
  rintro e w' ⟨rfl, rfl⟩
  go_wp2_with fail
  rw [rounds_succ]
  go_wp2_with fail
  refine (HE.out _ _).mono ?_
  rintro e w' ⟨rfl, rfl⟩
  go_wp2_with fail
  rw [rounds_succ]
  go_wp2_with fail
  refine (HE.out _ _).mono ?_
  rintro e w' ⟨rfl, rfl⟩
  go_wp2_with fail
  rw [rounds_succ]
  go_wp2_with fail
  refine (HF.out _).mono ?_
  rintro e w' ⟨rfl, rfl⟩
  go_wp2_with fail
  go_ret
  exact ⟨rfl, rfl⟩
theorem before_4gt (a0 a1 a2 a3 a4 a5 : Int) (b4 b5 : Int) (h : b4 < a4) (w : World) : Calls Try.prog 256 #[.agg #[.int .i64 a0, .int .i64 a1, .int .i64 a2, .int .i64 a3, .int .i64 a4, .int .i64 a5], .agg #[.int .i64 a0, .int .i64 a1, .int .i64 a2, .int .i64 a3, .int .i64 b4, .int .i64 b5]] w fun e w' => e = .returned (.bool false) ∧ Below w.heap.size w w' := by
  go_enter Try.func256, Try.ntmps256
  go_wp2_with fail
  refine wp_loop_rounds 7 ?_
  rw [rounds_succ]
  go_wp2_with fail
  go_region
  go_wp2_with fail
  rw [rounds_succ]
  go_wp2_with fail
  go_region
  go_wp2_with fail
  rw [rounds_succ]
  go_wp2_with fail
  go_region
  go_wp2_with fail
  rw [rounds_succ]
  go_wp2_with fail
  go_region
  go_wp2_with fail
  rw [rounds_succ]
  go_wp2_with fail
  go_region
  go_wp2_with fail
  go_region
  go_wp2_with fail
  go_ret
  exact ⟨by simp <;> omega, by (repeat (first | exact Below.refl _ _ | assumption | refine Below.setCell ?_ (by first | (simp; done) | (simp; omega)) _ | refine Below.alloc ?_ (by first | (simp; done) | (simp; omega)) _ | refine Below.drew ?_))⟩
theorem compare_4gt (a0 a1 a2 a3 a4 a5 : Int) (b4 b5 : Int) (h : b4 < a4) (ga gb : Nat) (w : World) (hc : w.cell? ⟨ga, 0, none⟩ = some (.int .i64 a0) ∧ w.cell? ⟨ga, 1, none⟩ = some (.int .i64 a1) ∧ w.cell? ⟨ga, 2, none⟩ = some (.int .i64 a2) ∧ w.cell? ⟨ga, 3, none⟩ = some (.int .i64 a3) ∧ w.cell? ⟨ga, 4, none⟩ = some (.int .i64 a4) ∧ w.cell? ⟨ga, 5, none⟩ = some (.int .i64 a5)) (hd : w.cell? ⟨gb, 0, none⟩ = some (.int .i64 a0) ∧ w.cell? ⟨gb, 1, none⟩ = some (.int .i64 a1) ∧ w.cell? ⟨gb, 2, none⟩ = some (.int .i64 a2) ∧ w.cell? ⟨gb, 3, none⟩ = some (.int .i64 a3) ∧ w.cell? ⟨gb, 4, none⟩ = some (.int .i64 b4) ∧ w.cell? ⟨gb, 5, none⟩ = some (.int .i64 b5)) : Calls Try.prog 302 #[.slice (some ⟨ga, 0, none⟩) 6 6, .slice (some ⟨gb, 0, none⟩) 6 6] w fun e w' => e = .returned (.int .i64 (1)) ∧ w' = w := by
  obtain ⟨c0, c1, c2, c3, c4, c5⟩ := hc
  obtain ⟨d0, d1, d2, d3, d4, d5⟩ := hd
  have HE := Lib.hid (fun z => cmp_eq z z rfl)
  have HF := Lib.hid (cmp_gt a4 b4 h)
  go_enter Try.func302, Try.ntmps302
  go_wp2_with fail
  refine wp_loop_rounds 7 ?_
  rw [rounds_succ]
  go_wp2_with fail
  refine (HE.out _ _).mono ?_
  rintro e w' ⟨rfl, rfl⟩
  go_wp2_with fail
  rw [rounds_succ]
  go_wp2_with fail
  refine (HE.out _ _).mono ?_
  rintro e w' ⟨rfl, rfl⟩
  go_wp2_with fail
  rw [rounds_succ]
  go_wp2_with fail
  refine (HE.out _ _).mono ?_
  rintro e w' ⟨rfl, rfl⟩
  go_wp2_with fail
  rw [rounds_succ]
  go_wp2_with fail
  refine (HE.out _ _).mono ?_
  rintro e w' ⟨rfl, rfl⟩
  go_wp2_with fail
  rw [rounds_succ]
  go_wp2_with fail
  refine (HF.out _).mono ?_
  rintro e w' ⟨rfl, rfl⟩
  go_wp2_with fail
  go_ret
  exact ⟨rfl, rfl⟩
theorem before_5lt (a0 a1 a2 a3 a4 a5 : Int) (b5 : Int) (h : a5 < b5) (w : World) : Calls Try.prog 256 #[.agg #[.int .i64 a0, .int .i64 a1, .int .i64 a2, .int .i64 a3, .int .i64 a4, .int .i64 a5], .agg #[.int .i64 a0, .int .i64 a1, .int .i64 a2, .int .i64 a3, .int .i64 a4, .int .i64 b5]] w fun e w' => e = .returned (.bool true) ∧ Below w.heap.size w w' := by
  go_enter Try.func256, Try.ntmps256
  go_wp2_with fail
  refine wp_loop_rounds 7 ?_
  rw [rounds_succ]
  go_wp2_with fail
  go_region
  go_wp2_with fail
  rw [rounds_succ]
  go_wp2_with fail
  go_region
  go_wp2_with fail
  rw [rounds_succ]
  go_wp2_with fail
  go_region
  go_wp2_with fail
  rw [rounds_succ]
  go_wp2_with fail
  go_region
  go_wp2_with fail
  rw [rounds_succ]
  go_wp2_with fail
  go_region
  go_wp2_with fail
  rw [rounds_succ]
  go_wp2_with fail
  go_region
  go_wp2_with fail
  go_region
  go_wp2_with fail
  go_ret
  exact ⟨rfl, by (repeat (first | exact Below.refl _ _ | assumption | refine Below.setCell ?_ (by first | (simp; done) | (simp; omega)) _ | refine Below.alloc ?_ (by first | (simp; done) | (simp; omega)) _ | refine Below.drew ?_))⟩
theorem compare_5lt (a0 a1 a2 a3 a4 a5 : Int) (b5 : Int) (h : a5 < b5) (ga gb : Nat) (w : World) (hc : w.cell? ⟨ga, 0, none⟩ = some (.int .i64 a0) ∧ w.cell? ⟨ga, 1, none⟩ = some (.int .i64 a1) ∧ w.cell? ⟨ga, 2, none⟩ = some (.int .i64 a2) ∧ w.cell? ⟨ga, 3, none⟩ = some (.int .i64 a3) ∧ w.cell? ⟨ga, 4, none⟩ = some (.int .i64 a4) ∧ w.cell? ⟨ga, 5, none⟩ = some (.int .i64 a5)) (hd : w.cell? ⟨gb, 0, none⟩ = some (.int .i64 a0) ∧ w.cell? ⟨gb, 1, none⟩ = some (.int .i64 a1) ∧ w.cell? ⟨gb, 2, none⟩ = some (.int .i64 a2) ∧ w.cell? ⟨gb, 3, none⟩ = some (.int .i64 a3) ∧ w.cell? ⟨gb, 4, none⟩ = some (.int .i64 a4) ∧ w.cell? ⟨gb, 5, none⟩ = some (.int .i64 b5)) : Calls Try.prog 302 #[.slice (some ⟨ga, 0, none⟩) 6 6, .slice (some ⟨gb, 0, none⟩) 6 6] w fun e w' => e = .returned (.int .i64 (-1)) ∧ w' = w := by
  obtain ⟨c0, c1, c2, c3, c4, c5⟩ := hc
  obtain ⟨d0, d1, d2, d3, d4, d5⟩ := hd
  have HE := Lib.hid (fun z => cmp_eq z z rfl)
  have HF := Lib.hid (cmp_lt a5 b5 h)
  go_enter Try.func302, Try.ntmps302
  go_wp2_with fail
  refine wp_loop_rounds 7 ?_
  rw [rounds_succ]
  go_wp2_with fail
  refine (HE.out _ _).mono ?_
  rintro e w' ⟨rfl, rfl⟩
  go_wp2_with fail
  rw [rounds_succ]
  go_wp2_with fail
  refine (HE.out _ _).mono ?_
  rintro e w' ⟨rfl, rfl⟩
  go_wp2_with fail
  rw [rounds_succ]
  go_wp2_with fail
  refine (HE.out _ _).mono ?_
  rintro e w' ⟨rfl, rfl⟩
  go_wp2_with fail
  rw [rounds_succ]
  go_wp2_with fail
  refine (HE.out _ _).mono ?_
  rintro e w' ⟨rfl, rfl⟩
  go_wp2_with fail
  rw [rounds_succ]
  go_wp2_with fail
  refine (HE.out _ _).mono ?_
  rintro e w' ⟨rfl, rfl⟩
  go_wp2_with fail
  rw [rounds_succ]
  go_wp2_with fail
  refine (HF.out _).mono ?_
  rintro e w' ⟨rfl, rfl⟩
  go_wp2_with fail
  go_ret
  exact ⟨rfl, rfl⟩
theorem before_5gt (a0 a1 a2 a3 a4 a5 : Int) (b5 : Int) (h : b5 < a5) (w : World) : Calls Try.prog 256 #[.agg #[.int .i64 a0, .int .i64 a1, .int .i64 a2, .int .i64 a3, .int .i64 a4, .int .i64 a5], .agg #[.int .i64 a0, .int .i64 a1, .int .i64 a2, .int .i64 a3, .int .i64 a4, .int .i64 b5]] w fun e w' => e = .returned (.bool false) ∧ Below w.heap.size w w' := by
  go_enter Try.func256, Try.ntmps256
  go_wp2_with fail
  refine wp_loop_rounds 7 ?_
  rw [rounds_succ]
  go_wp2_with fail
  go_region
  go_wp2_with fail
  rw [rounds_succ]
  go_wp2_with fail
  go_region
  go_wp2_with fail
  rw [rounds_succ]
  go_wp2_with fail
  go_region
  go_wp2_with fail
  rw [rounds_succ]
  go_wp2_with fail
  go_region
  go_wp2_with fail
  rw [rounds_succ]
  go_wp2_with fail
  go_region
  go_wp2_with fail
  rw [rounds_succ]
  go_wp2_with fail
  go_region
  go_wp2_with fail
  go_region
  go_wp2_with fail
  go_ret
  exact ⟨by simp <;> omega, by (repeat (first | exact Below.refl _ _ | assumption | refine Below.setCell ?_ (by first | (simp; done) | (simp; omega)) _ | refine Below.alloc ?_ (by first | (simp; done) | (simp; omega)) _ | refine Below.drew ?_))⟩
theorem compare_5gt (a0 a1 a2 a3 a4 a5 : Int) (b5 : Int) (h : b5 < a5) (ga gb : Nat) (w : World) (hc : w.cell? ⟨ga, 0, none⟩ = some (.int .i64 a0) ∧ w.cell? ⟨ga, 1, none⟩ = some (.int .i64 a1) ∧ w.cell? ⟨ga, 2, none⟩ = some (.int .i64 a2) ∧ w.cell? ⟨ga, 3, none⟩ = some (.int .i64 a3) ∧ w.cell? ⟨ga, 4, none⟩ = some (.int .i64 a4) ∧ w.cell? ⟨ga, 5, none⟩ = some (.int .i64 a5)) (hd : w.cell? ⟨gb, 0, none⟩ = some (.int .i64 a0) ∧ w.cell? ⟨gb, 1, none⟩ = some (.int .i64 a1) ∧ w.cell? ⟨gb, 2, none⟩ = some (.int .i64 a2) ∧ w.cell? ⟨gb, 3, none⟩ = some (.int .i64 a3) ∧ w.cell? ⟨gb, 4, none⟩ = some (.int .i64 a4) ∧ w.cell? ⟨gb, 5, none⟩ = some (.int .i64 b5)) : Calls Try.prog 302 #[.slice (some ⟨ga, 0, none⟩) 6 6, .slice (some ⟨gb, 0, none⟩) 6 6] w fun e w' => e = .returned (.int .i64 (1)) ∧ w' = w := by
  obtain ⟨c0, c1, c2, c3, c4, c5⟩ := hc
  obtain ⟨d0, d1, d2, d3, d4, d5⟩ := hd
  have HE := Lib.hid (fun z => cmp_eq z z rfl)
  have HF := Lib.hid (cmp_gt a5 b5 h)
  go_enter Try.func302, Try.ntmps302
  go_wp2_with fail
  refine wp_loop_rounds 7 ?_
  rw [rounds_succ]
  go_wp2_with fail
  refine (HE.out _ _).mono ?_
  rintro e w' ⟨rfl, rfl⟩
  go_wp2_with fail
  rw [rounds_succ]
  go_wp2_with fail
  refine (HE.out _ _).mono ?_
  rintro e w' ⟨rfl, rfl⟩
  go_wp2_with fail
  rw [rounds_succ]
  go_wp2_with fail
  refine (HE.out _ _).mono ?_
  rintro e w' ⟨rfl, rfl⟩
  go_wp2_with fail
  rw [rounds_succ]
  go_wp2_with fail
  refine (HE.out _ _).mono ?_
  rintro e w' ⟨rfl, rfl⟩
  go_wp2_with fail
  rw [rounds_succ]
  go_wp2_with fail
  refine (HE.out _ _).mono ?_
  rintro e w' ⟨rfl, rfl⟩
  go_wp2_with fail
  rw [rounds_succ]
  go_wp2_with fail
  refine (HF.out _).mono ?_
  rintro e w' ⟨rfl, rfl⟩
  go_wp2_with fail
  go_ret
  exact ⟨rfl, rfl⟩
theorem before_6eq (a0 a1 a2 a3 a4 a5 : Int)   (w : World) : Calls Try.prog 256 #[.agg #[.int .i64 a0, .int .i64 a1, .int .i64 a2, .int .i64 a3, .int .i64 a4, .int .i64 a5], .agg #[.int .i64 a0, .int .i64 a1, .int .i64 a2, .int .i64 a3, .int .i64 a4, .int .i64 a5]] w fun e w' => e = .returned (.bool false) ∧ Below w.heap.size w w' := by
  go_enter Try.func256, Try.ntmps256
  go_wp2_with fail
  refine wp_loop_rounds 7 ?_
  rw [rounds_succ]
  go_wp2_with fail
  go_region
  go_wp2_with fail
  rw [rounds_succ]
  go_wp2_with fail
  go_region
  go_wp2_with fail
  rw [rounds_succ]
  go_wp2_with fail
  go_region
  go_wp2_with fail
  rw [rounds_succ]
  go_wp2_with fail
  go_region
  go_wp2_with fail
  rw [rounds_succ]
  go_wp2_with fail
  go_region
  go_wp2_with fail
  rw [rounds_succ]
  go_wp2_with fail
  go_region
  go_wp2_with fail
  rw [rounds_succ]
  go_wp2_with fail
  go_ret
  exact ⟨rfl, by (repeat (first | exact Below.refl _ _ | assumption | refine Below.setCell ?_ (by first | (simp; done) | (simp; omega)) _ | refine Below.alloc ?_ (by first | (simp; done) | (simp; omega)) _ | refine Below.drew ?_))⟩
theorem compare_6eq (a0 a1 a2 a3 a4 a5 : Int)   (ga gb : Nat) (w : World) (hc : w.cell? ⟨ga, 0, none⟩ = some (.int .i64 a0) ∧ w.cell? ⟨ga, 1, none⟩ = some (.int .i64 a1) ∧ w.cell? ⟨ga, 2, none⟩ = some (.int .i64 a2) ∧ w.cell? ⟨ga, 3, none⟩ = some (.int .i64 a3) ∧ w.cell? ⟨ga, 4, none⟩ = some (.int .i64 a4) ∧ w.cell? ⟨ga, 5, none⟩ = some (.int .i64 a5)) (hd : w.cell? ⟨gb, 0, none⟩ = some (.int .i64 a0) ∧ w.cell? ⟨gb, 1, none⟩ = some (.int .i64 a1) ∧ w.cell? ⟨gb, 2, none⟩ = some (.int .i64 a2) ∧ w.cell? ⟨gb, 3, none⟩ = some (.int .i64 a3) ∧ w.cell? ⟨gb, 4, none⟩ = some (.int .i64 a4) ∧ w.cell? ⟨gb, 5, none⟩ = some (.int .i64 a5)) : Calls Try.prog 302 #[.slice (some ⟨ga, 0, none⟩) 6 6, .slice (some ⟨gb, 0, none⟩) 6 6] w fun e w' => e = .returned (.int .i64 (0)) ∧ w' = w := by
  obtain ⟨c0, c1, c2, c3, c4, c5⟩ := hc
  obtain ⟨d0, d1, d2, d3, d4, d5⟩ := hd
  have HE := Lib.hid (fun z => cmp_eq z z rfl)
  go_enter Try.func302, Try.ntmps302
  go_wp2_with fail
  refine wp_loop_rounds 7 ?_
  rw [rounds_succ]
  go_wp2_with fail
  refine (HE.out _ _).mono ?_
  rintro e w' ⟨rfl, rfl⟩
  go_wp2_with fail
  rw [rounds_succ]
  go_wp2_with fail
  refine (HE.out _ _).mono ?_
  rintro e w' ⟨rfl, rfl⟩
  go_wp2_with fail
  rw [rounds_succ]
  go_wp2_with fail
  refine (HE.out _ _).mono ?_
  rintro e w' ⟨rfl, rfl⟩
  go_wp2_with fail
  rw [rounds_succ]
  go_wp2_with fail
  refine (HE.out _ _).mono ?_
  rintro e w' ⟨rfl, rfl⟩
  go_wp2_with fail
  rw [rounds_succ]
  go_wp2_with fail
  refine (HE.out _ _).mono ?_
  rintro e w' ⟨rfl, rfl⟩
  go_wp2_with fail
  rw [rounds_succ]
  go_wp2_with fail
  refine (HE.out _ _).mono ?_
  rintro e w' ⟨rfl, rfl⟩
  go_wp2_with fail
  rw [rounds_succ]
  go_wp2_with fail
  go_ret
  exact ⟨rfl, rfl⟩
/- Lx -/
theorem tri (a b : Int) : a < b ∨ b < a ∨ a = b := by omega
def lx (a0 a1 a2 a3 a4 a5 : Int) (b0 b1 b2 b3 b4 b5 : Int) : Bool := (decide (a0 < b0) || (decide (a0 = b0) && (decide (a1 < b1) || (decide (a1 = b1) && (decide (a2 < b2) || (decide (a2 = b2) && (decide (a3 < b3) || (decide (a3 = b3) && (decide (a4 < b4) || (decide (a4 = b4) && (decide (a5 < b5) || (decide (a5 = b5) && false))))))))))))
theorem before_lx (a0 a1 a2 a3 a4 a5 : Int) (b0 b1 b2 b3 b4 b5 : Int) (w : World) : Calls Try.prog 256 #[.agg #[.int .i64 a0, .int .i64 a1, .int .i64 a2, .int .i64 a3, .int .i64 a4, .int .i64 a5], .agg #[.int .i64 b0, .int .i64 b1, .int .i64 b2, .int .i64 b3, .int .i64 b4, .int .i64 b5]] w fun e w' => e = .returned (.bool (lx a0 a1 a2 a3 a4 a5 b0 b1 b2 b3 b4 b5)) ∧ Below w.heap.size w w' := by
  rcases tri a0 b0 with h | h | h
  · have e : lx a0 a1 a2 a3 a4 a5 b0 b1 b2 b3 b4 b5 = true := by simp [lx, h]
    rw [e]; exact before_0lt a0 a1 a2 a3 a4 a5 b0 b1 b2 b3 b4 b5 h w
  · have e : lx a0 a1 a2 a3 a4 a5 b0 b1 b2 b3 b4 b5 = false := by have h1 : ¬ a0 < b0 := (by omega); have h2 : ¬ a0 = b0 := (by omega); simp [lx, h1, h2]
    rw [e]; exact before_0gt a0 a1 a2 a3 a4 a5 b0 b1 b2 b3 b4 b5 h w
  subst h
  rcases tri a1 b1 with h | h | h
  · have e : lx a0 a1 a2 a3 a4 a5 a0 b1 b2 b3 b4 b5 = true := by simp [lx, h]
    rw [e]; exact before_1lt a0 a1 a2 a3 a4 a5 b1 b2 b3 b4 b5 h w
  · have e : lx a0 a1 a2 a3 a4 a5 a0 b1 b2 b3 b4 b5 = false := by have h1 : ¬ a1 < b1 := (by omega); have h2 : ¬ a1 = b1 := (by omega); simp [lx, h1, h2]
    rw [e]; exact before_1gt a0 a1 a2 a3 a4 a5 b1 b2 b3 b4 b5 h w
  subst h
  rcases tri a2 b2 with h | h | h
  · have e : lx a0 a1 a2 a3 a4 a5 a0 a1 b2 b3 b4 b5 = true := by simp [lx, h]
    rw [e]; exact before_2lt a0 a1 a2 a3 a4 a5 b2 b3 b4 b5 h w
  · have e : lx a0 a1 a2 a3 a4 a5 a0 a1 b2 b3 b4 b5 = false := by have h1 : ¬ a2 < b2 := (by omega); have h2 : ¬ a2 = b2 := (by omega); simp [lx, h1, h2]
    rw [e]; exact before_2gt a0 a1 a2 a3 a4 a5 b2 b3 b4 b5 h w
  subst h
  rcases tri a3 b3 with h | h | h
  · have e : lx a0 a1 a2 a3 a4 a5 a0 a1 a2 b3 b4 b5 = true := by simp [lx, h]
    rw [e]; exact before_3lt a0 a1 a2 a3 a4 a5 b3 b4 b5 h w
  · have e : lx a0 a1 a2 a3 a4 a5 a0 a1 a2 b3 b4 b5 = false := by have h1 : ¬ a3 < b3 := (by omega); have h2 : ¬ a3 = b3 := (by omega); simp [lx, h1, h2]
    rw [e]; exact before_3gt a0 a1 a2 a3 a4 a5 b3 b4 b5 h w
  subst h
  rcases tri a4 b4 with h | h | h
  · have e : lx a0 a1 a2 a3 a4 a5 a0 a1 a2 a3 b4 b5 = true := by simp [lx, h]
    rw [e]; exact before_4lt a0 a1 a2 a3 a4 a5 b4 b5 h w
  · have e : lx a0 a1 a2 a3 a4 a5 a0 a1 a2 a3 b4 b5 = false := by have h1 : ¬ a4 < b4 := (by omega); have h2 : ¬ a4 = b4 := (by omega); simp [lx, h1, h2]
    rw [e]; exact before_4gt a0 a1 a2 a3 a4 a5 b4 b5 h w
  subst h
  rcases tri a5 b5 with h | h | h
  · have e : lx a0 a1 a2 a3 a4 a5 a0 a1 a2 a3 a4 b5 = true := by simp [lx, h]
    rw [e]; exact before_5lt a0 a1 a2 a3 a4 a5 b5 h w
  · have e : lx a0 a1 a2 a3 a4 a5 a0 a1 a2 a3 a4 b5 = false := by have h1 : ¬ a5 < b5 := (by omega); have h2 : ¬ a5 = b5 := (by omega); simp [lx, h1, h2]
    rw [e]; exact before_5gt a0 a1 a2 a3 a4 a5 b5 h w
  subst h
  have e : lx a0 a1 a2 a3 a4 a5 a0 a1 a2 a3 a4 a5 = false := by simp [lx]
  rw [e]; exact before_6eq a0 a1 a2 a3 a4 a5 w
set_option maxHeartbeats 1000000 in
theorem cmp_is (a0 a1 a2 a3 a4 a5 : Int) (b0 b1 b2 b3 b4 b5 : Int) (r : Int) (w : World) (HC : Hid (∀ U, (U.cell? ⟨w.heap.size, 0, none⟩ = some (.int .i64 a0) ∧ U.cell? ⟨w.heap.size, 1, none⟩ = some (.int .i64 a1) ∧ U.cell? ⟨w.heap.size, 2, none⟩ = some (.int .i64 a2) ∧ U.cell? ⟨w.heap.size, 3, none⟩ = some (.int .i64 a3) ∧ U.cell? ⟨w.heap.size, 4, none⟩ = some (.int .i64 a4) ∧ U.cell? ⟨w.heap.size, 5, none⟩ = some (.int .i64 a5) ∧ U.cell? ⟨w.heap.size + 1, 0, none⟩ = some (.int .i64 b0) ∧ U.cell? ⟨w.heap.size + 1, 1, none⟩ = some (.int .i64 b1) ∧ U.cell? ⟨w.heap.size + 1, 2, none⟩ = some (.int .i64 b2) ∧ U.cell? ⟨w.heap.size + 1, 3, none⟩ = some (.int .i64 b3) ∧ U.cell? ⟨w.heap.size + 1, 4, none⟩ = some (.int .i64 b4) ∧ U.cell? ⟨w.heap.size + 1, 5, none⟩ = some (.int .i64 b5) ∧ Below w.heap.size w U) → Calls Try.prog 302 #[.slice (some ⟨w.heap.size, 0, none⟩) 6 6, .slice (some ⟨w.heap.size + 1, 0, none⟩) 6 6] U fun e w' => e = .returned (.int .i64 r) ∧ w' = U)) : Calls Try.prog 258 #[.agg #[.int .i64 a0, .int .i64 a1, .int .i64 a2, .int .i64 a3, .int .i64 a4, .int .i64 a5], .agg #[.int .i64 b0, .int .i64 b1, .int .i64 b2, .int .i64 b3, .int .i64 b4, .int .i64 b5]] w fun e w' => e = .returned (.int .i64 r) ∧ Below w.heap.size w w' := by
  go_enter Try.func258, Try.ntmps258
  go_wp2_with fail
  generalize hW : (World.alloc _ _ : World) = W0
  have hB0 : Below w.heap.size w W0 := by rw [← hW]; (repeat (first | exact Below.refl _ _ | assumption | refine Below.setCell ?_ (by first | (simp; done) | (simp; omega)) _ | refine Below.alloc ?_ (by first | (simp; done) | (simp; omega)) _ | refine Below.drew ?_))
  have qa : W0.heap[(w.heap.size : Nat)]? = some (Obj.cells (#[.int .i64 a0, .int .i64 a1, .int .i64 a2, .int .i64 a3, .int .i64 a4, .int .i64 a5]) 28 (0, 0)) := by
    rw [← hW]
    repeat (first | (refine alloc_at ?_; first | (simp; done) | (simp; omega)) | refine drew_row ?_ | refine alloc_past ?_ | assumption)
  have qb : W0.heap[(w.heap.size + 1 : Nat)]? = some (Obj.cells (#[.int .i64 b0, .int .i64 b1, .int .i64 b2, .int .i64 b3, .int .i64 b4, .int .i64 b5]) 28 (0, 0)) := by
    rw [← hW]
    repeat (first | (refine alloc_at ?_; first | (simp; done) | (simp; omega)) | refine drew_row ?_ | refine alloc_past ?_ | assumption)
  clear hW
  have qa_c := fun j => cell_of_row W0 _ j _ _ _ qa
  have qb_c := fun j => cell_of_row W0 _ j _ _ _ qb
  have k0 : W0.cell? ⟨w.heap.size, 0, none⟩ = some (.int .i64 a0) ∧ W0.cell? ⟨w.heap.size, 1, none⟩ = some (.int .i64 a1) ∧ W0.cell? ⟨w.heap.size, 2, none⟩ = some (.int .i64 a2) ∧ W0.cell? ⟨w.heap.size, 3, none⟩ = some (.int .i64 a3) ∧ W0.cell? ⟨w.heap.size, 4, none⟩ = some (.int .i64 a4) ∧ W0.cell? ⟨w.heap.size, 5, none⟩ = some (.int .i64 a5) ∧ W0.cell? ⟨w.heap.size + 1, 0, none⟩ = some (.int .i64 b0) ∧ W0.cell? ⟨w.heap.size + 1, 1, none⟩ = some (.int .i64 b1) ∧ W0.cell? ⟨w.heap.size + 1, 2, none⟩ = some (.int .i64 b2) ∧ W0.cell? ⟨w.heap.size + 1, 3, none⟩ = some (.int .i64 b3) ∧ W0.cell? ⟨w.heap.size + 1, 4, none⟩ = some (.int .i64 b4) ∧ W0.cell? ⟨w.heap.size + 1, 5, none⟩ = some (.int .i64 b5) ∧ Below w.heap.size w W0 := ⟨qa_c 0, qa_c 1, qa_c 2, qa_c 3, qa_c 4, qa_c 5, qb_c 0, qb_c 1, qb_c 2, qb_c 3, qb_c 4, qb_c 5, hB0⟩
  clear qa qb qa_c qb_c hB0
  go_region_held3 (fun U => U.cell? ⟨w.heap.size, 0, none⟩ = some (.int .i64 a0) ∧ U.cell? ⟨w.heap.size, 1, none⟩ = some (.int .i64 a1) ∧ U.cell? ⟨w.heap.size, 2, none⟩ = some (.int .i64 a2) ∧ U.cell? ⟨w.heap.size, 3, none⟩ = some (.int .i64 a3) ∧ U.cell? ⟨w.heap.size, 4, none⟩ = some (.int .i64 a4) ∧ U.cell? ⟨w.heap.size, 5, none⟩ = some (.int .i64 a5) ∧ U.cell? ⟨w.heap.size + 1, 0, none⟩ = some (.int .i64 b0) ∧ U.cell? ⟨w.heap.size + 1, 1, none⟩ = some (.int .i64 b1) ∧ U.cell? ⟨w.heap.size + 1, 2, none⟩ = some (.int .i64 b2) ∧ U.cell? ⟨w.heap.size + 1, 3, none⟩ = some (.int .i64 b3) ∧ U.cell? ⟨w.heap.size + 1, 4, none⟩ = some (.int .i64 b4) ∧ U.cell? ⟨w.heap.size + 1, 5, none⟩ = some (.int .i64 b5) ∧ Below w.heap.size w U) (first | with_reducible exact drewc12 k0 | with_reducible assumption) (first | (go_at_call 302; refine (HC.out _ (by with_reducible assumption)).mono ?_; rintro e w' ⟨rfl, rfl⟩))
  have hB := k0.2.2.2.2.2.2.2.2.2.2.2.2.drew
  clear k0
  go_wp2_with fail
  go_ret
  exact ⟨rfl, hB⟩
theorem cmp_lx (a0 a1 a2 a3 a4 a5 : Int) (b0 b1 b2 b3 b4 b5 : Int) : ∃ r : Int, decide (r < 0) = lx a0 a1 a2 a3 a4 a5 b0 b1 b2 b3 b4 b5 ∧ ∀ w, Calls Try.prog 258 #[.agg #[.int .i64 a0, .int .i64 a1, .int .i64 a2, .int .i64 a3, .int .i64 a4, .int .i64 a5], .agg #[.int .i64 b0, .int .i64 b1, .int .i64 b2, .int .i64 b3, .int .i64 b4, .int .i64 b5]] w fun e w' => e = .returned (.int .i64 r) ∧ Below w.heap.size w w' := by
  rcases tri a0 b0 with h | h | h
  · have e : lx a0 a1 a2 a3 a4 a5 b0 b1 b2 b3 b4 b5 = true := by simp [lx, h]
    exact ⟨-1, by rw [e]; decide, fun w => cmp_is a0 a1 a2 a3 a4 a5 b0 b1 b2 b3 b4 b5 _ w (Lib.hid (fun U c => compare_0lt a0 a1 a2 a3 a4 a5 b0 b1 b2 b3 b4 b5 h w.heap.size (w.heap.size + 1) U ⟨c.1, c.2.1, c.2.2.1, c.2.2.2.1, c.2.2.2.2.1, c.2.2.2.2.2.1⟩ ⟨c.2.2.2.2.2.2.1, c.2.2.2.2.2.2.2.1, c.2.2.2.2.2.2.2.2.1, c.2.2.2.2.2.2.2.2.2.1, c.2.2.2.2.2.2.2.2.2.2.1, c.2.2.2.2.2.2.2.2.2.2.2.1⟩))⟩
  · have e : lx a0 a1 a2 a3 a4 a5 b0 b1 b2 b3 b4 b5 = false := by have h1 : ¬ a0 < b0 := (by omega); have h2 : ¬ a0 = b0 := (by omega); simp [lx, h1, h2]
    exact ⟨1, by rw [e]; decide, fun w => cmp_is a0 a1 a2 a3 a4 a5 b0 b1 b2 b3 b4 b5 _ w (Lib.hid (fun U c => compare_0gt a0 a1 a2 a3 a4 a5 b0 b1 b2 b3 b4 b5 h w.heap.size (w.heap.size + 1) U ⟨c.1, c.2.1, c.2.2.1, c.2.2.2.1, c.2.2.2.2.1, c.2.2.2.2.2.1⟩ ⟨c.2.2.2.2.2.2.1, c.2.2.2.2.2.2.2.1, c.2.2.2.2.2.2.2.2.1, c.2.2.2.2.2.2.2.2.2.1, c.2.2.2.2.2.2.2.2.2.2.1, c.2.2.2.2.2.2.2.2.2.2.2.1⟩))⟩
  subst h
  rcases tri a1 b1 with h | h | h
  · have e : lx a0 a1 a2 a3 a4 a5 a0 b1 b2 b3 b4 b5 = true := by simp [lx, h]
    exact ⟨-1, by rw [e]; decide, fun w => cmp_is a0 a1 a2 a3 a4 a5 a0 b1 b2 b3 b4 b5 _ w (Lib.hid (fun U c => compare_1lt a0 a1 a2 a3 a4 a5 b1 b2 b3 b4 b5 h w.heap.size (w.heap.size + 1) U ⟨c.1, c.2.1, c.2.2.1, c.2.2.2.1, c.2.2.2.2.1, c.2.2.2.2.2.1⟩ ⟨c.2.2.2.2.2.2.1, c.2.2.2.2.2.2.2.1, c.2.2.2.2.2.2.2.2.1, c.2.2.2.2.2.2.2.2.2.1, c.2.2.2.2.2.2.2.2.2.2.1, c.2.2.2.2.2.2.2.2.2.2.2.1⟩))⟩
  · have e : lx a0 a1 a2 a3 a4 a5 a0 b1 b2 b3 b4 b5 = false := by have h1 : ¬ a1 < b1 := (by omega); have h2 : ¬ a1 = b1 := (by omega); simp [lx, h1, h2]
    exact ⟨1, by rw [e]; decide, fun w => cmp_is a0 a1 a2 a3 a4 a5 a0 b1 b2 b3 b4 b5 _ w (Lib.hid (fun U c => compare_1gt a0 a1 a2 a3 a4 a5 b1 b2 b3 b4 b5 h w.heap.size (w.heap.size + 1) U ⟨c.1, c.2.1, c.2.2.1, c.2.2.2.1, c.2.2.2.2.1, c.2.2.2.2.2.1⟩ ⟨c.2.2.2.2.2.2.1, c.2.2.2.2.2.2.2.1, c.2.2.2.2.2.2.2.2.1, c.2.2.2.2.2.2.2.2.2.1, c.2.2.2.2.2.2.2.2.2.2.1, c.2.2.2.2.2.2.2.2.2.2.2.1⟩))⟩
  subst h
  rcases tri a2 b2 with h | h | h
  · have e : lx a0 a1 a2 a3 a4 a5 a0 a1 b2 b3 b4 b5 = true := by simp [lx, h]
    exact ⟨-1, by rw [e]; decide, fun w => cmp_is a0 a1 a2 a3 a4 a5 a0 a1 b2 b3 b4 b5 _ w (Lib.hid (fun U c => compare_2lt a0 a1 a2 a3 a4 a5 b2 b3 b4 b5 h w.heap.size (w.heap.size + 1) U ⟨c.1, c.2.1, c.2.2.1, c.2.2.2.1, c.2.2.2.2.1, c.2.2.2.2.2.1⟩ ⟨c.2.2.2.2.2.2.1, c.2.2.2.2.2.2.2.1, c.2.2.2.2.2.2.2.2.1, c.2.2.2.2.2.2.2.2.2.1, c.2.2.2.2.2.2.2.2.2.2.1, c.2.2.2.2.2.2.2.2.2.2.2.1⟩))⟩
  · have e : lx a0 a1 a2 a3 a4 a5 a0 a1 b2 b3 b4 b5 = false := by have h1 : ¬ a2 < b2 := (by omega); have h2 : ¬ a2 = b2 := (by omega); simp [lx, h1, h2]
    exact ⟨1, by rw [e]; decide, fun w => cmp_is a0 a1 a2 a3 a4 a5 a0 a1 b2 b3 b4 b5 _ w (Lib.hid (fun U c => compare_2gt a0 a1 a2 a3 a4 a5 b2 b3 b4 b5 h w.heap.size (w.heap.size + 1) U ⟨c.1, c.2.1, c.2.2.1, c.2.2.2.1, c.2.2.2.2.1, c.2.2.2.2.2.1⟩ ⟨c.2.2.2.2.2.2.1, c.2.2.2.2.2.2.2.1, c.2.2.2.2.2.2.2.2.1, c.2.2.2.2.2.2.2.2.2.1, c.2.2.2.2.2.2.2.2.2.2.1, c.2.2.2.2.2.2.2.2.2.2.2.1⟩))⟩
  subst h
  rcases tri a3 b3 with h | h | h
  · have e : lx a0 a1 a2 a3 a4 a5 a0 a1 a2 b3 b4 b5 = true := by simp [lx, h]
    exact ⟨-1, by rw [e]; decide, fun w => cmp_is a0 a1 a2 a3 a4 a5 a0 a1 a2 b3 b4 b5 _ w (Lib.hid (fun U c => compare_3lt a0 a1 a2 a3 a4 a5 b3 b4 b5 h w.heap.size (w.heap.size + 1) U ⟨c.1, c.2.1, c.2.2.1, c.2.2.2.1, c.2.2.2.2.1, c.2.2.2.2.2.1⟩ ⟨c.2.2.2.2.2.2.1, c.2.2.2.2.2.2.2.1, c.2.2.2.2.2.2.2.2.1, c.2.2.2.2.2.2.2.2.2.1, c.2.2.2.2.2.2.2.2.2.2.1, c.2.2.2.2.2.2.2.2.2.2.2.1⟩))⟩
  · have e : lx a0 a1 a2 a3 a4 a5 a0 a1 a2 b3 b4 b5 = false := by have h1 : ¬ a3 < b3 := (by omega); have h2 : ¬ a3 = b3 := (by omega); simp [lx, h1, h2]
    exact ⟨1, by rw [e]; decide, fun w => cmp_is a0 a1 a2 a3 a4 a5 a0 a1 a2 b3 b4 b5 _ w (Lib.hid (fun U c => compare_3gt a0 a1 a2 a3 a4 a5 b3 b4 b5 h w.heap.size (w.heap.size + 1) U ⟨c.1, c.2.1, c.2.2.1, c.2.2.2.1, c.2.2.2.2.1, c.2.2.2.2.2.1⟩ ⟨c.2.2.2.2.2.2.1, c.2.2.2.2.2.2.2.1, c.2.2.2.2.2.2.2.2.1, c.2.2.2.2.2.2.2.2.2.1, c.2.2.2.2.2.2.2.2.2.2.1, c.2.2.2.2.2.2.2.2.2.2.2.1⟩))⟩
  subst h
  rcases tri a4 b4 with h | h | h
  · have e : lx a0 a1 a2 a3 a4 a5 a0 a1 a2 a3 b4 b5 = true := by simp [lx, h]
    exact ⟨-1, by rw [e]; decide, fun w => cmp_is a0 a1 a2 a3 a4 a5 a0 a1 a2 a3 b4 b5 _ w (Lib.hid (fun U c => compare_4lt a0 a1 a2 a3 a4 a5 b4 b5 h w.heap.size (w.heap.size + 1) U ⟨c.1, c.2.1, c.2.2.1, c.2.2.2.1, c.2.2.2.2.1, c.2.2.2.2.2.1⟩ ⟨c.2.2.2.2.2.2.1, c.2.2.2.2.2.2.2.1, c.2.2.2.2.2.2.2.2.1, c.2.2.2.2.2.2.2.2.2.1, c.2.2.2.2.2.2.2.2.2.2.1, c.2.2.2.2.2.2.2.2.2.2.2.1⟩))⟩
  · have e : lx a0 a1 a2 a3 a4 a5 a0 a1 a2 a3 b4 b5 = false := by have h1 : ¬ a4 < b4 := (by omega); have h2 : ¬ a4 = b4 := (by omega); simp [lx, h1, h2]
    exact ⟨1, by rw [e]; decide, fun w => cmp_is a0 a1 a2 a3 a4 a5 a0 a1 a2 a3 b4 b5 _ w (Lib.hid (fun U c => compare_4gt a0 a1 a2 a3 a4 a5 b4 b5 h w.heap.size (w.heap.size + 1) U ⟨c.1, c.2.1, c.2.2.1, c.2.2.2.1, c.2.2.2.2.1, c.2.2.2.2.2.1⟩ ⟨c.2.2.2.2.2.2.1, c.2.2.2.2.2.2.2.1, c.2.2.2.2.2.2.2.2.1, c.2.2.2.2.2.2.2.2.2.1, c.2.2.2.2.2.2.2.2.2.2.1, c.2.2.2.2.2.2.2.2.2.2.2.1⟩))⟩
  subst h
  rcases tri a5 b5 with h | h | h
  · have e : lx a0 a1 a2 a3 a4 a5 a0 a1 a2 a3 a4 b5 = true := by simp [lx, h]
    exact ⟨-1, by rw [e]; decide, fun w => cmp_is a0 a1 a2 a3 a4 a5 a0 a1 a2 a3 a4 b5 _ w (Lib.hid (fun U c => compare_5lt a0 a1 a2 a3 a4 a5 b5 h w.heap.size (w.heap.size + 1) U ⟨c.1, c.2.1, c.2.2.1, c.2.2.2.1, c.2.2.2.2.1, c.2.2.2.2.2.1⟩ ⟨c.2.2.2.2.2.2.1, c.2.2.2.2.2.2.2.1, c.2.2.2.2.2.2.2.2.1, c.2.2.2.2.2.2.2.2.2.1, c.2.2.2.2.2.2.2.2.2.2.1, c.2.2.2.2.2.2.2.2.2.2.2.1⟩))⟩
  · have e : lx a0 a1 a2 a3 a4 a5 a0 a1 a2 a3 a4 b5 = false := by have h1 : ¬ a5 < b5 := (by omega); have h2 : ¬ a5 = b5 := (by omega); simp [lx, h1, h2]
    exact ⟨1, by rw [e]; decide, fun w => cmp_is a0 a1 a2 a3 a4 a5 a0 a1 a2 a3 a4 b5 _ w (Lib.hid (fun U c => compare_5gt a0 a1 a2 a3 a4 a5 b5 h w.heap.size (w.heap.size + 1) U ⟨c.1, c.2.1, c.2.2.1, c.2.2.2.1, c.2.2.2.2.1, c.2.2.2.2.2.1⟩ ⟨c.2.2.2.2.2.2.1, c.2.2.2.2.2.2.2.1, c.2.2.2.2.2.2.2.2.1, c.2.2.2.2.2.2.2.2.2.1, c.2.2.2.2.2.2.2.2.2.2.1, c.2.2.2.2.2.2.2.2.2.2.2.1⟩))⟩
  subst h
  have e : lx a0 a1 a2 a3 a4 a5 a0 a1 a2 a3 a4 a5 = false := by simp [lx]
  exact ⟨0, by rw [e]; decide, fun w => cmp_is a0 a1 a2 a3 a4 a5 a0 a1 a2 a3 a4 a5 _ w (Lib.hid (fun U c => compare_6eq a0 a1 a2 a3 a4 a5 w.heap.size (w.heap.size + 1) U ⟨c.1, c.2.1, c.2.2.1, c.2.2.2.1, c.2.2.2.2.1, c.2.2.2.2.2.1⟩ ⟨c.2.2.2.2.2.2.1, c.2.2.2.2.2.2.2.1, c.2.2.2.2.2.2.2.2.1, c.2.2.2.2.2.2.2.2.2.1, c.2.2.2.2.2.2.2.2.2.2.1, c.2.2.2.2.2.2.2.2.2.2.2.1⟩))⟩
/- Cg10 -/
/-- Blocks laid behind, and draws. -/
def Gw (w U : World) : Prop := ∃ (q : Nat) (os : Array Obj), U = Go.Sort.grow (w.drewN q) os
theorem Gw.refl (w : World) : Gw w w := ⟨0, #[], by simp [Go.Sort.grow, World.drewN]⟩
theorem Gw.al {w U : World} (h : Gw w U) (o : Obj) : Gw w (U.alloc o) := by
  obtain ⟨q, os, rfl⟩ := h
  exact ⟨q, os ++ #[o], by rw [Go.Sort.alloc_eq_grow, Go.Sort.grow_grow]⟩
theorem Gw.drew {w U : World} (h : Gw w U) : Gw w U.drew := by
  obtain ⟨q, os, rfl⟩ := h
  exact ⟨q + 1, os, rfl⟩
theorem drewg12 {g0 o0 g1 o1 g2 o2 g3 o3 g4 o4 g5 o5 g6 o6 g7 o7 g8 o8 g9 o9 g10 o10 g11 o11 : Nat} {v0 v1 v2 v3 v4 v5 v6 v7 v8 v9 v10 v11 : Value} {w W : World} (h : W.cell? ⟨g0, o0, none⟩ = some v0 ∧ W.cell? ⟨g1, o1, none⟩ = some v1 ∧ W.cell? ⟨g2, o2, none⟩ = some v2 ∧ W.cell? ⟨g3, o3, none⟩ = some v3 ∧ W.cell? ⟨g4, o4, none⟩ = some v4 ∧ W.cell? ⟨g5, o5, none⟩ = some v5 ∧ W.cell? ⟨g6, o6, none⟩ = some v6 ∧ W.cell? ⟨g7, o7, none⟩ = some v7 ∧ W.cell? ⟨g8, o8, none⟩ = some v8 ∧ W.cell? ⟨g9, o9, none⟩ = some v9 ∧ W.cell? ⟨g10, o10, none⟩ = some v10 ∧ W.cell? ⟨g11, o11, none⟩ = some v11 ∧ Gw w W) : W.drew.cell? ⟨g0, o0, none⟩ = some v0 ∧ W.drew.cell? ⟨g1, o1, none⟩ = some v1 ∧ W.drew.cell? ⟨g2, o2, none⟩ = some v2 ∧ W.drew.cell? ⟨g3, o3, none⟩ = some v3 ∧ W.drew.cell? ⟨g4, o4, none⟩ = some v4 ∧ W.drew.cell? ⟨g5, o5, none⟩ = some v5 ∧ W.drew.cell? ⟨g6, o6, none⟩ = some v6 ∧ W.drew.cell? ⟨g7, o7, none⟩ = some v7 ∧ W.drew.cell? ⟨g8, o8, none⟩ = some v8 ∧ W.drew.cell? ⟨g9, o9, none⟩ = some v9 ∧ W.drew.cell? ⟨g10, o10, none⟩ = some v10 ∧ W.drew.cell? ⟨g11, o11, none⟩ = some v11 ∧ Gw w W.drew :=
  ⟨h.1, h.2.1, h.2.2.1, h.2.2.2.1, h.2.2.2.2.1, h.2.2.2.2.2.1, h.2.2.2.2.2.2.1, h.2.2.2.2.2.2.2.1, h.2.2.2.2.2.2.2.2.1, h.2.2.2.2.2.2.2.2.2.1, h.2.2.2.2.2.2.2.2.2.2.1, h.2.2.2.2.2.2.2.2.2.2.2.1, h.2.2.2.2.2.2.2.2.2.2.2.2.drew⟩
set_option maxHeartbeats 1000000 in
theorem cmg_is (a0 a1 a2 a3 a4 a5 : Int) (b0 b1 b2 b3 b4 b5 : Int) (r : Int) (w : World) (HC : Hid (∀ U, (U.cell? ⟨w.heap.size, 0, none⟩ = some (.int .i64 a0) ∧ U.cell? ⟨w.heap.size, 1, none⟩ = some (.int .i64 a1) ∧ U.cell? ⟨w.heap.size, 2, none⟩ = some (.int .i64 a2) ∧ U.cell? ⟨w.heap.size, 3, none⟩ = some (.int .i64 a3) ∧ U.cell? ⟨w.heap.size, 4, none⟩ = some (.int .i64 a4) ∧ U.cell? ⟨w.heap.size, 5, none⟩ = some (.int .i64 a5) ∧ U.cell? ⟨w.heap.size + 1, 0, none⟩ = some (.int .i64 b0) ∧ U.cell? ⟨w.heap.size + 1, 1, none⟩ = some (.int .i64 b1) ∧ U.cell? ⟨w.heap.size + 1, 2, none⟩ = some (.int .i64 b2) ∧ U.cell? ⟨w.heap.size + 1, 3, none⟩ = some (.int .i64 b3) ∧ U.cell? ⟨w.heap.size + 1, 4, none⟩ = some (.int .i64 b4) ∧ U.cell? ⟨w.heap.size + 1, 5, none⟩ = some (.int .i64 b5) ∧ Gw w U) → Calls Try.prog 302 #[.slice (some ⟨w.heap.size, 0, none⟩) 6 6, .slice (some ⟨w.heap.size + 1, 0, none⟩) 6 6] U fun e w' => e = .returned (.int .i64 r) ∧ w' = U)) : Calls Try.prog 258 #[.agg #[.int .i64 a0, .int .i64 a1, .int .i64 a2, .int .i64 a3, .int .i64 a4, .int .i64 a5], .agg #[.int .i64 b0, .int .i64 b1, .int .i64 b2, .int .i64 b3, .int .i64 b4, .int .i64 b5]] w fun e w' => e = .returned (.int .i64 r) ∧ Gw w w' := by
  go_enter Try.func258, Try.ntmps258
  go_wp2_with fail
  generalize hW : (World.alloc _ _ : World) = W0
  have hB0 : Gw w W0 := by rw [← hW]; exact ((Gw.refl w).al _).al _
  have qa : W0.heap[(w.heap.size : Nat)]? = some (Obj.cells (#[.int .i64 a0, .int .i64 a1, .int .i64 a2, .int .i64 a3, .int .i64 a4, .int .i64 a5]) 28 (0, 0)) := by
    rw [← hW]
    repeat (first | (refine alloc_at ?_; first | (simp; done) | (simp; omega)) | refine drew_row ?_ | refine alloc_past ?_ | assumption)
  have qb : W0.heap[(w.heap.size + 1 : Nat)]? = some (Obj.cells (#[.int .i64 b0, .int .i64 b1, .int .i64 b2, .int .i64 b3, .int .i64 b4, .int .i64 b5]) 28 (0, 0)) := by
    rw [← hW]
    repeat (first | (refine alloc_at ?_; first | (simp; done) | (simp; omega)) | refine drew_row ?_ | refine alloc_past ?_ | assumption)
  clear hW
  have qa_c := fun j => cell_of_row W0 _ j _ _ _ qa
  have qb_c := fun j => cell_of_row W0 _ j _ _ _ qb
  have k0 : W0.cell? ⟨w.heap.size, 0, none⟩ = some (.int .i64 a0) ∧ W0.cell? ⟨w.heap.size, 1, none⟩ = some (.int .i64 a1) ∧ W0.cell? ⟨w.heap.size, 2, none⟩ = some (.int .i64 a2) ∧ W0.cell? ⟨w.heap.size, 3, none⟩ = some (.int .i64 a3) ∧ W0.cell? ⟨w.heap.size, 4, none⟩ = some (.int .i64 a4) ∧ W0.cell? ⟨w.heap.size, 5, none⟩ = some (.int .i64 a5) ∧ W0.cell? ⟨w.heap.size + 1, 0, none⟩ = some (.int .i64 b0) ∧ W0.cell? ⟨w.heap.size + 1, 1, none⟩ = some (.int .i64 b1) ∧ W0.cell? ⟨w.heap.size + 1, 2, none⟩ = some (.int .i64 b2) ∧ W0.cell? ⟨w.heap.size + 1, 3, none⟩ = some (.int .i64 b3) ∧ W0.cell? ⟨w.heap.size + 1, 4, none⟩ = some (.int .i64 b4) ∧ W0.cell? ⟨w.heap.size + 1, 5, none⟩ = some (.int .i64 b5) ∧ Gw w W0 := ⟨qa_c 0, qa_c 1, qa_c 2, qa_c 3, qa_c 4, qa_c 5, qb_c 0, qb_c 1, qb_c 2, qb_c 3, qb_c 4, qb_c 5, hB0⟩
  clear qa qb qa_c qb_c hB0
  go_region_held3 (fun U => U.cell? ⟨w.heap.size, 0, none⟩ = some (.int .i64 a0) ∧ U.cell? ⟨w.heap.size, 1, none⟩ = some (.int .i64 a1) ∧ U.cell? ⟨w.heap.size, 2, none⟩ = some (.int .i64 a2) ∧ U.cell? ⟨w.heap.size, 3, none⟩ = some (.int .i64 a3) ∧ U.cell? ⟨w.heap.size, 4, none⟩ = some (.int .i64 a4) ∧ U.cell? ⟨w.heap.size, 5, none⟩ = some (.int .i64 a5) ∧ U.cell? ⟨w.heap.size + 1, 0, none⟩ = some (.int .i64 b0) ∧ U.cell? ⟨w.heap.size + 1, 1, none⟩ = some (.int .i64 b1) ∧ U.cell? ⟨w.heap.size + 1, 2, none⟩ = some (.int .i64 b2) ∧ U.cell? ⟨w.heap.size + 1, 3, none⟩ = some (.int .i64 b3) ∧ U.cell? ⟨w.heap.size + 1, 4, none⟩ = some (.int .i64 b4) ∧ U.cell? ⟨w.heap.size + 1, 5, none⟩ = some (.int .i64 b5) ∧ Gw w U) (first | with_reducible exact drewg12 k0 | with_reducible assumption) (first | (go_at_call 302; refine (HC.out _ (by with_reducible assumption)).mono ?_; rintro e w' ⟨rfl, rfl⟩))
  have hB := k0.2.2.2.2.2.2.2.2.2.2.2.2.drew
  clear k0
  go_wp2_with fail
  go_ret
  exact ⟨rfl, hB⟩
theorem cmg_lx (a0 a1 a2 a3 a4 a5 : Int) (b0 b1 b2 b3 b4 b5 : Int) : ∃ r : Int, decide (r < 0) = lx a0 a1 a2 a3 a4 a5 b0 b1 b2 b3 b4 b5 ∧ ∀ w, Calls Try.prog 258 #[.agg #[.int .i64 a0, .int .i64 a1, .int .i64 a2, .int .i64 a3, .int .i64 a4, .int .i64 a5], .agg #[.int .i64 b0, .int .i64 b1, .int .i64 b2, .int .i64 b3, .int .i64 b4, .int .i64 b5]] w fun e w' => e = .returned (.int .i64 r) ∧ Gw w w' := by
  rcases tri a0 b0 with h | h | h
  · have e : lx a0 a1 a2 a3 a4 a5 b0 b1 b2 b3 b4 b5 = true := by simp [lx, h]
    exact ⟨-1, by rw [e]; decide, fun w => cmg_is a0 a1 a2 a3 a4 a5 b0 b1 b2 b3 b4 b5 _ w (Lib.hid (fun U c => compare_0lt a0 a1 a2 a3 a4 a5 b0 b1 b2 b3 b4 b5 h w.heap.size (w.heap.size + 1) U ⟨c.1, c.2.1, c.2.2.1, c.2.2.2.1, c.2.2.2.2.1, c.2.2.2.2.2.1⟩ ⟨c.2.2.2.2.2.2.1, c.2.2.2.2.2.2.2.1, c.2.2.2.2.2.2.2.2.1, c.2.2.2.2.2.2.2.2.2.1, c.2.2.2.2.2.2.2.2.2.2.1, c.2.2.2.2.2.2.2.2.2.2.2.1⟩))⟩
  · have e : lx a0 a1 a2 a3 a4 a5 b0 b1 b2 b3 b4 b5 = false := by have h1 : ¬ a0 < b0 := (by omega); have h2 : ¬ a0 = b0 := (by omega); simp [lx, h1, h2]
    exact ⟨1, by rw [e]; decide, fun w => cmg_is a0 a1 a2 a3 a4 a5 b0 b1 b2 b3 b4 b5 _ w (Lib.hid (fun U c => compare_0gt a0 a1 a2 a3 a4 a5 b0 b1 b2 b3 b4 b5 h w.heap.size (w.heap.size + 1) U ⟨c.1, c.2.1, c.2.2.1, c.2.2.2.1, c.2.2.2.2.1, c.2.2.2.2.2.1⟩ ⟨c.2.2.2.2.2.2.1, c.2.2.2.2.2.2.2.1, c.2.2.2.2.2.2.2.2.1, c.2.2.2.2.2.2.2.2.2.1, c.2.2.2.2.2.2.2.2.2.2.1, c.2.2.2.2.2.2.2.2.2.2.2.1⟩))⟩
  subst h
  rcases tri a1 b1 with h | h | h
  · have e : lx a0 a1 a2 a3 a4 a5 a0 b1 b2 b3 b4 b5 = true := by simp [lx, h]
    exact ⟨-1, by rw [e]; decide, fun w => cmg_is a0 a1 a2 a3 a4 a5 a0 b1 b2 b3 b4 b5 _ w (Lib.hid (fun U c => compare_1lt a0 a1 a2 a3 a4 a5 b1 b2 b3 b4 b5 h w.heap.size (w.heap.size + 1) U ⟨c.1, c.2.1, c.2.2.1, c.2.2.2.1, c.2.2.2.2.1, c.2.2.2.2.2.1⟩ ⟨c.2.2.2.2.2.2.1, c.2.2.2.2.2.2.2.1, c.2.2.2.2.2.2.2.2.1, c.2.2.2.2.2.2.2.2.2.1, c.2.2.2.2.2.2.2.2.2.2.1, c.2.2.2.2.2.2.2.2.2.2.2.1⟩))⟩
  · have e : lx a0 a1 a2 a3 a4 a5 a0 b1 b2 b3 b4 b5 = false := by have h1 : ¬ a1 < b1 := (by omega); have h2 : ¬ a1 = b1 := (by omega); simp [lx, h1, h2]
    exact ⟨1, by rw [e]; decide, fun w => cmg_is a0 a1 a2 a3 a4 a5 a0 b1 b2 b3 b4 b5 _ w (Lib.hid (fun U c => compare_1gt a0 a1 a2 a3 a4 a5 b1 b2 b3 b4 b5 h w.heap.size (w.heap.size + 1) U ⟨c.1, c.2.1, c.2.2.1, c.2.2.2.1, c.2.2.2.2.1, c.2.2.2.2.2.1⟩ ⟨c.2.2.2.2.2.2.1, c.2.2.2.2.2.2.2.1, c.2.2.2.2.2.2.2.2.1, c.2.2.2.2.2.2.2.2.2.1, c.2.2.2.2.2.2.2.2.2.2.1, c.2.2.2.2.2.2.2.2.2.2.2.1⟩))⟩
  subst h
  rcases tri a2 b2 with h | h | h
  · have e : lx a0 a1 a2 a3 a4 a5 a0 a1 b2 b3 b4 b5 = true := by simp [lx, h]
    exact ⟨-1, by rw [e]; decide, fun w => cmg_is a0 a1 a2 a3 a4 a5 a0 a1 b2 b3 b4 b5 _ w (Lib.hid (fun U c => compare_2lt a0 a1 a2 a3 a4 a5 b2 b3 b4 b5 h w.heap.size (w.heap.size + 1) U ⟨c.1, c.2.1, c.2.2.1, c.2.2.2.1, c.2.2.2.2.1, c.2.2.2.2.2.1⟩ ⟨c.2.2.2.2.2.2.1, c.2.2.2.2.2.2.2.1, c.2.2.2.2.2.2.2.2.1, c.2.2.2.2.2.2.2.2.2.1, c.2.2.2.2.2.2.2.2.2.2.1, c.2.2.2.2.2.2.2.2.2.2.2.1⟩))⟩
  · have e : lx a0 a1 a2 a3 a4 a5 a0 a1 b2 b3 b4 b5 = false := by have h1 : ¬ a2 < b2 := (by omega); have h2 : ¬ a2 = b2 := (by omega); simp [lx, h1, h2]
    exact ⟨1, by rw [e]; decide, fun w => cmg_is a0 a1 a2 a3 a4 a5 a0 a1 b2 b3 b4 b5 _ w (Lib.hid (fun U c => compare_2gt a0 a1 a2 a3 a4 a5 b2 b3 b4 b5 h w.heap.size (w.heap.size + 1) U ⟨c.1, c.2.1, c.2.2.1, c.2.2.2.1, c.2.2.2.2.1, c.2.2.2.2.2.1⟩ ⟨c.2.2.2.2.2.2.1, c.2.2.2.2.2.2.2.1, c.2.2.2.2.2.2.2.2.1, c.2.2.2.2.2.2.2.2.2.1, c.2.2.2.2.2.2.2.2.2.2.1, c.2.2.2.2.2.2.2.2.2.2.2.1⟩))⟩
  subst h
  rcases tri a3 b3 with h | h | h
  · have e : lx a0 a1 a2 a3 a4 a5 a0 a1 a2 b3 b4 b5 = true := by simp [lx, h]
    exact ⟨-1, by rw [e]; decide, fun w => cmg_is a0 a1 a2 a3 a4 a5 a0 a1 a2 b3 b4 b5 _ w (Lib.hid (fun U c => compare_3lt a0 a1 a2 a3 a4 a5 b3 b4 b5 h w.heap.size (w.heap.size + 1) U ⟨c.1, c.2.1, c.2.2.1, c.2.2.2.1, c.2.2.2.2.1, c.2.2.2.2.2.1⟩ ⟨c.2.2.2.2.2.2.1, c.2.2.2.2.2.2.2.1, c.2.2.2.2.2.2.2.2.1, c.2.2.2.2.2.2.2.2.2.1, c.2.2.2.2.2.2.2.2.2.2.1, c.2.2.2.2.2.2.2.2.2.2.2.1⟩))⟩
  · have e : lx a0 a1 a2 a3 a4 a5 a0 a1 a2 b3 b4 b5 = false := by have h1 : ¬ a3 < b3 := (by omega); have h2 : ¬ a3 = b3 := (by omega); simp [lx, h1, h2]
    exact ⟨1, by rw [e]; decide, fun w => cmg_is a0 a1 a2 a3 a4 a5 a0 a1 a2 b3 b4 b5 _ w (Lib.hid (fun U c => compare_3gt a0 a1 a2 a3 a4 a5 b3 b4 b5 h w.heap.size (w.heap.size + 1) U ⟨c.1, c.2.1, c.2.2.1, c.2.2.2.1, c.2.2.2.2.1, c.2.2.2.2.2.1⟩ ⟨c.2.2.2.2.2.2.1, c.2.2.2.2.2.2.2.1, c.2.2.2.2.2.2.2.2.1, c.2.2.2.2.2.2.2.2.2.1, c.2.2.2.2.2.2.2.2.2.2.1, c.2.2.2.2.2.2.2.2.2.2.2.1⟩))⟩
  subst h
  rcases tri a4 b4 with h | h | h
  · have e : lx a0 a1 a2 a3 a4 a5 a0 a1 a2 a3 b4 b5 = true := by simp [lx, h]
    exact ⟨-1, by rw [e]; decide, fun w => cmg_is a0 a1 a2 a3 a4 a5 a0 a1 a2 a3 b4 b5 _ w (Lib.hid (fun U c => compare_4lt a0 a1 a2 a3 a4 a5 b4 b5 h w.heap.size (w.heap.size + 1) U ⟨c.1, c.2.1, c.2.2.1, c.2.2.2.1, c.2.2.2.2.1, c.2.2.2.2.2.1⟩ ⟨c.2.2.2.2.2.2.1, c.2.2.2.2.2.2.2.1, c.2.2.2.2.2.2.2.2.1, c.2.2.2.2.2.2.2.2.2.1, c.2.2.2.2.2.2.2.2.2.2.1, c.2.2.2.2.2.2.2.2.2.2.2.1⟩))⟩
  · have e : lx a0 a1 a2 a3 a4 a5 a0 a1 a2 a3 b4 b5 = false := by have h1 : ¬ a4 < b4 := (by omega); have h2 : ¬ a4 = b4 := (by omega); simp [lx, h1, h2]
    exact ⟨1, by rw [e]; decide, fun w => cmg_is a0 a1 a2 a3 a4 a5 a0 a1 a2 a3 b4 b5 _ w (Lib.hid (fun U c => compare_4gt a0 a1 a2 a3 a4 a5 b4 b5 h w.heap.size (w.heap.size + 1) U ⟨c.1, c.2.1, c.2.2.1, c.2.2.2.1, c.2.2.2.2.1, c.2.2.2.2.2.1⟩ ⟨c.2.2.2.2.2.2.1, c.2.2.2.2.2.2.2.1, c.2.2.2.2.2.2.2.2.1, c.2.2.2.2.2.2.2.2.2.1, c.2.2.2.2.2.2.2.2.2.2.1, c.2.2.2.2.2.2.2.2.2.2.2.1⟩))⟩
  subst h
  rcases tri a5 b5 with h | h | h
  · have e : lx a0 a1 a2 a3 a4 a5 a0 a1 a2 a3 a4 b5 = true := by simp [lx, h]
    exact ⟨-1, by rw [e]; decide, fun w => cmg_is a0 a1 a2 a3 a4 a5 a0 a1 a2 a3 a4 b5 _ w (Lib.hid (fun U c => compare_5lt a0 a1 a2 a3 a4 a5 b5 h w.heap.size (w.heap.size + 1) U ⟨c.1, c.2.1, c.2.2.1, c.2.2.2.1, c.2.2.2.2.1, c.2.2.2.2.2.1⟩ ⟨c.2.2.2.2.2.2.1, c.2.2.2.2.2.2.2.1, c.2.2.2.2.2.2.2.2.1, c.2.2.2.2.2.2.2.2.2.1, c.2.2.2.2.2.2.2.2.2.2.1, c.2.2.2.2.2.2.2.2.2.2.2.1⟩))⟩
  · have e : lx a0 a1 a2 a3 a4 a5 a0 a1 a2 a3 a4 b5 = false := by have h1 : ¬ a5 < b5 := (by omega); have h2 : ¬ a5 = b5 := (by omega); simp [lx, h1, h2]
    exact ⟨1, by rw [e]; decide, fun w => cmg_is a0 a1 a2 a3 a4 a5 a0 a1 a2 a3 a4 b5 _ w (Lib.hid (fun U c => compare_5gt a0 a1 a2 a3 a4 a5 b5 h w.heap.size (w.heap.size + 1) U ⟨c.1, c.2.1, c.2.2.1, c.2.2.2.1, c.2.2.2.2.1, c.2.2.2.2.2.1⟩ ⟨c.2.2.2.2.2.2.1, c.2.2.2.2.2.2.2.1, c.2.2.2.2.2.2.2.2.1, c.2.2.2.2.2.2.2.2.2.1, c.2.2.2.2.2.2.2.2.2.2.1, c.2.2.2.2.2.2.2.2.2.2.2.1⟩))⟩
  subst h
  have e : lx a0 a1 a2 a3 a4 a5 a0 a1 a2 a3 a4 a5 = false := by simp [lx]
  exact ⟨0, by rw [e]; decide, fun w => cmg_is a0 a1 a2 a3 a4 a5 a0 a1 a2 a3 a4 a5 _ w (Lib.hid (fun U c => compare_6eq a0 a1 a2 a3 a4 a5 w.heap.size (w.heap.size + 1) U ⟨c.1, c.2.1, c.2.2.1, c.2.2.2.1, c.2.2.2.2.1, c.2.2.2.2.2.1⟩ ⟨c.2.2.2.2.2.2.1, c.2.2.2.2.2.2.2.1, c.2.2.2.2.2.2.2.2.1, c.2.2.2.2.2.2.2.2.2.1, c.2.2.2.2.2.2.2.2.2.2.1, c.2.2.2.2.2.2.2.2.2.2.2.1⟩))⟩
/- Gn1 -/
variable {α : Type}
/-- A strict order of all. -/
structure So10 (lt : α → α → Bool) : Prop where
  irr : ∀ x, lt x x = false
  tr : ∀ x y z, lt x y = true → lt y z = true → lt x z = true
  tri : ∀ x y, lt x y = false → lt y x = false → x = y
def St10 (lt : α → α → Bool) (l : List α) : Prop := l.Pairwise (fun a b => lt a b = true)
theorem st_ext {lt : α → α → Bool} (h : So10 lt) : ∀ (l m : List α), St10 lt l → St10 lt m → (∀ x, x ∈ l ↔ x ∈ m) → l = m
  | [], [], _, _, _ => rfl
  | [], b :: m, _, _, e => absurd ((e b).mpr (List.mem_cons_self ..)) (by simp)
  | a :: l, [], _, _, e => absurd ((e a).mp (List.mem_cons_self ..)) (by simp)
  | a :: l, b :: m, hl, hm, e => by
    obtain ⟨h1, h2⟩ := List.pairwise_cons.mp hl
    obtain ⟨k1, k2⟩ := List.pairwise_cons.mp hm
    have hab : a = b := by
      rcases List.mem_cons.mp ((e a).mp (List.mem_cons_self ..)) with q | q
      · exact q
      · rcases List.mem_cons.mp ((e b).mpr (List.mem_cons_self ..)) with r | r
        · exact r.symm
        · exact absurd (h.tr _ _ _ (k1 a q) (h1 b r)) (by rw [h.irr]; decide)
    subst hab
    rw [st_ext h l m h2 k2 (fun x => ?_)]
    constructor
    · intro hx
      rcases List.mem_cons.mp ((e x).mp (List.mem_cons_of_mem _ hx)) with q | q
      · subst q; exact absurd (h1 x hx) (by rw [h.irr]; decide)
      · exact q
    · intro hx
      rcases List.mem_cons.mp ((e x).mpr (List.mem_cons_of_mem _ hx)) with q | q
      · subst q; exact absurd (k1 x hx) (by rw [h.irr]; decide)
      · exact q
/-- How many come before x, from the start. -/
def cntb (lt : α → α → Bool) (x : α) : List α → Nat
  | [] => 0
  | y :: t => if lt y x = true then cntb lt x t + 1 else 0
theorem cntb_le (lt : α → α → Bool) (x : α) : ∀ l, cntb lt x l ≤ l.length
  | [] => Nat.le_refl _
  | y :: t => by
    unfold cntb
    split
    · simp; exact cntb_le lt x t
    · simp
theorem cntb_lt (lt : α → α → Bool) (x : α) : ∀ (l : List α) (j : Nat) (hj : j < l.length), j < cntb lt x l → lt l[j] x = true
  | [], j, hj, _ => by simp at hj
  | y :: t, j, hj, h => by
    unfold cntb at h
    split at h
    · rename_i hy
      cases j with
      | zero => exact hy
      | succ j => exact cntb_lt lt x t j (by simpa using hj) (by omega)
    · omega
theorem cntb_at (lt : α → α → Bool) (x : α) : ∀ (l : List α) (h : cntb lt x l < l.length), lt l[cntb lt x l] x = false
  | [], h => by simp at h
  | y :: t, h => by
    unfold cntb at h ⊢
    split
    · rename_i hy
      rw [if_pos hy] at h
      simp only [List.getElem_cons_succ]
      exact cntb_at lt x t (by simpa using h)
    · rename_i hy
      simpa using hy
variable [DecidableEq α]
/-- Put in its place, once. -/
def insr (lt : α → α → Bool) (x : α) : List α → List α
  | [] => [x]
  | y :: t => if lt y x = true then y :: insr lt x t else if y = x then y :: t else x :: y :: t
theorem mem_insr (lt : α → α → Bool) (x z : α) : ∀ l, z ∈ insr lt x l ↔ z = x ∨ z ∈ l
  | [] => by simp [insr]
  | y :: t => by
    unfold insr
    split
    · rw [List.mem_cons, mem_insr lt x z t, List.mem_cons]
      constructor
      · rintro (q | q | q)
        · exact .inr (.inl q)
        · exact .inl q
        · exact .inr (.inr q)
      · rintro (q | q | q)
        · exact .inr (.inl q)
        · exact .inl q
        · exact .inr (.inr q)
    · split
      · rename_i h; subst h
        simp
      · simp
theorem st_insr {lt : α → α → Bool} (h : So10 lt) (x : α) : ∀ l, St10 lt l → St10 lt (insr lt x l)
  | [], _ => List.pairwise_singleton _ _
  | y :: t, hl => by
    obtain ⟨h1, h2⟩ := List.pairwise_cons.mp hl
    unfold insr
    split
    · rename_i hyx
      refine List.pairwise_cons.mpr ⟨fun z hz => ?_, st_insr h x t h2⟩
      rcases (mem_insr lt x z t).mp hz with q | q
      · subst q; exact hyx
      · exact h1 z q
    · rename_i hyx
      split
      · exact hl
      · rename_i hne
        have hxy : lt x y = true := by
          cases hh : lt x y
          · exact absurd (h.tri y x (by simpa using hyx) hh) hne
          · rfl
        refine List.pairwise_cons.mpr ⟨fun z hz => ?_, hl⟩
        rcases List.mem_cons.mp hz with q | q
        · subst q; exact hxy
        · exact h.tr _ _ _ hxy (h1 z q)
theorem insr_in (lt : α → α → Bool) (x : α) : ∀ (l : List α) (h : cntb lt x l < l.length), l[cntb lt x l] = x → insr lt x l = l
  | [], h, _ => by simp at h
  | y :: t, h, e => by
    by_cases hy : lt y x = true
    · have hc : cntb lt x (y :: t) = cntb lt x t + 1 := if_pos hy
      simp only [hc, List.getElem_cons_succ] at e
      rw [hc] at h
      show (if lt y x = true then y :: insr lt x t else _) = _
      rw [if_pos hy, insr_in lt x t (by simpa using h) e]
    · have hc : cntb lt x (y :: t) = 0 := if_neg hy
      simp only [hc, List.getElem_cons_zero] at e
      show (if lt y x = true then _ else if y = x then _ else _) = _
      rw [if_neg hy, if_pos e]
theorem insr_new (lt : α → α → Bool) (x : α) : ∀ (l : List α), (∀ (h : cntb lt x l < l.length), l[cntb lt x l] ≠ x) → insr lt x l = l.take (cntb lt x l) ++ x :: l.drop (cntb lt x l)
  | [], _ => rfl
  | y :: t, e => by
    by_cases hy : lt y x = true
    · have hc : cntb lt x (y :: t) = cntb lt x t + 1 := if_pos hy
      rw [hc]
      show (if lt y x = true then y :: insr lt x t else _) = _
      rw [if_pos hy, insr_new lt x t (fun h => ?_)]
      · rfl
      · have := e (by rw [hc]; simpa using h)
        simpa only [hc, List.getElem_cons_succ] using this
    · have hc : cntb lt x (y :: t) = 0 := if_neg hy
      have := e (by rw [hc]; simp)
      simp only [hc, List.getElem_cons_zero] at this
      rw [hc]
      show (if lt y x = true then _ else if y = x then _ else _) = _
      rw [if_neg hy, if_neg this]
      rfl
/-- All put in, one after the other. -/
def insl (lt : α → α → Bool) (l : List α) : List α := l.foldl (fun o x => insr lt x o) []
theorem insl_k (lt : α → α → Bool) (l : List α) {i : Nat} (h : i < l.length) : insl lt (l.take (i + 1)) = insr lt l[i] (insl lt (l.take i)) := by
  unfold insl
  rw [List.take_add_one, List.getElem?_eq_getElem h, List.foldl_append]
  rfl
theorem fold_spec {lt : α → α → Bool} (h : So10 lt) : ∀ (l o : List α), St10 lt o → St10 lt (l.foldl (fun o x => insr lt x o) o) ∧ ∀ z, z ∈ l.foldl (fun o x => insr lt x o) o ↔ z ∈ o ∨ z ∈ l
  | [], o, ho => ⟨ho, fun z => by simp⟩
  | x :: l, o, ho => by
    obtain ⟨h1, h2⟩ := fold_spec h l (insr lt x o) (st_insr h x o ho)
    refine ⟨h1, fun z => ?_⟩
    show z ∈ l.foldl _ (insr lt x o) ↔ _
    rw [h2 z, mem_insr, List.mem_cons]
    constructor
    · rintro ((q | q) | q)
      · exact .inr (.inl q)
      · exact .inl q
      · exact .inr (.inr q)
    · rintro (q | q | q)
      · exact .inl (.inr q)
      · exact .inl (.inl q)
      · exact .inr q
theorem insl_spec {lt : α → α → Bool} (h : So10 lt) (l : List α) : St10 lt (insl lt l) ∧ ∀ z, z ∈ insl lt l ↔ z ∈ l := by
  obtain ⟨h1, h2⟩ := fold_spec h l [] List.Pairwise.nil
  exact ⟨h1, fun z => by rw [show z ∈ insl lt l ↔ _ from h2 z]; simp⟩
theorem insl_len (lt : α → α → Bool) (l : List α) : (insl lt l).length ≤ l.length := by
  have hi : ∀ (x : α) (o : List α), (insr lt x o).length ≤ o.length + 1 := by
    intro x o
    induction o with
    | nil => simp [insr]
    | cons y t ih =>
      unfold insr
      split
      · simpa using ih
      · split
        · simp
        · simp
  have hf : ∀ (l o : List α), (l.foldl (fun o x => insr lt x o) o).length ≤ o.length + l.length := by
    intro l
    induction l with
    | nil => intro o; simp
    | cons x l ih =>
      intro o
      have := ih (insr lt x o)
      have := hi x o
      simp only [List.foldl_cons, List.length_cons]
      omega
  simpa [insl] using hf l []
/-- Of a sorted list, each once: the first m looked at. -/
def dpl (d : List α) : Nat → List α
  | 0 => []
  | m + 1 => match d[m]? with
    | none => dpl d m
    | some x => if m ≠ 0 ∧ d[m - 1]? = some x then dpl d m else dpl d m ++ [x]
theorem dpl_same {d : List α} {m : Nat} (h : m < d.length) (h0 : m ≠ 0) (e : d[m - 1]'(by omega) = d[m]) : dpl d (m + 1) = dpl d m := by
  show (match d[m]? with | none => dpl d m | some x => _) = _
  rw [List.getElem?_eq_getElem h]
  dsimp only
  rw [if_pos ⟨h0, by rw [List.getElem?_eq_getElem (by omega), e]⟩]
theorem dpl_new {d : List α} {m : Nat} (h : m < d.length) (e : ∀ _h0 : m ≠ 0, d[m - 1]'(by omega) ≠ d[m]) : dpl d (m + 1) = dpl d m ++ [d[m]] := by
  show (match d[m]? with | none => dpl d m | some x => _) = _
  rw [List.getElem?_eq_getElem h]
  dsimp only
  rw [if_neg]
  rintro ⟨h0, h1⟩
  rw [List.getElem?_eq_getElem (by omega)] at h1
  exact e h0 (Option.some.inj h1)
theorem dpl_len (d : List α) : ∀ m, m ≤ d.length → (dpl d m).length ≤ m
  | 0, _ => by simp [dpl]
  | m + 1, h => by
    have := dpl_len d m (by omega)
    by_cases e : ∃ h0 : m ≠ 0, d[m - 1]'(by omega) = d[m]
    · obtain ⟨h0, e⟩ := e
      rw [dpl_same h h0 e]
      omega
    · rw [dpl_new h (fun h0 k => e ⟨h0, k⟩)]
      simp
      exact this
theorem dpl_spec {lt : α → α → Bool} (hs : So10 lt) (d : List α) (hd : d.Pairwise (fun a b => lt b a = false)) : ∀ m, m ≤ d.length → St10 lt (dpl d m) ∧ ∀ z, z ∈ dpl d m ↔ z ∈ d.take m
  | 0, _ => ⟨List.Pairwise.nil, fun z => by simp [dpl]⟩
  | m + 1, h => by
    obtain ⟨h1, h2⟩ := dpl_spec hs d hd m (by omega)
    have ht : d.take (m + 1) = d.take m ++ [d[m]] := by rw [List.take_add_one, List.getElem?_eq_getElem (show m < d.length from h)]; rfl
    by_cases e : ∃ h0 : m ≠ 0, d[m - 1]'(by omega) = d[m]
    · obtain ⟨h0, e⟩ := e
      rw [dpl_same h h0 e]
      refine ⟨h1, fun z => ?_⟩
      rw [h2 z, ht, List.mem_append]
      constructor
      · exact .inl
      · rintro (q | q)
        · exact q
        · rw [List.mem_singleton.mp q, ← e]
          exact List.mem_take_iff_getElem.mpr ⟨m - 1, by omega, rfl⟩
    · rw [dpl_new h (fun h0 k => e ⟨h0, k⟩)]
      refine ⟨?_, fun z => by rw [List.mem_append, h2 z, ht, List.mem_append]⟩
      refine List.pairwise_append.mpr ⟨h1, List.pairwise_singleton _ _, fun y hy x hx => ?_⟩
      rw [List.mem_singleton.mp hx]
      obtain ⟨j, hj, e2⟩ := List.mem_take_iff_getElem.mp ((h2 y).mp hy)
      have hjm : j < m := by omega
      have hm : m < d.length := h
      have hle : ∀ (i k : Nat) (hk : k < d.length) (hik : i < k), lt d[k] (d[i]'(by omega)) = false := fun i k hk hik => List.pairwise_iff_getElem.mp hd i k (by omega) hk hik
      have hm0 : m ≠ 0 := by omega
      have hne : d[m - 1]'(by omega) ≠ d[m] := fun k => e ⟨hm0, k⟩
      have hlt : lt (d[m - 1]'(by omega)) d[m] = true := by
        cases hh : lt (d[m - 1]'(by omega)) d[m]
        · exact absurd (hs.tri _ _ hh (hle (m - 1) m hm (by omega))) hne
        · rfl
      rw [← e2]
      by_cases hj1 : j = m - 1
      · subst hj1; exact hlt
      · have h3 := hle j (m - 1) (by omega) (by omega)
        cases hh : lt d[j] d[m]
        · have h4 := hs.tri _ _ hh (hle j m hm hjm)
          rw [h4, hlt] at h3
          exact absurd h3 (by decide)
        · rfl
theorem sort_insl {lt : α → α → Bool} (hs : So10 lt) (l : List α) : dpl (l.mergeSort (fun x y => !lt y x)) (l.mergeSort (fun x y => !lt y x)).length = insl lt l := by
  have hp : (l.mergeSort (fun x y => !lt y x)).Pairwise (fun a b => lt b a = false) := by
    have h := List.pairwise_mergeSort (le := fun x y => !lt y x) (fun a b c h1 h2 => by
      simp only [Bool.not_eq_true'] at h1 h2 ⊢
      cases hh : lt c a
      · rfl
      · cases h3 : lt b c
        · have := hs.tri b c h3 h2
          subst this
          rw [hh] at h1; exact h1
        · rw [hs.tr _ _ _ h3 hh] at h1; exact h1) (fun a b => by
      cases h1 : lt b a
      · simp
      · cases h2 : lt a b
        · simp
        · have := hs.tr _ _ _ h1 h2
          rw [hs.irr] at this; exact absurd this (by decide)) l
    exact h.imp (fun h => by simpa using h)
  obtain ⟨h1, h2⟩ := dpl_spec hs _ hp _ (Nat.le_refl _)
  obtain ⟨k1, k2⟩ := insl_spec hs l
  refine st_ext hs _ _ h1 k1 (fun x => ?_)
  rw [h2 x, k2 x, List.take_length]
  exact List.mem_mergeSort
def lexb (a b : Int) (r : Bool) : Bool := decide (a < b) || (decide (a = b) && r)
theorem lexb_tr {a b c : Int} {r1 r2 r3 : Bool} (h : r1 = true → r2 = true → r3 = true) : lexb a b r1 = true → lexb b c r2 = true → lexb a c r3 = true := by
  simp only [lexb, Bool.or_eq_true, decide_eq_true_eq, Bool.and_eq_true]
  rintro (h1 | ⟨h1, k1⟩) (h2 | ⟨h2, k2⟩)
  · left; omega
  · left; omega
  · left; omega
  · right; exact ⟨by omega, h k1 k2⟩
theorem lexb_irr {a : Int} {r : Bool} (h : r = false) : lexb a a r = false := by simp [lexb, h]
theorem lexb_tri {a b : Int} {r1 r2 : Bool} (h1 : lexb a b r1 = false) (h2 : lexb b a r2 = false) : a = b ∧ r1 = false ∧ r2 = false := by
  simp only [lexb, Bool.or_eq_false_iff, decide_eq_false_iff_not, Bool.and_eq_false_iff] at h1 h2
  have e : a = b := by omega
  subst e
  exact ⟨rfl, by simpa using h1.2, by simpa using h2.2⟩
abbrev T6 : Type := Int × Int × Int × Int × Int × Int
def lt6 (a b : T6) : Bool := lx a.1 a.2.1 a.2.2.1 a.2.2.2.1 a.2.2.2.2.1 a.2.2.2.2.2 b.1 b.2.1 b.2.2.1 b.2.2.2.1 b.2.2.2.2.1 b.2.2.2.2.2
theorem lt6_irr (a : T6) : lt6 a a = false := lexb_irr (lexb_irr (lexb_irr (lexb_irr (lexb_irr (lexb_irr rfl)))))
theorem lt6_tr (a b c : T6) : lt6 a b = true → lt6 b c = true → lt6 a c = true := lexb_tr (lexb_tr (lexb_tr (lexb_tr (lexb_tr (lexb_tr (fun h _ => h))))))
theorem lt6_tri (a b : T6) (h : lt6 a b = false) (k : lt6 b a = false) : a = b := by
  obtain ⟨e0, h, k⟩ := lexb_tri h k
  obtain ⟨e1, h, k⟩ := lexb_tri h k
  obtain ⟨e2, h, k⟩ := lexb_tri h k
  obtain ⟨e3, h, k⟩ := lexb_tri h k
  obtain ⟨e4, h, k⟩ := lexb_tri h k
  obtain ⟨e5, _, _⟩ := lexb_tri h k
  obtain ⟨a0, a1, a2, a3, a4, a5⟩ := a
  obtain ⟨b0, b1, b2, b3, b4, b5⟩ := b
  dsimp only at e0 e1 e2 e3 e4 e5
  subst e0 e1 e2 e3 e4 e5
  rfl
theorem cp_lt {α : Type} {p q : α → Bool} : ∀ (l : List α), (∀ x ∈ l, q x = true → p x = true) → (∃ x ∈ l, p x = true ∧ q x = false) → l.countP q < l.countP p
  | [], _, h => by obtain ⟨x, hx, _⟩ := h; simp at hx
  | a :: l, h, k => by
    have hle : l.countP q ≤ l.countP p := List.countP_mono_left (fun x hx => h x (List.mem_cons_of_mem _ hx))
    rw [List.countP_cons, List.countP_cons]
    obtain ⟨x, hx, h1, h2⟩ := k
    rcases List.mem_cons.mp hx with rfl | hx
    · rw [if_pos h1, if_neg (by rw [h2]; decide)]
      omega
    · have := cp_lt l (fun x hx => h x (List.mem_cons_of_mem _ hx)) ⟨x, hx, h1, h2⟩
      cases hq : q a
      · simp; omega
      · rw [if_pos (h a (List.mem_cons_self ..) hq)]
        simp; omega
/-- A sheet's six rows. -/
def t6 (f : Fn6) : T6 := (rowv (f 0), rowv (f 1), rowv (f 2), rowv (f 3), rowv (f 4), rowv (f 5))
/-- Its cells, and those of a list. -/
def e6 (t : T6) : List Value := [.int .i64 t.1, .int .i64 t.2.1, .int .i64 t.2.2.1, .int .i64 t.2.2.2.1, .int .i64 t.2.2.2.2.1, .int .i64 t.2.2.2.2.2]
def tv6 (l : List T6) : List Value := l.flatMap e6
theorem tv6_len (l : List T6) : (tv6 l).length = l.length * 6 := by
  induction l with
  | nil => rfl
  | cons a l ih =>
    have e : tv6 (a :: l) = e6 a ++ tv6 l := rfl
    rw [e, List.length_append, ih]
    simp [e6]
    omega
theorem tv6_app (l m : List T6) : tv6 (l ++ m) = tv6 l ++ tv6 m := by simp [tv6]
theorem tv6_at (l : List T6) : ∀ (k : Nat) (h : k < l.length), (tv6 l)[k * 6]? = some (.int .i64 l[k].1) ∧ (tv6 l)[k * 6 + 1]? = some (.int .i64 l[k].2.1) ∧ (tv6 l)[k * 6 + 2]? = some (.int .i64 l[k].2.2.1) ∧ (tv6 l)[k * 6 + 3]? = some (.int .i64 l[k].2.2.2.1) ∧ (tv6 l)[k * 6 + 4]? = some (.int .i64 l[k].2.2.2.2.1) ∧ (tv6 l)[k * 6 + 5]? = some (.int .i64 l[k].2.2.2.2.2) := by
  induction l with
  | nil => intro k h; simp at h
  | cons a l ih =>
    intro k h
    have e : tv6 (a :: l) = .int .i64 a.1 :: .int .i64 a.2.1 :: .int .i64 a.2.2.1 :: .int .i64 a.2.2.2.1 :: .int .i64 a.2.2.2.2.1 :: .int .i64 a.2.2.2.2.2 :: tv6 l := rfl
    rcases k with _ | k
    · rw [e]; exact ⟨rfl, rfl, rfl, rfl, rfl, rfl⟩
    · have := ih k (by simpa using h)
      rw [e, show (k + 1) * 6 = k * 6 + 1 + 1 + 1 + 1 + 1 + 1 by omega]
      simp only [List.getElem?_cons_succ, List.getElem_cons_succ]
      exact this
theorem tv6_sv (l : List Fn6) : tv6 (l.map t6) = sv l := by
  unfold tv6 sv
  rw [List.flatMap_map]
  rfl
theorem t6_ag {f g : Fn6} : t6 f = t6 g ↔ Ag f g := by
  unfold t6
  constructor
  · intro h
    simp only [Prod.mk.injEq] at h
    obtain ⟨h0, h1, h2, h3, h4, h5⟩ := h
    intro j i hj hi
    rcases six_n hj with rfl | rfl | rfl | rfl | rfl | rfl
    · exact rowv_inj h0 i hi
    · exact rowv_inj h1 i hi
    · exact rowv_inj h2 i hi
    · exact rowv_inj h3 i hi
    · exact rowv_inj h4 i hi
    · exact rowv_inj h5 i hi
  · intro h
    rw [rowv_congr fun i hi => h 0 i (by decide) hi, rowv_congr fun i hi => h 1 i (by decide) hi, rowv_congr fun i hi => h 2 i (by decide) hi, rowv_congr fun i hi => h 3 i (by decide) hi, rowv_congr fun i hi => h 4 i (by decide) hi, rowv_congr fun i hi => h 5 i (by decide) hi]
/-- The bits of a row. -/
def bt6 (r : Int) : Nat → Bool := fun i => decide (r.toNat / 2 ^ i % 2 = 1)
theorem bt6_fin : ∀ n : Fin 64, rowv (bt6 ((n.val : Nat) : Int)) = ((n.val : Nat) : Int) := by decide +kernel
theorem bt6_row {r : Int} (h : 0 ≤ r ∧ r ≤ 63) : rowv (bt6 r) = r := by
  obtain ⟨n, rfl⟩ := Int.eq_ofNat_of_zero_le h.1
  exact bt6_fin ⟨n, by omega⟩
/-- A sheet of rows. -/
def un6 (t : T6) : Fn6 := fun j => if j = 0 then bt6 t.1 else if j = 1 then bt6 t.2.1 else if j = 2 then bt6 t.2.2.1 else if j = 3 then bt6 t.2.2.2.1 else if j = 4 then bt6 t.2.2.2.2.1 else bt6 t.2.2.2.2.2
theorem t6_un (f : Fn6) : t6 (un6 (t6 f)) = t6 f := by
  show (rowv (bt6 (rowv (f 0))), rowv (bt6 (rowv (f 1))), rowv (bt6 (rowv (f 2))), rowv (bt6 (rowv (f 3))), rowv (bt6 (rowv (f 4))), rowv (bt6 (rowv (f 5)))) = t6 f
  rw [bt6_row (row_in _), bt6_row (row_in _), bt6_row (row_in _), bt6_row (row_in _), bt6_row (row_in _), bt6_row (row_in _)]
  rfl
/-- The sheet behind a press; all nexts, in order. -/
def nx1 (f p : Fn6) (c : Nat × Nat) : T6 := t6 (jf f (sf c.1 c.2 p))
def nxf (f p : Fn6) : List T6 := insl lt6 ((bl (frf f p) 36).map (nx1 f p))
theorem frf_cong {f g : Fn6} (h : Ag f g) (p : Fn6) : Ag (frf f p) (frf g p) := by
  intro j i _ _
  exact eqf_ag (fun b a hb ha => by unfold af; rw [h b a hb ha]) (fun _ _ _ _ => rfl)
theorem nx1_cong {f g : Fn6} (h : Ag f g) (p : Fn6) (c : Nat × Nat) : nx1 f p c = nx1 g p c := t6_ag.mpr (fun b a hb ha => by unfold jf; rw [h b a hb ha])
theorem nxf_cong {f g : Fn6} (h : t6 f = t6 g) (p : Fn6) : nxf f p = nxf g p := by
  have k := t6_ag.mp h
  unfold nxf
  rw [bl_cong (frf_cong k p) 36 (Nat.le_refl _), show nx1 f p = nx1 g p from funext (nx1_cong k p)]
theorem nxf_len (f p : Fn6) : (nxf f p).length ≤ 36 := Nat.le_trans (insl_len lt6 _) (by rw [List.length_map]; exact bl_len _ 36)
theorem so6 : So10 lt6 := ⟨lt6_irr, lt6_tr, lt6_tri⟩
theorem nxf_mem {f p : Fn6} {u : T6} (h : u ∈ nxf f p) : ∃ x y, x < 6 ∧ y < 6 ∧ frf f p y x = true ∧ u = t6 (jf f (sf x y p)) := by
  obtain ⟨c, hc, e⟩ := List.mem_map.mp (((insl_spec so6 _).2 u).mp h)
  obtain ⟨h1, h2, h3⟩ := (mem_bl (frf f p) c 36 (Nat.le_refl _)).mp hc
  exact ⟨c.1, c.2, h1, by omega, h3, e.symm⟩
theorem mem_nxf {f p : Fn6} {x y : Nat} (hx : x < 6) (hy : y < 6) (h : frf f p y x = true) : t6 (jf f (sf x y p)) ∈ nxf f p :=
  ((insl_spec so6 _).2 _).mpr (List.mem_map.mpr ⟨(x, y), (mem_bl (frf f p) (x, y) 36 (Nat.le_refl _)).mpr ⟨hx, by dsimp only; omega, h⟩, rfl⟩)
/-- How many cells are white. -/
def wc6 (f : Fn6) : Nat := (List.range 36).countP (fun k => !f (k / 6) (k % 6))
theorem wc6_le (f : Fn6) : wc6 f ≤ 36 := by
  have := List.countP_le_length (p := fun k => !f (k / 6) (k % 6)) (l := List.range 36)
  simpa [wc6] using this
theorem wc6_cong {f g : Fn6} (h : Ag f g) : wc6 f = wc6 g := List.countP_congr (fun k hk => by
  have := List.mem_range.mp hk
  rw [h (k / 6) (k % 6) (by omega) (Nat.mod_lt _ (by decide))])
theorem free_off {f p : Fn6} {x y : Nat} (h : frf f p y x = true) {j i : Nat} (hj : j < 6) (hi : i < 6) (hp : sf x y p j i = true) : f j i = false := by
  have := (eqf_iff _ _).mp h j i hj hi
  unfold af zf at this
  rw [hp, Bool.and_true] at this
  exact this
theorem wc6_lt {f p : Fn6} {x y : Nat} (hx : x < 6) (hy : y < 6) (h : frf f p y x = true) (hp : eqf p zf = false) : wc6 (jf f (sf x y p)) < wc6 f := by
  have hb : ∃ j i, j < 6 ∧ i < 6 ∧ p j i = true := by
    apply Classical.byContradiction
    intro k
    have : eqf p zf = true := (eqf_iff _ _).mpr (fun j i hj hi => by
      cases hh : p j i
      · rfl
      · exact absurd ⟨j, i, hj, hi, hh⟩ k)
    rw [this] at hp
    exact absurd hp (by decide)
  obtain ⟨j, i, hj, hi, hb⟩ := hb
  have hs : sf x y p ((j + y) % 6) ((i + x) % 6) = true := by
    unfold sf
    rw [show ((j + y) % 6 + 6 - y) % 6 = j by omega, show ((i + x) % 6 + 6 - x) % 6 = i by omega]
    exact hb
  have hf := free_off h (Nat.mod_lt _ (by decide)) (Nat.mod_lt _ (by decide)) hs
  refine cp_lt _ (fun k _ q => ?_) ⟨6 * ((j + y) % 6) + (i + x) % 6, List.mem_range.mpr (by omega), ?_, ?_⟩
  · unfold jf at q
    cases hh : f (k / 6) (k % 6)
    · rfl
    · rw [hh] at q
      simp at q
  · rw [show (6 * ((j + y) % 6) + (i + x) % 6) / 6 = (j + y) % 6 by omega, show (6 * ((j + y) % 6) + (i + x) % 6) % 6 = (i + x) % 6 by omega, hf]
    rfl
  · rw [show (6 * ((j + y) % 6) + (i + x) % 6) / 6 = (j + y) % 6 by omega, show (6 * ((j + y) % 6) + (i + x) % 6) % 6 = (i + x) % 6 by omega]
    unfold jf
    rw [hs]
    simp
/-- A number of each sheet, by those of its nexts. -/
def vl6 (T : List Int → Int) (p : Fn6) : Nat → T6 → Int
  | 0, _ => 0
  | m + 1, t => T ((nxf (un6 t) p).map (vl6 T p m))
theorem vl6_same (T : List Int → Int) (p : Fn6) (hp : eqf p zf = false) : ∀ (m k : Nat) (f : Fn6), wc6 f < m → wc6 f < k → vl6 T p m (t6 f) = vl6 T p k (t6 f)
  | 0, _, _, h, _ => absurd h (by omega)
  | _ + 1, 0, _, _, h => absurd h (by omega)
  | m + 1, k + 1, f, h1, h2 => by
    show T _ = T _
    rw [nxf_cong (t6_un f) p]
    refine congrArg T (List.map_congr_left (fun u hu => ?_))
    obtain ⟨x, y, hx, hy, hf, rfl⟩ := nxf_mem hu
    have := wc6_lt hx hy hf hp
    exact vl6_same T p hp m k _ (by omega) (by omega)
def vt6 (T : List Int → Int) (p : Fn6) (t : T6) : Int := vl6 T p 37 t
theorem vt6_eq (T : List Int → Int) (p : Fn6) (hp : eqf p zf = false) (f : Fn6) : vt6 T p (t6 f) = T ((nxf f p).map (vt6 T p)) := by
  show T _ = T _
  rw [nxf_cong (t6_un f) p]
  refine congrArg T (List.map_congr_left (fun u hu => ?_))
  obtain ⟨x, y, hx, hy, hf, rfl⟩ := nxf_mem hu
  have h1 := wc6_lt hx hy hf hp
  have h2 := wc6_le f
  exact vl6_same T p hp 36 37 _ (by omega) (by omega)
/- Gc10 -/
theorem tv6_set (t : T6) : ∀ (L : List T6) (i : Nat), i < L.length → ((((((tv6 L).set (i * 6) (.int .i64 t.1)).set (i * 6 + 1) (.int .i64 t.2.1)).set (i * 6 + 2) (.int .i64 t.2.2.1)).set (i * 6 + 3) (.int .i64 t.2.2.2.1)).set (i * 6 + 4) (.int .i64 t.2.2.2.2.1)).set (i * 6 + 5) (.int .i64 t.2.2.2.2.2) = tv6 (L.set i t)
  | [], _, h => by simp at h
  | a :: L, 0, _ => rfl
  | a :: L, i + 1, h => by
    have ih := tv6_set t L i (by simpa using h)
    have e : ∀ k, (i + 1) * 6 + k = (i * 6 + k) + 6 := fun k => by omega
    have e0 : (i + 1) * 6 = i * 6 + 6 := by omega
    rw [e 1, e 2, e 3, e 4, e 5, e0]
    show Value.int .i64 a.1 :: .int .i64 a.2.1 :: .int .i64 a.2.2.1 :: .int .i64 a.2.2.2.1 :: .int .i64 a.2.2.2.2.1 :: .int .i64 a.2.2.2.2.2 :: _ = .int .i64 a.1 :: .int .i64 a.2.1 :: .int .i64 a.2.2.1 :: .int .i64 a.2.2.2.1 :: .int .i64 a.2.2.2.2.1 :: .int .i64 a.2.2.2.2.2 :: tv6 (L.set i t)
    rw [← ih]
    rfl
theorem gr_drewN {w W : World} {o : Option Nat} (h : w.grownBy W o) (q : Nat) : w.grownBy (W.drewN q) o := ⟨h.os, h.tape, h.output, h.size, h.block⟩
/-- A slice cut. -/
theorem own_cut {W : World} {B g n m cap : Nat} {e : TypeId} {l : List T6} (h : W.ownsRow B e 6 (.slice (some ⟨g, 0, none⟩) n cap) n (tv6 l)) (hm : m ≤ n) (hl : l.length = n) : W.ownsRow B e 6 (.slice (some ⟨g, 0, none⟩) m cap) m (tv6 (l.take m)) := by
  rcases h.2 with ⟨e1, _⟩ | ⟨g2, cap2, cur, e1, hb, hh, h1, h2, h3, ht⟩
  · exact absurd e1 (by simp)
  · simp only [Value.slice.injEq, Option.some.injEq, Addr.mk.injEq, and_true, true_and] at e1
    obtain ⟨rfl, rfl⟩ := e1
    refine ⟨by rw [tv6_len, List.length_take]; omega, .inr ⟨g, cap, cur, rfl, hb, hh, by omega, h2, h3, ?_⟩⟩
    have : tv6 l = tv6 (l.take m) ++ tv6 (l.drop m) := by rw [← tv6_app, List.take_append_drop]
    rw [show cur.toList.take (m * 6) = (cur.toList.take (n * 6)).take (m * 6) by rw [List.take_take]; congr 1; omega, ht, this, List.take_append_of_le_length (by rw [tv6_len, List.length_take]; omega)]
    refine List.take_of_length_le ?_
    rw [tv6_len, List.length_take]
    omega
theorem own_put6 {W : World} {B g n cap i : Nat} {e : TypeId} {l : List T6} (t : T6) (h : W.ownsRow B e 6 (.slice (some ⟨g, 0, none⟩) n cap) n (tv6 l)) (hi : i < l.length) : ((((((W.setCell ⟨g, i * 6, none⟩ (.int .i64 t.1)).setCell ⟨g, i * 6 + 1, none⟩ (.int .i64 t.2.1)).setCell ⟨g, i * 6 + 2, none⟩ (.int .i64 t.2.2.1)).setCell ⟨g, i * 6 + 3, none⟩ (.int .i64 t.2.2.2.1)).setCell ⟨g, i * 6 + 4, none⟩ (.int .i64 t.2.2.2.2.1)).setCell ⟨g, i * 6 + 5, none⟩ (.int .i64 t.2.2.2.2.2)).ownsRow B e 6 (.slice (some ⟨g, 0, none⟩) n cap) n (tv6 (l.set i t)) := by
  rw [← tv6_set t l i hi]
  exact ((((((h.stored _ _).1.stored _ _).1.stored _ _).1.stored _ _).1.stored _ _).1.stored _ _).1
theorem grown_put6 {w W : World} {g : Nat} (v0 v1 v2 v3 v4 v5 : Value) (i0 i1 i2 i3 i4 i5 : Nat) (h : w.grownBy W (some g)) : w.grownBy ((((((W.setCell ⟨g, i0, none⟩ v0).setCell ⟨g, i1, none⟩ v1).setCell ⟨g, i2, none⟩ v2).setCell ⟨g, i3, none⟩ v3).setCell ⟨g, i4, none⟩ v4).setCell ⟨g, i5, none⟩ v5) (some g) :=
  gtr (gtr (gtr (gtr (gtr (gtr h (grow_set _ ⟨g, i0, none⟩ v0)) (grow_set _ ⟨g, i1, none⟩ v1)) (grow_set _ ⟨g, i2, none⟩ v2)) (grow_set _ ⟨g, i3, none⟩ v3)) (grow_set _ ⟨g, i4, none⟩ v4)) (grow_set _ ⟨g, i5, none⟩ v5)
/-- Stores behind the first m elements leave these. -/
theorem own_setCells {B g m cap : Nat} {e : TypeId} {l : List T6} : ∀ (vs : List Value) (o : Nat) (W w : World), m * 6 ≤ o → W.ownsRow B e 6 (.slice (some ⟨g, 0, none⟩) m cap) m (tv6 l) → w.grownBy W (some g) → (W.setCells g o vs).ownsRow B e 6 (.slice (some ⟨g, 0, none⟩) m cap) m (tv6 l) ∧ w.grownBy (W.setCells g o vs) (some g)
  | [], o, W, w, _, h, hg => ⟨h, hg⟩
  | v :: vs, o, W, w, ho, h, hg => by
    have hs : (W.setCell ⟨g, o, none⟩ v).ownsRow B e 6 (.slice (some ⟨g, 0, none⟩) m cap) m (tv6 l) := by
      have k := (h.stored o v).1
      rw [List.set_eq_of_length_le (by rw [h.1]; exact ho)] at k
      exact k
    exact own_setCells vs (o + 1) (W.setCell ⟨g, o, none⟩ v) w (by omega) hs (gtr hg (grow_set _ ⟨g, o, none⟩ v))
theorem clear_sheets (W : World) (g o n c : Nat) (hn : 0 < n) (hc : ∀ j, j < n * 6 → (W.cell? ⟨g, o + j, none⟩).isSome = true) (hf : ∀ j, W.frozen? ⟨g, j, none⟩ = false) (ty : TypeId) : (Builtin.clear_ #[33] ty #[.slice (some ⟨g, o, none⟩) n c]).run Try.prog W = .ok (.tuple #[]) (W.setCells g o (List.replicate (n * 6) (.int .i64 0))) := by
  have ht : Try.prog.underlying 33 = some (.slice 28) := Try.underlying33
  have hv : ∀ w, (zeroValue 28).run Try.prog w = .ok (.agg #[.int .i64 0, .int .i64 0, .int .i64 0, .int .i64 0, .int .i64 0, .int .i64 0]) w := Try.zeroValue28
  have hzc : (Builtin.zeroCells (Value.agg #[.int .i64 0, .int .i64 0, .int .i64 0, .int .i64 0, .int .i64 0, .int .i64 0]).cells n).toList = List.replicate (n * 6) (.int .i64 0) := by
    have := made_zero (.int .i64 0) (n * 6)
    rw [← this]
    simp only [Builtin.zeroCells, madeCells, Value.cells]
    first | rfl | (congr 1) | (simp [Nat.mul_comm])
  have hst := run_storeCells_cells (P := Try.prog) g o (List.replicate (n * 6) (.int .i64 0)) 0 W (by simpa using hc) (by simpa using fun j _ => hf (o + j)) (by intro v hv'; rw [List.eq_of_mem_replicate hv']; rfl)
  simp only [Nat.add_zero] at hst
  obtain ⟨m, rfl⟩ : ∃ m, n = m + 1 := ⟨n - 1, by omega⟩
  simp [Builtin.clear_, run_underlying ht, hv, hzc, hst]
theorem neq_t6 (a0 a1 a2 a3 a4 a5 : Int) (b0 b1 b2 b3 b4 b5 : Int) (w : World) : (binOp .neq 28 (.agg #[.int .i64 a0, .int .i64 a1, .int .i64 a2, .int .i64 a3, .int .i64 a4, .int .i64 a5]) (.agg #[.int .i64 b0, .int .i64 b1, .int .i64 b2, .int .i64 b3, .int .i64 b4, .int .i64 b5])).run Try.prog w = .ok (.bool (decide (¬ ((a0, a1, a2, a3, a4, a5) : T6) = (b0, b1, b2, b3, b4, b5)))) w := by
  have h := eq26 a0 a1 a2 a3 a4 a5 b0 b1 b2 b3 b4 b5 w
  rw [run_eql_struct] at h
  rw [run_neq_struct]
  have hf : (a0 == b0 && a1 == b1 && a2 == b2 && a3 == b3 && a4 == b4 && a5 == b5) = decide (((a0, a1, a2, a3, a4, a5) : T6) = (b0, b1, b2, b3, b4, b5)) := by
    rw [Bool.eq_iff_iff]
    simp only [Bool.and_eq_true, beq_iff_eq, decide_eq_true_eq, Prod.mk.injEq, and_assoc]
  rw [hf] at h
  generalize (Op.equalIn 10000 28 (.agg #[.int .i64 a0, .int .i64 a1, .int .i64 a2, .int .i64 a3, .int .i64 a4, .int .i64 a5]) (.agg #[.int .i64 b0, .int .i64 b1, .int .i64 b2, .int .i64 b3, .int .i64 b4, .int .i64 b5])).run Try.prog w = x at h ⊢
  cases x with
  | ok v w' =>
    simp only [Result.andThen_ok, Result.ok.injEq, Value.bool.injEq] at h ⊢
    exact ⟨by rw [h.1]; simp, h.2⟩
  | halt e w' => cases h
/-- The row midway: the first ones each once, the others as they were from the last one looked at on. -/
def CI (d : List T6) (m : Nat) (D : List T6) : Prop := D.length = d.length ∧ (dpl d m).length < m ∧ D.take (dpl d m).length = dpl d m ∧ ∀ j, m - 1 ≤ j → D[j]? = d[j]?
theorem dpl_all {d : List T6} : ∀ m, m ≤ d.length → (∀ j (h0 : 0 < j) (h1 : j < m) (h2 : j < d.length), d[j - 1] ≠ d[j]) → dpl d m = d.take m
  | 0, _, _ => by simp [dpl]
  | m + 1, h, k => by
    rw [dpl_new (show m < d.length from h) (fun h0 => k m (by omega) (by omega) (by omega)), dpl_all m (by omega) (fun j h0 h1 h2 => k j h0 (by omega) h2), List.take_add_one, List.getElem?_eq_getElem (show m < d.length from h)]
    rfl
theorem CI.start {d : List T6} {m : Nat} (h : m < d.length) (h0 : 0 < m) (hd : d[m - 1] = d[m]) (k : ∀ j (h0 : 0 < j) (h1 : j < m) (h2 : j < d.length), d[j - 1] ≠ d[j]) : CI d (m + 1) d ∧ (dpl d (m + 1)).length = m := by
  have e : dpl d (m + 1) = d.take m := by rw [dpl_same h (by omega) hd, dpl_all m (by omega) k]
  have hl : (dpl d (m + 1)).length = m := by rw [e, List.length_take]; omega
  exact ⟨⟨rfl, by omega, by rw [hl, e], fun _ _ => rfl⟩, hl⟩
theorem CI.skip {d D : List T6} {m : Nat} (h : CI d m D) (hm : m < d.length) (h0 : m ≠ 0) (e : d[m - 1] = d[m]) : CI d (m + 1) D ∧ (dpl d (m + 1)).length = (dpl d m).length := by
  obtain ⟨h1, h2, h3, h4⟩ := h
  rw [CI, dpl_same hm h0 e]
  exact ⟨⟨h1, by omega, h3, fun j hj => h4 j (by omega)⟩, rfl⟩
theorem CI.keep {d D : List T6} {m : Nat} (h : CI d m D) (hm : m < d.length) (h0 : m ≠ 0) (e : d[m - 1] ≠ d[m]) : CI d (m + 1) (D.set (dpl d m).length d[m]) ∧ (dpl d (m + 1)).length = (dpl d m).length + 1 := by
  obtain ⟨h1, h2, h3, h4⟩ := h
  have en := dpl_new hm (fun _ => e)
  have hl : (dpl d (m + 1)).length = (dpl d m).length + 1 := by rw [en]; simp
  refine ⟨⟨by simp [h1], by omega, ?_, fun j hj => ?_⟩, hl⟩
  · rw [hl, en, List.take_add_one, List.getElem?_set_self (by omega), List.take_set_of_le (Nat.le_refl _), h3]
    rfl
  · rw [List.getElem?_set_ne (by omega)]
    exact h4 j (by omega)
set_option maxHeartbeats 4000000 in
theorem compact_f (d : List T6) (hd36 : d.length ≤ 36) (B g cap : Nat) (w : World) (hO : w.ownsRow B 28 6 (.slice (some ⟨g, 0, none⟩) d.length cap) d.length (tv6 d)) : Calls Try.prog 259 #[.slice (some ⟨g, 0, none⟩) d.length cap] w fun e w' => e = .returned (.slice (some ⟨g, 0, none⟩) (dpl d d.length).length cap) ∧ w'.ownsRow B 28 6 (.slice (some ⟨g, 0, none⟩) (dpl d d.length).length cap) (dpl d d.length).length (tv6 (dpl d d.length)) ∧ w.grownBy w' (some g) := by
  have HO := Lib.hid hO
  have HG := Lib.hid (show w.grownBy w (some g) from ⟨rfl, rfl, rfl, Nat.le_refl _, fun _ _ _ => rfl⟩)
  have hcap : (d.length : Int) ≤ cap := by
    rcases hO.2 with ⟨e1, _⟩ | ⟨_, _, _, e1, _, _, h1, _⟩
    · exact absurd e1 (by simp)
    · simp only [Value.slice.injEq, true_and] at e1
      omega
  have hcap' : d.length ≤ cap := by omega
  clear hO
  by_cases h2 : d.length < 2
  · have e : dpl d d.length = d := by
      rw [dpl_all d.length (Nat.le_refl _) (fun j h0 h1 _ => by omega), List.take_length]
    rw [e]
    have h2' : (d.length : Int) < 2 := by omega
    go_enter Try.func259, Try.ntmps259
    go_wp2_with fail
    go_ret
    exact ⟨rfl, HO.out, HG.out⟩
  · have h2' : ¬ (d.length : Int) < 2 := by omega
    go_enter Try.func259, Try.ntmps259
    go_wp2_with fail
    go_loopw [3] (fun s3 wr => ∃ k : Nat, 1 ≤ k ∧ k ≤ d.length ∧ s3 = .int .i64 k ∧ Hid (wr.ownsRow B 28 6 (.slice (some ⟨g, 0, none⟩) d.length cap) d.length (tv6 d) ∧ w.grownBy wr (some g) ∧ ∀ j (h0 : 0 < j) (h1 : j < k) (h2 : j < d.length), d[j - 1] ≠ d[j])) (fun s3 _ => d.length - (intOf s3).toNat)
    case atStart => exact ⟨1, by omega, by omega, rfl, Lib.hid ⟨HO.out, HG.out, fun j h0 h1 _ => by omega⟩⟩
    case round =>
      obtain ⟨k, hk1, hk, rfl, HS⟩ := hrel
      clear HO HG
      by_cases hlt : k < d.length
      · have hlt' : (k : Int) < d.length := by omega
        have hk1' : (1 : Int) ≤ k := by omega
        have hkm : wrap64 ((k : Int) - 1) = ((k - 1 : Nat) : Int) := by unfold wrap64; omega
        have hkm2 : IntKind.i64.wrap ((k : Int) - 1) = ((k - 1 : Nat) : Int) := by rw [IntKind.wrap_i64]; omega
        have hkl : ((k - 1 : Nat) : Int) < d.length := by omega
        obtain ⟨p0, p1, p2, p3, p4, p5⟩ := tv6_at d k hlt
        obtain ⟨q0, q1, q2, q3, q4, q5⟩ := tv6_at d (k - 1) (by omega)
        have c0 := own_at HS.out.1 p0
        have c1 := own_at HS.out.1 p1
        have c2 := own_at HS.out.1 p2
        have c3 := own_at HS.out.1 p3
        have c4 := own_at HS.out.1 p4
        have c5 := own_at HS.out.1 p5
        have b0 := own_at HS.out.1 q0
        have b1 := own_at HS.out.1 q1
        have b2 := own_at HS.out.1 q2
        have b3 := own_at HS.out.1 q3
        have b4 := own_at HS.out.1 q4
        have b5 := own_at HS.out.1 q5
        clear p0 p1 p2 p3 p4 p5 q0 q1 q2 q3 q4 q5
        generalize ht : d[k] = t at c0 c1 c2 c3 c4 c5
        generalize hu : d[k - 1] = u at b0 b1 b2 b3 b4 b5
        have HT := Lib.hid ht
        have HU := Lib.hid hu
        clear ht hu
        by_cases hdup : u = t
        · subst hdup
          obtain ⟨a0, a1, a2, a3, a4, a5⟩ := u
          dsimp only at c0 c1 c2 c3 c4 c5 b0 b1 b2 b3 b4 b5
          have he : ∀ w, (binOp .eql 28 (.agg #[.int .i64 a0, .int .i64 a1, .int .i64 a2, .int .i64 a3, .int .i64 a4, .int .i64 a5]) (.agg #[.int .i64 a0, .int .i64 a1, .int .i64 a2, .int .i64 a3, .int .i64 a4, .int .i64 a5])).run Try.prog w = .ok (.bool true) w := fun w => by
            have := eq26 a0 a1 a2 a3 a4 a5 a0 a1 a2 a3 a4 a5 w
            simpa using this
          obtain ⟨hC, hlen⟩ := CI.start hlt (by omega) (by rw [HT.out, HU.out]) HS.out.2.2
          go_wp2_with fail
          go_quiet (fail)
          go_wp2_with fail
          have S0 : Hid ((wr.drewN nq).ownsRow B 28 6 (.slice (some ⟨g, 0, none⟩) d.length cap) d.length (tv6 d) ∧ w.grownBy (wr.drewN nq) (some g)) := Lib.hid ⟨HS.out.1, gr_drewN HS.out.2.1 nq⟩
          clear HS hkm hkm2 hkl c0 c1 c2 c3 c4 c5 b0 b1 b2 b3 b4 b5 he HT HU
          go_loopw [3, 5] (fun s3 s5 wr2 => ∃ (kk k2 : Nat) (D : List T6), s3 = .int .i64 kk ∧ s5 = .int .i64 k2 ∧ 1 ≤ k2 ∧ k + k2 ≤ d.length ∧ kk = (dpl d (k + k2)).length ∧ Hid (wr2.ownsRow B 28 6 (.slice (some ⟨g, 0, none⟩) d.length cap) d.length (tv6 D) ∧ w.grownBy wr2 (some g) ∧ CI d (k + k2) D)) (fun _ s5 _ => d.length - (intOf s5).toNat)
          case atStart => exact ⟨k, 1, d, rfl, rfl, Nat.le_refl _, by omega, hlen.symm, Lib.hid ⟨S0.out.1, S0.out.2, hC⟩⟩
          case round =>
            obtain ⟨kk, k2, D, rfl, rfl, h1, hle, hkk, HI⟩ := hrel
            clear S0 hC hlen
            have hDl := HI.out.2.2.1
            have hkm' := HI.out.2.2.2.1
            rw [← hkk] at hkm'
            by_cases hlt2 : k + k2 < d.length
            · have hl2 : (k2 : Int) < ((d.length - k : Nat) : Int) := by omega
              have h1' : (1 : Int) ≤ k2 := by omega
              have hm1 : wrap64 ((k2 : Int) - 1) = ((k2 - 1 : Nat) : Int) := by unfold wrap64; omega
              have hm2 : IntKind.i64.wrap ((k2 : Int) - 1) = ((k2 - 1 : Nat) : Int) := by rw [IntKind.wrap_i64]; omega
              have hml : ((k2 - 1 : Nat) : Int) < ((d.length - k : Nat) : Int) := by omega
              have hmn : k2 - 1 < d.length - k := by omega
              have hkn : k2 < d.length - k := by omega
              have hkl : (kk : Int) < d.length := by omega
              have hk0 : (0 : Int) ≤ kk := by omega
              obtain ⟨p0, p1, p2, p3, p4, p5⟩ := tv6_at D (k + k2) (by rw [hDl]; exact hlt2)
              obtain ⟨q0, q1, q2, q3, q4, q5⟩ := tv6_at D (k + k2 - 1) (by omega)
              obtain ⟨o0, o1, o2, o3, o4, o5⟩ := tv6_at D kk (by omega)
              rw [show (k + k2) * 6 = k * 6 + k2 * 6 by omega] at p0 p1 p2 p3 p4 p5
              rw [show (k + k2 - 1) * 6 = k * 6 + (k2 - 1) * 6 by omega] at q0 q1 q2 q3 q4 q5
              have c0 := own_at HI.out.1 p0
              have c1 := own_at HI.out.1 p1
              have c2 := own_at HI.out.1 p2
              have c3 := own_at HI.out.1 p3
              have c4 := own_at HI.out.1 p4
              have c5 := own_at HI.out.1 p5
              have b0 := own_at HI.out.1 q0
              have b1 := own_at HI.out.1 q1
              have b2 := own_at HI.out.1 q2
              have b3 := own_at HI.out.1 q3
              have b4 := own_at HI.out.1 q4
              have b5 := own_at HI.out.1 q5
              have r0 := own_at HI.out.1 o0
              have r1 := own_at HI.out.1 o1
              have r2 := own_at HI.out.1 o2
              have r3 := own_at HI.out.1 o3
              have r4 := own_at HI.out.1 o4
              have r5 := own_at HI.out.1 o5
              have r_f := HI.out.1.frozenAt
              clear p0 p1 p2 p3 p4 p5 q0 q1 q2 q3 q4 q5 o0 o1 o2 o3 o4 o5
              have hx1 : k + k2 - 1 < d.length := by omega
              have hx2 : k + k2 - 1 < D.length := by omega
              have hx3 : k + k2 < D.length := by omega
              have hx4 : kk < D.length := by omega
              have hDt : D[k + k2]'hx3 = d[k + k2]'hlt2 := by
                have := HI.out.2.2.2.2.2 (k + k2) (by omega)
                rw [List.getElem?_eq_getElem (by omega), List.getElem?_eq_getElem (by omega)] at this
                exact Option.some.inj this
              have hDu : D[k + k2 - 1]'hx2 = d[k + k2 - 1]'hx1 := by
                have := HI.out.2.2.2.2.2 (k + k2 - 1) (by omega)
                rw [List.getElem?_eq_getElem (by omega), List.getElem?_eq_getElem (by omega)] at this
                exact Option.some.inj this
              generalize D[k + k2]'hx3 = t at c0 c1 c2 c3 c4 c5 hDt
              generalize D[k + k2 - 1]'hx2 = u at b0 b1 b2 b3 b4 b5 hDu
              generalize D[kk]'hx4 = x at r0 r1 r2 r3 r4 r5
              obtain ⟨x0, x1, x2, x3, x4, x5⟩ := x
              have HT := Lib.hid hDt
              have HU := Lib.hid hDu
              have HKK := Lib.hid hkk
              clear hDt hDu hkk
              by_cases hdup : t = u
              · subst hdup
                obtain ⟨hC2, hln⟩ := HI.out.2.2.skip hlt2 (by omega) (by rw [← HU.out, ← HT.out])
                have HC2 := Lib.hid hC2
                have HLn := Lib.hid hln
                obtain ⟨a0, a1, a2, a3, a4, a5⟩ := t
                dsimp only at c0 c1 c2 c3 c4 c5 b0 b1 b2 b3 b4 b5 r0 r1 r2 r3 r4 r5
                have he : ∀ w, (binOp .neq 28 (.agg #[.int .i64 a0, .int .i64 a1, .int .i64 a2, .int .i64 a3, .int .i64 a4, .int .i64 a5]) (.agg #[.int .i64 a0, .int .i64 a1, .int .i64 a2, .int .i64 a3, .int .i64 a4, .int .i64 a5])).run Try.prog w = .ok (.bool false) w := fun w => by
                  have h := neq_t6 a0 a1 a2 a3 a4 a5 a0 a1 a2 a3 a4 a5 w
                  simpa using h
                clear hC2 hln
                go_wp2_with fail
                go_quiet (fail)
                go_wp2_with fail
                go_roundw
                case rel => exact ⟨kk, k2 + 1, D, rfl, by go_num, by omega, by omega, by rw [← Nat.add_assoc, HLn.out]; exact HKK.out, Lib.hid ⟨HI.out.1, gr_drewN HI.out.2.1 _, by rw [← Nat.add_assoc]; exact HC2.out⟩⟩
                case measure => simp [intOf]; omega
              · obtain ⟨hC2, hln⟩ := HI.out.2.2.keep hlt2 (by omega) (by rw [← HU.out, ← HT.out]; exact fun e => hdup e.symm)
                rw [← HKK.out, ← HT.out] at hC2
                rw [← HKK.out] at hln
                have HC2 := Lib.hid hC2
                have HLn := Lib.hid hln
                have HD := Lib.hid (own_put6 t HI.out.1 (show kk < D.length by have := HI.out.2.2.1; omega))
                obtain ⟨a0, a1, a2, a3, a4, a5⟩ := t
                obtain ⟨e0, e1, e2, e3, e4, e5⟩ := u
                dsimp only at c0 c1 c2 c3 c4 c5 b0 b1 b2 b3 b4 b5 r0 r1 r2 r3 r4 r5
                have he : ∀ w, (binOp .neq 28 (.agg #[.int .i64 a0, .int .i64 a1, .int .i64 a2, .int .i64 a3, .int .i64 a4, .int .i64 a5]) (.agg #[.int .i64 e0, .int .i64 e1, .int .i64 e2, .int .i64 e3, .int .i64 e4, .int .i64 e5])).run Try.prog w = .ok (.bool true) w := fun w => by
                  have h := neq_t6 a0 a1 a2 a3 a4 a5 e0 e1 e2 e3 e4 e5 w
                  rw [decide_eq_true hdup] at h
                  exact h
                clear hC2 hln hdup
                go_wp2_with fail
                go_quiet (fail)
                have hD2 : _ ∧ _ := ⟨own_put6 ((a0, a1, a2, a3, a4, a5) : T6) (show (wr.drewN nq).ownsRow B 28 6 _ _ (tv6 D) from HI.out.1) hx4, grown_put6 (.int .i64 a0) (.int .i64 a1) (.int .i64 a2) (.int .i64 a3) (.int .i64 a4) (.int .i64 a5) (kk * 6) (kk * 6 + 1) (kk * 6 + 2) (kk * 6 + 3) (kk * 6 + 4) (kk * 6 + 5) (gr_drewN HI.out.2.1 nq)⟩
                dsimp only at hD2
                have HD2 := Lib.hid hD2
                clear hD2 HD
                go_wp2_with fail
                generalize (World.setCell _ _ _ : World) = W5 at HD2 ⊢
                clear r0 r1 r2 r3 r4 r5 r_f c0 c1 c2 c3 c4 c5 b0 b1 b2 b3 b4 b5 he
                go_roundw
                case rel => exact ⟨kk + 1, k2 + 1, _, by go_num, by go_num, by omega, by omega, by rw [← Nat.add_assoc, HLn.out], Lib.hid ⟨HD2.out.1, HD2.out.2, by rw [← Nat.add_assoc]; exact HC2.out⟩⟩
                case measure => simp [intOf]; omega
            · have hend : k + k2 = d.length := by omega
              have hl2 : ¬ (k2 : Int) < ((d.length - k : Nat) : Int) := by omega
              have hC := HI.out.2.2
              rw [hend] at hC hkk hkm'
              have hkl : kk ≤ d.length := by omega
              have hkl' : (kk : Int) ≤ d.length := by omega
              have hk0 : (0 : Int) ≤ kk := by omega
              have hkc : (kk : Int) ≤ cap := by omega
              have hkc' : kk ≤ cap := by omega
              have hcl := clear_sheets wr g (kk * 6) (d.length - kk) (cap - kk) (by omega) (fun j hj => by
                rw [HI.out.1.cellAt (kk * 6 + j) (by omega), List.getElem?_eq_getElem (by rw [HI.out.1.1]; omega)]
                rfl) HI.out.1.frozenAt
              have ho := own_cut (m := kk) HI.out.1 hkl hC.1
              rw [hkk] at ho
              rw [hC.2.2.1, ← hkk] at ho
              obtain ⟨ho2, hg2⟩ := own_setCells (List.replicate ((d.length - kk) * 6) (.int .i64 0)) (kk * 6) wr w (Nat.le_refl _) ho HI.out.2.1
              have HO2 := Lib.hid ho2
              have HG2 := Lib.hid hg2
              have HKK := Lib.hid hkk
              clear ho ho2 hg2 hC hkk hDl HI
              go_wp2_with fail
              go_ret
              rw [← HKK.out]
              exact ⟨rfl, HO2.out, HG2.out⟩
        · obtain ⟨a0, a1, a2, a3, a4, a5⟩ := t
          obtain ⟨e0, e1, e2, e3, e4, e5⟩ := u
          dsimp only at c0 c1 c2 c3 c4 c5 b0 b1 b2 b3 b4 b5
          have he : ∀ w, (binOp .eql 28 (.agg #[.int .i64 a0, .int .i64 a1, .int .i64 a2, .int .i64 a3, .int .i64 a4, .int .i64 a5]) (.agg #[.int .i64 e0, .int .i64 e1, .int .i64 e2, .int .i64 e3, .int .i64 e4, .int .i64 e5])).run Try.prog w = .ok (.bool false) w := fun w => by
            have h := eq26 a0 a1 a2 a3 a4 a5 e0 e1 e2 e3 e4 e5 w
            have hf : (a0 == e0 && a1 == e1 && a2 == e2 && a3 == e3 && a4 == e4 && a5 == e5) = false := by
              cases hh : (a0 == e0 && a1 == e1 && a2 == e2 && a3 == e3 && a4 == e4 && a5 == e5)
              · rfl
              · simp only [Bool.and_eq_true, beq_iff_eq] at hh
                obtain ⟨⟨⟨⟨⟨rfl, rfl⟩, rfl⟩, rfl⟩, rfl⟩, rfl⟩ := hh
                exact absurd rfl hdup
            rw [hf] at h
            exact h
          have HD := Lib.hid hdup
          clear hdup
          go_wp2_with fail
          go_quiet (fail)
          go_wp2_with fail
          go_roundw
          case rel =>
            refine ⟨k + 1, by omega, by omega, by go_num, Lib.hid ⟨HS.out.1, gr_drewN HS.out.2.1 _, fun j h0 h1 h2 => ?_⟩⟩
            by_cases hj : j = k
            · subst hj
              rw [HT.out, HU.out]
              exact HD.out
            · exact HS.out.2.2 j h0 (by omega) h2
          case measure => simp [intOf]; omega
      · obtain rfl : k = d.length := by omega
        have e : dpl d d.length = d := by
          rw [dpl_all d.length (Nat.le_refl _) HS.out.2.2, List.take_length]
        have HE := Lib.hid e
        clear e
        go_wp2_with fail
        go_ret
        rw [HE.out]
        exact ⟨rfl, HS.out.1, HS.out.2.1⟩
/- Ap10 -/
theorem step_append_at {P : Program} {w : World} {ops : Array Oper} {o : Oper} {a : Act} {K : Act → World → Prop} {Q : Exit → Act → World → Prop} {E : Prop} (hgd : o.guard = none) (s x : Operand) (t : TypeId)
    (ho : o.op = .call { callee := .builtin .append, args := #[s, x], argTypes := #[t, t] })
    (base : Nat) (e : TypeId) (i : TypeInfo) (z : Value) (size bytes : Nat) (ht : P.underlying t = some (.slice e)) (hi : P.info? e = some i) (hz : i.zero = some z)
    (hsize : i.size = size) (hby : i.bytes = bytes) (hzs : z.cells.size = size) (hsz : 0 < size)
    (v : Value) (n : Nat) (xs : List Value) (hs : a.eval s = v) (hown : w.ownsRow base e size v n xs)
    (ad : Addr) (m c : Nat) (news : List Value) (hx : a.eval x = .slice (some ad) m c) (hl : news.length = m * size) (hnews : ∀ j u, news[j]? = some u → w.cell? (ad.add j) = some u) (h1 : ∀ u ∈ news, u.oneCell' = true)
    (h63 : n + m ≤ maxLen) (hbytes : (n + m) * bytes ≤ 140737488355328) (hbase : base ≤ w.heap.size)
    (h : ∀ v' w', w'.ownsRow base e size v' (n + m) (xs ++ news) → w.grownBy w' v.ownBlock → (v' = .slice none 0 0 ↔ v = .slice none 0 0 ∧ m = 0) → (v'.ownBlock = v.ownBlock ∨ v'.ownBlock = some w.heap.size) → K (a.put o.dst v') w') :
    if Region.wanted o (yielded ops a.tmps) = true then Oper.wp P o a w K Q else E := by
  have hw : Region.wanted o (yielded ops a.tmps) = true := by simp [Region.wanted, hgd]
  rw [if_pos hw]
  obtain ⟨v', w', hr, h2, h3, h4, h5⟩ := run_append_own_at (P := P) w base t o.type e i z size bytes ht hi hz hsize hby hzs hsz v n xs hown ad m c news hl hnews h1 h63 hbytes hbase
  unfold Oper.wp execOp
  simp only [ho, resolve, invoke, builtin, Sem.run_bind, Sem.run_pure, Result.andThen_ok, List.map_toArray, List.map_cons, List.map_nil, hs, hx, hr]
  exact h v' w' h2 h3 h4 h5
end Go.Proofs.Ytkjaaaefcmpokaa
