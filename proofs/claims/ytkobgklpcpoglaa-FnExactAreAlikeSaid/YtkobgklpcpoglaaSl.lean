/- CONTRACTS: which sheet comes before, in the model and in the code. -/
import Derived.Test.YtkobgklpcpoglaaSb
import Derived.Test.YtkobgklpcpoglaaSc
import Derived.Test.YtkobgklpcpoglaaKp
import Derived.Deep.RegionHeld3
import Derived.RegionTactic
import Derived.WalkKit
import Derived.ProofKit
import Derived.OpenShut
import Derived.Lib.Hide
import Derived.WalkSpells
import Derived.Below
import Derived.BigQuiet
import Derived.LoopN
namespace Go.Proofs.Ytkobgklpcpoglaa
open Go.ChangeShapes Go.WideShapes Go.ChangeAt Go.RowKit
set_option linter.unusedVariables false
theorem nan_any (x : Int) (w : World) : Calls Try.prog 223 #[.int .i64 x] w fun e w' => e = .returned (.bool false) ∧ w' = w := by
  go_enter Try.func223, Try.ntmps223
  go_wp2_with fail
  go_ret
  exact ⟨rfl, rfl⟩
theorem cmp_lt (x y : Int) (h : x < y) (w : World) : Calls Try.prog 207 #[.int .i64 x, .int .i64 y] w fun e w' => e = .returned (.int .i64 (-1)) ∧ w' = w := by
  go_enter Try.func207, Try.ntmps207
  go_wp2_with fail
  refine (nan_any _ _).mono ?_
  rintro e w' ⟨rfl, rfl⟩
  go_wp2_with fail
  refine (nan_any _ _).mono ?_
  rintro e w' ⟨rfl, rfl⟩
  go_wp2_with fail
  go_ret
  exact ⟨rfl, rfl⟩
theorem cmp_gt (x y : Int) (h : y < x) (w : World) : Calls Try.prog 207 #[.int .i64 x, .int .i64 y] w fun e w' => e = .returned (.int .i64 (1)) ∧ w' = w := by
  go_enter Try.func207, Try.ntmps207
  go_wp2_with fail
  refine (nan_any _ _).mono ?_
  rintro e w' ⟨rfl, rfl⟩
  go_wp2_with fail
  refine (nan_any _ _).mono ?_
  rintro e w' ⟨rfl, rfl⟩
  go_wp2_with fail
  go_ret
  exact ⟨rfl, rfl⟩
theorem cmp_eq (x y : Int) (h : x = y) (w : World) : Calls Try.prog 207 #[.int .i64 x, .int .i64 y] w fun e w' => e = .returned (.int .i64 (0)) ∧ w' = w := by
  subst h
  go_enter Try.func207, Try.ntmps207
  go_wp2_with fail
  refine (nan_any _ _).mono ?_
  rintro e w' ⟨rfl, rfl⟩
  go_wp2_with fail
  refine (nan_any _ _).mono ?_
  rintro e w' ⟨rfl, rfl⟩
  go_wp2_with fail
  go_ret
  exact ⟨rfl, rfl⟩
theorem before_0lt (a0 a1 a2 a3 a4 a5 : Int) (b0 b1 b2 b3 b4 b5 : Int) (h : a0 < b0) (w : World) : Calls Try.prog 131 #[.agg #[.int .i64 a0, .int .i64 a1, .int .i64 a2, .int .i64 a3, .int .i64 a4, .int .i64 a5], .agg #[.int .i64 b0, .int .i64 b1, .int .i64 b2, .int .i64 b3, .int .i64 b4, .int .i64 b5]] w fun e w' => e = .returned (.bool true) ∧ Below w.heap.size w w' := by
  go_enter Try.func131, Try.ntmps131
  go_wp2_with fail
  refine wp_loop_rounds 7 ?_
  rw [rounds_succ]
  go_wp2_with fail
  go_region
  go_wp2_with fail
  go_region
  go_wp2_with fail
  go_ret
  exact ⟨rfl, by (repeat (first | exact Below.refl _ _ | assumption | refine Below.setCell ?_ (by first | (simp; done) | (simp; omega)) _ | refine Below.alloc ?_ (by first | (simp; done) | (simp; omega)) _ | refine Below.drew ?_))⟩
theorem compare_0lt (a0 a1 a2 a3 a4 a5 : Int) (b0 b1 b2 b3 b4 b5 : Int) (h : a0 < b0) (ga gb : Nat) (w : World) (hc : w.cell? ⟨ga, 0, none⟩ = some (.int .i64 a0) ∧ w.cell? ⟨ga, 1, none⟩ = some (.int .i64 a1) ∧ w.cell? ⟨ga, 2, none⟩ = some (.int .i64 a2) ∧ w.cell? ⟨ga, 3, none⟩ = some (.int .i64 a3) ∧ w.cell? ⟨ga, 4, none⟩ = some (.int .i64 a4) ∧ w.cell? ⟨ga, 5, none⟩ = some (.int .i64 a5)) (hd : w.cell? ⟨gb, 0, none⟩ = some (.int .i64 b0) ∧ w.cell? ⟨gb, 1, none⟩ = some (.int .i64 b1) ∧ w.cell? ⟨gb, 2, none⟩ = some (.int .i64 b2) ∧ w.cell? ⟨gb, 3, none⟩ = some (.int .i64 b3) ∧ w.cell? ⟨gb, 4, none⟩ = some (.int .i64 b4) ∧ w.cell? ⟨gb, 5, none⟩ = some (.int .i64 b5)) : Calls Try.prog 147 #[.slice (some ⟨ga, 0, none⟩) 6 6, .slice (some ⟨gb, 0, none⟩) 6 6] w fun e w' => e = .returned (.int .i64 (-1)) ∧ w' = w := by
  obtain ⟨c0, c1, c2, c3, c4, c5⟩ := hc
  obtain ⟨d0, d1, d2, d3, d4, d5⟩ := hd
  have HE := Lib.hid (fun z => cmp_eq z z rfl)
  have HF := Lib.hid (cmp_lt a0 b0 h)
  go_enter Try.func147, Try.ntmps147
  go_wp2_with fail
  refine wp_loop_rounds 7 ?_
  rw [rounds_succ]
  go_wp2_with fail
  refine (HF.out _).mono ?_
  rintro e w' ⟨rfl, rfl⟩
  go_wp2_with fail
  go_ret
  exact ⟨rfl, rfl⟩
theorem before_0gt (a0 a1 a2 a3 a4 a5 : Int) (b0 b1 b2 b3 b4 b5 : Int) (h : b0 < a0) (w : World) : Calls Try.prog 131 #[.agg #[.int .i64 a0, .int .i64 a1, .int .i64 a2, .int .i64 a3, .int .i64 a4, .int .i64 a5], .agg #[.int .i64 b0, .int .i64 b1, .int .i64 b2, .int .i64 b3, .int .i64 b4, .int .i64 b5]] w fun e w' => e = .returned (.bool false) ∧ Below w.heap.size w w' := by
  go_enter Try.func131, Try.ntmps131
  go_wp2_with fail
  refine wp_loop_rounds 7 ?_
  rw [rounds_succ]
  go_wp2_with fail
  go_region
  go_wp2_with fail
  go_region
  go_wp2_with fail
  go_ret
  exact ⟨by simp <;> omega, by (repeat (first | exact Below.refl _ _ | assumption | refine Below.setCell ?_ (by first | (simp; done) | (simp; omega)) _ | refine Below.alloc ?_ (by first | (simp; done) | (simp; omega)) _ | refine Below.drew ?_))⟩
theorem compare_0gt (a0 a1 a2 a3 a4 a5 : Int) (b0 b1 b2 b3 b4 b5 : Int) (h : b0 < a0) (ga gb : Nat) (w : World) (hc : w.cell? ⟨ga, 0, none⟩ = some (.int .i64 a0) ∧ w.cell? ⟨ga, 1, none⟩ = some (.int .i64 a1) ∧ w.cell? ⟨ga, 2, none⟩ = some (.int .i64 a2) ∧ w.cell? ⟨ga, 3, none⟩ = some (.int .i64 a3) ∧ w.cell? ⟨ga, 4, none⟩ = some (.int .i64 a4) ∧ w.cell? ⟨ga, 5, none⟩ = some (.int .i64 a5)) (hd : w.cell? ⟨gb, 0, none⟩ = some (.int .i64 b0) ∧ w.cell? ⟨gb, 1, none⟩ = some (.int .i64 b1) ∧ w.cell? ⟨gb, 2, none⟩ = some (.int .i64 b2) ∧ w.cell? ⟨gb, 3, none⟩ = some (.int .i64 b3) ∧ w.cell? ⟨gb, 4, none⟩ = some (.int .i64 b4) ∧ w.cell? ⟨gb, 5, none⟩ = some (.int .i64 b5)) : Calls Try.prog 147 #[.slice (some ⟨ga, 0, none⟩) 6 6, .slice (some ⟨gb, 0, none⟩) 6 6] w fun e w' => e = .returned (.int .i64 (1)) ∧ w' = w := by
  obtain ⟨c0, c1, c2, c3, c4, c5⟩ := hc
  obtain ⟨d0, d1, d2, d3, d4, d5⟩ := hd
  have HE := Lib.hid (fun z => cmp_eq z z rfl)
  have HF := Lib.hid (cmp_gt a0 b0 h)
  go_enter Try.func147, Try.ntmps147
  go_wp2_with fail
  refine wp_loop_rounds 7 ?_
  rw [rounds_succ]
  go_wp2_with fail
  refine (HF.out _).mono ?_
  rintro e w' ⟨rfl, rfl⟩
  go_wp2_with fail
  go_ret
  exact ⟨rfl, rfl⟩
theorem before_1lt (a0 a1 a2 a3 a4 a5 : Int) (b1 b2 b3 b4 b5 : Int) (h : a1 < b1) (w : World) : Calls Try.prog 131 #[.agg #[.int .i64 a0, .int .i64 a1, .int .i64 a2, .int .i64 a3, .int .i64 a4, .int .i64 a5], .agg #[.int .i64 a0, .int .i64 b1, .int .i64 b2, .int .i64 b3, .int .i64 b4, .int .i64 b5]] w fun e w' => e = .returned (.bool true) ∧ Below w.heap.size w w' := by
  go_enter Try.func131, Try.ntmps131
  go_wp2_with fail
  refine wp_loop_rounds 7 ?_
  rw [rounds_succ]
  go_wp2_with fail
  go_region
  go_wp2_with fail
  rw [rounds_succ]
  go_wp2_with fail
  go_region
  go_wp2_with fail
  go_region
  go_wp2_with fail
  go_ret
  exact ⟨rfl, by (repeat (first | exact Below.refl _ _ | assumption | refine Below.setCell ?_ (by first | (simp; done) | (simp; omega)) _ | refine Below.alloc ?_ (by first | (simp; done) | (simp; omega)) _ | refine Below.drew ?_))⟩
theorem compare_1lt (a0 a1 a2 a3 a4 a5 : Int) (b1 b2 b3 b4 b5 : Int) (h : a1 < b1) (ga gb : Nat) (w : World) (hc : w.cell? ⟨ga, 0, none⟩ = some (.int .i64 a0) ∧ w.cell? ⟨ga, 1, none⟩ = some (.int .i64 a1) ∧ w.cell? ⟨ga, 2, none⟩ = some (.int .i64 a2) ∧ w.cell? ⟨ga, 3, none⟩ = some (.int .i64 a3) ∧ w.cell? ⟨ga, 4, none⟩ = some (.int .i64 a4) ∧ w.cell? ⟨ga, 5, none⟩ = some (.int .i64 a5)) (hd : w.cell? ⟨gb, 0, none⟩ = some (.int .i64 a0) ∧ w.cell? ⟨gb, 1, none⟩ = some (.int .i64 b1) ∧ w.cell? ⟨gb, 2, none⟩ = some (.int .i64 b2) ∧ w.cell? ⟨gb, 3, none⟩ = some (.int .i64 b3) ∧ w.cell? ⟨gb, 4, none⟩ = some (.int .i64 b4) ∧ w.cell? ⟨gb, 5, none⟩ = some (.int .i64 b5)) : Calls Try.prog 147 #[.slice (some ⟨ga, 0, none⟩) 6 6, .slice (some ⟨gb, 0, none⟩) 6 6] w fun e w' => e = .returned (.int .i64 (-1)) ∧ w' = w := by
  obtain ⟨c0, c1, c2, c3, c4, c5⟩ := hc
  obtain ⟨d0, d1, d2, d3, d4, d5⟩ := hd
  have HE := Lib.hid (fun z => cmp_eq z z rfl)
  have HF := Lib.hid (cmp_lt a1 b1 h)
  go_enter Try.func147, Try.ntmps147
  go_wp2_with fail
  refine wp_loop_rounds 7 ?_
  rw [rounds_succ]
  go_wp2_with fail
  refine (HE.out _ _).mono ?_
  rintro e w' ⟨rfl, rfl⟩
  go_wp2_with fail
  rw [rounds_succ]
  go_wp2_with fail
  refine (HF.out _).mono ?_
  rintro e w' ⟨rfl, rfl⟩
  go_wp2_with fail
  go_ret
  exact ⟨rfl, rfl⟩
theorem before_1gt (a0 a1 a2 a3 a4 a5 : Int) (b1 b2 b3 b4 b5 : Int) (h : b1 < a1) (w : World) : Calls Try.prog 131 #[.agg #[.int .i64 a0, .int .i64 a1, .int .i64 a2, .int .i64 a3, .int .i64 a4, .int .i64 a5], .agg #[.int .i64 a0, .int .i64 b1, .int .i64 b2, .int .i64 b3, .int .i64 b4, .int .i64 b5]] w fun e w' => e = .returned (.bool false) ∧ Below w.heap.size w w' := by
  go_enter Try.func131, Try.ntmps131
  go_wp2_with fail
  refine wp_loop_rounds 7 ?_
  rw [rounds_succ]
  go_wp2_with fail
  go_region
  go_wp2_with fail
  rw [rounds_succ]
  go_wp2_with fail
  go_region
  go_wp2_with fail
  go_region
  go_wp2_with fail
  go_ret
  exact ⟨by simp <;> omega, by (repeat (first | exact Below.refl _ _ | assumption | refine Below.setCell ?_ (by first | (simp; done) | (simp; omega)) _ | refine Below.alloc ?_ (by first | (simp; done) | (simp; omega)) _ | refine Below.drew ?_))⟩
theorem compare_1gt (a0 a1 a2 a3 a4 a5 : Int) (b1 b2 b3 b4 b5 : Int) (h : b1 < a1) (ga gb : Nat) (w : World) (hc : w.cell? ⟨ga, 0, none⟩ = some (.int .i64 a0) ∧ w.cell? ⟨ga, 1, none⟩ = some (.int .i64 a1) ∧ w.cell? ⟨ga, 2, none⟩ = some (.int .i64 a2) ∧ w.cell? ⟨ga, 3, none⟩ = some (.int .i64 a3) ∧ w.cell? ⟨ga, 4, none⟩ = some (.int .i64 a4) ∧ w.cell? ⟨ga, 5, none⟩ = some (.int .i64 a5)) (hd : w.cell? ⟨gb, 0, none⟩ = some (.int .i64 a0) ∧ w.cell? ⟨gb, 1, none⟩ = some (.int .i64 b1) ∧ w.cell? ⟨gb, 2, none⟩ = some (.int .i64 b2) ∧ w.cell? ⟨gb, 3, none⟩ = some (.int .i64 b3) ∧ w.cell? ⟨gb, 4, none⟩ = some (.int .i64 b4) ∧ w.cell? ⟨gb, 5, none⟩ = some (.int .i64 b5)) : Calls Try.prog 147 #[.slice (some ⟨ga, 0, none⟩) 6 6, .slice (some ⟨gb, 0, none⟩) 6 6] w fun e w' => e = .returned (.int .i64 (1)) ∧ w' = w := by
  obtain ⟨c0, c1, c2, c3, c4, c5⟩ := hc
  obtain ⟨d0, d1, d2, d3, d4, d5⟩ := hd
  have HE := Lib.hid (fun z => cmp_eq z z rfl)
  have HF := Lib.hid (cmp_gt a1 b1 h)
  go_enter Try.func147, Try.ntmps147
  go_wp2_with fail
  refine wp_loop_rounds 7 ?_
  rw [rounds_succ]
  go_wp2_with fail
  refine (HE.out _ _).mono ?_
  rintro e w' ⟨rfl, rfl⟩
  go_wp2_with fail
  rw [rounds_succ]
  go_wp2_with fail
  refine (HF.out _).mono ?_
  rintro e w' ⟨rfl, rfl⟩
  go_wp2_with fail
  go_ret
  exact ⟨rfl, rfl⟩
theorem before_2lt (a0 a1 a2 a3 a4 a5 : Int) (b2 b3 b4 b5 : Int) (h : a2 < b2) (w : World) : Calls Try.prog 131 #[.agg #[.int .i64 a0, .int .i64 a1, .int .i64 a2, .int .i64 a3, .int .i64 a4, .int .i64 a5], .agg #[.int .i64 a0, .int .i64 a1, .int .i64 b2, .int .i64 b3, .int .i64 b4, .int .i64 b5]] w fun e w' => e = .returned (.bool true) ∧ Below w.heap.size w w' := by
  go_enter Try.func131, Try.ntmps131
  go_wp2_with fail
  refine wp_loop_rounds 7 ?_
  rw [rounds_succ]
  go_wp2_with fail
  go_region
  go_wp2_with fail
  rw [rounds_succ]
  go_wp2_with fail
  go_region
  go_wp2_with fail
  rw [rounds_succ]
  go_wp2_with fail
  go_region
  go_wp2_with fail
  go_region
  go_wp2_with fail
  go_ret
  exact ⟨rfl, by (repeat (first | exact Below.refl _ _ | assumption | refine Below.setCell ?_ (by first | (simp; done) | (simp; omega)) _ | refine Below.alloc ?_ (by first | (simp; done) | (simp; omega)) _ | refine Below.drew ?_))⟩
theorem compare_2lt (a0 a1 a2 a3 a4 a5 : Int) (b2 b3 b4 b5 : Int) (h : a2 < b2) (ga gb : Nat) (w : World) (hc : w.cell? ⟨ga, 0, none⟩ = some (.int .i64 a0) ∧ w.cell? ⟨ga, 1, none⟩ = some (.int .i64 a1) ∧ w.cell? ⟨ga, 2, none⟩ = some (.int .i64 a2) ∧ w.cell? ⟨ga, 3, none⟩ = some (.int .i64 a3) ∧ w.cell? ⟨ga, 4, none⟩ = some (.int .i64 a4) ∧ w.cell? ⟨ga, 5, none⟩ = some (.int .i64 a5)) (hd : w.cell? ⟨gb, 0, none⟩ = some (.int .i64 a0) ∧ w.cell? ⟨gb, 1, none⟩ = some (.int .i64 a1) ∧ w.cell? ⟨gb, 2, none⟩ = some (.int .i64 b2) ∧ w.cell? ⟨gb, 3, none⟩ = some (.int .i64 b3) ∧ w.cell? ⟨gb, 4, none⟩ = some (.int .i64 b4) ∧ w.cell? ⟨gb, 5, none⟩ = some (.int .i64 b5)) : Calls Try.prog 147 #[.slice (some ⟨ga, 0, none⟩) 6 6, .slice (some ⟨gb, 0, none⟩) 6 6] w fun e w' => e = .returned (.int .i64 (-1)) ∧ w' = w := by
  obtain ⟨c0, c1, c2, c3, c4, c5⟩ := hc
  obtain ⟨d0, d1, d2, d3, d4, d5⟩ := hd
  have HE := Lib.hid (fun z => cmp_eq z z rfl)
  have HF := Lib.hid (cmp_lt a2 b2 h)
  go_enter Try.func147, Try.ntmps147
  go_wp2_with fail
  refine wp_loop_rounds 7 ?_
  rw [rounds_succ]
  go_wp2_with fail
  refine (HE.out _ _).mono ?_
  rintro e w' ⟨rfl, rfl⟩
  go_wp2_with fail
  rw [rounds_succ]
  go_wp2_with fail
  refine (HE.out _ _).mono ?_
  rintro e w' ⟨rfl, rfl⟩
  go_wp2_with fail
  rw [rounds_succ]
  go_wp2_with fail
  refine (HF.out _).mono ?_
  rintro e w' ⟨rfl, rfl⟩
  go_wp2_with fail
  go_ret
  exact ⟨rfl, rfl⟩
theorem before_2gt (a0 a1 a2 a3 a4 a5 : Int) (b2 b3 b4 b5 : Int) (h : b2 < a2) (w : World) : Calls Try.prog 131 #[.agg #[.int .i64 a0, .int .i64 a1, .int .i64 a2, .int .i64 a3, .int .i64 a4, .int .i64 a5], .agg #[.int .i64 a0, .int .i64 a1, .int .i64 b2, .int .i64 b3, .int .i64 b4, .int .i64 b5]] w fun e w' => e = .returned (.bool false) ∧ Below w.heap.size w w' := by
  go_enter Try.func131, Try.ntmps131
  go_wp2_with fail
  refine wp_loop_rounds 7 ?_
  rw [rounds_succ]
  go_wp2_with fail
  go_region
  go_wp2_with fail
  rw [rounds_succ]
  go_wp2_with fail
  go_region
  go_wp2_with fail
  rw [rounds_succ]
  go_wp2_with fail
  go_region
  go_wp2_with fail
  go_region
  go_wp2_with fail
  go_ret
  exact ⟨by simp <;> omega, by (repeat (first | exact Below.refl _ _ | assumption | refine Below.setCell ?_ (by first | (simp; done) | (simp; omega)) _ | refine Below.alloc ?_ (by first | (simp; done) | (simp; omega)) _ | refine Below.drew ?_))⟩
theorem compare_2gt (a0 a1 a2 a3 a4 a5 : Int) (b2 b3 b4 b5 : Int) (h : b2 < a2) (ga gb : Nat) (w : World) (hc : w.cell? ⟨ga, 0, none⟩ = some (.int .i64 a0) ∧ w.cell? ⟨ga, 1, none⟩ = some (.int .i64 a1) ∧ w.cell? ⟨ga, 2, none⟩ = some (.int .i64 a2) ∧ w.cell? ⟨ga, 3, none⟩ = some (.int .i64 a3) ∧ w.cell? ⟨ga, 4, none⟩ = some (.int .i64 a4) ∧ w.cell? ⟨ga, 5, none⟩ = some (.int .i64 a5)) (hd : w.cell? ⟨gb, 0, none⟩ = some (.int .i64 a0) ∧ w.cell? ⟨gb, 1, none⟩ = some (.int .i64 a1) ∧ w.cell? ⟨gb, 2, none⟩ = some (.int .i64 b2) ∧ w.cell? ⟨gb, 3, none⟩ = some (.int .i64 b3) ∧ w.cell? ⟨gb, 4, none⟩ = some (.int .i64 b4) ∧ w.cell? ⟨gb, 5, none⟩ = some (.int .i64 b5)) : Calls Try.prog 147 #[.slice (some ⟨ga, 0, none⟩) 6 6, .slice (some ⟨gb, 0, none⟩) 6 6] w fun e w' => e = .returned (.int .i64 (1)) ∧ w' = w := by
  obtain ⟨c0, c1, c2, c3, c4, c5⟩ := hc
  obtain ⟨d0, d1, d2, d3, d4, d5⟩ := hd
  have HE := Lib.hid (fun z => cmp_eq z z rfl)
  have HF := Lib.hid (cmp_gt a2 b2 h)
  go_enter Try.func147, Try.ntmps147
  go_wp2_with fail
  refine wp_loop_rounds 7 ?_
  rw [rounds_succ]
  go_wp2_with fail
  refine (HE.out _ _).mono ?_
  rintro e w' ⟨rfl, rfl⟩
  go_wp2_with fail
  rw [rounds_succ]
  go_wp2_with fail
  refine (HE.out _ _).mono ?_
  rintro e w' ⟨rfl, rfl⟩
  go_wp2_with fail
  rw [rounds_succ]
  go_wp2_with fail
  refine (HF.out _).mono ?_
  rintro e w' ⟨rfl, rfl⟩
  go_wp2_with fail
  go_ret
  exact ⟨rfl, rfl⟩
theorem before_3lt (a0 a1 a2 a3 a4 a5 : Int) (b3 b4 b5 : Int) (h : a3 < b3) (w : World) : Calls Try.prog 131 #[.agg #[.int .i64 a0, .int .i64 a1, .int .i64 a2, .int .i64 a3, .int .i64 a4, .int .i64 a5], .agg #[.int .i64 a0, .int .i64 a1, .int .i64 a2, .int .i64 b3, .int .i64 b4, .int .i64 b5]] w fun e w' => e = .returned (.bool true) ∧ Below w.heap.size w w' := by
  go_enter Try.func131, Try.ntmps131
  go_wp2_with fail
  refine wp_loop_rounds 7 ?_
  rw [rounds_succ]
  go_wp2_with fail
  go_region
  go_wp2_with fail
  rw [rounds_succ]
  go_wp2_with fail
  go_region
  go_wp2_with fail
  rw [rounds_succ]
  go_wp2_with fail
  go_region
  go_wp2_with fail
  rw [rounds_succ]
  go_wp2_with fail
  go_region
  go_wp2_with fail
  go_region
  go_wp2_with fail
  go_ret
  exact ⟨rfl, by (repeat (first | exact Below.refl _ _ | assumption | refine Below.setCell ?_ (by first | (simp; done) | (simp; omega)) _ | refine Below.alloc ?_ (by first | (simp; done) | (simp; omega)) _ | refine Below.drew ?_))⟩
theorem compare_3lt (a0 a1 a2 a3 a4 a5 : Int) (b3 b4 b5 : Int) (h : a3 < b3) (ga gb : Nat) (w : World) (hc : w.cell? ⟨ga, 0, none⟩ = some (.int .i64 a0) ∧ w.cell? ⟨ga, 1, none⟩ = some (.int .i64 a1) ∧ w.cell? ⟨ga, 2, none⟩ = some (.int .i64 a2) ∧ w.cell? ⟨ga, 3, none⟩ = some (.int .i64 a3) ∧ w.cell? ⟨ga, 4, none⟩ = some (.int .i64 a4) ∧ w.cell? ⟨ga, 5, none⟩ = some (.int .i64 a5)) (hd : w.cell? ⟨gb, 0, none⟩ = some (.int .i64 a0) ∧ w.cell? ⟨gb, 1, none⟩ = some (.int .i64 a1) ∧ w.cell? ⟨gb, 2, none⟩ = some (.int .i64 a2) ∧ w.cell? ⟨gb, 3, none⟩ = some (.int .i64 b3) ∧ w.cell? ⟨gb, 4, none⟩ = some (.int .i64 b4) ∧ w.cell? ⟨gb, 5, none⟩ = some (.int .i64 b5)) : Calls Try.prog 147 #[.slice (some ⟨ga, 0, none⟩) 6 6, .slice (some ⟨gb, 0, none⟩) 6 6] w fun e w' => e = .returned (.int .i64 (-1)) ∧ w' = w := by
  obtain ⟨c0, c1, c2, c3, c4, c5⟩ := hc
  obtain ⟨d0, d1, d2, d3, d4, d5⟩ := hd
  have HE := Lib.hid (fun z => cmp_eq z z rfl)
  have HF := Lib.hid (cmp_lt a3 b3 h)
  go_enter Try.func147, Try.ntmps147
  go_wp2_with fail
  refine wp_loop_rounds 7 ?_
  rw [rounds_succ]
  go_wp2_with fail
  refine (HE.out _ _).mono ?_
  rintro e w' ⟨rfl, rfl⟩
  go_wp2_with fail
  rw [rounds_succ]
  go_wp2_with fail
  refine (HE.out _ _).mono ?_
  rintro e w' ⟨rfl, rfl⟩
  go_wp2_with fail
  rw [rounds_succ]
  go_wp2_with fail
  refine (HE.out _ _).mono ?_
  rintro e w' ⟨rfl, rfl⟩
  go_wp2_with fail
  rw [rounds_succ]
  go_wp2_with fail
  refine (HF.out _).mono ?_
  rintro e w' ⟨rfl, rfl⟩
  go_wp2_with fail
  go_ret
  exact ⟨rfl, rfl⟩
theorem before_3gt (a0 a1 a2 a3 a4 a5 : Int) (b3 b4 b5 : Int) (h : b3 < a3) (w : World) : Calls Try.prog 131 #[.agg #[.int .i64 a0, .int .i64 a1, .int .i64 a2, .int .i64 a3, .int .i64 a4, .int .i64 a5], .agg #[.int .i64 a0, .int .i64 a1, .int .i64 a2, .int .i64 b3, .int .i64 b4, .int .i64 b5]] w fun e w' => e = .returned (.bool false) ∧ Below w.heap.size w w' := by
  go_enter Try.func131, Try.ntmps131
  go_wp2_with fail
  refine wp_loop_rounds 7 ?_
  rw [rounds_succ]
  go_wp2_with fail
  go_region
  go_wp2_with fail
  rw [rounds_succ]
  go_wp2_with fail
  go_region
  go_wp2_with fail
  rw [rounds_succ]
  go_wp2_with fail
  go_region
  go_wp2_with fail
  rw [rounds_succ]
  go_wp2_with fail
  go_region
  go_wp2_with fail
  go_region
  go_wp2_with fail
  go_ret
  exact ⟨by simp <;> omega, by (repeat (first | exact Below.refl _ _ | assumption | refine Below.setCell ?_ (by first | (simp; done) | (simp; omega)) _ | refine Below.alloc ?_ (by first | (simp; done) | (simp; omega)) _ | refine Below.drew ?_))⟩
theorem compare_3gt (a0 a1 a2 a3 a4 a5 : Int) (b3 b4 b5 : Int) (h : b3 < a3) (ga gb : Nat) (w : World) (hc : w.cell? ⟨ga, 0, none⟩ = some (.int .i64 a0) ∧ w.cell? ⟨ga, 1, none⟩ = some (.int .i64 a1) ∧ w.cell? ⟨ga, 2, none⟩ = some (.int .i64 a2) ∧ w.cell? ⟨ga, 3, none⟩ = some (.int .i64 a3) ∧ w.cell? ⟨ga, 4, none⟩ = some (.int .i64 a4) ∧ w.cell? ⟨ga, 5, none⟩ = some (.int .i64 a5)) (hd : w.cell? ⟨gb, 0, none⟩ = some (.int .i64 a0) ∧ w.cell? ⟨gb, 1, none⟩ = some (.int .i64 a1) ∧ w.cell? ⟨gb, 2, none⟩ = some (.int .i64 a2) ∧ w.cell? ⟨gb, 3, none⟩ = some (.int .i64 b3) ∧ w.cell? ⟨gb, 4, none⟩ = some (.int .i64 b4) ∧ w.cell? ⟨gb, 5, none⟩ = some (.int .i64 b5)) : Calls Try.prog 147 #[.slice (some ⟨ga, 0, none⟩) 6 6, .slice (some ⟨gb, 0, none⟩) 6 6] w fun e w' => e = .returned (.int .i64 (1)) ∧ w' = w := by
  obtain ⟨c0, c1, c2, c3, c4, c5⟩ := hc
  obtain ⟨d0, d1, d2, d3, d4, d5⟩ := hd
  have HE := Lib.hid (fun z => cmp_eq z z rfl)
  have HF := Lib.hid (cmp_gt a3 b3 h)
  go_enter Try.func147, Try.ntmps147
  go_wp2_with fail
  refine wp_loop_rounds 7 ?_
  rw [rounds_succ]
  go_wp2_with fail
  refine (HE.out _ _).mono ?_
  rintro e w' ⟨rfl, rfl⟩
  go_wp2_with fail
  rw [rounds_succ]
  go_wp2_with fail
  refine (HE.out _ _).mono ?_
  rintro e w' ⟨rfl, rfl⟩
  go_wp2_with fail
  rw [rounds_succ]
  go_wp2_with fail
  refine (HE.out _ _).mono ?_
  rintro e w' ⟨rfl, rfl⟩
  go_wp2_with fail
  rw [rounds_succ]
  go_wp2_with fail
  refine (HF.out _).mono ?_
  rintro e w' ⟨rfl, rfl⟩
  go_wp2_with fail
  go_ret
  exact ⟨rfl, rfl⟩
theorem before_4lt (a0 a1 a2 a3 a4 a5 : Int) (b4 b5 : Int) (h : a4 < b4) (w : World) : Calls Try.prog 131 #[.agg #[.int .i64 a0, .int .i64 a1, .int .i64 a2, .int .i64 a3, .int .i64 a4, .int .i64 a5], .agg #[.int .i64 a0, .int .i64 a1, .int .i64 a2, .int .i64 a3, .int .i64 b4, .int .i64 b5]] w fun e w' => e = .returned (.bool true) ∧ Below w.heap.size w w' := by
  go_enter Try.func131, Try.ntmps131
  go_wp2_with fail
  refine wp_loop_rounds 7 ?_
  rw [rounds_succ]
  go_wp2_with fail
  go_region
  go_wp2_with fail
  rw [rounds_succ]
  go_wp2_with fail
  go_region
  go_wp2_with fail
  rw [rounds_succ]
  go_wp2_with fail
  go_region
  go_wp2_with fail
  rw [rounds_succ]
  go_wp2_with fail
  go_region
  go_wp2_with fail
  rw [rounds_succ]
  go_wp2_with fail
  go_region
  go_wp2_with fail
  go_region
  go_wp2_with fail
  go_ret
  exact ⟨rfl, by (repeat (first | exact Below.refl _ _ | assumption | refine Below.setCell ?_ (by first | (simp; done) | (simp; omega)) _ | refine Below.alloc ?_ (by first | (simp; done) | (simp; omega)) _ | refine Below.drew ?_))⟩
theorem compare_4lt (a0 a1 a2 a3 a4 a5 : Int) (b4 b5 : Int) (h : a4 < b4) (ga gb : Nat) (w : World) (hc : w.cell? ⟨ga, 0, none⟩ = some (.int .i64 a0) ∧ w.cell? ⟨ga, 1, none⟩ = some (.int .i64 a1) ∧ w.cell? ⟨ga, 2, none⟩ = some (.int .i64 a2) ∧ w.cell? ⟨ga, 3, none⟩ = some (.int .i64 a3) ∧ w.cell? ⟨ga, 4, none⟩ = some (.int .i64 a4) ∧ w.cell? ⟨ga, 5, none⟩ = some (.int .i64 a5)) (hd : w.cell? ⟨gb, 0, none⟩ = some (.int .i64 a0) ∧ w.cell? ⟨gb, 1, none⟩ = some (.int .i64 a1) ∧ w.cell? ⟨gb, 2, none⟩ = some (.int .i64 a2) ∧ w.cell? ⟨gb, 3, none⟩ = some (.int .i64 a3) ∧ w.cell? ⟨gb, 4, none⟩ = some (.int .i64 b4) ∧ w.cell? ⟨gb, 5, none⟩ = some (.int .i64 b5)) : Calls Try.prog 147 #[.slice (some ⟨ga, 0, none⟩) 6 6, .slice (some ⟨gb, 0, none⟩) 6 6] w fun e w' => e = .returned (.int .i64 (-1)) ∧ w' = w := by
  obtain ⟨c0, c1, c2, c3, c4, c5⟩ := hc
  obtain ⟨d0, d1, d2, d3, d4, d5⟩ := hd
  have HE := Lib.hid (fun z => cmp_eq z z rfl)
  have HF := Lib.hid (cmp_lt a4 b4 h)
  go_enter Try.func147, Try.ntmps147
  go_wp2_with fail
  refine wp_loop_rounds 7 ?_
  rw [rounds_succ]
  go_wp2_with fail
  refine (HE.out _ _).mono ?_
  rintro e w' ⟨rfl, rfl⟩
  go_wp2_with fail
  rw [rounds_succ]
  go_wp2_with fail
  refine (HE.out _ _).mono ?_
  rintro e w' ⟨rfl, rfl⟩
  go_wp2_with fail
  rw [rounds_succ]
  go_wp2_with fail
  refine (HE.out _ _).mono ?_
  rintro e w' ⟨rfl, rfl⟩
  go_wp2_with fail
  rw [rounds_succ]
  go_wp2_with fail
  refine (HE.out _ _).mono ?_
  rintro e w' ⟨rfl, rfl⟩
  go_wp2_with fail
  rw [rounds_succ]
  go_wp2_with fail
  refine (HF.out _).mono ?_
  rintro e w' ⟨rfl, rfl⟩
  go_wp2_with fail
  go_ret
  exact ⟨rfl, rfl⟩
theorem before_4gt (a0 a1 a2 a3 a4 a5 : Int) (b4 b5 : Int) (h : b4 < a4) (w : World) : Calls Try.prog 131 #[.agg #[.int .i64 a0, .int .i64 a1, .int .i64 a2, .int .i64 a3, .int .i64 a4, .int .i64 a5], .agg #[.int .i64 a0, .int .i64 a1, .int .i64 a2, .int .i64 a3, .int .i64 b4, .int .i64 b5]] w fun e w' => e = .returned (.bool false) ∧ Below w.heap.size w w' := by
  go_enter Try.func131, Try.ntmps131
  go_wp2_with fail
  refine wp_loop_rounds 7 ?_
  rw [rounds_succ]
  go_wp2_with fail
  go_region
  go_wp2_with fail
  rw [rounds_succ]
  go_wp2_with fail
  go_region
  go_wp2_with fail
  rw [rounds_succ]
  go_wp2_with fail
  go_region
  go_wp2_with fail
  rw [rounds_succ]
  go_wp2_with fail
  go_region
  go_wp2_with fail
  rw [rounds_succ]
  go_wp2_with fail
  go_region
  go_wp2_with fail
  go_region
  go_wp2_with fail
  go_ret
  exact ⟨by simp <;> omega, by (repeat (first | exact Below.refl _ _ | assumption | refine Below.setCell ?_ (by first | (simp; done) | (simp; omega)) _ | refine Below.alloc ?_ (by first | (simp; done) | (simp; omega)) _ | refine Below.drew ?_))⟩
theorem compare_4gt (a0 a1 a2 a3 a4 a5 : Int) (b4 b5 : Int) (h : b4 < a4) (ga gb : Nat) (w : World) (hc : w.cell? ⟨ga, 0, none⟩ = some (.int .i64 a0) ∧ w.cell? ⟨ga, 1, none⟩ = some (.int .i64 a1) ∧ w.cell? ⟨ga, 2, none⟩ = some (.int .i64 a2) ∧ w.cell? ⟨ga, 3, none⟩ = some (.int .i64 a3) ∧ w.cell? ⟨ga, 4, none⟩ = some (.int .i64 a4) ∧ w.cell? ⟨ga, 5, none⟩ = some (.int .i64 a5)) (hd : w.cell? ⟨gb, 0, none⟩ = some (.int .i64 a0) ∧ w.cell? ⟨gb, 1, none⟩ = some (.int .i64 a1) ∧ w.cell? ⟨gb, 2, none⟩ = some (.int .i64 a2) ∧ w.cell? ⟨gb, 3, none⟩ = some (.int .i64 a3) ∧ w.cell? ⟨gb, 4, none⟩ = some (.int .i64 b4) ∧ w.cell? ⟨gb, 5, none⟩ = some (.int .i64 b5)) : Calls Try.prog 147 #[.slice (some ⟨ga, 0, none⟩) 6 6, .slice (some ⟨gb, 0, none⟩) 6 6] w fun e w' => e = .returned (.int .i64 (1)) ∧ w' = w := by
  obtain ⟨c0, c1, c2, c3, c4, c5⟩ := hc
  obtain ⟨d0, d1, d2, d3, d4, d5⟩ := hd
  have HE := Lib.hid (fun z => cmp_eq z z rfl)
  have HF := Lib.hid (cmp_gt a4 b4 h)
  go_enter Try.func147, Try.ntmps147
  go_wp2_with fail
  refine wp_loop_rounds 7 ?_
  rw [rounds_succ]
  go_wp2_with fail
  refine (HE.out _ _).mono ?_
  rintro e w' ⟨rfl, rfl⟩
  go_wp2_with fail
  rw [rounds_succ]
  go_wp2_with fail
  refine (HE.out _ _).mono ?_
  rintro e w' ⟨rfl, rfl⟩
  go_wp2_with fail
  rw [rounds_succ]
  go_wp2_with fail
  refine (HE.out _ _).mono ?_
  rintro e w' ⟨rfl, rfl⟩
  go_wp2_with fail
  rw [rounds_succ]
  go_wp2_with fail
  refine (HE.out _ _).mono ?_
  rintro e w' ⟨rfl, rfl⟩
  go_wp2_with fail
  rw [rounds_succ]
  go_wp2_with fail
  refine (HF.out _).mono ?_
  rintro e w' ⟨rfl, rfl⟩
  go_wp2_with fail
  go_ret
  exact ⟨rfl, rfl⟩
theorem before_5lt (a0 a1 a2 a3 a4 a5 : Int) (b5 : Int) (h : a5 < b5) (w : World) : Calls Try.prog 131 #[.agg #[.int .i64 a0, .int .i64 a1, .int .i64 a2, .int .i64 a3, .int .i64 a4, .int .i64 a5], .agg #[.int .i64 a0, .int .i64 a1, .int .i64 a2, .int .i64 a3, .int .i64 a4, .int .i64 b5]] w fun e w' => e = .returned (.bool true) ∧ Below w.heap.size w w' := by
  go_enter Try.func131, Try.ntmps131
  go_wp2_with fail
  refine wp_loop_rounds 7 ?_
  rw [rounds_succ]
  go_wp2_with fail
  go_region
  go_wp2_with fail
  rw [rounds_succ]
  go_wp2_with fail
  go_region
  go_wp2_with fail
  rw [rounds_succ]
  go_wp2_with fail
  go_region
  go_wp2_with fail
  rw [rounds_succ]
  go_wp2_with fail
  go_region
  go_wp2_with fail
  rw [rounds_succ]
  go_wp2_with fail
  go_region
  go_wp2_with fail
  rw [rounds_succ]
  go_wp2_with fail
  go_region
  go_wp2_with fail
  go_region
  go_wp2_with fail
  go_ret
  exact ⟨rfl, by (repeat (first | exact Below.refl _ _ | assumption | refine Below.setCell ?_ (by first | (simp; done) | (simp; omega)) _ | refine Below.alloc ?_ (by first | (simp; done) | (simp; omega)) _ | refine Below.drew ?_))⟩
theorem compare_5lt (a0 a1 a2 a3 a4 a5 : Int) (b5 : Int) (h : a5 < b5) (ga gb : Nat) (w : World) (hc : w.cell? ⟨ga, 0, none⟩ = some (.int .i64 a0) ∧ w.cell? ⟨ga, 1, none⟩ = some (.int .i64 a1) ∧ w.cell? ⟨ga, 2, none⟩ = some (.int .i64 a2) ∧ w.cell? ⟨ga, 3, none⟩ = some (.int .i64 a3) ∧ w.cell? ⟨ga, 4, none⟩ = some (.int .i64 a4) ∧ w.cell? ⟨ga, 5, none⟩ = some (.int .i64 a5)) (hd : w.cell? ⟨gb, 0, none⟩ = some (.int .i64 a0) ∧ w.cell? ⟨gb, 1, none⟩ = some (.int .i64 a1) ∧ w.cell? ⟨gb, 2, none⟩ = some (.int .i64 a2) ∧ w.cell? ⟨gb, 3, none⟩ = some (.int .i64 a3) ∧ w.cell? ⟨gb, 4, none⟩ = some (.int .i64 a4) ∧ w.cell? ⟨gb, 5, none⟩ = some (.int .i64 b5)) : Calls Try.prog 147 #[.slice (some ⟨ga, 0, none⟩) 6 6, .slice (some ⟨gb, 0, none⟩) 6 6] w fun e w' => e = .returned (.int .i64 (-1)) ∧ w' = w := by
  obtain ⟨c0, c1, c2, c3, c4, c5⟩ := hc
  obtain ⟨d0, d1, d2, d3, d4, d5⟩ := hd
  have HE := Lib.hid (fun z => cmp_eq z z rfl)
  have HF := Lib.hid (cmp_lt a5 b5 h)
  go_enter Try.func147, Try.ntmps147
  go_wp2_with fail
  refine wp_loop_rounds 7 ?_
  rw [rounds_succ]
  go_wp2_with fail
  refine (HE.out _ _).mono ?_
  rintro e w' ⟨rfl, rfl⟩
  go_wp2_with fail
  rw [rounds_succ]
  go_wp2_with fail
  refine (HE.out _ _).mono ?_
  rintro e w' ⟨rfl, rfl⟩
  go_wp2_with fail
  rw [rounds_succ]
  go_wp2_with fail
  refine (HE.out _ _).mono ?_
  rintro e w' ⟨rfl, rfl⟩
  go_wp2_with fail
  rw [rounds_succ]
  go_wp2_with fail
  refine (HE.out _ _).mono ?_
  rintro e w' ⟨rfl, rfl⟩
  go_wp2_with fail
  rw [rounds_succ]
  go_wp2_with fail
  refine (HE.out _ _).mono ?_
  rintro e w' ⟨rfl, rfl⟩
  go_wp2_with fail
  rw [rounds_succ]
  go_wp2_with fail
  refine (HF.out _).mono ?_
  rintro e w' ⟨rfl, rfl⟩
  go_wp2_with fail
  go_ret
  exact ⟨rfl, rfl⟩
theorem before_5gt (a0 a1 a2 a3 a4 a5 : Int) (b5 : Int) (h : b5 < a5) (w : World) : Calls Try.prog 131 #[.agg #[.int .i64 a0, .int .i64 a1, .int .i64 a2, .int .i64 a3, .int .i64 a4, .int .i64 a5], .agg #[.int .i64 a0, .int .i64 a1, .int .i64 a2, .int .i64 a3, .int .i64 a4, .int .i64 b5]] w fun e w' => e = .returned (.bool false) ∧ Below w.heap.size w w' := by
  go_enter Try.func131, Try.ntmps131
  go_wp2_with fail
  refine wp_loop_rounds 7 ?_
  rw [rounds_succ]
  go_wp2_with fail
  go_region
  go_wp2_with fail
  rw [rounds_succ]
  go_wp2_with fail
  go_region
  go_wp2_with fail
  rw [rounds_succ]
  go_wp2_with fail
  go_region
  go_wp2_with fail
  rw [rounds_succ]
  go_wp2_with fail
  go_region
  go_wp2_with fail
  rw [rounds_succ]
  go_wp2_with fail
  go_region
  go_wp2_with fail
  rw [rounds_succ]
  go_wp2_with fail
  go_region
  go_wp2_with fail
  go_region
  go_wp2_with fail
  go_ret
  exact ⟨by simp <;> omega, by (repeat (first | exact Below.refl _ _ | assumption | refine Below.setCell ?_ (by first | (simp; done) | (simp; omega)) _ | refine Below.alloc ?_ (by first | (simp; done) | (simp; omega)) _ | refine Below.drew ?_))⟩
theorem compare_5gt (a0 a1 a2 a3 a4 a5 : Int) (b5 : Int) (h : b5 < a5) (ga gb : Nat) (w : World) (hc : w.cell? ⟨ga, 0, none⟩ = some (.int .i64 a0) ∧ w.cell? ⟨ga, 1, none⟩ = some (.int .i64 a1) ∧ w.cell? ⟨ga, 2, none⟩ = some (.int .i64 a2) ∧ w.cell? ⟨ga, 3, none⟩ = some (.int .i64 a3) ∧ w.cell? ⟨ga, 4, none⟩ = some (.int .i64 a4) ∧ w.cell? ⟨ga, 5, none⟩ = some (.int .i64 a5)) (hd : w.cell? ⟨gb, 0, none⟩ = some (.int .i64 a0) ∧ w.cell? ⟨gb, 1, none⟩ = some (.int .i64 a1) ∧ w.cell? ⟨gb, 2, none⟩ = some (.int .i64 a2) ∧ w.cell? ⟨gb, 3, none⟩ = some (.int .i64 a3) ∧ w.cell? ⟨gb, 4, none⟩ = some (.int .i64 a4) ∧ w.cell? ⟨gb, 5, none⟩ = some (.int .i64 b5)) : Calls Try.prog 147 #[.slice (some ⟨ga, 0, none⟩) 6 6, .slice (some ⟨gb, 0, none⟩) 6 6] w fun e w' => e = .returned (.int .i64 (1)) ∧ w' = w := by
  obtain ⟨c0, c1, c2, c3, c4, c5⟩ := hc
  obtain ⟨d0, d1, d2, d3, d4, d5⟩ := hd
  have HE := Lib.hid (fun z => cmp_eq z z rfl)
  have HF := Lib.hid (cmp_gt a5 b5 h)
  go_enter Try.func147, Try.ntmps147
  go_wp2_with fail
  refine wp_loop_rounds 7 ?_
  rw [rounds_succ]
  go_wp2_with fail
  refine (HE.out _ _).mono ?_
  rintro e w' ⟨rfl, rfl⟩
  go_wp2_with fail
  rw [rounds_succ]
  go_wp2_with fail
  refine (HE.out _ _).mono ?_
  rintro e w' ⟨rfl, rfl⟩
  go_wp2_with fail
  rw [rounds_succ]
  go_wp2_with fail
  refine (HE.out _ _).mono ?_
  rintro e w' ⟨rfl, rfl⟩
  go_wp2_with fail
  rw [rounds_succ]
  go_wp2_with fail
  refine (HE.out _ _).mono ?_
  rintro e w' ⟨rfl, rfl⟩
  go_wp2_with fail
  rw [rounds_succ]
  go_wp2_with fail
  refine (HE.out _ _).mono ?_
  rintro e w' ⟨rfl, rfl⟩
  go_wp2_with fail
  rw [rounds_succ]
  go_wp2_with fail
  refine (HF.out _).mono ?_
  rintro e w' ⟨rfl, rfl⟩
  go_wp2_with fail
  go_ret
  exact ⟨rfl, rfl⟩
theorem before_6eq (a0 a1 a2 a3 a4 a5 : Int)   (w : World) : Calls Try.prog 131 #[.agg #[.int .i64 a0, .int .i64 a1, .int .i64 a2, .int .i64 a3, .int .i64 a4, .int .i64 a5], .agg #[.int .i64 a0, .int .i64 a1, .int .i64 a2, .int .i64 a3, .int .i64 a4, .int .i64 a5]] w fun e w' => e = .returned (.bool false) ∧ Below w.heap.size w w' := by
  go_enter Try.func131, Try.ntmps131
  go_wp2_with fail
  refine wp_loop_rounds 7 ?_
  rw [rounds_succ]
  go_wp2_with fail
  go_region
  go_wp2_with fail
  rw [rounds_succ]
  go_wp2_with fail
  go_region
  go_wp2_with fail
  rw [rounds_succ]
  go_wp2_with fail
  go_region
  go_wp2_with fail
  rw [rounds_succ]
  go_wp2_with fail
  go_region
  go_wp2_with fail
  rw [rounds_succ]
  go_wp2_with fail
  go_region
  go_wp2_with fail
  rw [rounds_succ]
  go_wp2_with fail
  go_region
  go_wp2_with fail
  rw [rounds_succ]
  go_wp2_with fail
  go_ret
  exact ⟨rfl, by (repeat (first | exact Below.refl _ _ | assumption | refine Below.setCell ?_ (by first | (simp; done) | (simp; omega)) _ | refine Below.alloc ?_ (by first | (simp; done) | (simp; omega)) _ | refine Below.drew ?_))⟩
theorem compare_6eq (a0 a1 a2 a3 a4 a5 : Int)   (ga gb : Nat) (w : World) (hc : w.cell? ⟨ga, 0, none⟩ = some (.int .i64 a0) ∧ w.cell? ⟨ga, 1, none⟩ = some (.int .i64 a1) ∧ w.cell? ⟨ga, 2, none⟩ = some (.int .i64 a2) ∧ w.cell? ⟨ga, 3, none⟩ = some (.int .i64 a3) ∧ w.cell? ⟨ga, 4, none⟩ = some (.int .i64 a4) ∧ w.cell? ⟨ga, 5, none⟩ = some (.int .i64 a5)) (hd : w.cell? ⟨gb, 0, none⟩ = some (.int .i64 a0) ∧ w.cell? ⟨gb, 1, none⟩ = some (.int .i64 a1) ∧ w.cell? ⟨gb, 2, none⟩ = some (.int .i64 a2) ∧ w.cell? ⟨gb, 3, none⟩ = some (.int .i64 a3) ∧ w.cell? ⟨gb, 4, none⟩ = some (.int .i64 a4) ∧ w.cell? ⟨gb, 5, none⟩ = some (.int .i64 a5)) : Calls Try.prog 147 #[.slice (some ⟨ga, 0, none⟩) 6 6, .slice (some ⟨gb, 0, none⟩) 6 6] w fun e w' => e = .returned (.int .i64 (0)) ∧ w' = w := by
  obtain ⟨c0, c1, c2, c3, c4, c5⟩ := hc
  obtain ⟨d0, d1, d2, d3, d4, d5⟩ := hd
  have HE := Lib.hid (fun z => cmp_eq z z rfl)
  go_enter Try.func147, Try.ntmps147
  go_wp2_with fail
  refine wp_loop_rounds 7 ?_
  rw [rounds_succ]
  go_wp2_with fail
  refine (HE.out _ _).mono ?_
  rintro e w' ⟨rfl, rfl⟩
  go_wp2_with fail
  rw [rounds_succ]
  go_wp2_with fail
  refine (HE.out _ _).mono ?_
  rintro e w' ⟨rfl, rfl⟩
  go_wp2_with fail
  rw [rounds_succ]
  go_wp2_with fail
  refine (HE.out _ _).mono ?_
  rintro e w' ⟨rfl, rfl⟩
  go_wp2_with fail
  rw [rounds_succ]
  go_wp2_with fail
  refine (HE.out _ _).mono ?_
  rintro e w' ⟨rfl, rfl⟩
  go_wp2_with fail
  rw [rounds_succ]
  go_wp2_with fail
  refine (HE.out _ _).mono ?_
  rintro e w' ⟨rfl, rfl⟩
  go_wp2_with fail
  rw [rounds_succ]
  go_wp2_with fail
  refine (HE.out _ _).mono ?_
  rintro e w' ⟨rfl, rfl⟩
  go_wp2_with fail
  rw [rounds_succ]
  go_wp2_with fail
  go_ret
  exact ⟨rfl, rfl⟩
end Go.Proofs.Ytkobgklpcpoglaa
