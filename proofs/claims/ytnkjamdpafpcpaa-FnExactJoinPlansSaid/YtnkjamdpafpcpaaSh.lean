/- CONTRACTS: the model's shift, for each remainder of the rows. -/
import Derived.Test.YtnkjamdpafpcpaaSa
import Derived.RegionTactic
import Derived.WalkKit
import Derived.ProofKit
import Derived.OpenShut
import Derived.Lib.Hide
import Derived.WalkSpells
import Derived.Below
import Derived.BigQuiet
import Derived.LoopN
namespace Go.Proofs.Ytnkjamdpafpcpaa
open Go.ChangeShapes Go.WideShapes Go.ChangeAt Go.RowKit
set_option linter.unusedVariables false
set_option maxHeartbeats 4000000 in
theorem l2shift_0 (a0 a1 a2 a3 a4 a5 : Int) (dx dy x : Int) (hx : 0 ≤ x ∧ x ≤ 5) (HX : Hid (∀ w, Calls Try.prog 192 #[.int .i64 dx] w fun e w' => e = .returned (.int .i64 x) ∧ w' = w)) (HY : Hid (∀ w, Calls Try.prog 192 #[.int .i64 dy] w fun e w' => e = .returned (.int .i64 0) ∧ w' = w)) (w : World) : Calls Try.prog 209 #[.agg #[.int .i64 a0, .int .i64 a1, .int .i64 a2, .int .i64 a3, .int .i64 a4, .int .i64 a5], .int .i64 dx, .int .i64 dy] w fun e w' => e = .returned (.agg #[.int .i64 (bits .or .i64 (bits .and .i64 (wrap64 (a0 * 2 ^ x.toNat)) 63) (a0 / 2 ^ (6 - x).toNat)), .int .i64 (bits .or .i64 (bits .and .i64 (wrap64 (a1 * 2 ^ x.toNat)) 63) (a1 / 2 ^ (6 - x).toNat)), .int .i64 (bits .or .i64 (bits .and .i64 (wrap64 (a2 * 2 ^ x.toNat)) 63) (a2 / 2 ^ (6 - x).toNat)), .int .i64 (bits .or .i64 (bits .and .i64 (wrap64 (a3 * 2 ^ x.toNat)) 63) (a3 / 2 ^ (6 - x).toNat)), .int .i64 (bits .or .i64 (bits .and .i64 (wrap64 (a4 * 2 ^ x.toNat)) 63) (a4 / 2 ^ (6 - x).toNat)), .int .i64 (bits .or .i64 (bits .and .i64 (wrap64 (a5 * 2 ^ x.toNat)) 63) (a5 / 2 ^ (6 - x).toNat))]) ∧ Below w.heap.size w w' := by
  obtain ⟨m0, hm0⟩ : ∃ m, m = bits .or .i64 (bits .and .i64 (wrap64 (a0 * 2 ^ x.toNat)) 63) (a0 / 2 ^ (6 - x).toNat) := ⟨_, rfl⟩
  have M0 := Lib.hid hm0
  clear hm0
  obtain ⟨m1, hm1⟩ : ∃ m, m = bits .or .i64 (bits .and .i64 (wrap64 (a1 * 2 ^ x.toNat)) 63) (a1 / 2 ^ (6 - x).toNat) := ⟨_, rfl⟩
  have M1 := Lib.hid hm1
  clear hm1
  obtain ⟨m2, hm2⟩ : ∃ m, m = bits .or .i64 (bits .and .i64 (wrap64 (a2 * 2 ^ x.toNat)) 63) (a2 / 2 ^ (6 - x).toNat) := ⟨_, rfl⟩
  have M2 := Lib.hid hm2
  clear hm2
  obtain ⟨m3, hm3⟩ : ∃ m, m = bits .or .i64 (bits .and .i64 (wrap64 (a3 * 2 ^ x.toNat)) 63) (a3 / 2 ^ (6 - x).toNat) := ⟨_, rfl⟩
  have M3 := Lib.hid hm3
  clear hm3
  obtain ⟨m4, hm4⟩ : ∃ m, m = bits .or .i64 (bits .and .i64 (wrap64 (a4 * 2 ^ x.toNat)) 63) (a4 / 2 ^ (6 - x).toNat) := ⟨_, rfl⟩
  have M4 := Lib.hid hm4
  clear hm4
  obtain ⟨m5, hm5⟩ : ∃ m, m = bits .or .i64 (bits .and .i64 (wrap64 (a5 * 2 ^ x.toNat)) 63) (a5 / 2 ^ (6 - x).toNat) := ⟨_, rfl⟩
  have M5 := Lib.hid hm5
  clear hm5
  go_enter Try.func209, Try.ntmps209
  go_wp2_with fail
  refine (HX.out _).mono ?_
  rintro e w' ⟨rfl, rfl⟩
  go_wp2_with fail
  refine (HY.out _).mono ?_
  rintro e w' ⟨rfl, rfl⟩
  go_wp2_with fail
  refine wp_loop_rounds 7 ?_
  rw [rounds_succ]
  go_wp2_with fail
  go_region
  go_wp2_with fail
  rw [← M0.out]
  rw [rounds_succ]
  go_wp2_with fail
  go_region
  go_wp2_with fail
  rw [← M1.out]
  rw [rounds_succ]
  go_wp2_with fail
  go_region
  go_wp2_with fail
  rw [← M2.out]
  rw [rounds_succ]
  go_wp2_with fail
  go_region
  go_wp2_with fail
  rw [← M3.out]
  rw [rounds_succ]
  go_wp2_with fail
  go_region
  go_wp2_with fail
  rw [← M4.out]
  rw [rounds_succ]
  go_wp2_with fail
  go_region
  go_wp2_with fail
  rw [← M5.out]
  rw [rounds_succ]
  go_wp2_with fail
  refine bodyPost_ret (v := .agg #[.int .i64 m0, .int .i64 m1, .int .i64 m2, .int .i64 m3, .int .i64 m4, .int .i64 m5]) (by simp [results, Try.results209, go_sem]) rfl ⟨by rw [M0.out, M1.out, M2.out, M3.out, M4.out, M5.out], ?_⟩
  (repeat (first | exact Below.refl _ _ | assumption | refine Below.setCell ?_ (by first | (simp; done) | (simp; omega)) _ | refine Below.alloc ?_ (by first | (simp; done) | (simp; omega)) _ | refine Below.drew ?_))
set_option maxHeartbeats 4000000 in
theorem l2shift_1 (a0 a1 a2 a3 a4 a5 : Int) (dx dy x : Int) (hx : 0 ≤ x ∧ x ≤ 5) (HX : Hid (∀ w, Calls Try.prog 192 #[.int .i64 dx] w fun e w' => e = .returned (.int .i64 x) ∧ w' = w)) (HY : Hid (∀ w, Calls Try.prog 192 #[.int .i64 dy] w fun e w' => e = .returned (.int .i64 1) ∧ w' = w)) (w : World) : Calls Try.prog 209 #[.agg #[.int .i64 a0, .int .i64 a1, .int .i64 a2, .int .i64 a3, .int .i64 a4, .int .i64 a5], .int .i64 dx, .int .i64 dy] w fun e w' => e = .returned (.agg #[.int .i64 (bits .or .i64 (bits .and .i64 (wrap64 (a5 * 2 ^ x.toNat)) 63) (a5 / 2 ^ (6 - x).toNat)), .int .i64 (bits .or .i64 (bits .and .i64 (wrap64 (a0 * 2 ^ x.toNat)) 63) (a0 / 2 ^ (6 - x).toNat)), .int .i64 (bits .or .i64 (bits .and .i64 (wrap64 (a1 * 2 ^ x.toNat)) 63) (a1 / 2 ^ (6 - x).toNat)), .int .i64 (bits .or .i64 (bits .and .i64 (wrap64 (a2 * 2 ^ x.toNat)) 63) (a2 / 2 ^ (6 - x).toNat)), .int .i64 (bits .or .i64 (bits .and .i64 (wrap64 (a3 * 2 ^ x.toNat)) 63) (a3 / 2 ^ (6 - x).toNat)), .int .i64 (bits .or .i64 (bits .and .i64 (wrap64 (a4 * 2 ^ x.toNat)) 63) (a4 / 2 ^ (6 - x).toNat))]) ∧ Below w.heap.size w w' := by
  obtain ⟨m0, hm0⟩ : ∃ m, m = bits .or .i64 (bits .and .i64 (wrap64 (a0 * 2 ^ x.toNat)) 63) (a0 / 2 ^ (6 - x).toNat) := ⟨_, rfl⟩
  have M0 := Lib.hid hm0
  clear hm0
  obtain ⟨m1, hm1⟩ : ∃ m, m = bits .or .i64 (bits .and .i64 (wrap64 (a1 * 2 ^ x.toNat)) 63) (a1 / 2 ^ (6 - x).toNat) := ⟨_, rfl⟩
  have M1 := Lib.hid hm1
  clear hm1
  obtain ⟨m2, hm2⟩ : ∃ m, m = bits .or .i64 (bits .and .i64 (wrap64 (a2 * 2 ^ x.toNat)) 63) (a2 / 2 ^ (6 - x).toNat) := ⟨_, rfl⟩
  have M2 := Lib.hid hm2
  clear hm2
  obtain ⟨m3, hm3⟩ : ∃ m, m = bits .or .i64 (bits .and .i64 (wrap64 (a3 * 2 ^ x.toNat)) 63) (a3 / 2 ^ (6 - x).toNat) := ⟨_, rfl⟩
  have M3 := Lib.hid hm3
  clear hm3
  obtain ⟨m4, hm4⟩ : ∃ m, m = bits .or .i64 (bits .and .i64 (wrap64 (a4 * 2 ^ x.toNat)) 63) (a4 / 2 ^ (6 - x).toNat) := ⟨_, rfl⟩
  have M4 := Lib.hid hm4
  clear hm4
  obtain ⟨m5, hm5⟩ : ∃ m, m = bits .or .i64 (bits .and .i64 (wrap64 (a5 * 2 ^ x.toNat)) 63) (a5 / 2 ^ (6 - x).toNat) := ⟨_, rfl⟩
  have M5 := Lib.hid hm5
  clear hm5
  go_enter Try.func209, Try.ntmps209
  go_wp2_with fail
  refine (HX.out _).mono ?_
  rintro e w' ⟨rfl, rfl⟩
  go_wp2_with fail
  refine (HY.out _).mono ?_
  rintro e w' ⟨rfl, rfl⟩
  go_wp2_with fail
  refine wp_loop_rounds 7 ?_
  rw [rounds_succ]
  go_wp2_with fail
  go_region
  go_wp2_with fail
  rw [← M0.out]
  rw [rounds_succ]
  go_wp2_with fail
  go_region
  go_wp2_with fail
  rw [← M1.out]
  rw [rounds_succ]
  go_wp2_with fail
  go_region
  go_wp2_with fail
  rw [← M2.out]
  rw [rounds_succ]
  go_wp2_with fail
  go_region
  go_wp2_with fail
  rw [← M3.out]
  rw [rounds_succ]
  go_wp2_with fail
  go_region
  go_wp2_with fail
  rw [← M4.out]
  rw [rounds_succ]
  go_wp2_with fail
  go_region
  go_wp2_with fail
  rw [← M5.out]
  rw [rounds_succ]
  go_wp2_with fail
  refine bodyPost_ret (v := .agg #[.int .i64 m5, .int .i64 m0, .int .i64 m1, .int .i64 m2, .int .i64 m3, .int .i64 m4]) (by simp [results, Try.results209, go_sem]) rfl ⟨by rw [M0.out, M1.out, M2.out, M3.out, M4.out, M5.out], ?_⟩
  (repeat (first | exact Below.refl _ _ | assumption | refine Below.setCell ?_ (by first | (simp; done) | (simp; omega)) _ | refine Below.alloc ?_ (by first | (simp; done) | (simp; omega)) _ | refine Below.drew ?_))
set_option maxHeartbeats 4000000 in
theorem l2shift_2 (a0 a1 a2 a3 a4 a5 : Int) (dx dy x : Int) (hx : 0 ≤ x ∧ x ≤ 5) (HX : Hid (∀ w, Calls Try.prog 192 #[.int .i64 dx] w fun e w' => e = .returned (.int .i64 x) ∧ w' = w)) (HY : Hid (∀ w, Calls Try.prog 192 #[.int .i64 dy] w fun e w' => e = .returned (.int .i64 2) ∧ w' = w)) (w : World) : Calls Try.prog 209 #[.agg #[.int .i64 a0, .int .i64 a1, .int .i64 a2, .int .i64 a3, .int .i64 a4, .int .i64 a5], .int .i64 dx, .int .i64 dy] w fun e w' => e = .returned (.agg #[.int .i64 (bits .or .i64 (bits .and .i64 (wrap64 (a4 * 2 ^ x.toNat)) 63) (a4 / 2 ^ (6 - x).toNat)), .int .i64 (bits .or .i64 (bits .and .i64 (wrap64 (a5 * 2 ^ x.toNat)) 63) (a5 / 2 ^ (6 - x).toNat)), .int .i64 (bits .or .i64 (bits .and .i64 (wrap64 (a0 * 2 ^ x.toNat)) 63) (a0 / 2 ^ (6 - x).toNat)), .int .i64 (bits .or .i64 (bits .and .i64 (wrap64 (a1 * 2 ^ x.toNat)) 63) (a1 / 2 ^ (6 - x).toNat)), .int .i64 (bits .or .i64 (bits .and .i64 (wrap64 (a2 * 2 ^ x.toNat)) 63) (a2 / 2 ^ (6 - x).toNat)), .int .i64 (bits .or .i64 (bits .and .i64 (wrap64 (a3 * 2 ^ x.toNat)) 63) (a3 / 2 ^ (6 - x).toNat))]) ∧ Below w.heap.size w w' := by
  obtain ⟨m0, hm0⟩ : ∃ m, m = bits .or .i64 (bits .and .i64 (wrap64 (a0 * 2 ^ x.toNat)) 63) (a0 / 2 ^ (6 - x).toNat) := ⟨_, rfl⟩
  have M0 := Lib.hid hm0
  clear hm0
  obtain ⟨m1, hm1⟩ : ∃ m, m = bits .or .i64 (bits .and .i64 (wrap64 (a1 * 2 ^ x.toNat)) 63) (a1 / 2 ^ (6 - x).toNat) := ⟨_, rfl⟩
  have M1 := Lib.hid hm1
  clear hm1
  obtain ⟨m2, hm2⟩ : ∃ m, m = bits .or .i64 (bits .and .i64 (wrap64 (a2 * 2 ^ x.toNat)) 63) (a2 / 2 ^ (6 - x).toNat) := ⟨_, rfl⟩
  have M2 := Lib.hid hm2
  clear hm2
  obtain ⟨m3, hm3⟩ : ∃ m, m = bits .or .i64 (bits .and .i64 (wrap64 (a3 * 2 ^ x.toNat)) 63) (a3 / 2 ^ (6 - x).toNat) := ⟨_, rfl⟩
  have M3 := Lib.hid hm3
  clear hm3
  obtain ⟨m4, hm4⟩ : ∃ m, m = bits .or .i64 (bits .and .i64 (wrap64 (a4 * 2 ^ x.toNat)) 63) (a4 / 2 ^ (6 - x).toNat) := ⟨_, rfl⟩
  have M4 := Lib.hid hm4
  clear hm4
  obtain ⟨m5, hm5⟩ : ∃ m, m = bits .or .i64 (bits .and .i64 (wrap64 (a5 * 2 ^ x.toNat)) 63) (a5 / 2 ^ (6 - x).toNat) := ⟨_, rfl⟩
  have M5 := Lib.hid hm5
  clear hm5
  go_enter Try.func209, Try.ntmps209
  go_wp2_with fail
  refine (HX.out _).mono ?_
  rintro e w' ⟨rfl, rfl⟩
  go_wp2_with fail
  refine (HY.out _).mono ?_
  rintro e w' ⟨rfl, rfl⟩
  go_wp2_with fail
  refine wp_loop_rounds 7 ?_
  rw [rounds_succ]
  go_wp2_with fail
  go_region
  go_wp2_with fail
  rw [← M0.out]
  rw [rounds_succ]
  go_wp2_with fail
  go_region
  go_wp2_with fail
  rw [← M1.out]
  rw [rounds_succ]
  go_wp2_with fail
  go_region
  go_wp2_with fail
  rw [← M2.out]
  rw [rounds_succ]
  go_wp2_with fail
  go_region
  go_wp2_with fail
  rw [← M3.out]
  rw [rounds_succ]
  go_wp2_with fail
  go_region
  go_wp2_with fail
  rw [← M4.out]
  rw [rounds_succ]
  go_wp2_with fail
  go_region
  go_wp2_with fail
  rw [← M5.out]
  rw [rounds_succ]
  go_wp2_with fail
  refine bodyPost_ret (v := .agg #[.int .i64 m4, .int .i64 m5, .int .i64 m0, .int .i64 m1, .int .i64 m2, .int .i64 m3]) (by simp [results, Try.results209, go_sem]) rfl ⟨by rw [M0.out, M1.out, M2.out, M3.out, M4.out, M5.out], ?_⟩
  (repeat (first | exact Below.refl _ _ | assumption | refine Below.setCell ?_ (by first | (simp; done) | (simp; omega)) _ | refine Below.alloc ?_ (by first | (simp; done) | (simp; omega)) _ | refine Below.drew ?_))
set_option maxHeartbeats 4000000 in
theorem l2shift_3 (a0 a1 a2 a3 a4 a5 : Int) (dx dy x : Int) (hx : 0 ≤ x ∧ x ≤ 5) (HX : Hid (∀ w, Calls Try.prog 192 #[.int .i64 dx] w fun e w' => e = .returned (.int .i64 x) ∧ w' = w)) (HY : Hid (∀ w, Calls Try.prog 192 #[.int .i64 dy] w fun e w' => e = .returned (.int .i64 3) ∧ w' = w)) (w : World) : Calls Try.prog 209 #[.agg #[.int .i64 a0, .int .i64 a1, .int .i64 a2, .int .i64 a3, .int .i64 a4, .int .i64 a5], .int .i64 dx, .int .i64 dy] w fun e w' => e = .returned (.agg #[.int .i64 (bits .or .i64 (bits .and .i64 (wrap64 (a3 * 2 ^ x.toNat)) 63) (a3 / 2 ^ (6 - x).toNat)), .int .i64 (bits .or .i64 (bits .and .i64 (wrap64 (a4 * 2 ^ x.toNat)) 63) (a4 / 2 ^ (6 - x).toNat)), .int .i64 (bits .or .i64 (bits .and .i64 (wrap64 (a5 * 2 ^ x.toNat)) 63) (a5 / 2 ^ (6 - x).toNat)), .int .i64 (bits .or .i64 (bits .and .i64 (wrap64 (a0 * 2 ^ x.toNat)) 63) (a0 / 2 ^ (6 - x).toNat)), .int .i64 (bits .or .i64 (bits .and .i64 (wrap64 (a1 * 2 ^ x.toNat)) 63) (a1 / 2 ^ (6 - x).toNat)), .int .i64 (bits .or .i64 (bits .and .i64 (wrap64 (a2 * 2 ^ x.toNat)) 63) (a2 / 2 ^ (6 - x).toNat))]) ∧ Below w.heap.size w w' := by
  obtain ⟨m0, hm0⟩ : ∃ m, m = bits .or .i64 (bits .and .i64 (wrap64 (a0 * 2 ^ x.toNat)) 63) (a0 / 2 ^ (6 - x).toNat) := ⟨_, rfl⟩
  have M0 := Lib.hid hm0
  clear hm0
  obtain ⟨m1, hm1⟩ : ∃ m, m = bits .or .i64 (bits .and .i64 (wrap64 (a1 * 2 ^ x.toNat)) 63) (a1 / 2 ^ (6 - x).toNat) := ⟨_, rfl⟩
  have M1 := Lib.hid hm1
  clear hm1
  obtain ⟨m2, hm2⟩ : ∃ m, m = bits .or .i64 (bits .and .i64 (wrap64 (a2 * 2 ^ x.toNat)) 63) (a2 / 2 ^ (6 - x).toNat) := ⟨_, rfl⟩
  have M2 := Lib.hid hm2
  clear hm2
  obtain ⟨m3, hm3⟩ : ∃ m, m = bits .or .i64 (bits .and .i64 (wrap64 (a3 * 2 ^ x.toNat)) 63) (a3 / 2 ^ (6 - x).toNat) := ⟨_, rfl⟩
  have M3 := Lib.hid hm3
  clear hm3
  obtain ⟨m4, hm4⟩ : ∃ m, m = bits .or .i64 (bits .and .i64 (wrap64 (a4 * 2 ^ x.toNat)) 63) (a4 / 2 ^ (6 - x).toNat) := ⟨_, rfl⟩
  have M4 := Lib.hid hm4
  clear hm4
  obtain ⟨m5, hm5⟩ : ∃ m, m = bits .or .i64 (bits .and .i64 (wrap64 (a5 * 2 ^ x.toNat)) 63) (a5 / 2 ^ (6 - x).toNat) := ⟨_, rfl⟩
  have M5 := Lib.hid hm5
  clear hm5
  go_enter Try.func209, Try.ntmps209
  go_wp2_with fail
  refine (HX.out _).mono ?_
  rintro e w' ⟨rfl, rfl⟩
  go_wp2_with fail
  refine (HY.out _).mono ?_
  rintro e w' ⟨rfl, rfl⟩
  go_wp2_with fail
  refine wp_loop_rounds 7 ?_
  rw [rounds_succ]
  go_wp2_with fail
  go_region
  go_wp2_with fail
  rw [← M0.out]
  rw [rounds_succ]
  go_wp2_with fail
  go_region
  go_wp2_with fail
  rw [← M1.out]
  rw [rounds_succ]
  go_wp2_with fail
  go_region
  go_wp2_with fail
  rw [← M2.out]
  rw [rounds_succ]
  go_wp2_with fail
  go_region
  go_wp2_with fail
  rw [← M3.out]
  rw [rounds_succ]
  go_wp2_with fail
  go_region
  go_wp2_with fail
  rw [← M4.out]
  rw [rounds_succ]
  go_wp2_with fail
  go_region
  go_wp2_with fail
  rw [← M5.out]
  rw [rounds_succ]
  go_wp2_with fail
  refine bodyPost_ret (v := .agg #[.int .i64 m3, .int .i64 m4, .int .i64 m5, .int .i64 m0, .int .i64 m1, .int .i64 m2]) (by simp [results, Try.results209, go_sem]) rfl ⟨by rw [M0.out, M1.out, M2.out, M3.out, M4.out, M5.out], ?_⟩
  (repeat (first | exact Below.refl _ _ | assumption | refine Below.setCell ?_ (by first | (simp; done) | (simp; omega)) _ | refine Below.alloc ?_ (by first | (simp; done) | (simp; omega)) _ | refine Below.drew ?_))
set_option maxHeartbeats 4000000 in
theorem l2shift_4 (a0 a1 a2 a3 a4 a5 : Int) (dx dy x : Int) (hx : 0 ≤ x ∧ x ≤ 5) (HX : Hid (∀ w, Calls Try.prog 192 #[.int .i64 dx] w fun e w' => e = .returned (.int .i64 x) ∧ w' = w)) (HY : Hid (∀ w, Calls Try.prog 192 #[.int .i64 dy] w fun e w' => e = .returned (.int .i64 4) ∧ w' = w)) (w : World) : Calls Try.prog 209 #[.agg #[.int .i64 a0, .int .i64 a1, .int .i64 a2, .int .i64 a3, .int .i64 a4, .int .i64 a5], .int .i64 dx, .int .i64 dy] w fun e w' => e = .returned (.agg #[.int .i64 (bits .or .i64 (bits .and .i64 (wrap64 (a2 * 2 ^ x.toNat)) 63) (a2 / 2 ^ (6 - x).toNat)), .int .i64 (bits .or .i64 (bits .and .i64 (wrap64 (a3 * 2 ^ x.toNat)) 63) (a3 / 2 ^ (6 - x).toNat)), .int .i64 (bits .or .i64 (bits .and .i64 (wrap64 (a4 * 2 ^ x.toNat)) 63) (a4 / 2 ^ (6 - x).toNat)), .int .i64 (bits .or .i64 (bits .and .i64 (wrap64 (a5 * 2 ^ x.toNat)) 63) (a5 / 2 ^ (6 - x).toNat)), .int .i64 (bits .or .i64 (bits .and .i64 (wrap64 (a0 * 2 ^ x.toNat)) 63) (a0 / 2 ^ (6 - x).toNat)), .int .i64 (bits .or .i64 (bits .and .i64 (wrap64 (a1 * 2 ^ x.toNat)) 63) (a1 / 2 ^ (6 - x).toNat))]) ∧ Below w.heap.size w w' := by
  obtain ⟨m0, hm0⟩ : ∃ m, m = bits .or .i64 (bits .and .i64 (wrap64 (a0 * 2 ^ x.toNat)) 63) (a0 / 2 ^ (6 - x).toNat) := ⟨_, rfl⟩
  have M0 := Lib.hid hm0
  clear hm0
  obtain ⟨m1, hm1⟩ : ∃ m, m = bits .or .i64 (bits .and .i64 (wrap64 (a1 * 2 ^ x.toNat)) 63) (a1 / 2 ^ (6 - x).toNat) := ⟨_, rfl⟩
  have M1 := Lib.hid hm1
  clear hm1
  obtain ⟨m2, hm2⟩ : ∃ m, m = bits .or .i64 (bits .and .i64 (wrap64 (a2 * 2 ^ x.toNat)) 63) (a2 / 2 ^ (6 - x).toNat) := ⟨_, rfl⟩
  have M2 := Lib.hid hm2
  clear hm2
  obtain ⟨m3, hm3⟩ : ∃ m, m = bits .or .i64 (bits .and .i64 (wrap64 (a3 * 2 ^ x.toNat)) 63) (a3 / 2 ^ (6 - x).toNat) := ⟨_, rfl⟩
  have M3 := Lib.hid hm3
  clear hm3
  obtain ⟨m4, hm4⟩ : ∃ m, m = bits .or .i64 (bits .and .i64 (wrap64 (a4 * 2 ^ x.toNat)) 63) (a4 / 2 ^ (6 - x).toNat) := ⟨_, rfl⟩
  have M4 := Lib.hid hm4
  clear hm4
  obtain ⟨m5, hm5⟩ : ∃ m, m = bits .or .i64 (bits .and .i64 (wrap64 (a5 * 2 ^ x.toNat)) 63) (a5 / 2 ^ (6 - x).toNat) := ⟨_, rfl⟩
  have M5 := Lib.hid hm5
  clear hm5
  go_enter Try.func209, Try.ntmps209
  go_wp2_with fail
  refine (HX.out _).mono ?_
  rintro e w' ⟨rfl, rfl⟩
  go_wp2_with fail
  refine (HY.out _).mono ?_
  rintro e w' ⟨rfl, rfl⟩
  go_wp2_with fail
  refine wp_loop_rounds 7 ?_
  rw [rounds_succ]
  go_wp2_with fail
  go_region
  go_wp2_with fail
  rw [← M0.out]
  rw [rounds_succ]
  go_wp2_with fail
  go_region
  go_wp2_with fail
  rw [← M1.out]
  rw [rounds_succ]
  go_wp2_with fail
  go_region
  go_wp2_with fail
  rw [← M2.out]
  rw [rounds_succ]
  go_wp2_with fail
  go_region
  go_wp2_with fail
  rw [← M3.out]
  rw [rounds_succ]
  go_wp2_with fail
  go_region
  go_wp2_with fail
  rw [← M4.out]
  rw [rounds_succ]
  go_wp2_with fail
  go_region
  go_wp2_with fail
  rw [← M5.out]
  rw [rounds_succ]
  go_wp2_with fail
  refine bodyPost_ret (v := .agg #[.int .i64 m2, .int .i64 m3, .int .i64 m4, .int .i64 m5, .int .i64 m0, .int .i64 m1]) (by simp [results, Try.results209, go_sem]) rfl ⟨by rw [M0.out, M1.out, M2.out, M3.out, M4.out, M5.out], ?_⟩
  (repeat (first | exact Below.refl _ _ | assumption | refine Below.setCell ?_ (by first | (simp; done) | (simp; omega)) _ | refine Below.alloc ?_ (by first | (simp; done) | (simp; omega)) _ | refine Below.drew ?_))
set_option maxHeartbeats 4000000 in
theorem l2shift_5 (a0 a1 a2 a3 a4 a5 : Int) (dx dy x : Int) (hx : 0 ≤ x ∧ x ≤ 5) (HX : Hid (∀ w, Calls Try.prog 192 #[.int .i64 dx] w fun e w' => e = .returned (.int .i64 x) ∧ w' = w)) (HY : Hid (∀ w, Calls Try.prog 192 #[.int .i64 dy] w fun e w' => e = .returned (.int .i64 5) ∧ w' = w)) (w : World) : Calls Try.prog 209 #[.agg #[.int .i64 a0, .int .i64 a1, .int .i64 a2, .int .i64 a3, .int .i64 a4, .int .i64 a5], .int .i64 dx, .int .i64 dy] w fun e w' => e = .returned (.agg #[.int .i64 (bits .or .i64 (bits .and .i64 (wrap64 (a1 * 2 ^ x.toNat)) 63) (a1 / 2 ^ (6 - x).toNat)), .int .i64 (bits .or .i64 (bits .and .i64 (wrap64 (a2 * 2 ^ x.toNat)) 63) (a2 / 2 ^ (6 - x).toNat)), .int .i64 (bits .or .i64 (bits .and .i64 (wrap64 (a3 * 2 ^ x.toNat)) 63) (a3 / 2 ^ (6 - x).toNat)), .int .i64 (bits .or .i64 (bits .and .i64 (wrap64 (a4 * 2 ^ x.toNat)) 63) (a4 / 2 ^ (6 - x).toNat)), .int .i64 (bits .or .i64 (bits .and .i64 (wrap64 (a5 * 2 ^ x.toNat)) 63) (a5 / 2 ^ (6 - x).toNat)), .int .i64 (bits .or .i64 (bits .and .i64 (wrap64 (a0 * 2 ^ x.toNat)) 63) (a0 / 2 ^ (6 - x).toNat))]) ∧ Below w.heap.size w w' := by
  obtain ⟨m0, hm0⟩ : ∃ m, m = bits .or .i64 (bits .and .i64 (wrap64 (a0 * 2 ^ x.toNat)) 63) (a0 / 2 ^ (6 - x).toNat) := ⟨_, rfl⟩
  have M0 := Lib.hid hm0
  clear hm0
  obtain ⟨m1, hm1⟩ : ∃ m, m = bits .or .i64 (bits .and .i64 (wrap64 (a1 * 2 ^ x.toNat)) 63) (a1 / 2 ^ (6 - x).toNat) := ⟨_, rfl⟩
  have M1 := Lib.hid hm1
  clear hm1
  obtain ⟨m2, hm2⟩ : ∃ m, m = bits .or .i64 (bits .and .i64 (wrap64 (a2 * 2 ^ x.toNat)) 63) (a2 / 2 ^ (6 - x).toNat) := ⟨_, rfl⟩
  have M2 := Lib.hid hm2
  clear hm2
  obtain ⟨m3, hm3⟩ : ∃ m, m = bits .or .i64 (bits .and .i64 (wrap64 (a3 * 2 ^ x.toNat)) 63) (a3 / 2 ^ (6 - x).toNat) := ⟨_, rfl⟩
  have M3 := Lib.hid hm3
  clear hm3
  obtain ⟨m4, hm4⟩ : ∃ m, m = bits .or .i64 (bits .and .i64 (wrap64 (a4 * 2 ^ x.toNat)) 63) (a4 / 2 ^ (6 - x).toNat) := ⟨_, rfl⟩
  have M4 := Lib.hid hm4
  clear hm4
  obtain ⟨m5, hm5⟩ : ∃ m, m = bits .or .i64 (bits .and .i64 (wrap64 (a5 * 2 ^ x.toNat)) 63) (a5 / 2 ^ (6 - x).toNat) := ⟨_, rfl⟩
  have M5 := Lib.hid hm5
  clear hm5
  go_enter Try.func209, Try.ntmps209
  go_wp2_with fail
  refine (HX.out _).mono ?_
  rintro e w' ⟨rfl, rfl⟩
  go_wp2_with fail
  refine (HY.out _).mono ?_
  rintro e w' ⟨rfl, rfl⟩
  go_wp2_with fail
  refine wp_loop_rounds 7 ?_
  rw [rounds_succ]
  go_wp2_with fail
  go_region
  go_wp2_with fail
  rw [← M0.out]
  rw [rounds_succ]
  go_wp2_with fail
  go_region
  go_wp2_with fail
  rw [← M1.out]
  rw [rounds_succ]
  go_wp2_with fail
  go_region
  go_wp2_with fail
  rw [← M2.out]
  rw [rounds_succ]
  go_wp2_with fail
  go_region
  go_wp2_with fail
  rw [← M3.out]
  rw [rounds_succ]
  go_wp2_with fail
  go_region
  go_wp2_with fail
  rw [← M4.out]
  rw [rounds_succ]
  go_wp2_with fail
  go_region
  go_wp2_with fail
  rw [← M5.out]
  rw [rounds_succ]
  go_wp2_with fail
  refine bodyPost_ret (v := .agg #[.int .i64 m1, .int .i64 m2, .int .i64 m3, .int .i64 m4, .int .i64 m5, .int .i64 m0]) (by simp [results, Try.results209, go_sem]) rfl ⟨by rw [M0.out, M1.out, M2.out, M3.out, M4.out, M5.out], ?_⟩
  (repeat (first | exact Below.refl _ _ | assumption | refine Below.setCell ?_ (by first | (simp; done) | (simp; omega)) _ | refine Below.alloc ?_ (by first | (simp; done) | (simp; omega)) _ | refine Below.drew ?_))
end Go.Proofs.Ytnkjamdpafpcpaa
