/- CONTRACTS: the code's chances and means of presses. -/
import Derived.Test.YthphkhcppljdlaaTd9
import Derived.RegionTactic
import Derived.Deep.RegionHeld3
import Derived.WalkKit
import Derived.ProofKit
import Derived.OpenShut
import Derived.Lib.Hide
import Derived.WalkSpells
import Derived.Below
import Derived.BigQuiet
import Derived.LoopN
namespace Go.Proofs.Ythphkhcppljdlaa
open Go.ChangeShapes Go.WideShapes Go.ChangeAt Go.RowKit
set_option linter.unusedVariables false
theorem ST2 {w U : World} {ta tb b0 b1 b2 b3 b4 b5 : Int} (h : KR 2 [(w.heap.size, Obj.cells #[.int .i64 ta, .int .i64 tb] 165 (0, 0)), (w.heap.size + 1, Obj.cells #[.int .i64 b0, .int .i64 b1, .int .i64 b2, .int .i64 b3, .int .i64 b4, .int .i64 b5] 28 (0, 0))] w U) : U.cell? ⟨w.heap.size, 0, none⟩ = some (.int .i64 ta) ∧ U.cell? ⟨w.heap.size, 1, none⟩ = some (.int .i64 tb) ∧ U.cell? ⟨w.heap.size + 1, 0, none⟩ = some (.int .i64 b0) ∧ U.cell? ⟨w.heap.size + 1, 1, none⟩ = some (.int .i64 b1) ∧ U.cell? ⟨w.heap.size + 1, 2, none⟩ = some (.int .i64 b2) ∧ U.cell? ⟨w.heap.size + 1, 3, none⟩ = some (.int .i64 b3) ∧ U.cell? ⟨w.heap.size + 1, 4, none⟩ = some (.int .i64 b4) ∧ U.cell? ⟨w.heap.size + 1, 5, none⟩ = some (.int .i64 b5) ∧ KR 2 [(w.heap.size, Obj.cells #[.int .i64 ta, .int .i64 tb] 165 (0, 0)), (w.heap.size + 1, Obj.cells #[.int .i64 b0, .int .i64 b1, .int .i64 b2, .int .i64 b3, .int .i64 b4, .int .i64 b5] 28 (0, 0))] w U :=
  have h0 := fun j => cell_of_row U _ j _ _ _ (h.row (g := w.heap.size) (List.mem_cons_self ..))
  have h1 := fun j => cell_of_row U _ j _ _ _ (h.row (g := w.heap.size + 1) (List.mem_cons_of_mem _ (List.mem_cons_self ..)))
  ⟨h0 0, h0 1, h1 0, h1 1, h1 2, h1 3, h1 4, h1 5, h⟩
set_option maxHeartbeats 2000000 in
theorem mb_n0 (b0 b1 b2 b3 b4 b5 : Int) (K ta tb n : Int) (HB : Hid (∀ w, Calls Try.prog 102 #[.agg #[.int .i64 b0, .int .i64 b1, .int .i64 b2, .int .i64 b3, .int .i64 b4, .int .i64 b5]] w fun e w' => e = .returned (.bool false) ∧ Below w.heap.size w w')) (w : World) : Calls Try.prog 166 #[.int .i64 K, .agg #[.int .i64 ta, .int .i64 tb], .agg #[.int .i64 b0, .int .i64 b1, .int .i64 b2, .int .i64 b3, .int .i64 b4, .int .i64 b5], .int .i64 n] w fun e w' => e = .returned (.tuple #[.agg #[.int .i64 0, .int .i64 0], .bool false]) ∧ Below w.heap.size w w' := by
  go_enter Try.func166, Try.ntmps166
  go_wp2_with fail
  generalize hW : (World.alloc _ _ : World) = W0
  have q0 : W0.heap[(w.heap.size : Nat)]? = some (Obj.cells #[.int .i64 ta, .int .i64 tb] 165 (0, 0)) := by
    rw [← hW]
    repeat (first | (refine alloc_at ?_; first | (simp; done) | (simp; omega)) | refine drew_row ?_ | refine alloc_past ?_ | assumption)
  have q1 : W0.heap[(w.heap.size + 1 : Nat)]? = some (Obj.cells #[.int .i64 b0, .int .i64 b1, .int .i64 b2, .int .i64 b3, .int .i64 b4, .int .i64 b5] 28 (0, 0)) := by
    rw [← hW]
    repeat (first | (refine alloc_at ?_; first | (simp; done) | (simp; omega)) | refine drew_row ?_ | refine alloc_past ?_ | assumption)
  have hq : W0.heap[(w.heap.size + 2 : Nat)]? = some (Obj.cells #[.int .i64 0, .int .i64 0] 25 (0, 0)) := by
    rw [← hW]
    repeat (first | (refine alloc_at ?_; first | (simp; done) | (simp; omega)) | refine drew_row ?_ | refine alloc_past ?_ | assumption)
  have hk : KR 2 [(w.heap.size, Obj.cells #[.int .i64 ta, .int .i64 tb] 165 (0, 0)), (w.heap.size + 1, Obj.cells #[.int .i64 b0, .int .i64 b1, .int .i64 b2, .int .i64 b3, .int .i64 b4, .int .i64 b5] 28 (0, 0))] w W0 := ⟨by simp [q0, q1], by rw [← hW]; simp, by rw [← hW]; (repeat (first | exact Below.refl _ _ | assumption | refine Below.setCell ?_ (by first | (simp; done) | (simp; omega)) _ | refine Below.alloc ?_ (by first | (simp; done) | (simp; omega)) _ | refine Below.drew ?_))⟩
  clear hW q0 q1
  have r0_c := fun j => cell_of_row W0 _ j _ _ _ (hk.row (g := w.heap.size) (List.mem_cons_self ..))
  have r1_c := fun j => cell_of_row W0 _ j _ _ _ (hk.row (g := w.heap.size + 1) (List.mem_cons_of_mem _ (List.mem_cons_self ..)))
  have z_c := fun j => cell_of_row W0 _ j _ _ _ hq
  have z_f := fun j => frozen_of_row W0 _ j _ _ hq
  go_wp2_with fail
  refine (HB.out _).mono ?_
  rintro e W1 ⟨rfl, hb⟩
  clear r0_c r1_c z_c z_f
  have hk := hk.far hb rfl
  have hq := rowk hq hb rfl
  clear hb
  have r0_c := fun j => cell_of_row W1 _ j _ _ _ (hk.row (g := w.heap.size) (List.mem_cons_self ..))
  have r1_c := fun j => cell_of_row W1 _ j _ _ _ (hk.row (g := w.heap.size + 1) (List.mem_cons_of_mem _ (List.mem_cons_self ..)))
  have z_c := fun j => cell_of_row W1 _ j _ _ _ hq
  have z_f := fun j => frozen_of_row W1 _ j _ _ hq
  go_wp2_with fail
  have hB := hk.2.2
  refine bodyPost_ret (v := .tuple #[.agg #[.int .i64 0, .int .i64 0], .bool false]) (by simp [results, Try.results166, go_sem, z_c]) rfl ⟨rfl, ?_⟩
  exact (hB.setCell (by first | (simp; done) | (simp; omega)) _).setCell (by first | (simp; done) | (simp; omega)) _
set_option maxHeartbeats 2000000 in
theorem mb_n1 (b0 b1 b2 b3 b4 b5 : Int) (K ta tb n : Int) (hn : n < 0) (HB : Hid (∀ w, Calls Try.prog 102 #[.agg #[.int .i64 b0, .int .i64 b1, .int .i64 b2, .int .i64 b3, .int .i64 b4, .int .i64 b5]] w fun e w' => e = .returned (.bool true) ∧ Below w.heap.size w w')) (w : World) : Calls Try.prog 166 #[.int .i64 K, .agg #[.int .i64 ta, .int .i64 tb], .agg #[.int .i64 b0, .int .i64 b1, .int .i64 b2, .int .i64 b3, .int .i64 b4, .int .i64 b5], .int .i64 n] w fun e w' => e = .returned (.tuple #[.agg #[.int .i64 0, .int .i64 0], .bool false]) ∧ Below w.heap.size w w' := by
  go_enter Try.func166, Try.ntmps166
  go_wp2_with fail
  generalize hW : (World.alloc _ _ : World) = W0
  have q0 : W0.heap[(w.heap.size : Nat)]? = some (Obj.cells #[.int .i64 ta, .int .i64 tb] 165 (0, 0)) := by
    rw [← hW]
    repeat (first | (refine alloc_at ?_; first | (simp; done) | (simp; omega)) | refine drew_row ?_ | refine alloc_past ?_ | assumption)
  have q1 : W0.heap[(w.heap.size + 1 : Nat)]? = some (Obj.cells #[.int .i64 b0, .int .i64 b1, .int .i64 b2, .int .i64 b3, .int .i64 b4, .int .i64 b5] 28 (0, 0)) := by
    rw [← hW]
    repeat (first | (refine alloc_at ?_; first | (simp; done) | (simp; omega)) | refine drew_row ?_ | refine alloc_past ?_ | assumption)
  have hq : W0.heap[(w.heap.size + 2 : Nat)]? = some (Obj.cells #[.int .i64 0, .int .i64 0] 25 (0, 0)) := by
    rw [← hW]
    repeat (first | (refine alloc_at ?_; first | (simp; done) | (simp; omega)) | refine drew_row ?_ | refine alloc_past ?_ | assumption)
  have hk : KR 2 [(w.heap.size, Obj.cells #[.int .i64 ta, .int .i64 tb] 165 (0, 0)), (w.heap.size + 1, Obj.cells #[.int .i64 b0, .int .i64 b1, .int .i64 b2, .int .i64 b3, .int .i64 b4, .int .i64 b5] 28 (0, 0))] w W0 := ⟨by simp [q0, q1], by rw [← hW]; simp, by rw [← hW]; (repeat (first | exact Below.refl _ _ | assumption | refine Below.setCell ?_ (by first | (simp; done) | (simp; omega)) _ | refine Below.alloc ?_ (by first | (simp; done) | (simp; omega)) _ | refine Below.drew ?_))⟩
  clear hW q0 q1
  have r0_c := fun j => cell_of_row W0 _ j _ _ _ (hk.row (g := w.heap.size) (List.mem_cons_self ..))
  have r1_c := fun j => cell_of_row W0 _ j _ _ _ (hk.row (g := w.heap.size + 1) (List.mem_cons_of_mem _ (List.mem_cons_self ..)))
  have z_c := fun j => cell_of_row W0 _ j _ _ _ hq
  have z_f := fun j => frozen_of_row W0 _ j _ _ hq
  go_wp2_with fail
  refine (HB.out _).mono ?_
  rintro e W1 ⟨rfl, hb⟩
  clear r0_c r1_c z_c z_f
  have hk := hk.far hb rfl
  have hq := rowk hq hb rfl
  clear hb
  have r0_c := fun j => cell_of_row W1 _ j _ _ _ (hk.row (g := w.heap.size) (List.mem_cons_self ..))
  have r1_c := fun j => cell_of_row W1 _ j _ _ _ (hk.row (g := w.heap.size + 1) (List.mem_cons_of_mem _ (List.mem_cons_self ..)))
  have z_c := fun j => cell_of_row W1 _ j _ _ _ hq
  have z_f := fun j => frozen_of_row W1 _ j _ _ hq
  go_wp2_with fail
  have hB := hk.2.2
  refine bodyPost_ret (v := .tuple #[.agg #[.int .i64 0, .int .i64 0], .bool false]) (by simp [results, Try.results166, go_sem, z_c]) rfl ⟨rfl, ?_⟩
  exact (hB.setCell (by first | (simp; done) | (simp; omega)) _).setCell (by first | (simp; done) | (simp; omega)) _
set_option maxHeartbeats 2000000 in
theorem mb_n2 (b0 b1 b2 b3 b4 b5 : Int) (K ta tb n : Int) (hn : 6 < n) (hn2 : ¬ n < 0) (HB : Hid (∀ w, Calls Try.prog 102 #[.agg #[.int .i64 b0, .int .i64 b1, .int .i64 b2, .int .i64 b3, .int .i64 b4, .int .i64 b5]] w fun e w' => e = .returned (.bool true) ∧ Below w.heap.size w w')) (w : World) : Calls Try.prog 166 #[.int .i64 K, .agg #[.int .i64 ta, .int .i64 tb], .agg #[.int .i64 b0, .int .i64 b1, .int .i64 b2, .int .i64 b3, .int .i64 b4, .int .i64 b5], .int .i64 n] w fun e w' => e = .returned (.tuple #[.agg #[.int .i64 0, .int .i64 0], .bool false]) ∧ Below w.heap.size w w' := by
  go_enter Try.func166, Try.ntmps166
  go_wp2_with fail
  generalize hW : (World.alloc _ _ : World) = W0
  have q0 : W0.heap[(w.heap.size : Nat)]? = some (Obj.cells #[.int .i64 ta, .int .i64 tb] 165 (0, 0)) := by
    rw [← hW]
    repeat (first | (refine alloc_at ?_; first | (simp; done) | (simp; omega)) | refine drew_row ?_ | refine alloc_past ?_ | assumption)
  have q1 : W0.heap[(w.heap.size + 1 : Nat)]? = some (Obj.cells #[.int .i64 b0, .int .i64 b1, .int .i64 b2, .int .i64 b3, .int .i64 b4, .int .i64 b5] 28 (0, 0)) := by
    rw [← hW]
    repeat (first | (refine alloc_at ?_; first | (simp; done) | (simp; omega)) | refine drew_row ?_ | refine alloc_past ?_ | assumption)
  have hq : W0.heap[(w.heap.size + 2 : Nat)]? = some (Obj.cells #[.int .i64 0, .int .i64 0] 25 (0, 0)) := by
    rw [← hW]
    repeat (first | (refine alloc_at ?_; first | (simp; done) | (simp; omega)) | refine drew_row ?_ | refine alloc_past ?_ | assumption)
  have hk : KR 2 [(w.heap.size, Obj.cells #[.int .i64 ta, .int .i64 tb] 165 (0, 0)), (w.heap.size + 1, Obj.cells #[.int .i64 b0, .int .i64 b1, .int .i64 b2, .int .i64 b3, .int .i64 b4, .int .i64 b5] 28 (0, 0))] w W0 := ⟨by simp [q0, q1], by rw [← hW]; simp, by rw [← hW]; (repeat (first | exact Below.refl _ _ | assumption | refine Below.setCell ?_ (by first | (simp; done) | (simp; omega)) _ | refine Below.alloc ?_ (by first | (simp; done) | (simp; omega)) _ | refine Below.drew ?_))⟩
  clear hW q0 q1
  have r0_c := fun j => cell_of_row W0 _ j _ _ _ (hk.row (g := w.heap.size) (List.mem_cons_self ..))
  have r1_c := fun j => cell_of_row W0 _ j _ _ _ (hk.row (g := w.heap.size + 1) (List.mem_cons_of_mem _ (List.mem_cons_self ..)))
  have z_c := fun j => cell_of_row W0 _ j _ _ _ hq
  have z_f := fun j => frozen_of_row W0 _ j _ _ hq
  go_wp2_with fail
  refine (HB.out _).mono ?_
  rintro e W1 ⟨rfl, hb⟩
  clear r0_c r1_c z_c z_f
  have hk := hk.far hb rfl
  have hq := rowk hq hb rfl
  clear hb
  have r0_c := fun j => cell_of_row W1 _ j _ _ _ (hk.row (g := w.heap.size) (List.mem_cons_self ..))
  have r1_c := fun j => cell_of_row W1 _ j _ _ _ (hk.row (g := w.heap.size + 1) (List.mem_cons_of_mem _ (List.mem_cons_self ..)))
  have z_c := fun j => cell_of_row W1 _ j _ _ _ hq
  have z_f := fun j => frozen_of_row W1 _ j _ _ hq
  go_wp2_with fail
  have hB := hk.2.2
  refine bodyPost_ret (v := .tuple #[.agg #[.int .i64 0, .int .i64 0], .bool false]) (by simp [results, Try.results166, go_sem, z_c]) rfl ⟨rfl, ?_⟩
  exact (hB.setCell (by first | (simp; done) | (simp; omega)) _).setCell (by first | (simp; done) | (simp; omega)) _
set_option maxHeartbeats 4000000 in
theorem mb_y (b0 b1 b2 b3 b4 b5 : Int) (K : Int) (k h a b n : Nat) (fd : Nat) (P c1 c2 : Int) (hn : n ≤ 6) (HB : Hid (∀ w, Calls Try.prog 102 #[.agg #[.int .i64 b0, .int .i64 b1, .int .i64 b2, .int .i64 b3, .int .i64 b4, .int .i64 b5]] w fun e w' => e = .returned (.bool true) ∧ Below w.heap.size w w'))(HF : Hid (∀ w, Calls Try.prog 103 #[.agg #[.int .i64 b0, .int .i64 b1, .int .i64 b2, .int .i64 b3, .int .i64 b4, .int .i64 b5]] w fun e w' => e = .returned (.int .u64 (fd : Int)) ∧ Below w.heap.size w w'))(HS : Hid (∀ w, Calls Try.prog 104 #[.int .u64 (fd : Int)] w fun e w' => e = .returned (.int .i64 (h : Int)) ∧ Below w.heap.size w w'))(HP : Hid (∀ m, m < n → ∀ w, Calls Try.prog 205 #[.agg #[.int .i64 (((tn9 k h (a, b) (m)).1 : Nat) : Int), .int .i64 (((tn9 k h (a, b) (m)).2 : Nat) : Int)], .int .i64 K, .int .i64 (h : Int)] w fun e w' => e = .returned (.agg #[.int .i64 (((tn9 k h (a, b) (m + 1)).1 : Nat) : Int), .int .i64 (((tn9 k h (a, b) (m + 1)).2 : Nat) : Int)]) ∧ Below w.heap.size w w'))(HL : Hid (∀ w, Calls Try.prog 113 #[.int .i64 (n : Int)] w fun e w' => e = .returned (.int .i64 P) ∧ Below w.heap.size w w'))(HX : Hid (∀ w, Calls Try.prog 101 #[.int .i64 (((tn9 k h (a, b) (n)).2 : Nat) : Int), .int .i64 P] w fun e w' => e = .returned (.agg #[.int .i64 c1, .int .i64 c2]) ∧ Below w.heap.size w w')) (w : World) : Calls Try.prog 166 #[.int .i64 K, .agg #[.int .i64 (a : Int), .int .i64 (b : Int)], .agg #[.int .i64 b0, .int .i64 b1, .int .i64 b2, .int .i64 b3, .int .i64 b4, .int .i64 b5], .int .i64 (n : Int)] w fun e w' => e = .returned (.tuple #[.agg #[.int .i64 c1, .int .i64 c2], .bool true]) ∧ Below w.heap.size w w' := by
  have hn0 : ¬ (n : Int) < 0 := by omega
  have hn6 : ¬ (6 : Int) < n := by omega
  go_enter Try.func166, Try.ntmps166
  go_wp2_with fail
  generalize hW : (World.alloc _ _ : World) = W0
  have q0 : W0.heap[(w.heap.size : Nat)]? = some (Obj.cells #[.int .i64 (a : Int), .int .i64 (b : Int)] 165 (0, 0)) := by
    rw [← hW]
    repeat (first | (refine alloc_at ?_; first | (simp; done) | (simp; omega)) | refine drew_row ?_ | refine alloc_past ?_ | assumption)
  have q1 : W0.heap[(w.heap.size + 1 : Nat)]? = some (Obj.cells #[.int .i64 b0, .int .i64 b1, .int .i64 b2, .int .i64 b3, .int .i64 b4, .int .i64 b5] 28 (0, 0)) := by
    rw [← hW]
    repeat (first | (refine alloc_at ?_; first | (simp; done) | (simp; omega)) | refine drew_row ?_ | refine alloc_past ?_ | assumption)
  have hq : W0.heap[(w.heap.size + 2 : Nat)]? = some (Obj.cells #[.int .i64 0, .int .i64 0] 25 (0, 0)) := by
    rw [← hW]
    repeat (first | (refine alloc_at ?_; first | (simp; done) | (simp; omega)) | refine drew_row ?_ | refine alloc_past ?_ | assumption)
  have hk : KR 2 [(w.heap.size, Obj.cells #[.int .i64 (a : Int), .int .i64 (b : Int)] 165 (0, 0)), (w.heap.size + 1, Obj.cells #[.int .i64 b0, .int .i64 b1, .int .i64 b2, .int .i64 b3, .int .i64 b4, .int .i64 b5] 28 (0, 0))] w W0 := ⟨by simp [q0, q1], by rw [← hW]; simp, by rw [← hW]; (repeat (first | exact Below.refl _ _ | assumption | refine Below.setCell ?_ (by first | (simp; done) | (simp; omega)) _ | refine Below.alloc ?_ (by first | (simp; done) | (simp; omega)) _ | refine Below.drew ?_))⟩
  clear hW q0 q1
  have r0_c := fun j => cell_of_row W0 _ j _ _ _ (hk.row (g := w.heap.size) (List.mem_cons_self ..))
  have r1_c := fun j => cell_of_row W0 _ j _ _ _ (hk.row (g := w.heap.size + 1) (List.mem_cons_of_mem _ (List.mem_cons_self ..)))
  have z_c := fun j => cell_of_row W0 _ j _ _ _ hq
  have z_f := fun j => frozen_of_row W0 _ j _ _ hq
  go_wp2_with fail
  refine (HB.out _).mono ?_
  rintro e W1 ⟨rfl, hb⟩
  clear r0_c r1_c z_c z_f
  have hk := hk.far hb rfl
  have hq := rowk hq hb rfl
  clear hb
  have r0_c := fun j => cell_of_row W1 _ j _ _ _ (hk.row (g := w.heap.size) (List.mem_cons_self ..))
  have r1_c := fun j => cell_of_row W1 _ j _ _ _ (hk.row (g := w.heap.size + 1) (List.mem_cons_of_mem _ (List.mem_cons_self ..)))
  have z_c := fun j => cell_of_row W1 _ j _ _ _ hq
  have z_f := fun j => frozen_of_row W1 _ j _ _ hq
  go_wp2_with fail
  refine (HF.out _).mono ?_
  rintro e W2 ⟨rfl, hb⟩
  clear r0_c r1_c z_c z_f
  have hk := hk.far hb rfl
  have hq := rowk hq hb rfl
  clear hb
  have r0_c := fun j => cell_of_row W2 _ j _ _ _ (hk.row (g := w.heap.size) (List.mem_cons_self ..))
  have r1_c := fun j => cell_of_row W2 _ j _ _ _ (hk.row (g := w.heap.size + 1) (List.mem_cons_of_mem _ (List.mem_cons_self ..)))
  have z_c := fun j => cell_of_row W2 _ j _ _ _ hq
  have z_f := fun j => frozen_of_row W2 _ j _ _ hq
  go_wp2_with fail
  refine (HS.out _).mono ?_
  rintro e W3 ⟨rfl, hb⟩
  clear r0_c r1_c z_c z_f
  have hk := hk.far hb rfl
  have hq := rowk hq hb rfl
  clear hb
  have r0_c := fun j => cell_of_row W3 _ j _ _ _ (hk.row (g := w.heap.size) (List.mem_cons_self ..))
  have r1_c := fun j => cell_of_row W3 _ j _ _ _ (hk.row (g := w.heap.size + 1) (List.mem_cons_of_mem _ (List.mem_cons_self ..)))
  have z_c := fun j => cell_of_row W3 _ j _ _ _ hq
  have z_f := fun j => frozen_of_row W3 _ j _ _ hq
  go_wp2_with fail
  clear r0_c r1_c z_c z_f
  have HS0 : Hid (KR 3 [(w.heap.size, Obj.cells #[.int .i64 ((((tn9 k h (a, b) (0)).1 : Nat) : Int)), .int .i64 ((((tn9 k h (a, b) (0)).2 : Nat) : Int))] 165 (0, 0)), (w.heap.size + 1, Obj.cells #[.int .i64 b0, .int .i64 b1, .int .i64 b2, .int .i64 b3, .int .i64 b4, .int .i64 b5] 28 (0, 0)), (w.heap.size + 2, Obj.cells #[.int .i64 0, .int .i64 0] 25 (0, 0))] w W3) := Lib.hid ⟨fun p hp => by
    simp only [List.mem_cons, List.mem_nil_iff, or_false] at hp
    rcases hp with rfl | rfl | rfl
    · exact ⟨by simp, hk.row (List.mem_cons_self ..)⟩
    · exact ⟨by simp, hk.row (List.mem_cons_of_mem _ (List.mem_cons_self ..))⟩
    · exact ⟨by simp, hq⟩, by have := row_lt hq; omega, hk.2.2⟩
  clear hk hq HB HF HS
  go_loopw [27] (fun i wr => ∃ m : Nat, m ≤ n ∧ i = .int .i64 m ∧ Hid (KR 3 [(w.heap.size, Obj.cells #[.int .i64 ((((tn9 k h (a, b) (m)).1 : Nat) : Int)), .int .i64 ((((tn9 k h (a, b) (m)).2 : Nat) : Int))] 165 (0, 0)), (w.heap.size + 1, Obj.cells #[.int .i64 b0, .int .i64 b1, .int .i64 b2, .int .i64 b3, .int .i64 b4, .int .i64 b5] 28 (0, 0)), (w.heap.size + 2, Obj.cells #[.int .i64 0, .int .i64 0] 25 (0, 0))] w wr)) (fun i _ => n - (intOf i).toNat)
  case atStart => exact ⟨0, by omega, rfl, HS0⟩
  case round =>
    obtain ⟨m, hm, rfl, HW⟩ := hrel
    clear HS0
    by_cases hlt : m < n
    · have hlt' : (m : Int) < n := by omega
      have HPm := Lib.hid (HP.out m hlt)
      have hk := HW.out
      clear HW HX HL
      obtain ⟨x1, hx1⟩ : ∃ z : Int, z = (((tn9 k h (a, b) (m)).1 : Nat) : Int) := ⟨_, rfl⟩
      obtain ⟨y1, hy1⟩ : ∃ z : Int, z = (((tn9 k h (a, b) (m)).2 : Nat) : Int) := ⟨_, rfl⟩
      obtain ⟨x2, hx2⟩ : ∃ z : Int, z = (((tn9 k h (a, b) (m + 1)).1 : Nat) : Int) := ⟨_, rfl⟩
      obtain ⟨y2, hy2⟩ : ∃ z : Int, z = (((tn9 k h (a, b) (m + 1)).2 : Nat) : Int) := ⟨_, rfl⟩
      rw [← hx1, ← hy1, ← hx2, ← hy2] at HPm
      rw [← hx1, ← hy1] at hk
      have HX2 := Lib.hid hx2
      have HY2 := Lib.hid hy2
      clear hx1 hy1 hx2 hy2
      have a_c := fun j => cell_of_row wr _ j _ _ _ (hk.row (g := w.heap.size) (List.mem_cons_self ..))
      go_wp2_with fail
      refine (HPm.out _).mono ?_
      rintro e w1 ⟨rfl, hb⟩
      have hk1 := hk.far hb rfl
      clear hb hk a_c
      have a_c := fun j => cell_of_row w1 _ j _ _ _ (hk1.row (g := w.heap.size) (List.mem_cons_self ..))
      have a_f := fun j => frozen_of_row w1 _ j _ _ (hk1.row (g := w.heap.size) (List.mem_cons_self ..))
      go_wp2_with fail
      go_roundw
      case rel => exact ⟨m + 1, by omega, by go_num, Lib.hid (by rw [← HX2.out, ← HY2.out]; exact hk1.two (by simp) (Nat.le_refl _))⟩
      case measure => simp [intOf]; omega
    · obtain rfl : m = n := by omega
      have hk3 := HW.out
      clear HW HP
      obtain ⟨x1, hx1⟩ : ∃ z : Int, z = (((tn9 k h (a, b) (m)).1 : Nat) : Int) := ⟨_, rfl⟩
      obtain ⟨y1, hy1⟩ : ∃ z : Int, z = (((tn9 k h (a, b) (m)).2 : Nat) : Int) := ⟨_, rfl⟩
      rw [← hy1] at HX
      rw [← hx1, ← hy1] at hk3
      clear hx1 hy1
      have hq : wr.heap[w.heap.size + 2]? = some (Obj.cells #[.int .i64 0, .int .i64 0] 25 (0, 0)) := hk3.row (List.mem_cons_of_mem _ (List.mem_cons_of_mem _ (List.mem_cons_self ..)))
      have hk : KR 2 [(w.heap.size, Obj.cells #[.int .i64 (x1), .int .i64 (y1)] 165 (0, 0)), (w.heap.size + 1, Obj.cells #[.int .i64 b0, .int .i64 b1, .int .i64 b2, .int .i64 b3, .int .i64 b4, .int .i64 b5] 28 (0, 0))] w wr := hk3.sub (by
        intro p hp
        simp only [List.mem_cons, List.mem_nil_iff, or_false] at hp
        rcases hp with rfl | rfl
        · exact ⟨List.mem_cons_self .., by simp⟩
        · exact ⟨List.mem_cons_of_mem _ (List.mem_cons_self ..), by simp⟩) (by omega)
      clear hk3
      have hz0 := KR.le hk
      go_wp2_with fail
      set_option maxRecDepth 8000 in
      go_region_held3 (fun U => U.cell? ⟨w.heap.size, 0, none⟩ = some (.int .i64 x1) ∧ U.cell? ⟨w.heap.size, 1, none⟩ = some (.int .i64 y1) ∧ U.cell? ⟨w.heap.size + 1, 0, none⟩ = some (.int .i64 b0) ∧ U.cell? ⟨w.heap.size + 1, 1, none⟩ = some (.int .i64 b1) ∧ U.cell? ⟨w.heap.size + 1, 2, none⟩ = some (.int .i64 b2) ∧ U.cell? ⟨w.heap.size + 1, 3, none⟩ = some (.int .i64 b3) ∧ U.cell? ⟨w.heap.size + 1, 4, none⟩ = some (.int .i64 b4) ∧ U.cell? ⟨w.heap.size + 1, 5, none⟩ = some (.int .i64 b5) ∧ KR 2 [(w.heap.size, Obj.cells #[.int .i64 (x1), .int .i64 (y1)] 165 (0, 0)), (w.heap.size + 1, Obj.cells #[.int .i64 b0, .int .i64 b1, .int .i64 b2, .int .i64 b3, .int .i64 b4, .int .i64 b5] 28 (0, 0))] w U) (with_reducible refine ST2 ?_; (repeat (first | with_reducible assumption | with_reducible refine KR.al ?_ | with_reducible refine KR.drew ?_ | with_reducible refine KR.set ?_ (by first | omega | (simp; omega))))) (first | (go_at_call 113; with_reducible refine (HL.out _).mono ?_; rintro e w' ⟨rfl, hb'⟩; have hk : KR 2 [(w.heap.size, Obj.cells #[.int .i64 (x1), .int .i64 (y1)] 165 (0, 0)), (w.heap.size + 1, Obj.cells #[.int .i64 b0, .int .i64 b1, .int .i64 b2, .int .i64 b3, .int .i64 b4, .int .i64 b5] 28 (0, 0))] w w' := KR.far (by (repeat (first | with_reducible assumption | with_reducible refine KR.al ?_ | with_reducible refine KR.drew ?_ | with_reducible refine KR.set ?_ (by first | omega | (simp; omega))))) hb' rfl; have hz0 := KR.le hk; have hq : w'.heap[w.heap.size + 2]? = some (Obj.cells #[.int .i64 0, .int .i64 0] 25 (0, 0)) := rowk (by first | with_reducible assumption | (with_reducible refine drew_row ?_; with_reducible assumption)) hb' rfl; have z_c := fun j => cell_of_row w' _ j _ _ _ hq; have z_f := fun j => frozen_of_row w' _ j _ _ hq) | (go_at_call 101; with_reducible refine (HX.out _).mono ?_; rintro e w' ⟨rfl, hb'⟩; have hk : KR 2 [(w.heap.size, Obj.cells #[.int .i64 (x1), .int .i64 (y1)] 165 (0, 0)), (w.heap.size + 1, Obj.cells #[.int .i64 b0, .int .i64 b1, .int .i64 b2, .int .i64 b3, .int .i64 b4, .int .i64 b5] 28 (0, 0))] w w' := KR.far (by (repeat (first | with_reducible assumption | with_reducible refine KR.al ?_ | with_reducible refine KR.drew ?_ | with_reducible refine KR.set ?_ (by first | omega | (simp; omega))))) hb' rfl; have hz0 := KR.le hk; have hq : w'.heap[w.heap.size + 2]? = some (Obj.cells #[.int .i64 0, .int .i64 0] 25 (0, 0)) := rowk (by first | with_reducible assumption | (with_reducible refine drew_row ?_; with_reducible assumption)) hb' rfl; have z_c := fun j => cell_of_row w' _ j _ _ _ hq; have z_f := fun j => frozen_of_row w' _ j _ _ hq))
      all_goals
        go_wp2_with fail
        have hB := hk.2.2
        refine bodyPost_ret (v := .tuple #[.agg #[.int .i64 c1, .int .i64 c2], .bool true]) (by simp [results, Try.results166, go_sem, z_c]) rfl ⟨rfl, ?_⟩
        exact (hB.setCell (by first | (simp; done) | (simp; omega)) _).setCell (by first | (simp; done) | (simp; omega)) _
set_option maxHeartbeats 2000000 in
theorem ms_n (a0 a1 a2 a3 a4 a5 : Int) (b0 b1 b2 b3 b4 b5 : Int) (K n : Int) (HZ : Hid (∀ w, Calls Try.prog 56 #[.agg #[.int .i64 a0, .int .i64 a1, .int .i64 a2, .int .i64 a3, .int .i64 a4, .int .i64 a5]] w fun e w' => e = .returned (.tuple #[.int .i64 0, .bool false]) ∧ Below w.heap.size w w')) (w : World) : Calls Try.prog 97 #[.int .i64 K, .agg #[.int .i64 a0, .int .i64 a1, .int .i64 a2, .int .i64 a3, .int .i64 a4, .int .i64 a5], .agg #[.int .i64 b0, .int .i64 b1, .int .i64 b2, .int .i64 b3, .int .i64 b4, .int .i64 b5], .int .i64 n] w fun e w' => e = .returned (.tuple #[.agg #[.int .i64 0, .int .i64 0], .bool false]) ∧ Below w.heap.size w w' := by
  go_enter Try.func97, Try.ntmps97
  go_wp2_with fail
  generalize hW : (World.alloc _ _ : World) = W0
  have q0 : W0.heap[(w.heap.size : Nat)]? = some (Obj.cells #[.int .i64 a0, .int .i64 a1, .int .i64 a2, .int .i64 a3, .int .i64 a4, .int .i64 a5] 28 (0, 0)) := by
    rw [← hW]
    repeat (first | (refine alloc_at ?_; first | (simp; done) | (simp; omega)) | refine drew_row ?_ | refine alloc_past ?_ | assumption)
  have q1 : W0.heap[(w.heap.size + 1 : Nat)]? = some (Obj.cells #[.int .i64 b0, .int .i64 b1, .int .i64 b2, .int .i64 b3, .int .i64 b4, .int .i64 b5] 28 (0, 0)) := by
    rw [← hW]
    repeat (first | (refine alloc_at ?_; first | (simp; done) | (simp; omega)) | refine drew_row ?_ | refine alloc_past ?_ | assumption)
  have hq : W0.heap[(w.heap.size + 2 : Nat)]? = some (Obj.cells #[.int .i64 0, .int .i64 0] 25 (0, 0)) := by
    rw [← hW]
    repeat (first | (refine alloc_at ?_; first | (simp; done) | (simp; omega)) | refine drew_row ?_ | refine alloc_past ?_ | assumption)
  have hk : KR 2 [(w.heap.size, Obj.cells #[.int .i64 a0, .int .i64 a1, .int .i64 a2, .int .i64 a3, .int .i64 a4, .int .i64 a5] 28 (0, 0)), (w.heap.size + 1, Obj.cells #[.int .i64 b0, .int .i64 b1, .int .i64 b2, .int .i64 b3, .int .i64 b4, .int .i64 b5] 28 (0, 0))] w W0 := ⟨by simp [q0, q1], by rw [← hW]; simp, by rw [← hW]; (repeat (first | exact Below.refl _ _ | assumption | refine Below.setCell ?_ (by first | (simp; done) | (simp; omega)) _ | refine Below.alloc ?_ (by first | (simp; done) | (simp; omega)) _ | refine Below.drew ?_))⟩
  clear hW q0 q1
  have r0_c := fun j => cell_of_row W0 _ j _ _ _ (hk.row (g := w.heap.size) (List.mem_cons_self ..))
  have r1_c := fun j => cell_of_row W0 _ j _ _ _ (hk.row (g := w.heap.size + 1) (List.mem_cons_of_mem _ (List.mem_cons_self ..)))
  have z_c := fun j => cell_of_row W0 _ j _ _ _ hq
  have z_f := fun j => frozen_of_row W0 _ j _ _ hq
  go_wp2_with fail
  refine (HZ.out _).mono ?_
  rintro e W1 ⟨rfl, hb⟩
  clear r0_c r1_c z_c z_f
  have hk := hk.far hb rfl
  have hq := rowk hq hb rfl
  clear hb
  have r0_c := fun j => cell_of_row W1 _ j _ _ _ (hk.row (g := w.heap.size) (List.mem_cons_self ..))
  have r1_c := fun j => cell_of_row W1 _ j _ _ _ (hk.row (g := w.heap.size + 1) (List.mem_cons_of_mem _ (List.mem_cons_self ..)))
  have z_c := fun j => cell_of_row W1 _ j _ _ _ hq
  have z_f := fun j => frozen_of_row W1 _ j _ _ hq
  go_wp2_with fail
  have hB := hk.2.2
  refine bodyPost_ret (v := .tuple #[.agg #[.int .i64 0, .int .i64 0], .bool false]) (by simp [results, Try.results97, go_sem, z_c]) rfl ⟨rfl, ?_⟩
  exact (hB.setCell (by first | (simp; done) | (simp; omega)) _).setCell (by first | (simp; done) | (simp; omega)) _
set_option maxHeartbeats 2000000 in
theorem ms_y (a0 a1 a2 a3 a4 a5 : Int) (b0 b1 b2 b3 b4 b5 : Int) (K n : Int) (sz wh c1 c2 : Int) (t : Bool) (hw : wrap64 (36 - sz) = wh) (hwi : IntKind.i64.wrap (36 - sz) = wh)(HZ : Hid (∀ w, Calls Try.prog 56 #[.agg #[.int .i64 a0, .int .i64 a1, .int .i64 a2, .int .i64 a3, .int .i64 a4, .int .i64 a5]] w fun e w' => e = .returned (.tuple #[.int .i64 sz, .bool true]) ∧ Below w.heap.size w w'))(HM : Hid (∀ w, Calls Try.prog 166 #[.int .i64 K, .agg #[.int .i64 wh, .int .i64 sz], .agg #[.int .i64 b0, .int .i64 b1, .int .i64 b2, .int .i64 b3, .int .i64 b4, .int .i64 b5], .int .i64 n] w fun e w' => e = .returned (.tuple #[.agg #[.int .i64 c1, .int .i64 c2], .bool t]) ∧ Below w.heap.size w w')) (w : World) : Calls Try.prog 97 #[.int .i64 K, .agg #[.int .i64 a0, .int .i64 a1, .int .i64 a2, .int .i64 a3, .int .i64 a4, .int .i64 a5], .agg #[.int .i64 b0, .int .i64 b1, .int .i64 b2, .int .i64 b3, .int .i64 b4, .int .i64 b5], .int .i64 n] w fun e w' => e = .returned (.tuple #[.agg #[.int .i64 c1, .int .i64 c2], .bool t]) ∧ Below w.heap.size w w' := by
  go_enter Try.func97, Try.ntmps97
  go_wp2_with fail
  generalize hW : (World.alloc _ _ : World) = W0
  have q0 : W0.heap[(w.heap.size : Nat)]? = some (Obj.cells #[.int .i64 a0, .int .i64 a1, .int .i64 a2, .int .i64 a3, .int .i64 a4, .int .i64 a5] 28 (0, 0)) := by
    rw [← hW]
    repeat (first | (refine alloc_at ?_; first | (simp; done) | (simp; omega)) | refine drew_row ?_ | refine alloc_past ?_ | assumption)
  have q1 : W0.heap[(w.heap.size + 1 : Nat)]? = some (Obj.cells #[.int .i64 b0, .int .i64 b1, .int .i64 b2, .int .i64 b3, .int .i64 b4, .int .i64 b5] 28 (0, 0)) := by
    rw [← hW]
    repeat (first | (refine alloc_at ?_; first | (simp; done) | (simp; omega)) | refine drew_row ?_ | refine alloc_past ?_ | assumption)
  have hq : W0.heap[(w.heap.size + 2 : Nat)]? = some (Obj.cells #[.int .i64 0, .int .i64 0] 25 (0, 0)) := by
    rw [← hW]
    repeat (first | (refine alloc_at ?_; first | (simp; done) | (simp; omega)) | refine drew_row ?_ | refine alloc_past ?_ | assumption)
  have hk : KR 2 [(w.heap.size, Obj.cells #[.int .i64 a0, .int .i64 a1, .int .i64 a2, .int .i64 a3, .int .i64 a4, .int .i64 a5] 28 (0, 0)), (w.heap.size + 1, Obj.cells #[.int .i64 b0, .int .i64 b1, .int .i64 b2, .int .i64 b3, .int .i64 b4, .int .i64 b5] 28 (0, 0))] w W0 := ⟨by simp [q0, q1], by rw [← hW]; simp, by rw [← hW]; (repeat (first | exact Below.refl _ _ | assumption | refine Below.setCell ?_ (by first | (simp; done) | (simp; omega)) _ | refine Below.alloc ?_ (by first | (simp; done) | (simp; omega)) _ | refine Below.drew ?_))⟩
  clear hW q0 q1
  have r0_c := fun j => cell_of_row W0 _ j _ _ _ (hk.row (g := w.heap.size) (List.mem_cons_self ..))
  have r1_c := fun j => cell_of_row W0 _ j _ _ _ (hk.row (g := w.heap.size + 1) (List.mem_cons_of_mem _ (List.mem_cons_self ..)))
  have z_c := fun j => cell_of_row W0 _ j _ _ _ hq
  have z_f := fun j => frozen_of_row W0 _ j _ _ hq
  go_wp2_with fail
  refine (HZ.out _).mono ?_
  rintro e W1 ⟨rfl, hb⟩
  clear r0_c r1_c z_c z_f
  have hk := hk.far hb rfl
  have hq := rowk hq hb rfl
  clear hb
  have r0_c := fun j => cell_of_row W1 _ j _ _ _ (hk.row (g := w.heap.size) (List.mem_cons_self ..))
  have r1_c := fun j => cell_of_row W1 _ j _ _ _ (hk.row (g := w.heap.size + 1) (List.mem_cons_of_mem _ (List.mem_cons_self ..)))
  have z_c := fun j => cell_of_row W1 _ j _ _ _ hq
  have z_f := fun j => frozen_of_row W1 _ j _ _ hq
  go_wp2_with fail
  refine (HM.out _).mono ?_
  rintro e W2 ⟨rfl, hb⟩
  clear r0_c r1_c z_c z_f
  have hk := hk.far hb rfl
  have hq := rowk hq hb rfl
  clear hb
  have r0_c := fun j => cell_of_row W2 _ j _ _ _ (hk.row (g := w.heap.size) (List.mem_cons_self ..))
  have r1_c := fun j => cell_of_row W2 _ j _ _ _ (hk.row (g := w.heap.size + 1) (List.mem_cons_of_mem _ (List.mem_cons_self ..)))
  have z_c := fun j => cell_of_row W2 _ j _ _ _ hq
  have z_f := fun j => frozen_of_row W2 _ j _ _ hq
  go_wp2_with fail
  have hB := hk.2.2
  refine bodyPost_ret (v := .tuple #[.agg #[.int .i64 c1, .int .i64 c2], .bool t]) (by simp [results, Try.results97, go_sem, z_c]) rfl ⟨rfl, ?_⟩
  exact (hB.setCell (by first | (simp; done) | (simp; omega)) _).setCell (by first | (simp; done) | (simp; omega)) _
set_option maxHeartbeats 2000000 in
theorem cb_n (a0 a1 a2 a3 a4 a5 : Int) (b0 b1 b2 b3 b4 b5 : Int) (K x y n : Int) (HZ : Hid (∀ w, Calls Try.prog 59 #[.agg #[.int .i64 a0, .int .i64 a1, .int .i64 a2, .int .i64 a3, .int .i64 a4, .int .i64 a5], .agg #[.int .i64 x, .int .i64 y]] w fun e w' => e = .returned (.tuple #[.bool false, .bool false]) ∧ Below w.heap.size w w')) (w : World) : Calls Try.prog 96 #[.int .i64 K, .agg #[.int .i64 a0, .int .i64 a1, .int .i64 a2, .int .i64 a3, .int .i64 a4, .int .i64 a5], .agg #[.int .i64 b0, .int .i64 b1, .int .i64 b2, .int .i64 b3, .int .i64 b4, .int .i64 b5], .agg #[.int .i64 x, .int .i64 y], .int .i64 n] w fun e w' => e = .returned (.tuple #[.agg #[.int .i64 0, .int .i64 0], .bool false]) ∧ Below w.heap.size w w' := by
  go_enter Try.func96, Try.ntmps96
  go_wp2_with fail
  generalize hW : (World.alloc _ _ : World) = W0
  have q0 : W0.heap[(w.heap.size : Nat)]? = some (Obj.cells #[.int .i64 a0, .int .i64 a1, .int .i64 a2, .int .i64 a3, .int .i64 a4, .int .i64 a5] 28 (0, 0)) := by
    rw [← hW]
    repeat (first | (refine alloc_at ?_; first | (simp; done) | (simp; omega)) | refine drew_row ?_ | refine alloc_past ?_ | assumption)
  have q1 : W0.heap[(w.heap.size + 1 : Nat)]? = some (Obj.cells #[.int .i64 b0, .int .i64 b1, .int .i64 b2, .int .i64 b3, .int .i64 b4, .int .i64 b5] 28 (0, 0)) := by
    rw [← hW]
    repeat (first | (refine alloc_at ?_; first | (simp; done) | (simp; omega)) | refine drew_row ?_ | refine alloc_past ?_ | assumption)
  have q2 : W0.heap[(w.heap.size + 2 : Nat)]? = some (Obj.cells #[.int .i64 x, .int .i64 y] 25 (0, 0)) := by
    rw [← hW]
    repeat (first | (refine alloc_at ?_; first | (simp; done) | (simp; omega)) | refine drew_row ?_ | refine alloc_past ?_ | assumption)
  have hq : W0.heap[(w.heap.size + 3 : Nat)]? = some (Obj.cells #[.int .i64 0, .int .i64 0] 25 (0, 0)) := by
    rw [← hW]
    repeat (first | (refine alloc_at ?_; first | (simp; done) | (simp; omega)) | refine drew_row ?_ | refine alloc_past ?_ | assumption)
  have hk : KR 3 [(w.heap.size, Obj.cells #[.int .i64 a0, .int .i64 a1, .int .i64 a2, .int .i64 a3, .int .i64 a4, .int .i64 a5] 28 (0, 0)), (w.heap.size + 1, Obj.cells #[.int .i64 b0, .int .i64 b1, .int .i64 b2, .int .i64 b3, .int .i64 b4, .int .i64 b5] 28 (0, 0)), (w.heap.size + 2, Obj.cells #[.int .i64 x, .int .i64 y] 25 (0, 0))] w W0 := ⟨by simp [q0, q1, q2], by rw [← hW]; simp, by rw [← hW]; (repeat (first | exact Below.refl _ _ | assumption | refine Below.setCell ?_ (by first | (simp; done) | (simp; omega)) _ | refine Below.alloc ?_ (by first | (simp; done) | (simp; omega)) _ | refine Below.drew ?_))⟩
  clear hW q0 q1 q2
  have r0_c := fun j => cell_of_row W0 _ j _ _ _ (hk.row (g := w.heap.size) (List.mem_cons_self ..))
  have r1_c := fun j => cell_of_row W0 _ j _ _ _ (hk.row (g := w.heap.size + 1) (List.mem_cons_of_mem _ (List.mem_cons_self ..)))
  have r2_c := fun j => cell_of_row W0 _ j _ _ _ (hk.row (g := w.heap.size + 2) (List.mem_cons_of_mem _ (List.mem_cons_of_mem _ (List.mem_cons_self ..))))
  have z_c := fun j => cell_of_row W0 _ j _ _ _ hq
  have z_f := fun j => frozen_of_row W0 _ j _ _ hq
  go_wp2_with fail
  refine (HZ.out _).mono ?_
  rintro e W1 ⟨rfl, hb⟩
  clear r0_c r1_c r2_c z_c z_f
  have hk := hk.far hb rfl
  have hq := rowk hq hb rfl
  clear hb
  have r0_c := fun j => cell_of_row W1 _ j _ _ _ (hk.row (g := w.heap.size) (List.mem_cons_self ..))
  have r1_c := fun j => cell_of_row W1 _ j _ _ _ (hk.row (g := w.heap.size + 1) (List.mem_cons_of_mem _ (List.mem_cons_self ..)))
  have r2_c := fun j => cell_of_row W1 _ j _ _ _ (hk.row (g := w.heap.size + 2) (List.mem_cons_of_mem _ (List.mem_cons_of_mem _ (List.mem_cons_self ..))))
  have z_c := fun j => cell_of_row W1 _ j _ _ _ hq
  have z_f := fun j => frozen_of_row W1 _ j _ _ hq
  go_wp2_with fail
  have hB := hk.2.2
  refine bodyPost_ret (v := .tuple #[.agg #[.int .i64 0, .int .i64 0], .bool false]) (by simp [results, Try.results96, go_sem, z_c]) rfl ⟨rfl, ?_⟩
  exact (hB.setCell (by first | (simp; done) | (simp; omega)) _).setCell (by first | (simp; done) | (simp; omega)) _
set_option maxHeartbeats 2000000 in
theorem cb_b (a0 a1 a2 a3 a4 a5 : Int) (b0 b1 b2 b3 b4 b5 : Int) (K x y n : Int) (c1 c2 : Int) (t : Bool) (HZ : Hid (∀ w, Calls Try.prog 59 #[.agg #[.int .i64 a0, .int .i64 a1, .int .i64 a2, .int .i64 a3, .int .i64 a4, .int .i64 a5], .agg #[.int .i64 x, .int .i64 y]] w fun e w' => e = .returned (.tuple #[.bool true, .bool true]) ∧ Below w.heap.size w w'))(HM : Hid (∀ w, Calls Try.prog 166 #[.int .i64 K, .agg #[.int .i64 0, .int .i64 1], .agg #[.int .i64 b0, .int .i64 b1, .int .i64 b2, .int .i64 b3, .int .i64 b4, .int .i64 b5], .int .i64 n] w fun e w' => e = .returned (.tuple #[.agg #[.int .i64 c1, .int .i64 c2], .bool t]) ∧ Below w.heap.size w w')) (w : World) : Calls Try.prog 96 #[.int .i64 K, .agg #[.int .i64 a0, .int .i64 a1, .int .i64 a2, .int .i64 a3, .int .i64 a4, .int .i64 a5], .agg #[.int .i64 b0, .int .i64 b1, .int .i64 b2, .int .i64 b3, .int .i64 b4, .int .i64 b5], .agg #[.int .i64 x, .int .i64 y], .int .i64 n] w fun e w' => e = .returned (.tuple #[.agg #[.int .i64 c1, .int .i64 c2], .bool t]) ∧ Below w.heap.size w w' := by
  go_enter Try.func96, Try.ntmps96
  go_wp2_with fail
  generalize hW : (World.alloc _ _ : World) = W0
  have q0 : W0.heap[(w.heap.size : Nat)]? = some (Obj.cells #[.int .i64 a0, .int .i64 a1, .int .i64 a2, .int .i64 a3, .int .i64 a4, .int .i64 a5] 28 (0, 0)) := by
    rw [← hW]
    repeat (first | (refine alloc_at ?_; first | (simp; done) | (simp; omega)) | refine drew_row ?_ | refine alloc_past ?_ | assumption)
  have q1 : W0.heap[(w.heap.size + 1 : Nat)]? = some (Obj.cells #[.int .i64 b0, .int .i64 b1, .int .i64 b2, .int .i64 b3, .int .i64 b4, .int .i64 b5] 28 (0, 0)) := by
    rw [← hW]
    repeat (first | (refine alloc_at ?_; first | (simp; done) | (simp; omega)) | refine drew_row ?_ | refine alloc_past ?_ | assumption)
  have q2 : W0.heap[(w.heap.size + 2 : Nat)]? = some (Obj.cells #[.int .i64 x, .int .i64 y] 25 (0, 0)) := by
    rw [← hW]
    repeat (first | (refine alloc_at ?_; first | (simp; done) | (simp; omega)) | refine drew_row ?_ | refine alloc_past ?_ | assumption)
  have hq : W0.heap[(w.heap.size + 3 : Nat)]? = some (Obj.cells #[.int .i64 0, .int .i64 0] 25 (0, 0)) := by
    rw [← hW]
    repeat (first | (refine alloc_at ?_; first | (simp; done) | (simp; omega)) | refine drew_row ?_ | refine alloc_past ?_ | assumption)
  have hk : KR 3 [(w.heap.size, Obj.cells #[.int .i64 a0, .int .i64 a1, .int .i64 a2, .int .i64 a3, .int .i64 a4, .int .i64 a5] 28 (0, 0)), (w.heap.size + 1, Obj.cells #[.int .i64 b0, .int .i64 b1, .int .i64 b2, .int .i64 b3, .int .i64 b4, .int .i64 b5] 28 (0, 0)), (w.heap.size + 2, Obj.cells #[.int .i64 x, .int .i64 y] 25 (0, 0))] w W0 := ⟨by simp [q0, q1, q2], by rw [← hW]; simp, by rw [← hW]; (repeat (first | exact Below.refl _ _ | assumption | refine Below.setCell ?_ (by first | (simp; done) | (simp; omega)) _ | refine Below.alloc ?_ (by first | (simp; done) | (simp; omega)) _ | refine Below.drew ?_))⟩
  clear hW q0 q1 q2
  have r0_c := fun j => cell_of_row W0 _ j _ _ _ (hk.row (g := w.heap.size) (List.mem_cons_self ..))
  have r1_c := fun j => cell_of_row W0 _ j _ _ _ (hk.row (g := w.heap.size + 1) (List.mem_cons_of_mem _ (List.mem_cons_self ..)))
  have r2_c := fun j => cell_of_row W0 _ j _ _ _ (hk.row (g := w.heap.size + 2) (List.mem_cons_of_mem _ (List.mem_cons_of_mem _ (List.mem_cons_self ..))))
  have z_c := fun j => cell_of_row W0 _ j _ _ _ hq
  have z_f := fun j => frozen_of_row W0 _ j _ _ hq
  go_wp2_with fail
  refine (HZ.out _).mono ?_
  rintro e W1 ⟨rfl, hb⟩
  clear r0_c r1_c r2_c z_c z_f
  have hk := hk.far hb rfl
  have hq := rowk hq hb rfl
  clear hb
  have hl := KR.le hk
  have hql := row_lt hq
  have r0_c := fun j => cell_of_row W1 _ j _ _ _ (hk.row (g := w.heap.size) (List.mem_cons_self ..))
  have r1_c := fun j => cell_of_row W1 _ j _ _ _ (hk.row (g := w.heap.size + 1) (List.mem_cons_of_mem _ (List.mem_cons_self ..)))
  have r2_c := fun j => cell_of_row W1 _ j _ _ _ (hk.row (g := w.heap.size + 2) (List.mem_cons_of_mem _ (List.mem_cons_of_mem _ (List.mem_cons_self ..))))
  have z_c := fun j => cell_of_row W1 _ j _ _ _ hq
  have z_f := fun j => frozen_of_row W1 _ j _ _ hq
  have s_c := fun j => cell_of_row (W1.alloc (.cells #[.int .i64 1, .int .i64 0] 165)) _ j _ _ _ (alloc_past (hk.row (g := w.heap.size + 1) (List.mem_cons_of_mem _ (List.mem_cons_self ..))))
  have l1 : w.heap.size + 1 < W1.heap.size := by omega
  have l2 : ¬ w.heap.size + 1 = W1.heap.size := by omega
  have l3 : ¬ W1.heap.size = w.heap.size + 1 := by omega
  go_wp2_with fail
  refine (HM.out _).mono ?_
  rintro e W2 ⟨rfl, hb⟩
  have hq2 : W2.heap[w.heap.size + 3]? = some (Obj.cells #[.int .i64 0, .int .i64 0] 25 (0, 0)) := rowk (alloc_past hq) hb rfl
  have hB := (hk.2.2.alloc hk.2.2.size (.cells #[.int .i64 0, .int .i64 1] 165)).trans (hb.mono (by simp; omega))
  clear r0_c r1_c r2_c z_c z_f
  clear hb s_c hk hq hql hl l1 l2 l3
  have z_c := fun j => cell_of_row W2 _ j _ _ _ hq2
  have z_f := fun j => frozen_of_row W2 _ j _ _ hq2
  go_wp2_with fail
  refine bodyPost_ret (v := .tuple #[.agg #[.int .i64 c1, .int .i64 c2], .bool t]) (by simp [results, Try.results96, go_sem, z_c]) rfl ⟨rfl, ?_⟩
  exact (hB.setCell (by first | (simp; done) | (simp; omega)) _).setCell (by first | (simp; done) | (simp; omega)) _
set_option maxHeartbeats 2000000 in
theorem cb_w (a0 a1 a2 a3 a4 a5 : Int) (b0 b1 b2 b3 b4 b5 : Int) (K x y n : Int) (c1 c2 : Int) (t : Bool) (HZ : Hid (∀ w, Calls Try.prog 59 #[.agg #[.int .i64 a0, .int .i64 a1, .int .i64 a2, .int .i64 a3, .int .i64 a4, .int .i64 a5], .agg #[.int .i64 x, .int .i64 y]] w fun e w' => e = .returned (.tuple #[.bool false, .bool true]) ∧ Below w.heap.size w w'))(HM : Hid (∀ w, Calls Try.prog 166 #[.int .i64 K, .agg #[.int .i64 1, .int .i64 0], .agg #[.int .i64 b0, .int .i64 b1, .int .i64 b2, .int .i64 b3, .int .i64 b4, .int .i64 b5], .int .i64 n] w fun e w' => e = .returned (.tuple #[.agg #[.int .i64 c1, .int .i64 c2], .bool t]) ∧ Below w.heap.size w w')) (w : World) : Calls Try.prog 96 #[.int .i64 K, .agg #[.int .i64 a0, .int .i64 a1, .int .i64 a2, .int .i64 a3, .int .i64 a4, .int .i64 a5], .agg #[.int .i64 b0, .int .i64 b1, .int .i64 b2, .int .i64 b3, .int .i64 b4, .int .i64 b5], .agg #[.int .i64 x, .int .i64 y], .int .i64 n] w fun e w' => e = .returned (.tuple #[.agg #[.int .i64 c1, .int .i64 c2], .bool t]) ∧ Below w.heap.size w w' := by
  go_enter Try.func96, Try.ntmps96
  go_wp2_with fail
  generalize hW : (World.alloc _ _ : World) = W0
  have q0 : W0.heap[(w.heap.size : Nat)]? = some (Obj.cells #[.int .i64 a0, .int .i64 a1, .int .i64 a2, .int .i64 a3, .int .i64 a4, .int .i64 a5] 28 (0, 0)) := by
    rw [← hW]
    repeat (first | (refine alloc_at ?_; first | (simp; done) | (simp; omega)) | refine drew_row ?_ | refine alloc_past ?_ | assumption)
  have q1 : W0.heap[(w.heap.size + 1 : Nat)]? = some (Obj.cells #[.int .i64 b0, .int .i64 b1, .int .i64 b2, .int .i64 b3, .int .i64 b4, .int .i64 b5] 28 (0, 0)) := by
    rw [← hW]
    repeat (first | (refine alloc_at ?_; first | (simp; done) | (simp; omega)) | refine drew_row ?_ | refine alloc_past ?_ | assumption)
  have q2 : W0.heap[(w.heap.size + 2 : Nat)]? = some (Obj.cells #[.int .i64 x, .int .i64 y] 25 (0, 0)) := by
    rw [← hW]
    repeat (first | (refine alloc_at ?_; first | (simp; done) | (simp; omega)) | refine drew_row ?_ | refine alloc_past ?_ | assumption)
  have hq : W0.heap[(w.heap.size + 3 : Nat)]? = some (Obj.cells #[.int .i64 0, .int .i64 0] 25 (0, 0)) := by
    rw [← hW]
    repeat (first | (refine alloc_at ?_; first | (simp; done) | (simp; omega)) | refine drew_row ?_ | refine alloc_past ?_ | assumption)
  have hk : KR 3 [(w.heap.size, Obj.cells #[.int .i64 a0, .int .i64 a1, .int .i64 a2, .int .i64 a3, .int .i64 a4, .int .i64 a5] 28 (0, 0)), (w.heap.size + 1, Obj.cells #[.int .i64 b0, .int .i64 b1, .int .i64 b2, .int .i64 b3, .int .i64 b4, .int .i64 b5] 28 (0, 0)), (w.heap.size + 2, Obj.cells #[.int .i64 x, .int .i64 y] 25 (0, 0))] w W0 := ⟨by simp [q0, q1, q2], by rw [← hW]; simp, by rw [← hW]; (repeat (first | exact Below.refl _ _ | assumption | refine Below.setCell ?_ (by first | (simp; done) | (simp; omega)) _ | refine Below.alloc ?_ (by first | (simp; done) | (simp; omega)) _ | refine Below.drew ?_))⟩
  clear hW q0 q1 q2
  have r0_c := fun j => cell_of_row W0 _ j _ _ _ (hk.row (g := w.heap.size) (List.mem_cons_self ..))
  have r1_c := fun j => cell_of_row W0 _ j _ _ _ (hk.row (g := w.heap.size + 1) (List.mem_cons_of_mem _ (List.mem_cons_self ..)))
  have r2_c := fun j => cell_of_row W0 _ j _ _ _ (hk.row (g := w.heap.size + 2) (List.mem_cons_of_mem _ (List.mem_cons_of_mem _ (List.mem_cons_self ..))))
  have z_c := fun j => cell_of_row W0 _ j _ _ _ hq
  have z_f := fun j => frozen_of_row W0 _ j _ _ hq
  go_wp2_with fail
  refine (HZ.out _).mono ?_
  rintro e W1 ⟨rfl, hb⟩
  clear r0_c r1_c r2_c z_c z_f
  have hk := hk.far hb rfl
  have hq := rowk hq hb rfl
  clear hb
  have hl := KR.le hk
  have hql := row_lt hq
  have r0_c := fun j => cell_of_row W1 _ j _ _ _ (hk.row (g := w.heap.size) (List.mem_cons_self ..))
  have r1_c := fun j => cell_of_row W1 _ j _ _ _ (hk.row (g := w.heap.size + 1) (List.mem_cons_of_mem _ (List.mem_cons_self ..)))
  have r2_c := fun j => cell_of_row W1 _ j _ _ _ (hk.row (g := w.heap.size + 2) (List.mem_cons_of_mem _ (List.mem_cons_of_mem _ (List.mem_cons_self ..))))
  have z_c := fun j => cell_of_row W1 _ j _ _ _ hq
  have z_f := fun j => frozen_of_row W1 _ j _ _ hq
  have s_c := fun j => cell_of_row (W1.alloc (.cells #[.int .i64 1, .int .i64 0] 165)) _ j _ _ _ (alloc_past (hk.row (g := w.heap.size + 1) (List.mem_cons_of_mem _ (List.mem_cons_self ..))))
  have l1 : w.heap.size + 1 < W1.heap.size := by omega
  have l2 : ¬ w.heap.size + 1 = W1.heap.size := by omega
  have l3 : ¬ W1.heap.size = w.heap.size + 1 := by omega
  go_wp2_with fail
  refine (HM.out _).mono ?_
  rintro e W2 ⟨rfl, hb⟩
  have hq2 : W2.heap[w.heap.size + 3]? = some (Obj.cells #[.int .i64 0, .int .i64 0] 25 (0, 0)) := rowk (alloc_past hq) hb rfl
  have hB := (hk.2.2.alloc hk.2.2.size (.cells #[.int .i64 1, .int .i64 0] 165)).trans (hb.mono (by simp; omega))
  clear r0_c r1_c r2_c z_c z_f
  clear hb s_c hk hq hql hl l1 l2 l3
  have z_c := fun j => cell_of_row W2 _ j _ _ _ hq2
  have z_f := fun j => frozen_of_row W2 _ j _ _ hq2
  go_wp2_with fail
  refine bodyPost_ret (v := .tuple #[.agg #[.int .i64 c1, .int .i64 c2], .bool t]) (by simp [results, Try.results96, go_sem, z_c]) rfl ⟨rfl, ?_⟩
  exact (hB.setCell (by first | (simp; done) | (simp; omega)) _).setCell (by first | (simp; done) | (simp; omega)) _
set_option maxHeartbeats 2000000 in
theorem ict_a (a0 a1 a2 a3 a4 a5 : Int) (b0 b1 b2 b3 b4 b5 : Int) (x y n : Int) (c1 c2 : Int) (t : Bool) (HM : Hid (∀ w, Calls Try.prog 96 #[.int .i64 0, .agg #[.int .i64 a0, .int .i64 a1, .int .i64 a2, .int .i64 a3, .int .i64 a4, .int .i64 a5], .agg #[.int .i64 b0, .int .i64 b1, .int .i64 b2, .int .i64 b3, .int .i64 b4, .int .i64 b5], .agg #[.int .i64 x, .int .i64 y], .int .i64 n] w fun e w' => e = .returned (.tuple #[.agg #[.int .i64 c1, .int .i64 c2], .bool t]) ∧ Below w.heap.size w w')) (w : World) : Calls Try.prog 26 #[.agg #[.int .i64 a0, .int .i64 a1, .int .i64 a2, .int .i64 a3, .int .i64 a4, .int .i64 a5], .agg #[.int .i64 b0, .int .i64 b1, .int .i64 b2, .int .i64 b3, .int .i64 b4, .int .i64 b5], .agg #[.int .i64 x, .int .i64 y], .int .i64 n] w fun e w' => e = .returned (.tuple #[.agg #[.int .i64 c1, .int .i64 c2], .bool t]) ∧ Below w.heap.size w w' := by
  go_enter Try.func26, Try.ntmps26
  go_wp2_with fail
  generalize hW : (World.alloc _ _ : World) = W0
  have q0 : W0.heap[(w.heap.size : Nat)]? = some (Obj.cells #[.int .i64 a0, .int .i64 a1, .int .i64 a2, .int .i64 a3, .int .i64 a4, .int .i64 a5] 28 (0, 0)) := by
    rw [← hW]
    repeat (first | (refine alloc_at ?_; first | (simp; done) | (simp; omega)) | refine drew_row ?_ | refine alloc_past ?_ | assumption)
  have q1 : W0.heap[(w.heap.size + 1 : Nat)]? = some (Obj.cells #[.int .i64 b0, .int .i64 b1, .int .i64 b2, .int .i64 b3, .int .i64 b4, .int .i64 b5] 28 (0, 0)) := by
    rw [← hW]
    repeat (first | (refine alloc_at ?_; first | (simp; done) | (simp; omega)) | refine drew_row ?_ | refine alloc_past ?_ | assumption)
  have q2 : W0.heap[(w.heap.size + 2 : Nat)]? = some (Obj.cells #[.int .i64 x, .int .i64 y] 25 (0, 0)) := by
    rw [← hW]
    repeat (first | (refine alloc_at ?_; first | (simp; done) | (simp; omega)) | refine drew_row ?_ | refine alloc_past ?_ | assumption)
  have hq : W0.heap[(w.heap.size + 3 : Nat)]? = some (Obj.cells #[.int .i64 0, .int .i64 0] 25 (0, 0)) := by
    rw [← hW]
    repeat (first | (refine alloc_at ?_; first | (simp; done) | (simp; omega)) | refine drew_row ?_ | refine alloc_past ?_ | assumption)
  have hk : KR 3 [(w.heap.size, Obj.cells #[.int .i64 a0, .int .i64 a1, .int .i64 a2, .int .i64 a3, .int .i64 a4, .int .i64 a5] 28 (0, 0)), (w.heap.size + 1, Obj.cells #[.int .i64 b0, .int .i64 b1, .int .i64 b2, .int .i64 b3, .int .i64 b4, .int .i64 b5] 28 (0, 0)), (w.heap.size + 2, Obj.cells #[.int .i64 x, .int .i64 y] 25 (0, 0))] w W0 := ⟨by simp [q0, q1, q2], by rw [← hW]; simp, by rw [← hW]; (repeat (first | exact Below.refl _ _ | assumption | refine Below.setCell ?_ (by first | (simp; done) | (simp; omega)) _ | refine Below.alloc ?_ (by first | (simp; done) | (simp; omega)) _ | refine Below.drew ?_))⟩
  clear hW q0 q1 q2
  have r0_c := fun j => cell_of_row W0 _ j _ _ _ (hk.row (g := w.heap.size) (List.mem_cons_self ..))
  have r1_c := fun j => cell_of_row W0 _ j _ _ _ (hk.row (g := w.heap.size + 1) (List.mem_cons_of_mem _ (List.mem_cons_self ..)))
  have r2_c := fun j => cell_of_row W0 _ j _ _ _ (hk.row (g := w.heap.size + 2) (List.mem_cons_of_mem _ (List.mem_cons_of_mem _ (List.mem_cons_self ..))))
  have z_c := fun j => cell_of_row W0 _ j _ _ _ hq
  have z_f := fun j => frozen_of_row W0 _ j _ _ hq
  go_wp2_with fail
  refine (HM.out _).mono ?_
  rintro e W1 ⟨rfl, hb⟩
  clear r0_c r1_c r2_c z_c z_f
  have hk := hk.far hb rfl
  have hq := rowk hq hb rfl
  clear hb
  have r0_c := fun j => cell_of_row W1 _ j _ _ _ (hk.row (g := w.heap.size) (List.mem_cons_self ..))
  have r1_c := fun j => cell_of_row W1 _ j _ _ _ (hk.row (g := w.heap.size + 1) (List.mem_cons_of_mem _ (List.mem_cons_self ..)))
  have r2_c := fun j => cell_of_row W1 _ j _ _ _ (hk.row (g := w.heap.size + 2) (List.mem_cons_of_mem _ (List.mem_cons_of_mem _ (List.mem_cons_self ..))))
  have z_c := fun j => cell_of_row W1 _ j _ _ _ hq
  have z_f := fun j => frozen_of_row W1 _ j _ _ hq
  go_wp2_with fail
  have hB := hk.2.2
  refine bodyPost_ret (v := .tuple #[.agg #[.int .i64 c1, .int .i64 c2], .bool t]) (by simp [results, Try.results26, go_sem, z_c]) rfl ⟨rfl, ?_⟩
  exact (hB.setCell (by first | (simp; done) | (simp; omega)) _).setCell (by first | (simp; done) | (simp; omega)) _
set_option maxHeartbeats 2000000 in
theorem ici_a (a0 a1 a2 a3 a4 a5 : Int) (b0 b1 b2 b3 b4 b5 : Int) (x y n : Int) (c1 c2 : Int) (t : Bool) (HM : Hid (∀ w, Calls Try.prog 96 #[.int .i64 1, .agg #[.int .i64 a0, .int .i64 a1, .int .i64 a2, .int .i64 a3, .int .i64 a4, .int .i64 a5], .agg #[.int .i64 b0, .int .i64 b1, .int .i64 b2, .int .i64 b3, .int .i64 b4, .int .i64 b5], .agg #[.int .i64 x, .int .i64 y], .int .i64 n] w fun e w' => e = .returned (.tuple #[.agg #[.int .i64 c1, .int .i64 c2], .bool t]) ∧ Below w.heap.size w w')) (w : World) : Calls Try.prog 31 #[.agg #[.int .i64 a0, .int .i64 a1, .int .i64 a2, .int .i64 a3, .int .i64 a4, .int .i64 a5], .agg #[.int .i64 b0, .int .i64 b1, .int .i64 b2, .int .i64 b3, .int .i64 b4, .int .i64 b5], .agg #[.int .i64 x, .int .i64 y], .int .i64 n] w fun e w' => e = .returned (.tuple #[.agg #[.int .i64 c1, .int .i64 c2], .bool t]) ∧ Below w.heap.size w w' := by
  go_enter Try.func31, Try.ntmps31
  go_wp2_with fail
  generalize hW : (World.alloc _ _ : World) = W0
  have q0 : W0.heap[(w.heap.size : Nat)]? = some (Obj.cells #[.int .i64 a0, .int .i64 a1, .int .i64 a2, .int .i64 a3, .int .i64 a4, .int .i64 a5] 28 (0, 0)) := by
    rw [← hW]
    repeat (first | (refine alloc_at ?_; first | (simp; done) | (simp; omega)) | refine drew_row ?_ | refine alloc_past ?_ | assumption)
  have q1 : W0.heap[(w.heap.size + 1 : Nat)]? = some (Obj.cells #[.int .i64 b0, .int .i64 b1, .int .i64 b2, .int .i64 b3, .int .i64 b4, .int .i64 b5] 28 (0, 0)) := by
    rw [← hW]
    repeat (first | (refine alloc_at ?_; first | (simp; done) | (simp; omega)) | refine drew_row ?_ | refine alloc_past ?_ | assumption)
  have q2 : W0.heap[(w.heap.size + 2 : Nat)]? = some (Obj.cells #[.int .i64 x, .int .i64 y] 25 (0, 0)) := by
    rw [← hW]
    repeat (first | (refine alloc_at ?_; first | (simp; done) | (simp; omega)) | refine drew_row ?_ | refine alloc_past ?_ | assumption)
  have hq : W0.heap[(w.heap.size + 3 : Nat)]? = some (Obj.cells #[.int .i64 0, .int .i64 0] 25 (0, 0)) := by
    rw [← hW]
    repeat (first | (refine alloc_at ?_; first | (simp; done) | (simp; omega)) | refine drew_row ?_ | refine alloc_past ?_ | assumption)
  have hk : KR 3 [(w.heap.size, Obj.cells #[.int .i64 a0, .int .i64 a1, .int .i64 a2, .int .i64 a3, .int .i64 a4, .int .i64 a5] 28 (0, 0)), (w.heap.size + 1, Obj.cells #[.int .i64 b0, .int .i64 b1, .int .i64 b2, .int .i64 b3, .int .i64 b4, .int .i64 b5] 28 (0, 0)), (w.heap.size + 2, Obj.cells #[.int .i64 x, .int .i64 y] 25 (0, 0))] w W0 := ⟨by simp [q0, q1, q2], by rw [← hW]; simp, by rw [← hW]; (repeat (first | exact Below.refl _ _ | assumption | refine Below.setCell ?_ (by first | (simp; done) | (simp; omega)) _ | refine Below.alloc ?_ (by first | (simp; done) | (simp; omega)) _ | refine Below.drew ?_))⟩
  clear hW q0 q1 q2
  have r0_c := fun j => cell_of_row W0 _ j _ _ _ (hk.row (g := w.heap.size) (List.mem_cons_self ..))
  have r1_c := fun j => cell_of_row W0 _ j _ _ _ (hk.row (g := w.heap.size + 1) (List.mem_cons_of_mem _ (List.mem_cons_self ..)))
  have r2_c := fun j => cell_of_row W0 _ j _ _ _ (hk.row (g := w.heap.size + 2) (List.mem_cons_of_mem _ (List.mem_cons_of_mem _ (List.mem_cons_self ..))))
  have z_c := fun j => cell_of_row W0 _ j _ _ _ hq
  have z_f := fun j => frozen_of_row W0 _ j _ _ hq
  go_wp2_with fail
  refine (HM.out _).mono ?_
  rintro e W1 ⟨rfl, hb⟩
  clear r0_c r1_c r2_c z_c z_f
  have hk := hk.far hb rfl
  have hq := rowk hq hb rfl
  clear hb
  have r0_c := fun j => cell_of_row W1 _ j _ _ _ (hk.row (g := w.heap.size) (List.mem_cons_self ..))
  have r1_c := fun j => cell_of_row W1 _ j _ _ _ (hk.row (g := w.heap.size + 1) (List.mem_cons_of_mem _ (List.mem_cons_self ..)))
  have r2_c := fun j => cell_of_row W1 _ j _ _ _ (hk.row (g := w.heap.size + 2) (List.mem_cons_of_mem _ (List.mem_cons_of_mem _ (List.mem_cons_self ..))))
  have z_c := fun j => cell_of_row W1 _ j _ _ _ hq
  have z_f := fun j => frozen_of_row W1 _ j _ _ hq
  go_wp2_with fail
  have hB := hk.2.2
  refine bodyPost_ret (v := .tuple #[.agg #[.int .i64 c1, .int .i64 c2], .bool t]) (by simp [results, Try.results31, go_sem, z_c]) rfl ⟨rfl, ?_⟩
  exact (hB.setCell (by first | (simp; done) | (simp; omega)) _).setCell (by first | (simp; done) | (simp; omega)) _
set_option maxHeartbeats 2000000 in
theorem imt_a (a0 a1 a2 a3 a4 a5 : Int) (b0 b1 b2 b3 b4 b5 : Int) (n : Int) (c1 c2 : Int) (t : Bool) (HM : Hid (∀ w, Calls Try.prog 97 #[.int .i64 0, .agg #[.int .i64 a0, .int .i64 a1, .int .i64 a2, .int .i64 a3, .int .i64 a4, .int .i64 a5], .agg #[.int .i64 b0, .int .i64 b1, .int .i64 b2, .int .i64 b3, .int .i64 b4, .int .i64 b5], .int .i64 n] w fun e w' => e = .returned (.tuple #[.agg #[.int .i64 c1, .int .i64 c2], .bool t]) ∧ Below w.heap.size w w')) (w : World) : Calls Try.prog 29 #[.agg #[.int .i64 a0, .int .i64 a1, .int .i64 a2, .int .i64 a3, .int .i64 a4, .int .i64 a5], .agg #[.int .i64 b0, .int .i64 b1, .int .i64 b2, .int .i64 b3, .int .i64 b4, .int .i64 b5], .int .i64 n] w fun e w' => e = .returned (.tuple #[.agg #[.int .i64 c1, .int .i64 c2], .bool t]) ∧ Below w.heap.size w w' := by
  go_enter Try.func29, Try.ntmps29
  go_wp2_with fail
  generalize hW : (World.alloc _ _ : World) = W0
  have q0 : W0.heap[(w.heap.size : Nat)]? = some (Obj.cells #[.int .i64 a0, .int .i64 a1, .int .i64 a2, .int .i64 a3, .int .i64 a4, .int .i64 a5] 28 (0, 0)) := by
    rw [← hW]
    repeat (first | (refine alloc_at ?_; first | (simp; done) | (simp; omega)) | refine drew_row ?_ | refine alloc_past ?_ | assumption)
  have q1 : W0.heap[(w.heap.size + 1 : Nat)]? = some (Obj.cells #[.int .i64 b0, .int .i64 b1, .int .i64 b2, .int .i64 b3, .int .i64 b4, .int .i64 b5] 28 (0, 0)) := by
    rw [← hW]
    repeat (first | (refine alloc_at ?_; first | (simp; done) | (simp; omega)) | refine drew_row ?_ | refine alloc_past ?_ | assumption)
  have hq : W0.heap[(w.heap.size + 2 : Nat)]? = some (Obj.cells #[.int .i64 0, .int .i64 0] 25 (0, 0)) := by
    rw [← hW]
    repeat (first | (refine alloc_at ?_; first | (simp; done) | (simp; omega)) | refine drew_row ?_ | refine alloc_past ?_ | assumption)
  have hk : KR 2 [(w.heap.size, Obj.cells #[.int .i64 a0, .int .i64 a1, .int .i64 a2, .int .i64 a3, .int .i64 a4, .int .i64 a5] 28 (0, 0)), (w.heap.size + 1, Obj.cells #[.int .i64 b0, .int .i64 b1, .int .i64 b2, .int .i64 b3, .int .i64 b4, .int .i64 b5] 28 (0, 0))] w W0 := ⟨by simp [q0, q1], by rw [← hW]; simp, by rw [← hW]; (repeat (first | exact Below.refl _ _ | assumption | refine Below.setCell ?_ (by first | (simp; done) | (simp; omega)) _ | refine Below.alloc ?_ (by first | (simp; done) | (simp; omega)) _ | refine Below.drew ?_))⟩
  clear hW q0 q1
  have r0_c := fun j => cell_of_row W0 _ j _ _ _ (hk.row (g := w.heap.size) (List.mem_cons_self ..))
  have r1_c := fun j => cell_of_row W0 _ j _ _ _ (hk.row (g := w.heap.size + 1) (List.mem_cons_of_mem _ (List.mem_cons_self ..)))
  have z_c := fun j => cell_of_row W0 _ j _ _ _ hq
  have z_f := fun j => frozen_of_row W0 _ j _ _ hq
  go_wp2_with fail
  refine (HM.out _).mono ?_
  rintro e W1 ⟨rfl, hb⟩
  clear r0_c r1_c z_c z_f
  have hk := hk.far hb rfl
  have hq := rowk hq hb rfl
  clear hb
  have r0_c := fun j => cell_of_row W1 _ j _ _ _ (hk.row (g := w.heap.size) (List.mem_cons_self ..))
  have r1_c := fun j => cell_of_row W1 _ j _ _ _ (hk.row (g := w.heap.size + 1) (List.mem_cons_of_mem _ (List.mem_cons_self ..)))
  have z_c := fun j => cell_of_row W1 _ j _ _ _ hq
  have z_f := fun j => frozen_of_row W1 _ j _ _ hq
  go_wp2_with fail
  have hB := hk.2.2
  refine bodyPost_ret (v := .tuple #[.agg #[.int .i64 c1, .int .i64 c2], .bool t]) (by simp [results, Try.results29, go_sem, z_c]) rfl ⟨rfl, ?_⟩
  exact (hB.setCell (by first | (simp; done) | (simp; omega)) _).setCell (by first | (simp; done) | (simp; omega)) _
set_option maxHeartbeats 2000000 in
theorem imi_a (a0 a1 a2 a3 a4 a5 : Int) (b0 b1 b2 b3 b4 b5 : Int) (n : Int) (c1 c2 : Int) (t : Bool) (HM : Hid (∀ w, Calls Try.prog 97 #[.int .i64 1, .agg #[.int .i64 a0, .int .i64 a1, .int .i64 a2, .int .i64 a3, .int .i64 a4, .int .i64 a5], .agg #[.int .i64 b0, .int .i64 b1, .int .i64 b2, .int .i64 b3, .int .i64 b4, .int .i64 b5], .int .i64 n] w fun e w' => e = .returned (.tuple #[.agg #[.int .i64 c1, .int .i64 c2], .bool t]) ∧ Below w.heap.size w w')) (w : World) : Calls Try.prog 33 #[.agg #[.int .i64 a0, .int .i64 a1, .int .i64 a2, .int .i64 a3, .int .i64 a4, .int .i64 a5], .agg #[.int .i64 b0, .int .i64 b1, .int .i64 b2, .int .i64 b3, .int .i64 b4, .int .i64 b5], .int .i64 n] w fun e w' => e = .returned (.tuple #[.agg #[.int .i64 c1, .int .i64 c2], .bool t]) ∧ Below w.heap.size w w' := by
  go_enter Try.func33, Try.ntmps33
  go_wp2_with fail
  generalize hW : (World.alloc _ _ : World) = W0
  have q0 : W0.heap[(w.heap.size : Nat)]? = some (Obj.cells #[.int .i64 a0, .int .i64 a1, .int .i64 a2, .int .i64 a3, .int .i64 a4, .int .i64 a5] 28 (0, 0)) := by
    rw [← hW]
    repeat (first | (refine alloc_at ?_; first | (simp; done) | (simp; omega)) | refine drew_row ?_ | refine alloc_past ?_ | assumption)
  have q1 : W0.heap[(w.heap.size + 1 : Nat)]? = some (Obj.cells #[.int .i64 b0, .int .i64 b1, .int .i64 b2, .int .i64 b3, .int .i64 b4, .int .i64 b5] 28 (0, 0)) := by
    rw [← hW]
    repeat (first | (refine alloc_at ?_; first | (simp; done) | (simp; omega)) | refine drew_row ?_ | refine alloc_past ?_ | assumption)
  have hq : W0.heap[(w.heap.size + 2 : Nat)]? = some (Obj.cells #[.int .i64 0, .int .i64 0] 25 (0, 0)) := by
    rw [← hW]
    repeat (first | (refine alloc_at ?_; first | (simp; done) | (simp; omega)) | refine drew_row ?_ | refine alloc_past ?_ | assumption)
  have hk : KR 2 [(w.heap.size, Obj.cells #[.int .i64 a0, .int .i64 a1, .int .i64 a2, .int .i64 a3, .int .i64 a4, .int .i64 a5] 28 (0, 0)), (w.heap.size + 1, Obj.cells #[.int .i64 b0, .int .i64 b1, .int .i64 b2, .int .i64 b3, .int .i64 b4, .int .i64 b5] 28 (0, 0))] w W0 := ⟨by simp [q0, q1], by rw [← hW]; simp, by rw [← hW]; (repeat (first | exact Below.refl _ _ | assumption | refine Below.setCell ?_ (by first | (simp; done) | (simp; omega)) _ | refine Below.alloc ?_ (by first | (simp; done) | (simp; omega)) _ | refine Below.drew ?_))⟩
  clear hW q0 q1
  have r0_c := fun j => cell_of_row W0 _ j _ _ _ (hk.row (g := w.heap.size) (List.mem_cons_self ..))
  have r1_c := fun j => cell_of_row W0 _ j _ _ _ (hk.row (g := w.heap.size + 1) (List.mem_cons_of_mem _ (List.mem_cons_self ..)))
  have z_c := fun j => cell_of_row W0 _ j _ _ _ hq
  have z_f := fun j => frozen_of_row W0 _ j _ _ hq
  go_wp2_with fail
  refine (HM.out _).mono ?_
  rintro e W1 ⟨rfl, hb⟩
  clear r0_c r1_c z_c z_f
  have hk := hk.far hb rfl
  have hq := rowk hq hb rfl
  clear hb
  have r0_c := fun j => cell_of_row W1 _ j _ _ _ (hk.row (g := w.heap.size) (List.mem_cons_self ..))
  have r1_c := fun j => cell_of_row W1 _ j _ _ _ (hk.row (g := w.heap.size + 1) (List.mem_cons_of_mem _ (List.mem_cons_self ..)))
  have z_c := fun j => cell_of_row W1 _ j _ _ _ hq
  have z_f := fun j => frozen_of_row W1 _ j _ _ hq
  go_wp2_with fail
  have hB := hk.2.2
  refine bodyPost_ret (v := .tuple #[.agg #[.int .i64 c1, .int .i64 c2], .bool t]) (by simp [results, Try.results33, go_sem, z_c]) rfl ⟨rfl, ?_⟩
  exact (hB.setCell (by first | (simp; done) | (simp; omega)) _).setCell (by first | (simp; done) | (simp; omega)) _
set_option maxHeartbeats 2000000 in
theorem imw_a (a0 a1 a2 a3 a4 a5 : Int) (b0 b1 b2 b3 b4 b5 : Int) (n : Int) (c1 c2 : Int) (t : Bool) (HM : Hid (∀ w, Calls Try.prog 97 #[.int .i64 2, .agg #[.int .i64 a0, .int .i64 a1, .int .i64 a2, .int .i64 a3, .int .i64 a4, .int .i64 a5], .agg #[.int .i64 b0, .int .i64 b1, .int .i64 b2, .int .i64 b3, .int .i64 b4, .int .i64 b5], .int .i64 n] w fun e w' => e = .returned (.tuple #[.agg #[.int .i64 c1, .int .i64 c2], .bool t]) ∧ Below w.heap.size w w')) (w : World) : Calls Try.prog 35 #[.agg #[.int .i64 a0, .int .i64 a1, .int .i64 a2, .int .i64 a3, .int .i64 a4, .int .i64 a5], .agg #[.int .i64 b0, .int .i64 b1, .int .i64 b2, .int .i64 b3, .int .i64 b4, .int .i64 b5], .int .i64 n] w fun e w' => e = .returned (.tuple #[.agg #[.int .i64 c1, .int .i64 c2], .bool t]) ∧ Below w.heap.size w w' := by
  go_enter Try.func35, Try.ntmps35
  go_wp2_with fail
  generalize hW : (World.alloc _ _ : World) = W0
  have q0 : W0.heap[(w.heap.size : Nat)]? = some (Obj.cells #[.int .i64 a0, .int .i64 a1, .int .i64 a2, .int .i64 a3, .int .i64 a4, .int .i64 a5] 28 (0, 0)) := by
    rw [← hW]
    repeat (first | (refine alloc_at ?_; first | (simp; done) | (simp; omega)) | refine drew_row ?_ | refine alloc_past ?_ | assumption)
  have q1 : W0.heap[(w.heap.size + 1 : Nat)]? = some (Obj.cells #[.int .i64 b0, .int .i64 b1, .int .i64 b2, .int .i64 b3, .int .i64 b4, .int .i64 b5] 28 (0, 0)) := by
    rw [← hW]
    repeat (first | (refine alloc_at ?_; first | (simp; done) | (simp; omega)) | refine drew_row ?_ | refine alloc_past ?_ | assumption)
  have hq : W0.heap[(w.heap.size + 2 : Nat)]? = some (Obj.cells #[.int .i64 0, .int .i64 0] 25 (0, 0)) := by
    rw [← hW]
    repeat (first | (refine alloc_at ?_; first | (simp; done) | (simp; omega)) | refine drew_row ?_ | refine alloc_past ?_ | assumption)
  have hk : KR 2 [(w.heap.size, Obj.cells #[.int .i64 a0, .int .i64 a1, .int .i64 a2, .int .i64 a3, .int .i64 a4, .int .i64 a5] 28 (0, 0)), (w.heap.size + 1, Obj.cells #[.int .i64 b0, .int .i64 b1, .int .i64 b2, .int .i64 b3, .int .i64 b4, .int .i64 b5] 28 (0, 0))] w W0 := ⟨by simp [q0, q1], by rw [← hW]; simp, by rw [← hW]; (repeat (first | exact Below.refl _ _ | assumption | refine Below.setCell ?_ (by first | (simp; done) | (simp; omega)) _ | refine Below.alloc ?_ (by first | (simp; done) | (simp; omega)) _ | refine Below.drew ?_))⟩
  clear hW q0 q1
  have r0_c := fun j => cell_of_row W0 _ j _ _ _ (hk.row (g := w.heap.size) (List.mem_cons_self ..))
  have r1_c := fun j => cell_of_row W0 _ j _ _ _ (hk.row (g := w.heap.size + 1) (List.mem_cons_of_mem _ (List.mem_cons_self ..)))
  have z_c := fun j => cell_of_row W0 _ j _ _ _ hq
  have z_f := fun j => frozen_of_row W0 _ j _ _ hq
  go_wp2_with fail
  refine (HM.out _).mono ?_
  rintro e W1 ⟨rfl, hb⟩
  clear r0_c r1_c z_c z_f
  have hk := hk.far hb rfl
  have hq := rowk hq hb rfl
  clear hb
  have r0_c := fun j => cell_of_row W1 _ j _ _ _ (hk.row (g := w.heap.size) (List.mem_cons_self ..))
  have r1_c := fun j => cell_of_row W1 _ j _ _ _ (hk.row (g := w.heap.size + 1) (List.mem_cons_of_mem _ (List.mem_cons_self ..)))
  have z_c := fun j => cell_of_row W1 _ j _ _ _ hq
  have z_f := fun j => frozen_of_row W1 _ j _ _ hq
  go_wp2_with fail
  have hB := hk.2.2
  refine bodyPost_ret (v := .tuple #[.agg #[.int .i64 c1, .int .i64 c2], .bool t]) (by simp [results, Try.results35, go_sem, z_c]) rfl ⟨rfl, ?_⟩
  exact (hB.setCell (by first | (simp; done) | (simp; omega)) _).setCell (by first | (simp; done) | (simp; omega)) _
set_option maxHeartbeats 2000000 in
theorem imc_y (a0 a1 a2 a3 a4 a5 : Int) (b0 b1 b2 b3 b4 b5 : Int) (fa fb : Nat) (h sz yy c1 c2 : Int) (hy : wrap64 (sz * h) = yy) (hyi : IntKind.i64.wrap (sz * h) = yy)(HA : Hid (∀ w, Calls Try.prog 102 #[.agg #[.int .i64 a0, .int .i64 a1, .int .i64 a2, .int .i64 a3, .int .i64 a4, .int .i64 a5]] w fun e w' => e = .returned (.bool true) ∧ Below w.heap.size w w'))(HB : Hid (∀ w, Calls Try.prog 102 #[.agg #[.int .i64 b0, .int .i64 b1, .int .i64 b2, .int .i64 b3, .int .i64 b4, .int .i64 b5]] w fun e w' => e = .returned (.bool true) ∧ Below w.heap.size w w'))(HFa : Hid (∀ w, Calls Try.prog 103 #[.agg #[.int .i64 a0, .int .i64 a1, .int .i64 a2, .int .i64 a3, .int .i64 a4, .int .i64 a5]] w fun e w' => e = .returned (.int .u64 (fa : Int)) ∧ Below w.heap.size w w'))(HFb : Hid (∀ w, Calls Try.prog 103 #[.agg #[.int .i64 b0, .int .i64 b1, .int .i64 b2, .int .i64 b3, .int .i64 b4, .int .i64 b5]] w fun e w' => e = .returned (.int .u64 (fb : Int)) ∧ Below w.heap.size w w'))(HSa : Hid (∀ w, Calls Try.prog 104 #[.int .u64 (fa : Int)] w fun e w' => e = .returned (.int .i64 sz) ∧ Below w.heap.size w w'))(HSb : Hid (∀ w, Calls Try.prog 104 #[.int .u64 (fb : Int)] w fun e w' => e = .returned (.int .i64 h) ∧ Below w.heap.size w w'))(HX : Hid (∀ w, Calls Try.prog 101 #[.int .i64 yy, .int .i64 36] w fun e w' => e = .returned (.agg #[.int .i64 c1, .int .i64 c2]) ∧ Below w.heap.size w w')) (w : World) : Calls Try.prog 41 #[.agg #[.int .i64 a0, .int .i64 a1, .int .i64 a2, .int .i64 a3, .int .i64 a4, .int .i64 a5], .agg #[.int .i64 b0, .int .i64 b1, .int .i64 b2, .int .i64 b3, .int .i64 b4, .int .i64 b5]] w fun e w' => e = .returned (.tuple #[.agg #[.int .i64 c1, .int .i64 c2], .bool true]) ∧ Below w.heap.size w w' := by
  go_enter Try.func41, Try.ntmps41
  go_wp2_with fail
  generalize hW : (World.alloc _ _ : World) = W0
  have q0 : W0.heap[(w.heap.size : Nat)]? = some (Obj.cells #[.int .i64 a0, .int .i64 a1, .int .i64 a2, .int .i64 a3, .int .i64 a4, .int .i64 a5] 28 (0, 0)) := by
    rw [← hW]
    repeat (first | (refine alloc_at ?_; first | (simp; done) | (simp; omega)) | refine drew_row ?_ | refine alloc_past ?_ | assumption)
  have q1 : W0.heap[(w.heap.size + 1 : Nat)]? = some (Obj.cells #[.int .i64 b0, .int .i64 b1, .int .i64 b2, .int .i64 b3, .int .i64 b4, .int .i64 b5] 28 (0, 0)) := by
    rw [← hW]
    repeat (first | (refine alloc_at ?_; first | (simp; done) | (simp; omega)) | refine drew_row ?_ | refine alloc_past ?_ | assumption)
  have hq : W0.heap[(w.heap.size + 2 : Nat)]? = some (Obj.cells #[.int .i64 0, .int .i64 0] 25 (0, 0)) := by
    rw [← hW]
    repeat (first | (refine alloc_at ?_; first | (simp; done) | (simp; omega)) | refine drew_row ?_ | refine alloc_past ?_ | assumption)
  have hk : KR 2 [(w.heap.size, Obj.cells #[.int .i64 a0, .int .i64 a1, .int .i64 a2, .int .i64 a3, .int .i64 a4, .int .i64 a5] 28 (0, 0)), (w.heap.size + 1, Obj.cells #[.int .i64 b0, .int .i64 b1, .int .i64 b2, .int .i64 b3, .int .i64 b4, .int .i64 b5] 28 (0, 0))] w W0 := ⟨by simp [q0, q1], by rw [← hW]; simp, by rw [← hW]; (repeat (first | exact Below.refl _ _ | assumption | refine Below.setCell ?_ (by first | (simp; done) | (simp; omega)) _ | refine Below.alloc ?_ (by first | (simp; done) | (simp; omega)) _ | refine Below.drew ?_))⟩
  clear hW q0 q1
  have r0_c := fun j => cell_of_row W0 _ j _ _ _ (hk.row (g := w.heap.size) (List.mem_cons_self ..))
  have r1_c := fun j => cell_of_row W0 _ j _ _ _ (hk.row (g := w.heap.size + 1) (List.mem_cons_of_mem _ (List.mem_cons_self ..)))
  have z_c := fun j => cell_of_row W0 _ j _ _ _ hq
  have z_f := fun j => frozen_of_row W0 _ j _ _ hq
  go_wp2_with fail
  refine (HA.out _).mono ?_
  rintro e W1 ⟨rfl, hb⟩
  clear r0_c r1_c z_c z_f
  have hk := hk.far hb rfl
  have hq := rowk hq hb rfl
  clear hb
  have r0_c := fun j => cell_of_row W1 _ j _ _ _ (hk.row (g := w.heap.size) (List.mem_cons_self ..))
  have r1_c := fun j => cell_of_row W1 _ j _ _ _ (hk.row (g := w.heap.size + 1) (List.mem_cons_of_mem _ (List.mem_cons_self ..)))
  have z_c := fun j => cell_of_row W1 _ j _ _ _ hq
  have z_f := fun j => frozen_of_row W1 _ j _ _ hq
  go_wp2_with fail
  refine (HB.out _).mono ?_
  rintro e W2 ⟨rfl, hb⟩
  clear r0_c r1_c z_c z_f
  have hk := hk.far hb rfl
  have hq := rowk hq hb rfl
  clear hb
  have r0_c := fun j => cell_of_row W2 _ j _ _ _ (hk.row (g := w.heap.size) (List.mem_cons_self ..))
  have r1_c := fun j => cell_of_row W2 _ j _ _ _ (hk.row (g := w.heap.size + 1) (List.mem_cons_of_mem _ (List.mem_cons_self ..)))
  have z_c := fun j => cell_of_row W2 _ j _ _ _ hq
  have z_f := fun j => frozen_of_row W2 _ j _ _ hq
  go_wp2_with fail
  clear r0_c r1_c z_c z_f
  have hz0 := KR.le hk
  set_option maxRecDepth 8000 in
  go_region_held3 (fun U => U.cell? ⟨w.heap.size, 0, none⟩ = some (.int .i64 a0) ∧ U.cell? ⟨w.heap.size, 1, none⟩ = some (.int .i64 a1) ∧ U.cell? ⟨w.heap.size, 2, none⟩ = some (.int .i64 a2) ∧ U.cell? ⟨w.heap.size, 3, none⟩ = some (.int .i64 a3) ∧ U.cell? ⟨w.heap.size, 4, none⟩ = some (.int .i64 a4) ∧ U.cell? ⟨w.heap.size, 5, none⟩ = some (.int .i64 a5) ∧ U.cell? ⟨w.heap.size + 1, 0, none⟩ = some (.int .i64 b0) ∧ U.cell? ⟨w.heap.size + 1, 1, none⟩ = some (.int .i64 b1) ∧ U.cell? ⟨w.heap.size + 1, 2, none⟩ = some (.int .i64 b2) ∧ U.cell? ⟨w.heap.size + 1, 3, none⟩ = some (.int .i64 b3) ∧ U.cell? ⟨w.heap.size + 1, 4, none⟩ = some (.int .i64 b4) ∧ U.cell? ⟨w.heap.size + 1, 5, none⟩ = some (.int .i64 b5) ∧ KR 2 [(w.heap.size, Obj.cells #[.int .i64 a0, .int .i64 a1, .int .i64 a2, .int .i64 a3, .int .i64 a4, .int .i64 a5] 28 (0, 0)), (w.heap.size + 1, Obj.cells #[.int .i64 b0, .int .i64 b1, .int .i64 b2, .int .i64 b3, .int .i64 b4, .int .i64 b5] 28 (0, 0))] w U) (with_reducible refine SR2 ?_; (repeat (first | with_reducible assumption | with_reducible refine KR.al ?_ | with_reducible refine KR.drew ?_ | with_reducible refine KR.set ?_ (by first | omega | (simp; omega))))) (first | (go_at_call 103; with_reducible refine (HFa.out _).mono ?_; rintro e w' ⟨rfl, hb'⟩; have hk : KR 2 [(w.heap.size, Obj.cells #[.int .i64 a0, .int .i64 a1, .int .i64 a2, .int .i64 a3, .int .i64 a4, .int .i64 a5] 28 (0, 0)), (w.heap.size + 1, Obj.cells #[.int .i64 b0, .int .i64 b1, .int .i64 b2, .int .i64 b3, .int .i64 b4, .int .i64 b5] 28 (0, 0))] w w' := KR.far (by (repeat (first | with_reducible assumption | with_reducible refine KR.al ?_ | with_reducible refine KR.drew ?_ | with_reducible refine KR.set ?_ (by first | omega | (simp; omega))))) hb' rfl; have hz0 := KR.le hk; have hq : w'.heap[w.heap.size + 2]? = some (Obj.cells #[.int .i64 0, .int .i64 0] 25 (0, 0)) := rowk (by first | with_reducible assumption | (with_reducible refine drew_row ?_; with_reducible assumption)) hb' rfl; have z_c := fun j => cell_of_row w' _ j _ _ _ hq; have z_f := fun j => frozen_of_row w' _ j _ _ hq) | (go_at_call 103; with_reducible refine (HFb.out _).mono ?_; rintro e w' ⟨rfl, hb'⟩; have hk : KR 2 [(w.heap.size, Obj.cells #[.int .i64 a0, .int .i64 a1, .int .i64 a2, .int .i64 a3, .int .i64 a4, .int .i64 a5] 28 (0, 0)), (w.heap.size + 1, Obj.cells #[.int .i64 b0, .int .i64 b1, .int .i64 b2, .int .i64 b3, .int .i64 b4, .int .i64 b5] 28 (0, 0))] w w' := KR.far (by (repeat (first | with_reducible assumption | with_reducible refine KR.al ?_ | with_reducible refine KR.drew ?_ | with_reducible refine KR.set ?_ (by first | omega | (simp; omega))))) hb' rfl; have hz0 := KR.le hk; have hq : w'.heap[w.heap.size + 2]? = some (Obj.cells #[.int .i64 0, .int .i64 0] 25 (0, 0)) := rowk (by first | with_reducible assumption | (with_reducible refine drew_row ?_; with_reducible assumption)) hb' rfl; have z_c := fun j => cell_of_row w' _ j _ _ _ hq; have z_f := fun j => frozen_of_row w' _ j _ _ hq) | (go_at_call 104; with_reducible refine (HSa.out _).mono ?_; rintro e w' ⟨rfl, hb'⟩; have hk : KR 2 [(w.heap.size, Obj.cells #[.int .i64 a0, .int .i64 a1, .int .i64 a2, .int .i64 a3, .int .i64 a4, .int .i64 a5] 28 (0, 0)), (w.heap.size + 1, Obj.cells #[.int .i64 b0, .int .i64 b1, .int .i64 b2, .int .i64 b3, .int .i64 b4, .int .i64 b5] 28 (0, 0))] w w' := KR.far (by (repeat (first | with_reducible assumption | with_reducible refine KR.al ?_ | with_reducible refine KR.drew ?_ | with_reducible refine KR.set ?_ (by first | omega | (simp; omega))))) hb' rfl; have hz0 := KR.le hk; have hq : w'.heap[w.heap.size + 2]? = some (Obj.cells #[.int .i64 0, .int .i64 0] 25 (0, 0)) := rowk (by first | with_reducible assumption | (with_reducible refine drew_row ?_; with_reducible assumption)) hb' rfl; have z_c := fun j => cell_of_row w' _ j _ _ _ hq; have z_f := fun j => frozen_of_row w' _ j _ _ hq) | (go_at_call 104; with_reducible refine (HSb.out _).mono ?_; rintro e w' ⟨rfl, hb'⟩; have hk : KR 2 [(w.heap.size, Obj.cells #[.int .i64 a0, .int .i64 a1, .int .i64 a2, .int .i64 a3, .int .i64 a4, .int .i64 a5] 28 (0, 0)), (w.heap.size + 1, Obj.cells #[.int .i64 b0, .int .i64 b1, .int .i64 b2, .int .i64 b3, .int .i64 b4, .int .i64 b5] 28 (0, 0))] w w' := KR.far (by (repeat (first | with_reducible assumption | with_reducible refine KR.al ?_ | with_reducible refine KR.drew ?_ | with_reducible refine KR.set ?_ (by first | omega | (simp; omega))))) hb' rfl; have hz0 := KR.le hk; have hq : w'.heap[w.heap.size + 2]? = some (Obj.cells #[.int .i64 0, .int .i64 0] 25 (0, 0)) := rowk (by first | with_reducible assumption | (with_reducible refine drew_row ?_; with_reducible assumption)) hb' rfl; have z_c := fun j => cell_of_row w' _ j _ _ _ hq; have z_f := fun j => frozen_of_row w' _ j _ _ hq) | (go_at_call 101; with_reducible refine (HX.out _).mono ?_; rintro e w' ⟨rfl, hb'⟩; have hk : KR 2 [(w.heap.size, Obj.cells #[.int .i64 a0, .int .i64 a1, .int .i64 a2, .int .i64 a3, .int .i64 a4, .int .i64 a5] 28 (0, 0)), (w.heap.size + 1, Obj.cells #[.int .i64 b0, .int .i64 b1, .int .i64 b2, .int .i64 b3, .int .i64 b4, .int .i64 b5] 28 (0, 0))] w w' := KR.far (by (repeat (first | with_reducible assumption | with_reducible refine KR.al ?_ | with_reducible refine KR.drew ?_ | with_reducible refine KR.set ?_ (by first | omega | (simp; omega))))) hb' rfl; have hz0 := KR.le hk; have hq : w'.heap[w.heap.size + 2]? = some (Obj.cells #[.int .i64 0, .int .i64 0] 25 (0, 0)) := rowk (by first | with_reducible assumption | (with_reducible refine drew_row ?_; with_reducible assumption)) hb' rfl; have z_c := fun j => cell_of_row w' _ j _ _ _ hq; have z_f := fun j => frozen_of_row w' _ j _ _ hq))
  all_goals
    have r0_c := fun j => cell_of_row w' _ j _ _ _ (hk.row (g := w.heap.size) (List.mem_cons_self ..))
    have r1_c := fun j => cell_of_row w' _ j _ _ _ (hk.row (g := w.heap.size + 1) (List.mem_cons_of_mem _ (List.mem_cons_self ..)))
    go_wp2_with fail
    have hB := hk.2.2
    refine bodyPost_ret (v := .tuple #[.agg #[.int .i64 c1, .int .i64 c2], .bool true]) (by simp [results, Try.results41, go_sem, z_c]) rfl ⟨rfl, ?_⟩
    exact (hB.setCell (by first | (simp; done) | (simp; omega)) _).setCell (by first | (simp; done) | (simp; omega)) _
set_option maxHeartbeats 2000000 in
theorem imc_n0 (a0 a1 a2 a3 a4 a5 : Int) (b0 b1 b2 b3 b4 b5 : Int) (HA : Hid (∀ w, Calls Try.prog 102 #[.agg #[.int .i64 a0, .int .i64 a1, .int .i64 a2, .int .i64 a3, .int .i64 a4, .int .i64 a5]] w fun e w' => e = .returned (.bool false) ∧ Below w.heap.size w w')) (w : World) : Calls Try.prog 41 #[.agg #[.int .i64 a0, .int .i64 a1, .int .i64 a2, .int .i64 a3, .int .i64 a4, .int .i64 a5], .agg #[.int .i64 b0, .int .i64 b1, .int .i64 b2, .int .i64 b3, .int .i64 b4, .int .i64 b5]] w fun e w' => e = .returned (.tuple #[.agg #[.int .i64 0, .int .i64 0], .bool false]) ∧ Below w.heap.size w w' := by
  go_enter Try.func41, Try.ntmps41
  go_wp2_with fail
  generalize hW : (World.alloc _ _ : World) = W0
  have q0 : W0.heap[(w.heap.size : Nat)]? = some (Obj.cells #[.int .i64 a0, .int .i64 a1, .int .i64 a2, .int .i64 a3, .int .i64 a4, .int .i64 a5] 28 (0, 0)) := by
    rw [← hW]
    repeat (first | (refine alloc_at ?_; first | (simp; done) | (simp; omega)) | refine drew_row ?_ | refine alloc_past ?_ | assumption)
  have q1 : W0.heap[(w.heap.size + 1 : Nat)]? = some (Obj.cells #[.int .i64 b0, .int .i64 b1, .int .i64 b2, .int .i64 b3, .int .i64 b4, .int .i64 b5] 28 (0, 0)) := by
    rw [← hW]
    repeat (first | (refine alloc_at ?_; first | (simp; done) | (simp; omega)) | refine drew_row ?_ | refine alloc_past ?_ | assumption)
  have hq : W0.heap[(w.heap.size + 2 : Nat)]? = some (Obj.cells #[.int .i64 0, .int .i64 0] 25 (0, 0)) := by
    rw [← hW]
    repeat (first | (refine alloc_at ?_; first | (simp; done) | (simp; omega)) | refine drew_row ?_ | refine alloc_past ?_ | assumption)
  have hk : KR 2 [(w.heap.size, Obj.cells #[.int .i64 a0, .int .i64 a1, .int .i64 a2, .int .i64 a3, .int .i64 a4, .int .i64 a5] 28 (0, 0)), (w.heap.size + 1, Obj.cells #[.int .i64 b0, .int .i64 b1, .int .i64 b2, .int .i64 b3, .int .i64 b4, .int .i64 b5] 28 (0, 0))] w W0 := ⟨by simp [q0, q1], by rw [← hW]; simp, by rw [← hW]; (repeat (first | exact Below.refl _ _ | assumption | refine Below.setCell ?_ (by first | (simp; done) | (simp; omega)) _ | refine Below.alloc ?_ (by first | (simp; done) | (simp; omega)) _ | refine Below.drew ?_))⟩
  clear hW q0 q1
  have r0_c := fun j => cell_of_row W0 _ j _ _ _ (hk.row (g := w.heap.size) (List.mem_cons_self ..))
  have r1_c := fun j => cell_of_row W0 _ j _ _ _ (hk.row (g := w.heap.size + 1) (List.mem_cons_of_mem _ (List.mem_cons_self ..)))
  have z_c := fun j => cell_of_row W0 _ j _ _ _ hq
  have z_f := fun j => frozen_of_row W0 _ j _ _ hq
  go_wp2_with fail
  refine (HA.out _).mono ?_
  rintro e W1 ⟨rfl, hb⟩
  clear r0_c r1_c z_c z_f
  have hk := hk.far hb rfl
  have hq := rowk hq hb rfl
  clear hb
  have r0_c := fun j => cell_of_row W1 _ j _ _ _ (hk.row (g := w.heap.size) (List.mem_cons_self ..))
  have r1_c := fun j => cell_of_row W1 _ j _ _ _ (hk.row (g := w.heap.size + 1) (List.mem_cons_of_mem _ (List.mem_cons_self ..)))
  have z_c := fun j => cell_of_row W1 _ j _ _ _ hq
  have z_f := fun j => frozen_of_row W1 _ j _ _ hq
  go_wp2_with fail
  have hB := hk.2.2
  refine bodyPost_ret (v := .tuple #[.agg #[.int .i64 0, .int .i64 0], .bool false]) (by simp [results, Try.results41, go_sem, z_c]) rfl ⟨rfl, ?_⟩
  exact (hB.setCell (by first | (simp; done) | (simp; omega)) _).setCell (by first | (simp; done) | (simp; omega)) _
set_option maxHeartbeats 2000000 in
theorem imc_n1 (a0 a1 a2 a3 a4 a5 : Int) (b0 b1 b2 b3 b4 b5 : Int) (HA : Hid (∀ w, Calls Try.prog 102 #[.agg #[.int .i64 a0, .int .i64 a1, .int .i64 a2, .int .i64 a3, .int .i64 a4, .int .i64 a5]] w fun e w' => e = .returned (.bool true) ∧ Below w.heap.size w w'))(HB : Hid (∀ w, Calls Try.prog 102 #[.agg #[.int .i64 b0, .int .i64 b1, .int .i64 b2, .int .i64 b3, .int .i64 b4, .int .i64 b5]] w fun e w' => e = .returned (.bool false) ∧ Below w.heap.size w w')) (w : World) : Calls Try.prog 41 #[.agg #[.int .i64 a0, .int .i64 a1, .int .i64 a2, .int .i64 a3, .int .i64 a4, .int .i64 a5], .agg #[.int .i64 b0, .int .i64 b1, .int .i64 b2, .int .i64 b3, .int .i64 b4, .int .i64 b5]] w fun e w' => e = .returned (.tuple #[.agg #[.int .i64 0, .int .i64 0], .bool false]) ∧ Below w.heap.size w w' := by
  go_enter Try.func41, Try.ntmps41
  go_wp2_with fail
  generalize hW : (World.alloc _ _ : World) = W0
  have q0 : W0.heap[(w.heap.size : Nat)]? = some (Obj.cells #[.int .i64 a0, .int .i64 a1, .int .i64 a2, .int .i64 a3, .int .i64 a4, .int .i64 a5] 28 (0, 0)) := by
    rw [← hW]
    repeat (first | (refine alloc_at ?_; first | (simp; done) | (simp; omega)) | refine drew_row ?_ | refine alloc_past ?_ | assumption)
  have q1 : W0.heap[(w.heap.size + 1 : Nat)]? = some (Obj.cells #[.int .i64 b0, .int .i64 b1, .int .i64 b2, .int .i64 b3, .int .i64 b4, .int .i64 b5] 28 (0, 0)) := by
    rw [← hW]
    repeat (first | (refine alloc_at ?_; first | (simp; done) | (simp; omega)) | refine drew_row ?_ | refine alloc_past ?_ | assumption)
  have hq : W0.heap[(w.heap.size + 2 : Nat)]? = some (Obj.cells #[.int .i64 0, .int .i64 0] 25 (0, 0)) := by
    rw [← hW]
    repeat (first | (refine alloc_at ?_; first | (simp; done) | (simp; omega)) | refine drew_row ?_ | refine alloc_past ?_ | assumption)
  have hk : KR 2 [(w.heap.size, Obj.cells #[.int .i64 a0, .int .i64 a1, .int .i64 a2, .int .i64 a3, .int .i64 a4, .int .i64 a5] 28 (0, 0)), (w.heap.size + 1, Obj.cells #[.int .i64 b0, .int .i64 b1, .int .i64 b2, .int .i64 b3, .int .i64 b4, .int .i64 b5] 28 (0, 0))] w W0 := ⟨by simp [q0, q1], by rw [← hW]; simp, by rw [← hW]; (repeat (first | exact Below.refl _ _ | assumption | refine Below.setCell ?_ (by first | (simp; done) | (simp; omega)) _ | refine Below.alloc ?_ (by first | (simp; done) | (simp; omega)) _ | refine Below.drew ?_))⟩
  clear hW q0 q1
  have r0_c := fun j => cell_of_row W0 _ j _ _ _ (hk.row (g := w.heap.size) (List.mem_cons_self ..))
  have r1_c := fun j => cell_of_row W0 _ j _ _ _ (hk.row (g := w.heap.size + 1) (List.mem_cons_of_mem _ (List.mem_cons_self ..)))
  have z_c := fun j => cell_of_row W0 _ j _ _ _ hq
  have z_f := fun j => frozen_of_row W0 _ j _ _ hq
  go_wp2_with fail
  refine (HA.out _).mono ?_
  rintro e W1 ⟨rfl, hb⟩
  clear r0_c r1_c z_c z_f
  have hk := hk.far hb rfl
  have hq := rowk hq hb rfl
  clear hb
  have r0_c := fun j => cell_of_row W1 _ j _ _ _ (hk.row (g := w.heap.size) (List.mem_cons_self ..))
  have r1_c := fun j => cell_of_row W1 _ j _ _ _ (hk.row (g := w.heap.size + 1) (List.mem_cons_of_mem _ (List.mem_cons_self ..)))
  have z_c := fun j => cell_of_row W1 _ j _ _ _ hq
  have z_f := fun j => frozen_of_row W1 _ j _ _ hq
  go_wp2_with fail
  refine (HB.out _).mono ?_
  rintro e W2 ⟨rfl, hb⟩
  clear r0_c r1_c z_c z_f
  have hk := hk.far hb rfl
  have hq := rowk hq hb rfl
  clear hb
  have r0_c := fun j => cell_of_row W2 _ j _ _ _ (hk.row (g := w.heap.size) (List.mem_cons_self ..))
  have r1_c := fun j => cell_of_row W2 _ j _ _ _ (hk.row (g := w.heap.size + 1) (List.mem_cons_of_mem _ (List.mem_cons_self ..)))
  have z_c := fun j => cell_of_row W2 _ j _ _ _ hq
  have z_f := fun j => frozen_of_row W2 _ j _ _ hq
  go_wp2_with fail
  have hB := hk.2.2
  refine bodyPost_ret (v := .tuple #[.agg #[.int .i64 0, .int .i64 0], .bool false]) (by simp [results, Try.results41, go_sem, z_c]) rfl ⟨rfl, ?_⟩
  exact (hB.setCell (by first | (simp; done) | (simp; omega)) _).setCell (by first | (simp; done) | (simp; omega)) _
end Go.Proofs.Ythphkhcppljdlaa
