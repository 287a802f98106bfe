/- CONTRACTS: MirrorCell, the model's and the code's. -/
import Derived.Test.YtkjaaaefcmpokaaGm0
import Derived.Test.YtkjaaaefcmpokaaSd
import Derived.RegionTactic
import Derived.Deep.RegionHeld3
import Derived.WalkKit
import Derived.ProofKit
import Derived.OpenShut
import Derived.Lib.Hide
import Derived.WalkSpells
import Derived.Below
import Derived.BigQuiet
import Derived.LoopN
namespace Go.Proofs.Ytkjaaaefcmpokaa
open Go.ChangeShapes Go.WideShapes Go.ChangeAt Go.RowKit
set_option linter.unusedVariables false
theorem SA2 {w U : World} {a0 a1 a2 a3 a4 a5 x y : Int} (h : KR 2 [(w.heap.size, Obj.cells #[.int .i64 a0, .int .i64 a1, .int .i64 a2, .int .i64 a3, .int .i64 a4, .int .i64 a5] 28 (0, 0)), (w.heap.size + 1, Obj.cells #[.int .i64 x, .int .i64 y] 47 (0, 0))] w U) : U.cell? ⟨w.heap.size, 0, none⟩ = some (.int .i64 a0) ∧ U.cell? ⟨w.heap.size, 1, none⟩ = some (.int .i64 a1) ∧ U.cell? ⟨w.heap.size, 2, none⟩ = some (.int .i64 a2) ∧ U.cell? ⟨w.heap.size, 3, none⟩ = some (.int .i64 a3) ∧ U.cell? ⟨w.heap.size, 4, none⟩ = some (.int .i64 a4) ∧ U.cell? ⟨w.heap.size, 5, none⟩ = some (.int .i64 a5) ∧ U.cell? ⟨w.heap.size + 1, 0, none⟩ = some (.int .i64 x) ∧ U.cell? ⟨w.heap.size + 1, 1, none⟩ = some (.int .i64 y) ∧ KR 2 [(w.heap.size, Obj.cells #[.int .i64 a0, .int .i64 a1, .int .i64 a2, .int .i64 a3, .int .i64 a4, .int .i64 a5] 28 (0, 0)), (w.heap.size + 1, Obj.cells #[.int .i64 x, .int .i64 y] 47 (0, 0))] w U :=
  have h0 := fun j => cell_of_row U _ j _ _ _ (h.row (g := w.heap.size) (List.mem_cons_self ..))
  have h1 := fun j => cell_of_row U _ j _ _ _ (h.row (g := w.heap.size + 1) (List.mem_cons_of_mem _ (List.mem_cons_self ..)))
  ⟨h0 0, h0 1, h0 2, h0 3, h0 4, h0 5, h1 0, h1 1, h⟩
set_option maxHeartbeats 2000000 in
theorem smc_yes (a0 a1 a2 a3 a4 a5 : Int) (x y : Int) (hx : 0 ≤ x ∧ x ≤ 5) (hy : 0 ≤ y ∧ y ≤ 5)(HG : Hid (∀ w, Calls Try.prog 137 #[.agg #[.int .i64 a0, .int .i64 a1, .int .i64 a2, .int .i64 a3, .int .i64 a4, .int .i64 a5], .agg #[.int .i64 a0, .int .i64 a1, .int .i64 a2, .int .i64 a3, .int .i64 a4, .int .i64 a5]] w fun e w' => e = .returned (.bool true) ∧ Below w.heap.size w w'))(HC : Hid (∀ w, Calls Try.prog 161 #[.agg #[.int .i64 x, .int .i64 y]] w fun e w' => e = .returned (.bool true) ∧ Below w.heap.size w w')) (w : World) : Calls Try.prog 50 #[.agg #[.int .i64 a0, .int .i64 a1, .int .i64 a2, .int .i64 a3, .int .i64 a4, .int .i64 a5], .agg #[.int .i64 x, .int .i64 y]] w fun e w' => e = .returned (.tuple #[.agg #[.int .i64 ((x + 3) % 6), .int .i64 ((y + 3) % 6)], .bool true]) ∧ Below w.heap.size w w' := by
  have hx0 : 0 ≤ x + 3 := by omega
  have hy0 : 0 ≤ y + 3 := by omega
  have hu : wrap64 (x + 3) = x + 3 := by unfold wrap64; omega
  have hv : wrap64 (y + 3) = y + 3 := by unfold wrap64; omega
  have hu2 : IntKind.i64.wrap (x + 3) = x + 3 := by rw [IntKind.wrap_i64]; omega
  have hv2 : IntKind.i64.wrap (y + 3) = y + 3 := by rw [IntKind.wrap_i64]; omega
  clear hx hy
  go_enter Try.func50, Try.ntmps50
  go_wp2_with fail
  generalize hW : (World.alloc _ _ : World) = W0
  have q0 : W0.heap[(w.heap.size : Nat)]? = some (Obj.cells #[.int .i64 a0, .int .i64 a1, .int .i64 a2, .int .i64 a3, .int .i64 a4, .int .i64 a5] 28 (0, 0)) := by
    rw [← hW]
    repeat (first | (refine alloc_at ?_; first | (simp; done) | (simp; omega)) | refine drew_row ?_ | refine alloc_past ?_ | assumption)
  have q1 : W0.heap[(w.heap.size + 1 : Nat)]? = some (Obj.cells #[.int .i64 x, .int .i64 y] 47 (0, 0)) := by
    rw [← hW]
    repeat (first | (refine alloc_at ?_; first | (simp; done) | (simp; omega)) | refine drew_row ?_ | refine alloc_past ?_ | assumption)
  have hq : W0.heap[(w.heap.size + 2 : Nat)]? = some (Obj.cells #[.int .i64 0, .int .i64 0] 47 (0, 0)) := by
    rw [← hW]
    repeat (first | (refine alloc_at ?_; first | (simp; done) | (simp; omega)) | refine drew_row ?_ | refine alloc_past ?_ | assumption)
  have hk : KR 2 [(w.heap.size, Obj.cells #[.int .i64 a0, .int .i64 a1, .int .i64 a2, .int .i64 a3, .int .i64 a4, .int .i64 a5] 28 (0, 0)), (w.heap.size + 1, Obj.cells #[.int .i64 x, .int .i64 y] 47 (0, 0))] w W0 := ⟨by simp [q0, q1], by rw [← hW]; simp, by rw [← hW]; (repeat (first | exact Below.refl _ _ | assumption | refine Below.setCell ?_ (by first | (simp; done) | (simp; omega)) _ | refine Below.alloc ?_ (by first | (simp; done) | (simp; omega)) _ | refine Below.drew ?_))⟩
  clear hW q0 q1
  have r0_c := fun j => cell_of_row W0 _ j _ _ _ (hk.row (g := w.heap.size) (List.mem_cons_self ..))
  have r1_c := fun j => cell_of_row W0 _ j _ _ _ (hk.row (g := w.heap.size + 1) (List.mem_cons_of_mem _ (List.mem_cons_self ..)))
  have z_c := fun j => cell_of_row W0 _ j _ _ _ hq
  have z_f := fun j => frozen_of_row W0 _ j _ _ hq
  go_wp2_with fail
  refine (HG.out _).mono ?_
  rintro e W1 ⟨rfl, hb⟩
  clear r0_c r1_c z_c z_f
  have hk := hk.far hb rfl
  have hq := rowk hq hb rfl
  clear hb
  have r0_c := fun j => cell_of_row W1 _ j _ _ _ (hk.row (g := w.heap.size) (List.mem_cons_self ..))
  have r1_c := fun j => cell_of_row W1 _ j _ _ _ (hk.row (g := w.heap.size + 1) (List.mem_cons_of_mem _ (List.mem_cons_self ..)))
  have z_c := fun j => cell_of_row W1 _ j _ _ _ hq
  have z_f := fun j => frozen_of_row W1 _ j _ _ hq
  go_wp2_with fail
  refine (HC.out _).mono ?_
  rintro e W2 ⟨rfl, hb⟩
  clear r0_c r1_c z_c z_f
  have hk := hk.far hb rfl
  have hq := rowk hq hb rfl
  clear hb
  have r0_c := fun j => cell_of_row W2 _ j _ _ _ (hk.row (g := w.heap.size) (List.mem_cons_self ..))
  have r1_c := fun j => cell_of_row W2 _ j _ _ _ (hk.row (g := w.heap.size + 1) (List.mem_cons_of_mem _ (List.mem_cons_self ..)))
  have z_c := fun j => cell_of_row W2 _ j _ _ _ hq
  have z_f := fun j => frozen_of_row W2 _ j _ _ hq
  go_wp2_with fail
  have hB := hk.2.2
  refine bodyPost_ret (v := .tuple #[.agg #[.int .i64 ((x + 3) % 6), .int .i64 ((y + 3) % 6)], .bool true]) (by simp [results, Try.results50, go_sem, z_c]) rfl ⟨rfl, ?_⟩
  exact (hB.setCell (by first | (simp; done) | (simp; omega)) _).setCell (by first | (simp; done) | (simp; omega)) _
set_option maxHeartbeats 2000000 in
theorem smc_n0 (a0 a1 a2 a3 a4 a5 : Int) (x y : Int) (HG : Hid (∀ w, Calls Try.prog 137 #[.agg #[.int .i64 a0, .int .i64 a1, .int .i64 a2, .int .i64 a3, .int .i64 a4, .int .i64 a5], .agg #[.int .i64 a0, .int .i64 a1, .int .i64 a2, .int .i64 a3, .int .i64 a4, .int .i64 a5]] w fun e w' => e = .returned (.bool false) ∧ Below w.heap.size w w')) (w : World) : Calls Try.prog 50 #[.agg #[.int .i64 a0, .int .i64 a1, .int .i64 a2, .int .i64 a3, .int .i64 a4, .int .i64 a5], .agg #[.int .i64 x, .int .i64 y]] w fun e w' => e = .returned (.tuple #[.agg #[.int .i64 0, .int .i64 0], .bool false]) ∧ Below w.heap.size w w' := by
  go_enter Try.func50, Try.ntmps50
  go_wp2_with fail
  generalize hW : (World.alloc _ _ : World) = W0
  have q0 : W0.heap[(w.heap.size : Nat)]? = some (Obj.cells #[.int .i64 a0, .int .i64 a1, .int .i64 a2, .int .i64 a3, .int .i64 a4, .int .i64 a5] 28 (0, 0)) := by
    rw [← hW]
    repeat (first | (refine alloc_at ?_; first | (simp; done) | (simp; omega)) | refine drew_row ?_ | refine alloc_past ?_ | assumption)
  have q1 : W0.heap[(w.heap.size + 1 : Nat)]? = some (Obj.cells #[.int .i64 x, .int .i64 y] 47 (0, 0)) := by
    rw [← hW]
    repeat (first | (refine alloc_at ?_; first | (simp; done) | (simp; omega)) | refine drew_row ?_ | refine alloc_past ?_ | assumption)
  have hq : W0.heap[(w.heap.size + 2 : Nat)]? = some (Obj.cells #[.int .i64 0, .int .i64 0] 47 (0, 0)) := by
    rw [← hW]
    repeat (first | (refine alloc_at ?_; first | (simp; done) | (simp; omega)) | refine drew_row ?_ | refine alloc_past ?_ | assumption)
  have hk : KR 2 [(w.heap.size, Obj.cells #[.int .i64 a0, .int .i64 a1, .int .i64 a2, .int .i64 a3, .int .i64 a4, .int .i64 a5] 28 (0, 0)), (w.heap.size + 1, Obj.cells #[.int .i64 x, .int .i64 y] 47 (0, 0))] w W0 := ⟨by simp [q0, q1], by rw [← hW]; simp, by rw [← hW]; (repeat (first | exact Below.refl _ _ | assumption | refine Below.setCell ?_ (by first | (simp; done) | (simp; omega)) _ | refine Below.alloc ?_ (by first | (simp; done) | (simp; omega)) _ | refine Below.drew ?_))⟩
  clear hW q0 q1
  have r0_c := fun j => cell_of_row W0 _ j _ _ _ (hk.row (g := w.heap.size) (List.mem_cons_self ..))
  have r1_c := fun j => cell_of_row W0 _ j _ _ _ (hk.row (g := w.heap.size + 1) (List.mem_cons_of_mem _ (List.mem_cons_self ..)))
  have z_c := fun j => cell_of_row W0 _ j _ _ _ hq
  have z_f := fun j => frozen_of_row W0 _ j _ _ hq
  go_wp2_with fail
  refine (HG.out _).mono ?_
  rintro e W1 ⟨rfl, hb⟩
  clear r0_c r1_c z_c z_f
  have hk := hk.far hb rfl
  have hq := rowk hq hb rfl
  clear hb
  have r0_c := fun j => cell_of_row W1 _ j _ _ _ (hk.row (g := w.heap.size) (List.mem_cons_self ..))
  have r1_c := fun j => cell_of_row W1 _ j _ _ _ (hk.row (g := w.heap.size + 1) (List.mem_cons_of_mem _ (List.mem_cons_self ..)))
  have z_c := fun j => cell_of_row W1 _ j _ _ _ hq
  have z_f := fun j => frozen_of_row W1 _ j _ _ hq
  go_wp2_with fail
  have hB := hk.2.2
  refine bodyPost_ret (v := .tuple #[.agg #[.int .i64 0, .int .i64 0], .bool false]) (by simp [results, Try.results50, go_sem, z_c]) rfl ⟨rfl, ?_⟩
  exact (hB.setCell (by first | (simp; done) | (simp; omega)) _).setCell (by first | (simp; done) | (simp; omega)) _
set_option maxHeartbeats 2000000 in
theorem smc_n1 (a0 a1 a2 a3 a4 a5 : Int) (x y : Int) (HG : Hid (∀ w, Calls Try.prog 137 #[.agg #[.int .i64 a0, .int .i64 a1, .int .i64 a2, .int .i64 a3, .int .i64 a4, .int .i64 a5], .agg #[.int .i64 a0, .int .i64 a1, .int .i64 a2, .int .i64 a3, .int .i64 a4, .int .i64 a5]] w fun e w' => e = .returned (.bool true) ∧ Below w.heap.size w w'))(HC : Hid (∀ w, Calls Try.prog 161 #[.agg #[.int .i64 x, .int .i64 y]] w fun e w' => e = .returned (.bool false) ∧ Below w.heap.size w w')) (w : World) : Calls Try.prog 50 #[.agg #[.int .i64 a0, .int .i64 a1, .int .i64 a2, .int .i64 a3, .int .i64 a4, .int .i64 a5], .agg #[.int .i64 x, .int .i64 y]] w fun e w' => e = .returned (.tuple #[.agg #[.int .i64 0, .int .i64 0], .bool false]) ∧ Below w.heap.size w w' := by
  go_enter Try.func50, Try.ntmps50
  go_wp2_with fail
  generalize hW : (World.alloc _ _ : World) = W0
  have q0 : W0.heap[(w.heap.size : Nat)]? = some (Obj.cells #[.int .i64 a0, .int .i64 a1, .int .i64 a2, .int .i64 a3, .int .i64 a4, .int .i64 a5] 28 (0, 0)) := by
    rw [← hW]
    repeat (first | (refine alloc_at ?_; first | (simp; done) | (simp; omega)) | refine drew_row ?_ | refine alloc_past ?_ | assumption)
  have q1 : W0.heap[(w.heap.size + 1 : Nat)]? = some (Obj.cells #[.int .i64 x, .int .i64 y] 47 (0, 0)) := by
    rw [← hW]
    repeat (first | (refine alloc_at ?_; first | (simp; done) | (simp; omega)) | refine drew_row ?_ | refine alloc_past ?_ | assumption)
  have hq : W0.heap[(w.heap.size + 2 : Nat)]? = some (Obj.cells #[.int .i64 0, .int .i64 0] 47 (0, 0)) := by
    rw [← hW]
    repeat (first | (refine alloc_at ?_; first | (simp; done) | (simp; omega)) | refine drew_row ?_ | refine alloc_past ?_ | assumption)
  have hk : KR 2 [(w.heap.size, Obj.cells #[.int .i64 a0, .int .i64 a1, .int .i64 a2, .int .i64 a3, .int .i64 a4, .int .i64 a5] 28 (0, 0)), (w.heap.size + 1, Obj.cells #[.int .i64 x, .int .i64 y] 47 (0, 0))] w W0 := ⟨by simp [q0, q1], by rw [← hW]; simp, by rw [← hW]; (repeat (first | exact Below.refl _ _ | assumption | refine Below.setCell ?_ (by first | (simp; done) | (simp; omega)) _ | refine Below.alloc ?_ (by first | (simp; done) | (simp; omega)) _ | refine Below.drew ?_))⟩
  clear hW q0 q1
  have r0_c := fun j => cell_of_row W0 _ j _ _ _ (hk.row (g := w.heap.size) (List.mem_cons_self ..))
  have r1_c := fun j => cell_of_row W0 _ j _ _ _ (hk.row (g := w.heap.size + 1) (List.mem_cons_of_mem _ (List.mem_cons_self ..)))
  have z_c := fun j => cell_of_row W0 _ j _ _ _ hq
  have z_f := fun j => frozen_of_row W0 _ j _ _ hq
  go_wp2_with fail
  refine (HG.out _).mono ?_
  rintro e W1 ⟨rfl, hb⟩
  clear r0_c r1_c z_c z_f
  have hk := hk.far hb rfl
  have hq := rowk hq hb rfl
  clear hb
  have r0_c := fun j => cell_of_row W1 _ j _ _ _ (hk.row (g := w.heap.size) (List.mem_cons_self ..))
  have r1_c := fun j => cell_of_row W1 _ j _ _ _ (hk.row (g := w.heap.size + 1) (List.mem_cons_of_mem _ (List.mem_cons_self ..)))
  have z_c := fun j => cell_of_row W1 _ j _ _ _ hq
  have z_f := fun j => frozen_of_row W1 _ j _ _ hq
  go_wp2_with fail
  refine (HC.out _).mono ?_
  rintro e W2 ⟨rfl, hb⟩
  clear r0_c r1_c z_c z_f
  have hk := hk.far hb rfl
  have hq := rowk hq hb rfl
  clear hb
  have r0_c := fun j => cell_of_row W2 _ j _ _ _ (hk.row (g := w.heap.size) (List.mem_cons_self ..))
  have r1_c := fun j => cell_of_row W2 _ j _ _ _ (hk.row (g := w.heap.size + 1) (List.mem_cons_of_mem _ (List.mem_cons_self ..)))
  have z_c := fun j => cell_of_row W2 _ j _ _ _ hq
  have z_f := fun j => frozen_of_row W2 _ j _ _ hq
  go_wp2_with fail
  have hB := hk.2.2
  refine bodyPost_ret (v := .tuple #[.agg #[.int .i64 0, .int .i64 0], .bool false]) (by simp [results, Try.results50, go_sem, z_c]) rfl ⟨rfl, ?_⟩
  exact (hB.setCell (by first | (simp; done) | (simp; omega)) _).setCell (by first | (simp; done) | (simp; omega)) _
set_option maxHeartbeats 2000000 in
theorem imc_yes (a0 a1 a2 a3 a4 a5 : Int) (x y : Int) (hx : 0 ≤ x ∧ x ≤ 5) (hy : 0 ≤ y ∧ y ≤ 5)(HG : Hid (∀ w, Calls Try.prog 141 #[.agg #[.int .i64 a0, .int .i64 a1, .int .i64 a2, .int .i64 a3, .int .i64 a4, .int .i64 a5]] w fun e w' => e = .returned (.bool true) ∧ Below w.heap.size w w'))(HC : Hid (∀ w, Calls Try.prog 165 #[.agg #[.int .i64 x, .int .i64 y]] w fun e w' => e = .returned (.bool true) ∧ Below w.heap.size w w'))(HR : Hid (∀ w, Calls Try.prog 166 #[.int .i64 (x + 3), .int .i64 (y + 3)] w fun e w' => e = .returned (.agg #[.int .i64 ((x + 3) % 6), .int .i64 ((y + 3) % 6)]) ∧ Below w.heap.size w w')) (w : World) : Calls Try.prog 52 #[.agg #[.int .i64 a0, .int .i64 a1, .int .i64 a2, .int .i64 a3, .int .i64 a4, .int .i64 a5], .agg #[.int .i64 x, .int .i64 y]] w fun e w' => e = .returned (.tuple #[.agg #[.int .i64 ((x + 3) % 6), .int .i64 ((y + 3) % 6)], .bool true]) ∧ Below w.heap.size w w' := by
  have hx0 : 0 ≤ x + 3 := by omega
  have hy0 : 0 ≤ y + 3 := by omega
  have hu : wrap64 (x + 3) = x + 3 := by unfold wrap64; omega
  have hv : wrap64 (y + 3) = y + 3 := by unfold wrap64; omega
  have hu2 : IntKind.i64.wrap (x + 3) = x + 3 := by rw [IntKind.wrap_i64]; omega
  have hv2 : IntKind.i64.wrap (y + 3) = y + 3 := by rw [IntKind.wrap_i64]; omega
  clear hx hy
  go_enter Try.func52, Try.ntmps52
  go_wp2_with fail
  generalize hW : (World.alloc _ _ : World) = W0
  have q0 : W0.heap[(w.heap.size : Nat)]? = some (Obj.cells #[.int .i64 a0, .int .i64 a1, .int .i64 a2, .int .i64 a3, .int .i64 a4, .int .i64 a5] 28 (0, 0)) := by
    rw [← hW]
    repeat (first | (refine alloc_at ?_; first | (simp; done) | (simp; omega)) | refine drew_row ?_ | refine alloc_past ?_ | assumption)
  have q1 : W0.heap[(w.heap.size + 1 : Nat)]? = some (Obj.cells #[.int .i64 x, .int .i64 y] 47 (0, 0)) := by
    rw [← hW]
    repeat (first | (refine alloc_at ?_; first | (simp; done) | (simp; omega)) | refine drew_row ?_ | refine alloc_past ?_ | assumption)
  have hq : W0.heap[(w.heap.size + 2 : Nat)]? = some (Obj.cells #[.int .i64 0, .int .i64 0] 47 (0, 0)) := by
    rw [← hW]
    repeat (first | (refine alloc_at ?_; first | (simp; done) | (simp; omega)) | refine drew_row ?_ | refine alloc_past ?_ | assumption)
  have hk : KR 2 [(w.heap.size, Obj.cells #[.int .i64 a0, .int .i64 a1, .int .i64 a2, .int .i64 a3, .int .i64 a4, .int .i64 a5] 28 (0, 0)), (w.heap.size + 1, Obj.cells #[.int .i64 x, .int .i64 y] 47 (0, 0))] w W0 := ⟨by simp [q0, q1], by rw [← hW]; simp, by rw [← hW]; (repeat (first | exact Below.refl _ _ | assumption | refine Below.setCell ?_ (by first | (simp; done) | (simp; omega)) _ | refine Below.alloc ?_ (by first | (simp; done) | (simp; omega)) _ | refine Below.drew ?_))⟩
  clear hW q0 q1
  have r0_c := fun j => cell_of_row W0 _ j _ _ _ (hk.row (g := w.heap.size) (List.mem_cons_self ..))
  have r1_c := fun j => cell_of_row W0 _ j _ _ _ (hk.row (g := w.heap.size + 1) (List.mem_cons_of_mem _ (List.mem_cons_self ..)))
  have z_c := fun j => cell_of_row W0 _ j _ _ _ hq
  have z_f := fun j => frozen_of_row W0 _ j _ _ hq
  go_wp2_with fail
  refine (HG.out _).mono ?_
  rintro e W1 ⟨rfl, hb⟩
  clear r0_c r1_c z_c z_f
  have hk := hk.far hb rfl
  have hq := rowk hq hb rfl
  clear hb
  have r0_c := fun j => cell_of_row W1 _ j _ _ _ (hk.row (g := w.heap.size) (List.mem_cons_self ..))
  have r1_c := fun j => cell_of_row W1 _ j _ _ _ (hk.row (g := w.heap.size + 1) (List.mem_cons_of_mem _ (List.mem_cons_self ..)))
  have z_c := fun j => cell_of_row W1 _ j _ _ _ hq
  have z_f := fun j => frozen_of_row W1 _ j _ _ hq
  go_wp2_with fail
  refine (HC.out _).mono ?_
  rintro e W2 ⟨rfl, hb⟩
  clear r0_c r1_c z_c z_f
  have hk := hk.far hb rfl
  have hq := rowk hq hb rfl
  clear hb
  have r0_c := fun j => cell_of_row W2 _ j _ _ _ (hk.row (g := w.heap.size) (List.mem_cons_self ..))
  have r1_c := fun j => cell_of_row W2 _ j _ _ _ (hk.row (g := w.heap.size + 1) (List.mem_cons_of_mem _ (List.mem_cons_self ..)))
  have z_c := fun j => cell_of_row W2 _ j _ _ _ hq
  have z_f := fun j => frozen_of_row W2 _ j _ _ hq
  go_wp2_with fail
  refine (HR.out _).mono ?_
  rintro e W3 ⟨rfl, hb⟩
  clear r0_c r1_c z_c z_f
  have hk := hk.far hb rfl
  have hq := rowk hq hb rfl
  clear hb
  have r0_c := fun j => cell_of_row W3 _ j _ _ _ (hk.row (g := w.heap.size) (List.mem_cons_self ..))
  have r1_c := fun j => cell_of_row W3 _ j _ _ _ (hk.row (g := w.heap.size + 1) (List.mem_cons_of_mem _ (List.mem_cons_self ..)))
  have z_c := fun j => cell_of_row W3 _ j _ _ _ hq
  have z_f := fun j => frozen_of_row W3 _ j _ _ hq
  go_wp2_with fail
  have hB := hk.2.2
  refine bodyPost_ret (v := .tuple #[.agg #[.int .i64 ((x + 3) % 6), .int .i64 ((y + 3) % 6)], .bool true]) (by simp [results, Try.results52, go_sem, z_c]) rfl ⟨rfl, ?_⟩
  exact (hB.setCell (by first | (simp; done) | (simp; omega)) _).setCell (by first | (simp; done) | (simp; omega)) _
set_option maxHeartbeats 2000000 in
theorem imc_n0 (a0 a1 a2 a3 a4 a5 : Int) (x y : Int) (HG : Hid (∀ w, Calls Try.prog 141 #[.agg #[.int .i64 a0, .int .i64 a1, .int .i64 a2, .int .i64 a3, .int .i64 a4, .int .i64 a5]] w fun e w' => e = .returned (.bool false) ∧ Below w.heap.size w w')) (w : World) : Calls Try.prog 52 #[.agg #[.int .i64 a0, .int .i64 a1, .int .i64 a2, .int .i64 a3, .int .i64 a4, .int .i64 a5], .agg #[.int .i64 x, .int .i64 y]] w fun e w' => e = .returned (.tuple #[.agg #[.int .i64 0, .int .i64 0], .bool false]) ∧ Below w.heap.size w w' := by
  go_enter Try.func52, Try.ntmps52
  go_wp2_with fail
  generalize hW : (World.alloc _ _ : World) = W0
  have q0 : W0.heap[(w.heap.size : Nat)]? = some (Obj.cells #[.int .i64 a0, .int .i64 a1, .int .i64 a2, .int .i64 a3, .int .i64 a4, .int .i64 a5] 28 (0, 0)) := by
    rw [← hW]
    repeat (first | (refine alloc_at ?_; first | (simp; done) | (simp; omega)) | refine drew_row ?_ | refine alloc_past ?_ | assumption)
  have q1 : W0.heap[(w.heap.size + 1 : Nat)]? = some (Obj.cells #[.int .i64 x, .int .i64 y] 47 (0, 0)) := by
    rw [← hW]
    repeat (first | (refine alloc_at ?_; first | (simp; done) | (simp; omega)) | refine drew_row ?_ | refine alloc_past ?_ | assumption)
  have hq : W0.heap[(w.heap.size + 2 : Nat)]? = some (Obj.cells #[.int .i64 0, .int .i64 0] 47 (0, 0)) := by
    rw [← hW]
    repeat (first | (refine alloc_at ?_; first | (simp; done) | (simp; omega)) | refine drew_row ?_ | refine alloc_past ?_ | assumption)
  have hk : KR 2 [(w.heap.size, Obj.cells #[.int .i64 a0, .int .i64 a1, .int .i64 a2, .int .i64 a3, .int .i64 a4, .int .i64 a5] 28 (0, 0)), (w.heap.size + 1, Obj.cells #[.int .i64 x, .int .i64 y] 47 (0, 0))] w W0 := ⟨by simp [q0, q1], by rw [← hW]; simp, by rw [← hW]; (repeat (first | exact Below.refl _ _ | assumption | refine Below.setCell ?_ (by first | (simp; done) | (simp; omega)) _ | refine Below.alloc ?_ (by first | (simp; done) | (simp; omega)) _ | refine Below.drew ?_))⟩
  clear hW q0 q1
  have r0_c := fun j => cell_of_row W0 _ j _ _ _ (hk.row (g := w.heap.size) (List.mem_cons_self ..))
  have r1_c := fun j => cell_of_row W0 _ j _ _ _ (hk.row (g := w.heap.size + 1) (List.mem_cons_of_mem _ (List.mem_cons_self ..)))
  have z_c := fun j => cell_of_row W0 _ j _ _ _ hq
  have z_f := fun j => frozen_of_row W0 _ j _ _ hq
  go_wp2_with fail
  refine (HG.out _).mono ?_
  rintro e W1 ⟨rfl, hb⟩
  clear r0_c r1_c z_c z_f
  have hk := hk.far hb rfl
  have hq := rowk hq hb rfl
  clear hb
  have r0_c := fun j => cell_of_row W1 _ j _ _ _ (hk.row (g := w.heap.size) (List.mem_cons_self ..))
  have r1_c := fun j => cell_of_row W1 _ j _ _ _ (hk.row (g := w.heap.size + 1) (List.mem_cons_of_mem _ (List.mem_cons_self ..)))
  have z_c := fun j => cell_of_row W1 _ j _ _ _ hq
  have z_f := fun j => frozen_of_row W1 _ j _ _ hq
  go_wp2_with fail
  have hB := hk.2.2
  refine bodyPost_ret (v := .tuple #[.agg #[.int .i64 0, .int .i64 0], .bool false]) (by simp [results, Try.results52, go_sem, z_c]) rfl ⟨rfl, ?_⟩
  exact (hB.setCell (by first | (simp; done) | (simp; omega)) _).setCell (by first | (simp; done) | (simp; omega)) _
set_option maxHeartbeats 2000000 in
theorem imc_n1 (a0 a1 a2 a3 a4 a5 : Int) (x y : Int) (HG : Hid (∀ w, Calls Try.prog 141 #[.agg #[.int .i64 a0, .int .i64 a1, .int .i64 a2, .int .i64 a3, .int .i64 a4, .int .i64 a5]] w fun e w' => e = .returned (.bool true) ∧ Below w.heap.size w w'))(HC : Hid (∀ w, Calls Try.prog 165 #[.agg #[.int .i64 x, .int .i64 y]] w fun e w' => e = .returned (.bool false) ∧ Below w.heap.size w w')) (w : World) : Calls Try.prog 52 #[.agg #[.int .i64 a0, .int .i64 a1, .int .i64 a2, .int .i64 a3, .int .i64 a4, .int .i64 a5], .agg #[.int .i64 x, .int .i64 y]] w fun e w' => e = .returned (.tuple #[.agg #[.int .i64 0, .int .i64 0], .bool false]) ∧ Below w.heap.size w w' := by
  go_enter Try.func52, Try.ntmps52
  go_wp2_with fail
  generalize hW : (World.alloc _ _ : World) = W0
  have q0 : W0.heap[(w.heap.size : Nat)]? = some (Obj.cells #[.int .i64 a0, .int .i64 a1, .int .i64 a2, .int .i64 a3, .int .i64 a4, .int .i64 a5] 28 (0, 0)) := by
    rw [← hW]
    repeat (first | (refine alloc_at ?_; first | (simp; done) | (simp; omega)) | refine drew_row ?_ | refine alloc_past ?_ | assumption)
  have q1 : W0.heap[(w.heap.size + 1 : Nat)]? = some (Obj.cells #[.int .i64 x, .int .i64 y] 47 (0, 0)) := by
    rw [← hW]
    repeat (first | (refine alloc_at ?_; first | (simp; done) | (simp; omega)) | refine drew_row ?_ | refine alloc_past ?_ | assumption)
  have hq : W0.heap[(w.heap.size + 2 : Nat)]? = some (Obj.cells #[.int .i64 0, .int .i64 0] 47 (0, 0)) := by
    rw [← hW]
    repeat (first | (refine alloc_at ?_; first | (simp; done) | (simp; omega)) | refine drew_row ?_ | refine alloc_past ?_ | assumption)
  have hk : KR 2 [(w.heap.size, Obj.cells #[.int .i64 a0, .int .i64 a1, .int .i64 a2, .int .i64 a3, .int .i64 a4, .int .i64 a5] 28 (0, 0)), (w.heap.size + 1, Obj.cells #[.int .i64 x, .int .i64 y] 47 (0, 0))] w W0 := ⟨by simp [q0, q1], by rw [← hW]; simp, by rw [← hW]; (repeat (first | exact Below.refl _ _ | assumption | refine Below.setCell ?_ (by first | (simp; done) | (simp; omega)) _ | refine Below.alloc ?_ (by first | (simp; done) | (simp; omega)) _ | refine Below.drew ?_))⟩
  clear hW q0 q1
  have r0_c := fun j => cell_of_row W0 _ j _ _ _ (hk.row (g := w.heap.size) (List.mem_cons_self ..))
  have r1_c := fun j => cell_of_row W0 _ j _ _ _ (hk.row (g := w.heap.size + 1) (List.mem_cons_of_mem _ (List.mem_cons_self ..)))
  have z_c := fun j => cell_of_row W0 _ j _ _ _ hq
  have z_f := fun j => frozen_of_row W0 _ j _ _ hq
  go_wp2_with fail
  refine (HG.out _).mono ?_
  rintro e W1 ⟨rfl, hb⟩
  clear r0_c r1_c z_c z_f
  have hk := hk.far hb rfl
  have hq := rowk hq hb rfl
  clear hb
  have r0_c := fun j => cell_of_row W1 _ j _ _ _ (hk.row (g := w.heap.size) (List.mem_cons_self ..))
  have r1_c := fun j => cell_of_row W1 _ j _ _ _ (hk.row (g := w.heap.size + 1) (List.mem_cons_of_mem _ (List.mem_cons_self ..)))
  have z_c := fun j => cell_of_row W1 _ j _ _ _ hq
  have z_f := fun j => frozen_of_row W1 _ j _ _ hq
  go_wp2_with fail
  refine (HC.out _).mono ?_
  rintro e W2 ⟨rfl, hb⟩
  clear r0_c r1_c z_c z_f
  have hk := hk.far hb rfl
  have hq := rowk hq hb rfl
  clear hb
  have r0_c := fun j => cell_of_row W2 _ j _ _ _ (hk.row (g := w.heap.size) (List.mem_cons_self ..))
  have r1_c := fun j => cell_of_row W2 _ j _ _ _ (hk.row (g := w.heap.size + 1) (List.mem_cons_of_mem _ (List.mem_cons_self ..)))
  have z_c := fun j => cell_of_row W2 _ j _ _ _ hq
  have z_f := fun j => frozen_of_row W2 _ j _ _ hq
  go_wp2_with fail
  have hB := hk.2.2
  refine bodyPost_ret (v := .tuple #[.agg #[.int .i64 0, .int .i64 0], .bool false]) (by simp [results, Try.results52, go_sem, z_c]) rfl ⟨rfl, ?_⟩
  exact (hB.setCell (by first | (simp; done) | (simp; omega)) _).setCell (by first | (simp; done) | (simp; omega)) _
theorem mcell_pair (a0 a1 a2 a3 a4 a5 : Int) (x y : Int) (hx : (Lit.int .i64 x).wf = true) (hy : (Lit.int .i64 y).wf = true) : ∃ (r0 r1 : Int) (t : Bool), (∀ w, Calls Try.prog 50 #[.agg #[.int .i64 a0, .int .i64 a1, .int .i64 a2, .int .i64 a3, .int .i64 a4, .int .i64 a5], .agg #[.int .i64 x, .int .i64 y]] w fun e w' => e = .returned (.tuple #[.agg #[.int .i64 r0, .int .i64 r1], .bool t]) ∧ Below w.heap.size w w') ∧ (∀ w, Calls Try.prog 52 #[.agg #[.int .i64 a0, .int .i64 a1, .int .i64 a2, .int .i64 a3, .int .i64 a4, .int .i64 a5], .agg #[.int .i64 x, .int .i64 y]] w fun e w' => e = .returned (.tuple #[.agg #[.int .i64 r0, .int .i64 r1], .bool t]) ∧ Below w.heap.size w w') := by
  have HG := lgood_any a0 a1 a2 a3 a4 a5 a0 a1 a2 a3 a4 a5
  have HS := istamp_any a0 a1 a2 a3 a4 a5
  have e : gd6 a0 a1 a2 a3 a4 a5 a0 a1 a2 a3 a4 a5 = ((ok a0 && ok a1 && ok a2 && ok a3 && ok a4 && ok a5) && nz6 a0 a1 a2 a3 a4 a5) := by
    unfold gd6
    rw [Bool.and_self]
  rw [e] at HG
  cases hv : ((ok a0 && ok a1 && ok a2 && ok a3 && ok a4 && ok a5) && nz6 a0 a1 a2 a3 a4 a5)
  · rw [hv] at HG HS
    exact ⟨0, 0, false, smc_n0 a0 a1 a2 a3 a4 a5 x y (Lib.hid HG), imc_n0 a0 a1 a2 a3 a4 a5 x y (Lib.hid HS)⟩
  · rw [hv] at HG HS
    cases hc : okc x y
    · exact ⟨0, 0, false, smc_n1 a0 a1 a2 a3 a4 a5 x y (Lib.hid HG) (ce_s x y hc), imc_n1 a0 a1 a2 a3 a4 a5 x y (Lib.hid HS) (ce_i x y hx hy hc)⟩
    · obtain ⟨h1, h2⟩ := okc_in hc
      exact ⟨_, _, true, smc_yes a0 a1 a2 a3 a4 a5 x y h1 h2 (Lib.hid HG) (ce_s x y hc), imc_yes a0 a1 a2 a3 a4 a5 x y h1 h2 (Lib.hid HS) (ce_i x y hx hy hc) (Lib.hid (around_any (x + 3) (y + 3) (WalkArith.wf_i64 (by omega)) (WalkArith.wf_i64 (by omega))))⟩
end Go.Proofs.Ytkjaaaefcmpokaa
