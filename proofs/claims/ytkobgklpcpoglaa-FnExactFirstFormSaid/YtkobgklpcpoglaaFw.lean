/- THE PAIR: FirstForm. -/
import Derived.Test.YtkobgklpcpoglaaFh
import Derived.Test.YtkobgklpcpoglaaFv6
import Derived.Test.YtkobgklpcpoglaaPb
import Derived.WalkKit
import Derived.ProofKit
import Derived.OpenShut
import Derived.Lib.Hide
import Derived.WalkSpells
import Derived.Below
import Derived.BigQuiet
import Derived.LoopN
namespace Go.Proofs.Ytkobgklpcpoglaa
open Go.ChangeShapes Go.WideShapes Go.ChangeAt Go.RowKit
set_option linter.unusedVariables false
set_option maxHeartbeats 1000000 in
theorem sff_yes (a0 a1 a2 a3 a4 a5 : Int) (r0 r1 r2 r3 r4 r5 : Int) (p q s : Int) (H0 : Hid (∀ w, Calls Try.prog 117 #[.agg #[.int .i64 a0, .int .i64 a1, .int .i64 a2, .int .i64 a3, .int .i64 a4, .int .i64 a5]] w fun e w' => e = .returned (.bool true) ∧ Below w.heap.size w w')) (HF : Hid (∀ w, Calls Try.prog 158 #[.agg #[.int .i64 a0, .int .i64 a1, .int .i64 a2, .int .i64 a3, .int .i64 a4, .int .i64 a5]] w fun e w' => e = .returned (.tuple #[.agg #[.int .i64 r0, .int .i64 r1, .int .i64 r2, .int .i64 r3, .int .i64 r4, .int .i64 r5], .agg #[.int .i64 p, .int .i64 q, .int .i64 s]]) ∧ Below w.heap.size w w')) (w : World) : Calls Try.prog 73 #[.agg #[.int .i64 a0, .int .i64 a1, .int .i64 a2, .int .i64 a3, .int .i64 a4, .int .i64 a5]] w fun e w' => e = .returned (.tuple #[.agg #[.int .i64 r0, .int .i64 r1, .int .i64 r2, .int .i64 r3, .int .i64 r4, .int .i64 r5], .agg #[.int .i64 p, .int .i64 q, .int .i64 s], .bool true]) ∧ Below w.heap.size w w' := by
  go_enter Try.func73, Try.ntmps73
  go_wp2_with fail
  generalize hW : (World.alloc _ _ : World) = W0
  have hB0 : Below w.heap.size w W0 := by rw [← hW]; (repeat (first | exact Below.refl _ _ | assumption | refine Below.setCell ?_ (by first | (simp; done) | (simp; omega)) _ | refine Below.alloc ?_ (by first | (simp; done) | (simp; omega)) _ | refine Below.drew ?_))
  have qa : W0.heap[(w.heap.size : Nat)]? = some (Obj.cells (#[.int .i64 a0, .int .i64 a1, .int .i64 a2, .int .i64 a3, .int .i64 a4, .int .i64 a5]) 25 (0, 0)) := by
    rw [← hW]
    repeat (first | (refine alloc_at ?_; first | (simp; done) | (simp; omega)) | refine drew_row ?_ | refine alloc_past ?_ | assumption)
  have qz : W0.heap[(w.heap.size + 1 : Nat)]? = some (Obj.cells (#[.int .i64 0, .int .i64 0, .int .i64 0, .int .i64 0, .int .i64 0, .int .i64 0]) 25 (0, 0)) := by
    rw [← hW]
    repeat (first | (refine alloc_at ?_; first | (simp; done) | (simp; omega)) | refine drew_row ?_ | refine alloc_past ?_ | assumption)
  have qy : W0.heap[(w.heap.size + 2 : Nat)]? = some (Obj.cells (#[.int .i64 0, .int .i64 0, .int .i64 0]) 62 (0, 0)) := by
    rw [← hW]
    repeat (first | (refine alloc_at ?_; first | (simp; done) | (simp; omega)) | refine drew_row ?_ | refine alloc_past ?_ | assumption)
  have K0 : KR 3 [(w.heap.size, .cells #[.int .i64 a0, .int .i64 a1, .int .i64 a2, .int .i64 a3, .int .i64 a4, .int .i64 a5] 25 (0, 0)), (w.heap.size + 1, .cells #[.int .i64 0, .int .i64 0, .int .i64 0, .int .i64 0, .int .i64 0, .int .i64 0] 25 (0, 0)), (w.heap.size + 2, .cells #[.int .i64 0, .int .i64 0, .int .i64 0] 62 (0, 0))] w W0 := ⟨by simp [qa, qz, qy], by rw [← hW]; simp, hB0⟩
  clear hW hB0 qa qz qy
  refine (H0.out _).mono ?_
  rintro e W1 ⟨rfl, hb⟩
  have K1 := K0.far hb rfl
  clear hb K0
  have a_c := fun j => cell_of_row W1 _ j _ _ _ (K1.row (g := w.heap.size) (List.mem_cons_self ..))
  go_wp2_with fail
  refine (HF.out _).mono ?_
  rintro e W2 ⟨rfl, hb⟩
  have K2 := K1.far hb rfl
  have hle := K2.le
  clear hb K1 a_c
  go_wp2_with fail
  have hA : ((W2.alloc (.cells #[.int .i64 r0, .int .i64 r1, .int .i64 r2, .int .i64 r3, .int .i64 r4, .int .i64 r5] 25)).alloc (.cells #[.int .i64 p, .int .i64 q, .int .i64 s] 62)).heap[W2.heap.size]? = some (.cells #[.int .i64 r0, .int .i64 r1, .int .i64 r2, .int .i64 r3, .int .i64 r4, .int .i64 r5] 25 (0, 0)) := alloc_past (alloc_at rfl)
  have hC : ((W2.alloc (.cells #[.int .i64 r0, .int .i64 r1, .int .i64 r2, .int .i64 r3, .int .i64 r4, .int .i64 r5] 25)).alloc (.cells #[.int .i64 p, .int .i64 q, .int .i64 s] 62)).heap[W2.heap.size + 1]? = some (.cells #[.int .i64 p, .int .i64 q, .int .i64 s] 62 (0, 0)) := alloc_at (by simp)
  have K3 := K2.al (o := .cells #[.int .i64 r0, .int .i64 r1, .int .i64 r2, .int .i64 r3, .int .i64 r4, .int .i64 r5] 25) |>.al (o := .cells #[.int .i64 p, .int .i64 q, .int .i64 s] 62)
  clear K2
  generalize (World.alloc _ _ : World) = X at hA hC K3 ⊢
  generalize W2.heap.size = G at hA hC hle ⊢
  have n1 : w.heap.size + 1 ≠ G := by omega
  have n2 : G ≠ w.heap.size + 1 := by omega
  have n3 : w.heap.size + 1 ≠ G + 1 := by omega
  have n4 : G + 1 ≠ w.heap.size + 1 := by omega
  have n5 : w.heap.size + 2 ≠ G := by omega
  have n6 : G ≠ w.heap.size + 2 := by omega
  have n7 : w.heap.size + 2 ≠ G + 1 := by omega
  have n8 : G + 1 ≠ w.heap.size + 2 := by omega
  have a_c := fun j => cell_of_row X _ j _ _ _ hA
  have c_c := fun j => cell_of_row X _ j _ _ _ hC
  have z1_c := fun j => cell_of_row X _ j _ _ _ (K3.row (g := w.heap.size + 1) (List.mem_cons_of_mem _ (List.mem_cons_self ..)))
  have z1_f := fun j => frozen_of_row X _ j _ _ (K3.row (g := w.heap.size + 1) (List.mem_cons_of_mem _ (List.mem_cons_self ..)))
  have z2_c := fun j => cell_of_row X _ j _ _ _ (K3.row (g := w.heap.size + 2) (List.mem_cons_of_mem _ (List.mem_cons_of_mem _ (List.mem_cons_self ..))))
  have z2_f := fun j => frozen_of_row X _ j _ _ (K3.row (g := w.heap.size + 2) (List.mem_cons_of_mem _ (List.mem_cons_of_mem _ (List.mem_cons_self ..))))
  have HK := Lib.hid K3
  clear hA K3 hC
  set_option maxRecDepth 8000 in
  go_region
  all_goals
    clear a_c c_c z1_c z1_f z2_c z2_f
    generalize hY : World.drew _ = Y
    have l1 : w.heap.size ≤ w.heap.size + 1 := by omega
    have l2 : w.heap.size ≤ w.heap.size + 2 := by omega
    have hB : Below w.heap.size w Y := by rw [← hY]; exact (((((((((HK.out.2.2.setCell l1 _).setCell l1 _).setCell l1 _).setCell l1 _).setCell l1 _).setCell l1 _).setCell l2 _).setCell l2 _).setCell l2 _).drew
    have ry : Y.heap[w.heap.size + 1]? = some (.cells #[.int .i64 r0, .int .i64 r1, .int .i64 r2, .int .i64 r3, .int .i64 r4, .int .i64 r5] 25 (0, 0)) := by rw [← hY]; exact drew_row (set3o _ _ _ (by omega) (row6 _ _ _ _ _ _ (HK.out.row (g := w.heap.size + 1) (List.mem_cons_of_mem _ (List.mem_cons_self ..)))))
    have rv : Y.heap[w.heap.size + 2]? = some (.cells #[.int .i64 p, .int .i64 q, .int .i64 s] 62 (0, 0)) := by rw [← hY]; exact drew_row (set3r _ _ _ (set6q _ _ _ _ _ _ (by omega) (HK.out.row (g := w.heap.size + 2) (List.mem_cons_of_mem _ (List.mem_cons_of_mem _ (List.mem_cons_self ..))))))
    clear hY
    have y_c := fun j => cell_of_row Y _ j _ _ _ ry
    have v_c := fun j => cell_of_row Y _ j _ _ _ rv
    go_wp2_with fail
    exact bodyPost_ret (v := .tuple #[.agg #[.int .i64 r0, .int .i64 r1, .int .i64 r2, .int .i64 r3, .int .i64 r4, .int .i64 r5], .agg #[.int .i64 p, .int .i64 q, .int .i64 s], .bool true]) (by simp [results, Try.results73, go_sem, y_c, v_c]) rfl ⟨rfl, hB⟩
set_option maxHeartbeats 1000000 in
theorem sff_no0 (a0 a1 a2 a3 a4 a5 : Int) (H0 : Hid (∀ w, Calls Try.prog 117 #[.agg #[.int .i64 a0, .int .i64 a1, .int .i64 a2, .int .i64 a3, .int .i64 a4, .int .i64 a5]] w fun e w' => e = .returned (.bool false) ∧ Below w.heap.size w w')) (w : World) : Calls Try.prog 73 #[.agg #[.int .i64 a0, .int .i64 a1, .int .i64 a2, .int .i64 a3, .int .i64 a4, .int .i64 a5]] w fun e w' => e = .returned (.tuple #[.agg #[.int .i64 (0), .int .i64 (0), .int .i64 (0), .int .i64 (0), .int .i64 (0), .int .i64 (0)], .agg #[.int .i64 0, .int .i64 0, .int .i64 0], .bool false]) ∧ Below w.heap.size w w' := by
  go_enter Try.func73, Try.ntmps73
  go_wp2_with fail
  generalize hW : (World.alloc _ _ : World) = W0
  have hB0 : Below w.heap.size w W0 := by rw [← hW]; (repeat (first | exact Below.refl _ _ | assumption | refine Below.setCell ?_ (by first | (simp; done) | (simp; omega)) _ | refine Below.alloc ?_ (by first | (simp; done) | (simp; omega)) _ | refine Below.drew ?_))
  have qa : W0.heap[(w.heap.size : Nat)]? = some (Obj.cells (#[.int .i64 a0, .int .i64 a1, .int .i64 a2, .int .i64 a3, .int .i64 a4, .int .i64 a5]) 25 (0, 0)) := by
    rw [← hW]
    repeat (first | (refine alloc_at ?_; first | (simp; done) | (simp; omega)) | refine drew_row ?_ | refine alloc_past ?_ | assumption)
  have qz : W0.heap[(w.heap.size + 1 : Nat)]? = some (Obj.cells (#[.int .i64 0, .int .i64 0, .int .i64 0, .int .i64 0, .int .i64 0, .int .i64 0]) 25 (0, 0)) := by
    rw [← hW]
    repeat (first | (refine alloc_at ?_; first | (simp; done) | (simp; omega)) | refine drew_row ?_ | refine alloc_past ?_ | assumption)
  have qy : W0.heap[(w.heap.size + 2 : Nat)]? = some (Obj.cells (#[.int .i64 0, .int .i64 0, .int .i64 0]) 62 (0, 0)) := by
    rw [← hW]
    repeat (first | (refine alloc_at ?_; first | (simp; done) | (simp; omega)) | refine drew_row ?_ | refine alloc_past ?_ | assumption)
  have K0 : KR 3 [(w.heap.size, .cells #[.int .i64 a0, .int .i64 a1, .int .i64 a2, .int .i64 a3, .int .i64 a4, .int .i64 a5] 25 (0, 0)), (w.heap.size + 1, .cells #[.int .i64 0, .int .i64 0, .int .i64 0, .int .i64 0, .int .i64 0, .int .i64 0] 25 (0, 0)), (w.heap.size + 2, .cells #[.int .i64 0, .int .i64 0, .int .i64 0] 62 (0, 0))] w W0 := ⟨by simp [qa, qz, qy], by rw [← hW]; simp, hB0⟩
  clear hW hB0 qa qz qy
  refine (H0.out _).mono ?_
  rintro e W1 ⟨rfl, hb⟩
  have K1 := K0.far hb rfl
  clear hb K0
  have a_c := fun j => cell_of_row W1 _ j _ _ _ (K1.row (g := w.heap.size) (List.mem_cons_self ..))
  have z1_c := fun j => cell_of_row W1 _ j _ _ _ (K1.row (g := w.heap.size + 1) (List.mem_cons_of_mem _ (List.mem_cons_self ..)))
  have z1_f := fun j => frozen_of_row W1 _ j _ _ (K1.row (g := w.heap.size + 1) (List.mem_cons_of_mem _ (List.mem_cons_self ..)))
  have z2_c := fun j => cell_of_row W1 _ j _ _ _ (K1.row (g := w.heap.size + 2) (List.mem_cons_of_mem _ (List.mem_cons_of_mem _ (List.mem_cons_self ..))))
  have z2_f := fun j => frozen_of_row W1 _ j _ _ (K1.row (g := w.heap.size + 2) (List.mem_cons_of_mem _ (List.mem_cons_of_mem _ (List.mem_cons_self ..))))
  go_wp2_with fail
  clear a_c z1_c z1_f z2_c z2_f
  generalize hY : (World.setCell _ _ _ : World) = Y
  have l1 : w.heap.size ≤ w.heap.size + 1 := by omega
  have l2 : w.heap.size ≤ w.heap.size + 2 := by omega
  have hB : Below w.heap.size w Y := by rw [← hY]; exact (((((((((K1.2.2.setCell l1 _).setCell l1 _).setCell l1 _).setCell l1 _).setCell l1 _).setCell l1 _).setCell l2 _).setCell l2 _).setCell l2 _)
  have ry : Y.heap[w.heap.size + 1]? = some (.cells #[.int .i64 0, .int .i64 0, .int .i64 0, .int .i64 0, .int .i64 0, .int .i64 0] 25 (0, 0)) := by rw [← hY]; exact set3o _ _ _ (by omega) (row6 _ _ _ _ _ _ (K1.row (g := w.heap.size + 1) (List.mem_cons_of_mem _ (List.mem_cons_self ..))))
  have rv : Y.heap[w.heap.size + 2]? = some (.cells #[.int .i64 0, .int .i64 0, .int .i64 0] 62 (0, 0)) := by rw [← hY]; exact set3r _ _ _ (set6q _ _ _ _ _ _ (by omega) (K1.row (g := w.heap.size + 2) (List.mem_cons_of_mem _ (List.mem_cons_of_mem _ (List.mem_cons_self ..)))))
  clear hY
  have y_c := fun j => cell_of_row Y _ j _ _ _ ry
  have v_c := fun j => cell_of_row Y _ j _ _ _ rv
  exact bodyPost_ret (v := .tuple #[.agg #[.int .i64 (0), .int .i64 (0), .int .i64 (0), .int .i64 (0), .int .i64 (0), .int .i64 (0)], .agg #[.int .i64 0, .int .i64 0, .int .i64 0], .bool false]) (by simp [results, Try.results73, go_sem, y_c, v_c]) rfl ⟨rfl, hB⟩
set_option maxHeartbeats 1000000 in
theorem iff_no0 (a0 a1 a2 a3 a4 a5 : Int) (H0 : Hid (∀ w, Calls Try.prog 64 #[.agg #[.int .i64 a0, .int .i64 a1, .int .i64 a2, .int .i64 a3, .int .i64 a4, .int .i64 a5]] w fun e w' => e = .returned (.bool false) ∧ Below w.heap.size w w')) (w : World) : Calls Try.prog 74 #[.agg #[.int .i64 a0, .int .i64 a1, .int .i64 a2, .int .i64 a3, .int .i64 a4, .int .i64 a5]] w fun e w' => e = .returned (.tuple #[.agg #[.int .i64 (0), .int .i64 (0), .int .i64 (0), .int .i64 (0), .int .i64 (0), .int .i64 (0)], .agg #[.int .i64 0, .int .i64 0, .int .i64 0], .bool false]) ∧ Below w.heap.size w w' := by
  go_enter Try.func74, Try.ntmps74
  go_wp2_with fail
  generalize hW : (World.alloc _ _ : World) = W0
  have hB0 : Below w.heap.size w W0 := by rw [← hW]; (repeat (first | exact Below.refl _ _ | assumption | refine Below.setCell ?_ (by first | (simp; done) | (simp; omega)) _ | refine Below.alloc ?_ (by first | (simp; done) | (simp; omega)) _ | refine Below.drew ?_))
  have qa : W0.heap[(w.heap.size : Nat)]? = some (Obj.cells (#[.int .i64 a0, .int .i64 a1, .int .i64 a2, .int .i64 a3, .int .i64 a4, .int .i64 a5]) 25 (0, 0)) := by
    rw [← hW]
    repeat (first | (refine alloc_at ?_; first | (simp; done) | (simp; omega)) | refine drew_row ?_ | refine alloc_past ?_ | assumption)
  have qz : W0.heap[(w.heap.size + 1 : Nat)]? = some (Obj.cells (#[.int .i64 0, .int .i64 0, .int .i64 0, .int .i64 0, .int .i64 0, .int .i64 0]) 25 (0, 0)) := by
    rw [← hW]
    repeat (first | (refine alloc_at ?_; first | (simp; done) | (simp; omega)) | refine drew_row ?_ | refine alloc_past ?_ | assumption)
  have qy : W0.heap[(w.heap.size + 2 : Nat)]? = some (Obj.cells (#[.int .i64 0, .int .i64 0, .int .i64 0]) 62 (0, 0)) := by
    rw [← hW]
    repeat (first | (refine alloc_at ?_; first | (simp; done) | (simp; omega)) | refine drew_row ?_ | refine alloc_past ?_ | assumption)
  have K0 : KR 3 [(w.heap.size, .cells #[.int .i64 a0, .int .i64 a1, .int .i64 a2, .int .i64 a3, .int .i64 a4, .int .i64 a5] 25 (0, 0)), (w.heap.size + 1, .cells #[.int .i64 0, .int .i64 0, .int .i64 0, .int .i64 0, .int .i64 0, .int .i64 0] 25 (0, 0)), (w.heap.size + 2, .cells #[.int .i64 0, .int .i64 0, .int .i64 0] 62 (0, 0))] w W0 := ⟨by simp [qa, qz, qy], by rw [← hW]; simp, hB0⟩
  clear hW hB0 qa qz qy
  refine (H0.out _).mono ?_
  rintro e W1 ⟨rfl, hb⟩
  have K1 := K0.far hb rfl
  clear hb K0
  have a_c := fun j => cell_of_row W1 _ j _ _ _ (K1.row (g := w.heap.size) (List.mem_cons_self ..))
  have z1_c := fun j => cell_of_row W1 _ j _ _ _ (K1.row (g := w.heap.size + 1) (List.mem_cons_of_mem _ (List.mem_cons_self ..)))
  have z1_f := fun j => frozen_of_row W1 _ j _ _ (K1.row (g := w.heap.size + 1) (List.mem_cons_of_mem _ (List.mem_cons_self ..)))
  have z2_c := fun j => cell_of_row W1 _ j _ _ _ (K1.row (g := w.heap.size + 2) (List.mem_cons_of_mem _ (List.mem_cons_of_mem _ (List.mem_cons_self ..))))
  have z2_f := fun j => frozen_of_row W1 _ j _ _ (K1.row (g := w.heap.size + 2) (List.mem_cons_of_mem _ (List.mem_cons_of_mem _ (List.mem_cons_self ..))))
  go_wp2_with fail
  clear a_c z1_c z1_f z2_c z2_f
  generalize hY : (World.setCell _ _ _ : World) = Y
  have l1 : w.heap.size ≤ w.heap.size + 1 := by omega
  have l2 : w.heap.size ≤ w.heap.size + 2 := by omega
  have hB : Below w.heap.size w Y := by rw [← hY]; exact (((((((((K1.2.2.setCell l1 _).setCell l1 _).setCell l1 _).setCell l1 _).setCell l1 _).setCell l1 _).setCell l2 _).setCell l2 _).setCell l2 _)
  have ry : Y.heap[w.heap.size + 1]? = some (.cells #[.int .i64 0, .int .i64 0, .int .i64 0, .int .i64 0, .int .i64 0, .int .i64 0] 25 (0, 0)) := by rw [← hY]; exact set3o _ _ _ (by omega) (row6 _ _ _ _ _ _ (K1.row (g := w.heap.size + 1) (List.mem_cons_of_mem _ (List.mem_cons_self ..))))
  have rv : Y.heap[w.heap.size + 2]? = some (.cells #[.int .i64 0, .int .i64 0, .int .i64 0] 62 (0, 0)) := by rw [← hY]; exact set3r _ _ _ (set6q _ _ _ _ _ _ (by omega) (K1.row (g := w.heap.size + 2) (List.mem_cons_of_mem _ (List.mem_cons_of_mem _ (List.mem_cons_self ..)))))
  clear hY
  have y_c := fun j => cell_of_row Y _ j _ _ _ ry
  have v_c := fun j => cell_of_row Y _ j _ _ _ rv
  exact bodyPost_ret (v := .tuple #[.agg #[.int .i64 (0), .int .i64 (0), .int .i64 (0), .int .i64 (0), .int .i64 (0), .int .i64 (0)], .agg #[.int .i64 0, .int .i64 0, .int .i64 0], .bool false]) (by simp [results, Try.results74, go_sem, y_c, v_c]) rfl ⟨rfl, hB⟩
theorem fform_pair (a0 a1 a2 a3 a4 a5 : Int) : ∃ (r0 r1 r2 r3 r4 r5 p q s : Int) (t : Bool), (∀ w, Calls Try.prog 73 #[.agg #[.int .i64 a0, .int .i64 a1, .int .i64 a2, .int .i64 a3, .int .i64 a4, .int .i64 a5]] w fun e w' => e = .returned (.tuple #[.agg #[.int .i64 r0, .int .i64 r1, .int .i64 r2, .int .i64 r3, .int .i64 r4, .int .i64 r5], .agg #[.int .i64 p, .int .i64 q, .int .i64 s], .bool t]) ∧ Below w.heap.size w w') ∧ (∀ w, Calls Try.prog 74 #[.agg #[.int .i64 a0, .int .i64 a1, .int .i64 a2, .int .i64 a3, .int .i64 a4, .int .i64 a5]] w fun e w' => e = .returned (.tuple #[.agg #[.int .i64 r0, .int .i64 r1, .int .i64 r2, .int .i64 r3, .int .i64 r4, .int .i64 r5], .agg #[.int .i64 p, .int .i64 q, .int .i64 s], .bool t]) ∧ Below w.heap.size w w') := by
  cases hv : (ok a0 && ok a1 && ok a2 && ok a3 && ok a4 && ok a5)
  · exact ⟨0, 0, 0, 0, 0, 0, 0, 0, 0, false, fun w => sff_no0 a0 a1 a2 a3 a4 a5 (sh_as a0 a1 a2 a3 a4 a5 hv) w, fun w => iff_no0 a0 a1 a2 a3 a4 a5 (sh_ai a0 a1 a2 a3 a4 a5 hv) w⟩
  · have Hs := sh_as a0 a1 a2 a3 a4 a5 hv
    have Hi := sh_ai a0 a1 a2 a3 a4 a5 hv
    obtain ⟨f, rfl, rfl, rfl, rfl, rfl, rfl⟩ := sheet_bits a0 a1 a2 a3 a4 a5 hv
    have h1 := lform_f f
    have e0 : (L1 6 8)[0]'(by rw [len68]; decide) = (0, 0, 0) := rfl
    have h2 := fun B g cap w hg ho => first_f f (L1 6 8) mos68b (by rw [len68]; decide) (by rw [len68]; decide) B g cap w hg ho
    rw [e0] at h2
    obtain ⟨d, hd⟩ : ∃ d, bs f (0, 0, 0) (L1 6 8) = d := ⟨_, rfl⟩
    rw [hd] at h1 h2
    simp only [img, mkey] at h1 h2
    exact ⟨_, _, _, _, _, _, _, _, _, true, fun w => sff_yes (rowv (f 0)) (rowv (f 1)) (rowv (f 2)) (rowv (f 3)) (rowv (f 4)) (rowv (f 5)) (rowv (sf d.2.1 d.2.2 (tf d.1 f) 0)) (rowv (sf d.2.1 d.2.2 (tf d.1 f) 1)) (rowv (sf d.2.1 d.2.2 (tf d.1 f) 2)) (rowv (sf d.2.1 d.2.2 (tf d.1 f) 3)) (rowv (sf d.2.1 d.2.2 (tf d.1 f) 4)) (rowv (sf d.2.1 d.2.2 (tf d.1 f) 5)) _ _ _ Hs (Lib.hid h1) w, fun w => iff_yes (rowv (f 0)) (rowv (f 1)) (rowv (f 2)) (rowv (f 3)) (rowv (f 4)) (rowv (f 5)) (rowv (sf d.2.1 d.2.2 (tf d.1 f) 0)) (rowv (sf d.2.1 d.2.2 (tf d.1 f) 1)) (rowv (sf d.2.1 d.2.2 (tf d.1 f) 2)) (rowv (sf d.2.1 d.2.2 (tf d.1 f) 3)) (rowv (sf d.2.1 d.2.2 (tf d.1 f) 4)) (rowv (sf d.2.1 d.2.2 (tf d.1 f) 5)) _ _ _ Hi (Lib.hid h2) w⟩
end Go.Proofs.Ytkobgklpcpoglaa
