/- CONTRACTS: OtherOf, IsPart, IsBlack, FlipCell and SizeOf of the model; IsBlack of the code: they test their arguments, and then call one function. -/
import Derived.Test.YtnkjamdpafpcpaaSc
import Derived.Test.YtnkjamdpafpcpaaKp
import Derived.WalkKit
import Derived.ProofKit
import Derived.OpenShut
import Derived.Lib.Hide
import Derived.WalkSpells
import Derived.Below
import Derived.BigQuiet
import Derived.LoopN
namespace Go.Proofs.Ytnkjamdpafpcpaa
open Go.ChangeShapes Go.WideShapes Go.ChangeAt Go.RowKit
set_option linter.unusedVariables false
set_option maxHeartbeats 1000000 in
theorem sother_yes (a0 a1 a2 a3 a4 a5 : Int) (r0 r1 r2 r3 r4 r5 : Int) (H0 : Hid (∀ w, Calls Try.prog 106 #[.agg #[.int .i64 a0, .int .i64 a1, .int .i64 a2, .int .i64 a3, .int .i64 a4, .int .i64 a5]] w fun e w' => e = .returned (.bool true) ∧ Below w.heap.size w w')) (HF : Hid (∀ w, Calls Try.prog 167 #[.agg #[.int .i64 a0, .int .i64 a1, .int .i64 a2, .int .i64 a3, .int .i64 a4, .int .i64 a5]] w fun e w' => e = .returned (.agg #[.int .i64 r0, .int .i64 r1, .int .i64 r2, .int .i64 r3, .int .i64 r4, .int .i64 r5]) ∧ Below w.heap.size w w')) (w : World) : Calls Try.prog 77 #[.agg #[.int .i64 a0, .int .i64 a1, .int .i64 a2, .int .i64 a3, .int .i64 a4, .int .i64 a5]] w fun e w' => e = .returned (.tuple #[.agg #[.int .i64 r0, .int .i64 r1, .int .i64 r2, .int .i64 r3, .int .i64 r4, .int .i64 r5], .bool true]) ∧ Below w.heap.size w w' := by
  go_enter Try.func77, Try.ntmps77
  go_wp2_with fail
  generalize hW : (World.alloc _ _ : World) = W0
  have hB0 : Below w.heap.size w W0 := by rw [← hW]; (repeat (first | exact Below.refl _ _ | assumption | refine Below.setCell ?_ (by first | (simp; done) | (simp; omega)) _ | refine Below.alloc ?_ (by first | (simp; done) | (simp; omega)) _ | refine Below.drew ?_))
  have qa : W0.heap[(w.heap.size : Nat)]? = some (Obj.cells (#[.int .i64 a0, .int .i64 a1, .int .i64 a2, .int .i64 a3, .int .i64 a4, .int .i64 a5]) 28 (0, 0)) := by
    rw [← hW]
    repeat (first | (refine alloc_at ?_; first | (simp; done) | (simp; omega)) | refine drew_row ?_ | refine alloc_past ?_ | assumption)
  have qz : W0.heap[(w.heap.size + 1 : Nat)]? = some (Obj.cells (#[.int .i64 0, .int .i64 0, .int .i64 0, .int .i64 0, .int .i64 0, .int .i64 0]) 28 (0, 0)) := by
    rw [← hW]
    repeat (first | (refine alloc_at ?_; first | (simp; done) | (simp; omega)) | refine drew_row ?_ | refine alloc_past ?_ | assumption)
  clear hW
  refine (H0.out _).mono ?_
  rintro e W1 ⟨rfl, hb⟩
  have nqa := rowk qa hb rfl
  have nqz := rowk qz hb rfl
  have hB1 := below_of hB0 hb hB0.size
  clear hb hB0 qa qz
  have qa := nqa
  have qz := nqz
  clear nqa nqz
  have qa_c := fun j => cell_of_row W1 _ j _ _ _ qa
  have qa_f := fun j => frozen_of_row W1 _ j _ _ qa
  have qz_c := fun j => cell_of_row W1 _ j _ _ _ qz
  have qz_f := fun j => frozen_of_row W1 _ j _ _ qz
  go_wp2_with fail
  refine (HF.out _).mono ?_
  rintro e W2 ⟨rfl, hb⟩
  have nqa := rowk qa hb rfl
  have nqz := rowk qz hb rfl
  have hB2 := below_of hB1 hb hB1.size
  clear hb hB1 qa qz qa_c qa_f qz_c qz_f
  have qa := nqa
  have qz := nqz
  clear nqa nqz
  have qa_c := fun j => cell_of_row W2 _ j _ _ _ qa
  have qa_f := fun j => frozen_of_row W2 _ j _ _ qa
  have qz_c := fun j => cell_of_row W2 _ j _ _ _ qz
  have qz_f := fun j => frozen_of_row W2 _ j _ _ qz
  go_wp2_with fail
  refine bodyPost_ret (v := .tuple #[.agg #[.int .i64 r0, .int .i64 r1, .int .i64 r2, .int .i64 r3, .int .i64 r4, .int .i64 r5], .bool true]) (by simp [results, Try.results77, go_sem, qz_c]) rfl ⟨rfl, ?_⟩
  exact below6 hB2 (by omega)
set_option maxHeartbeats 1000000 in
theorem sother_no0 (a0 a1 a2 a3 a4 a5 : Int) (H0 : Hid (∀ w, Calls Try.prog 106 #[.agg #[.int .i64 a0, .int .i64 a1, .int .i64 a2, .int .i64 a3, .int .i64 a4, .int .i64 a5]] w fun e w' => e = .returned (.bool false) ∧ Below w.heap.size w w')) (w : World) : Calls Try.prog 77 #[.agg #[.int .i64 a0, .int .i64 a1, .int .i64 a2, .int .i64 a3, .int .i64 a4, .int .i64 a5]] w fun e w' => e = .returned (.tuple #[.agg #[.int .i64 0, .int .i64 0, .int .i64 0, .int .i64 0, .int .i64 0, .int .i64 0], .bool false]) ∧ Below w.heap.size w w' := by
  go_enter Try.func77, Try.ntmps77
  go_wp2_with fail
  generalize hW : (World.alloc _ _ : World) = W0
  have hB0 : Below w.heap.size w W0 := by rw [← hW]; (repeat (first | exact Below.refl _ _ | assumption | refine Below.setCell ?_ (by first | (simp; done) | (simp; omega)) _ | refine Below.alloc ?_ (by first | (simp; done) | (simp; omega)) _ | refine Below.drew ?_))
  have qa : W0.heap[(w.heap.size : Nat)]? = some (Obj.cells (#[.int .i64 a0, .int .i64 a1, .int .i64 a2, .int .i64 a3, .int .i64 a4, .int .i64 a5]) 28 (0, 0)) := by
    rw [← hW]
    repeat (first | (refine alloc_at ?_; first | (simp; done) | (simp; omega)) | refine drew_row ?_ | refine alloc_past ?_ | assumption)
  have qz : W0.heap[(w.heap.size + 1 : Nat)]? = some (Obj.cells (#[.int .i64 0, .int .i64 0, .int .i64 0, .int .i64 0, .int .i64 0, .int .i64 0]) 28 (0, 0)) := by
    rw [← hW]
    repeat (first | (refine alloc_at ?_; first | (simp; done) | (simp; omega)) | refine drew_row ?_ | refine alloc_past ?_ | assumption)
  clear hW
  refine (H0.out _).mono ?_
  rintro e W1 ⟨rfl, hb⟩
  have nqa := rowk qa hb rfl
  have nqz := rowk qz hb rfl
  have hB1 := below_of hB0 hb hB0.size
  clear hb hB0 qa qz
  have qa := nqa
  have qz := nqz
  clear nqa nqz
  have qa_c := fun j => cell_of_row W1 _ j _ _ _ qa
  have qa_f := fun j => frozen_of_row W1 _ j _ _ qa
  have qz_c := fun j => cell_of_row W1 _ j _ _ _ qz
  have qz_f := fun j => frozen_of_row W1 _ j _ _ qz
  go_wp2_with fail
  refine bodyPost_ret (v := .tuple #[.agg #[.int .i64 0, .int .i64 0, .int .i64 0, .int .i64 0, .int .i64 0, .int .i64 0], .bool false]) (by simp [results, Try.results77, go_sem, qz_c]) rfl ⟨rfl, ?_⟩
  exact below6 hB1 (by omega)
set_option maxHeartbeats 1000000 in
theorem spart_yes (a0 a1 a2 a3 a4 a5 : Int) (b0 b1 b2 b3 b4 b5 : Int) (r : Bool) (H0 : Hid (∀ w, Calls Try.prog 106 #[.agg #[.int .i64 a0, .int .i64 a1, .int .i64 a2, .int .i64 a3, .int .i64 a4, .int .i64 a5]] w fun e w' => e = .returned (.bool true) ∧ Below w.heap.size w w')) (H1 : Hid (∀ w, Calls Try.prog 106 #[.agg #[.int .i64 b0, .int .i64 b1, .int .i64 b2, .int .i64 b3, .int .i64 b4, .int .i64 b5]] w fun e w' => e = .returned (.bool true) ∧ Below w.heap.size w w')) (HF : Hid (∀ w, Calls Try.prog 161 #[.agg #[.int .i64 a0, .int .i64 a1, .int .i64 a2, .int .i64 a3, .int .i64 a4, .int .i64 a5], .agg #[.int .i64 b0, .int .i64 b1, .int .i64 b2, .int .i64 b3, .int .i64 b4, .int .i64 b5]] w fun e w' => e = .returned (.bool r) ∧ Below w.heap.size w w')) (w : World) : Calls Try.prog 70 #[.agg #[.int .i64 a0, .int .i64 a1, .int .i64 a2, .int .i64 a3, .int .i64 a4, .int .i64 a5], .agg #[.int .i64 b0, .int .i64 b1, .int .i64 b2, .int .i64 b3, .int .i64 b4, .int .i64 b5]] w fun e w' => e = .returned (.tuple #[.bool r, .bool true]) ∧ Below w.heap.size w w' := by
  go_enter Try.func70, Try.ntmps70
  go_wp2_with fail
  generalize hW : (World.alloc _ _ : World) = W0
  have hB0 : Below w.heap.size w W0 := by rw [← hW]; (repeat (first | exact Below.refl _ _ | assumption | refine Below.setCell ?_ (by first | (simp; done) | (simp; omega)) _ | refine Below.alloc ?_ (by first | (simp; done) | (simp; omega)) _ | refine Below.drew ?_))
  have qa : W0.heap[(w.heap.size : Nat)]? = some (Obj.cells (#[.int .i64 a0, .int .i64 a1, .int .i64 a2, .int .i64 a3, .int .i64 a4, .int .i64 a5]) 28 (0, 0)) := by
    rw [← hW]
    repeat (first | (refine alloc_at ?_; first | (simp; done) | (simp; omega)) | refine drew_row ?_ | refine alloc_past ?_ | assumption)
  have qb : W0.heap[(w.heap.size + 1 : Nat)]? = some (Obj.cells (#[.int .i64 b0, .int .i64 b1, .int .i64 b2, .int .i64 b3, .int .i64 b4, .int .i64 b5]) 28 (0, 0)) := by
    rw [← hW]
    repeat (first | (refine alloc_at ?_; first | (simp; done) | (simp; omega)) | refine drew_row ?_ | refine alloc_past ?_ | assumption)
  clear hW
  refine (H0.out _).mono ?_
  rintro e W1 ⟨rfl, hb⟩
  have nqa := rowk qa hb rfl
  have nqb := rowk qb hb rfl
  have hB1 := below_of hB0 hb hB0.size
  clear hb hB0 qa qb
  have qa := nqa
  have qb := nqb
  clear nqa nqb
  have qa_c := fun j => cell_of_row W1 _ j _ _ _ qa
  have qa_f := fun j => frozen_of_row W1 _ j _ _ qa
  have qb_c := fun j => cell_of_row W1 _ j _ _ _ qb
  have qb_f := fun j => frozen_of_row W1 _ j _ _ qb
  go_wp2_with fail
  refine (H1.out _).mono ?_
  rintro e W2 ⟨rfl, hb⟩
  have nqa := rowk qa hb rfl
  have nqb := rowk qb hb rfl
  have hB2 := below_of hB1 hb hB1.size
  clear hb hB1 qa qb qa_c qa_f qb_c qb_f
  have qa := nqa
  have qb := nqb
  clear nqa nqb
  have qa_c := fun j => cell_of_row W2 _ j _ _ _ qa
  have qa_f := fun j => frozen_of_row W2 _ j _ _ qa
  have qb_c := fun j => cell_of_row W2 _ j _ _ _ qb
  have qb_f := fun j => frozen_of_row W2 _ j _ _ qb
  go_wp2_with fail
  refine (HF.out _).mono ?_
  rintro e W3 ⟨rfl, hb⟩
  have nqa := rowk qa hb rfl
  have nqb := rowk qb hb rfl
  have hB3 := below_of hB2 hb hB2.size
  clear hb hB2 qa qb qa_c qa_f qb_c qb_f
  have qa := nqa
  have qb := nqb
  clear nqa nqb
  have qa_c := fun j => cell_of_row W3 _ j _ _ _ qa
  have qa_f := fun j => frozen_of_row W3 _ j _ _ qa
  have qb_c := fun j => cell_of_row W3 _ j _ _ _ qb
  have qb_f := fun j => frozen_of_row W3 _ j _ _ qb
  go_wp2_with fail
  go_ret2
  exact ⟨rfl, hB3⟩
set_option maxHeartbeats 1000000 in
theorem spart_no0 (a0 a1 a2 a3 a4 a5 : Int) (b0 b1 b2 b3 b4 b5 : Int) (H0 : Hid (∀ w, Calls Try.prog 106 #[.agg #[.int .i64 a0, .int .i64 a1, .int .i64 a2, .int .i64 a3, .int .i64 a4, .int .i64 a5]] w fun e w' => e = .returned (.bool false) ∧ Below w.heap.size w w')) (w : World) : Calls Try.prog 70 #[.agg #[.int .i64 a0, .int .i64 a1, .int .i64 a2, .int .i64 a3, .int .i64 a4, .int .i64 a5], .agg #[.int .i64 b0, .int .i64 b1, .int .i64 b2, .int .i64 b3, .int .i64 b4, .int .i64 b5]] w fun e w' => e = .returned (.tuple #[.bool false, .bool false]) ∧ Below w.heap.size w w' := by
  go_enter Try.func70, Try.ntmps70
  go_wp2_with fail
  generalize hW : (World.alloc _ _ : World) = W0
  have hB0 : Below w.heap.size w W0 := by rw [← hW]; (repeat (first | exact Below.refl _ _ | assumption | refine Below.setCell ?_ (by first | (simp; done) | (simp; omega)) _ | refine Below.alloc ?_ (by first | (simp; done) | (simp; omega)) _ | refine Below.drew ?_))
  have qa : W0.heap[(w.heap.size : Nat)]? = some (Obj.cells (#[.int .i64 a0, .int .i64 a1, .int .i64 a2, .int .i64 a3, .int .i64 a4, .int .i64 a5]) 28 (0, 0)) := by
    rw [← hW]
    repeat (first | (refine alloc_at ?_; first | (simp; done) | (simp; omega)) | refine drew_row ?_ | refine alloc_past ?_ | assumption)
  have qb : W0.heap[(w.heap.size + 1 : Nat)]? = some (Obj.cells (#[.int .i64 b0, .int .i64 b1, .int .i64 b2, .int .i64 b3, .int .i64 b4, .int .i64 b5]) 28 (0, 0)) := by
    rw [← hW]
    repeat (first | (refine alloc_at ?_; first | (simp; done) | (simp; omega)) | refine drew_row ?_ | refine alloc_past ?_ | assumption)
  clear hW
  refine (H0.out _).mono ?_
  rintro e W1 ⟨rfl, hb⟩
  have nqa := rowk qa hb rfl
  have nqb := rowk qb hb rfl
  have hB1 := below_of hB0 hb hB0.size
  clear hb hB0 qa qb
  have qa := nqa
  have qb := nqb
  clear nqa nqb
  have qa_c := fun j => cell_of_row W1 _ j _ _ _ qa
  have qa_f := fun j => frozen_of_row W1 _ j _ _ qa
  have qb_c := fun j => cell_of_row W1 _ j _ _ _ qb
  have qb_f := fun j => frozen_of_row W1 _ j _ _ qb
  go_wp2_with fail
  go_ret2
  exact ⟨rfl, hB1⟩
set_option maxHeartbeats 1000000 in
theorem spart_no1 (a0 a1 a2 a3 a4 a5 : Int) (b0 b1 b2 b3 b4 b5 : Int) (H0 : Hid (∀ w, Calls Try.prog 106 #[.agg #[.int .i64 a0, .int .i64 a1, .int .i64 a2, .int .i64 a3, .int .i64 a4, .int .i64 a5]] w fun e w' => e = .returned (.bool true) ∧ Below w.heap.size w w')) (H1 : Hid (∀ w, Calls Try.prog 106 #[.agg #[.int .i64 b0, .int .i64 b1, .int .i64 b2, .int .i64 b3, .int .i64 b4, .int .i64 b5]] w fun e w' => e = .returned (.bool false) ∧ Below w.heap.size w w')) (w : World) : Calls Try.prog 70 #[.agg #[.int .i64 a0, .int .i64 a1, .int .i64 a2, .int .i64 a3, .int .i64 a4, .int .i64 a5], .agg #[.int .i64 b0, .int .i64 b1, .int .i64 b2, .int .i64 b3, .int .i64 b4, .int .i64 b5]] w fun e w' => e = .returned (.tuple #[.bool false, .bool false]) ∧ Below w.heap.size w w' := by
  go_enter Try.func70, Try.ntmps70
  go_wp2_with fail
  generalize hW : (World.alloc _ _ : World) = W0
  have hB0 : Below w.heap.size w W0 := by rw [← hW]; (repeat (first | exact Below.refl _ _ | assumption | refine Below.setCell ?_ (by first | (simp; done) | (simp; omega)) _ | refine Below.alloc ?_ (by first | (simp; done) | (simp; omega)) _ | refine Below.drew ?_))
  have qa : W0.heap[(w.heap.size : Nat)]? = some (Obj.cells (#[.int .i64 a0, .int .i64 a1, .int .i64 a2, .int .i64 a3, .int .i64 a4, .int .i64 a5]) 28 (0, 0)) := by
    rw [← hW]
    repeat (first | (refine alloc_at ?_; first | (simp; done) | (simp; omega)) | refine drew_row ?_ | refine alloc_past ?_ | assumption)
  have qb : W0.heap[(w.heap.size + 1 : Nat)]? = some (Obj.cells (#[.int .i64 b0, .int .i64 b1, .int .i64 b2, .int .i64 b3, .int .i64 b4, .int .i64 b5]) 28 (0, 0)) := by
    rw [← hW]
    repeat (first | (refine alloc_at ?_; first | (simp; done) | (simp; omega)) | refine drew_row ?_ | refine alloc_past ?_ | assumption)
  clear hW
  refine (H0.out _).mono ?_
  rintro e W1 ⟨rfl, hb⟩
  have nqa := rowk qa hb rfl
  have nqb := rowk qb hb rfl
  have hB1 := below_of hB0 hb hB0.size
  clear hb hB0 qa qb
  have qa := nqa
  have qb := nqb
  clear nqa nqb
  have qa_c := fun j => cell_of_row W1 _ j _ _ _ qa
  have qa_f := fun j => frozen_of_row W1 _ j _ _ qa
  have qb_c := fun j => cell_of_row W1 _ j _ _ _ qb
  have qb_f := fun j => frozen_of_row W1 _ j _ _ qb
  go_wp2_with fail
  refine (H1.out _).mono ?_
  rintro e W2 ⟨rfl, hb⟩
  have nqa := rowk qa hb rfl
  have nqb := rowk qb hb rfl
  have hB2 := below_of hB1 hb hB1.size
  clear hb hB1 qa qb qa_c qa_f qb_c qb_f
  have qa := nqa
  have qb := nqb
  clear nqa nqb
  have qa_c := fun j => cell_of_row W2 _ j _ _ _ qa
  have qa_f := fun j => frozen_of_row W2 _ j _ _ qa
  have qb_c := fun j => cell_of_row W2 _ j _ _ _ qb
  have qb_f := fun j => frozen_of_row W2 _ j _ _ qb
  go_wp2_with fail
  go_ret2
  exact ⟨rfl, hB2⟩
set_option maxHeartbeats 1000000 in
theorem ssize_yes (a0 a1 a2 a3 a4 a5 : Int) (r : Int) (H0 : Hid (∀ w, Calls Try.prog 106 #[.agg #[.int .i64 a0, .int .i64 a1, .int .i64 a2, .int .i64 a3, .int .i64 a4, .int .i64 a5]] w fun e w' => e = .returned (.bool true) ∧ Below w.heap.size w w')) (HF : Hid (∀ w, Calls Try.prog 108 #[.agg #[.int .i64 a0, .int .i64 a1, .int .i64 a2, .int .i64 a3, .int .i64 a4, .int .i64 a5]] w fun e w' => e = .returned (.int .i64 r) ∧ Below w.heap.size w w')) (w : World) : Calls Try.prog 74 #[.agg #[.int .i64 a0, .int .i64 a1, .int .i64 a2, .int .i64 a3, .int .i64 a4, .int .i64 a5]] w fun e w' => e = .returned (.tuple #[.int .i64 r, .bool true]) ∧ Below w.heap.size w w' := by
  go_enter Try.func74, Try.ntmps74
  go_wp2_with fail
  generalize hW : (World.alloc _ _ : World) = W0
  have hB0 : Below w.heap.size w W0 := by rw [← hW]; (repeat (first | exact Below.refl _ _ | assumption | refine Below.setCell ?_ (by first | (simp; done) | (simp; omega)) _ | refine Below.alloc ?_ (by first | (simp; done) | (simp; omega)) _ | refine Below.drew ?_))
  have qa : W0.heap[(w.heap.size : Nat)]? = some (Obj.cells (#[.int .i64 a0, .int .i64 a1, .int .i64 a2, .int .i64 a3, .int .i64 a4, .int .i64 a5]) 28 (0, 0)) := by
    rw [← hW]
    repeat (first | (refine alloc_at ?_; first | (simp; done) | (simp; omega)) | refine drew_row ?_ | refine alloc_past ?_ | assumption)
  clear hW
  refine (H0.out _).mono ?_
  rintro e W1 ⟨rfl, hb⟩
  have nqa := rowk qa hb rfl
  have hB1 := below_of hB0 hb hB0.size
  clear hb hB0 qa
  have qa := nqa
  clear nqa
  have qa_c := fun j => cell_of_row W1 _ j _ _ _ qa
  have qa_f := fun j => frozen_of_row W1 _ j _ _ qa
  go_wp2_with fail
  refine (HF.out _).mono ?_
  rintro e W2 ⟨rfl, hb⟩
  have nqa := rowk qa hb rfl
  have hB2 := below_of hB1 hb hB1.size
  clear hb hB1 qa qa_c qa_f
  have qa := nqa
  clear nqa
  have qa_c := fun j => cell_of_row W2 _ j _ _ _ qa
  have qa_f := fun j => frozen_of_row W2 _ j _ _ qa
  go_wp2_with fail
  go_ret2
  exact ⟨rfl, hB2⟩
set_option maxHeartbeats 1000000 in
theorem ssize_no0 (a0 a1 a2 a3 a4 a5 : Int) (H0 : Hid (∀ w, Calls Try.prog 106 #[.agg #[.int .i64 a0, .int .i64 a1, .int .i64 a2, .int .i64 a3, .int .i64 a4, .int .i64 a5]] w fun e w' => e = .returned (.bool false) ∧ Below w.heap.size w w')) (w : World) : Calls Try.prog 74 #[.agg #[.int .i64 a0, .int .i64 a1, .int .i64 a2, .int .i64 a3, .int .i64 a4, .int .i64 a5]] w fun e w' => e = .returned (.tuple #[.int .i64 0, .bool false]) ∧ Below w.heap.size w w' := by
  go_enter Try.func74, Try.ntmps74
  go_wp2_with fail
  generalize hW : (World.alloc _ _ : World) = W0
  have hB0 : Below w.heap.size w W0 := by rw [← hW]; (repeat (first | exact Below.refl _ _ | assumption | refine Below.setCell ?_ (by first | (simp; done) | (simp; omega)) _ | refine Below.alloc ?_ (by first | (simp; done) | (simp; omega)) _ | refine Below.drew ?_))
  have qa : W0.heap[(w.heap.size : Nat)]? = some (Obj.cells (#[.int .i64 a0, .int .i64 a1, .int .i64 a2, .int .i64 a3, .int .i64 a4, .int .i64 a5]) 28 (0, 0)) := by
    rw [← hW]
    repeat (first | (refine alloc_at ?_; first | (simp; done) | (simp; omega)) | refine drew_row ?_ | refine alloc_past ?_ | assumption)
  clear hW
  refine (H0.out _).mono ?_
  rintro e W1 ⟨rfl, hb⟩
  have nqa := rowk qa hb rfl
  have hB1 := below_of hB0 hb hB0.size
  clear hb hB0 qa
  have qa := nqa
  clear nqa
  have qa_c := fun j => cell_of_row W1 _ j _ _ _ qa
  have qa_f := fun j => frozen_of_row W1 _ j _ _ qa
  go_wp2_with fail
  go_ret2
  exact ⟨rfl, hB1⟩
end Go.Proofs.Ytnkjamdpafpcpaa
