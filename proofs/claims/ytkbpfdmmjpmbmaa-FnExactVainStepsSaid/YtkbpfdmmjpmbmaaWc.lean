/- CONTRACTS: OtherOf, IsPart, IsBlack, FlipCell and SizeOf of the model; IsBlack of the code: they test their arguments, and then call one function. -/
import Derived.Test.YtkbpfdmmjpmbmaaSc
import Derived.Test.YtkbpfdmmjpmbmaaKp
import Derived.WalkKit
import Derived.ProofKit
import Derived.OpenShut
import Derived.Lib.Hide
import Derived.WalkSpells
import Derived.Below
import Derived.BigQuiet
import Derived.LoopN
namespace Go.Proofs.Ytkbpfdmmjpmbmaa
open Go.ChangeShapes Go.WideShapes Go.ChangeAt Go.RowKit
set_option linter.unusedVariables false
set_option maxHeartbeats 1000000 in
theorem iblack_yes (a0 a1 a2 a3 a4 a5 : Int) (x y : Int) (r : Bool) (H0 : Hid (∀ w, Calls Try.prog 73 #[.agg #[.int .i64 a0, .int .i64 a1, .int .i64 a2, .int .i64 a3, .int .i64 a4, .int .i64 a5]] w fun e w' => e = .returned (.bool true) ∧ Below w.heap.size w w')) (H1 : Hid (∀ w, Calls Try.prog 107 #[.agg #[.int .i64 x, .int .i64 y]] w fun e w' => e = .returned (.bool true) ∧ Below w.heap.size w w')) (HF : Hid (∀ w, Calls Try.prog 108 #[.agg #[.int .i64 a0, .int .i64 a1, .int .i64 a2, .int .i64 a3, .int .i64 a4, .int .i64 a5], .agg #[.int .i64 x, .int .i64 y]] w fun e w' => e = .returned (.bool r) ∧ Below w.heap.size w w')) (w : World) : Calls Try.prog 59 #[.agg #[.int .i64 a0, .int .i64 a1, .int .i64 a2, .int .i64 a3, .int .i64 a4, .int .i64 a5], .agg #[.int .i64 x, .int .i64 y]] w fun e w' => e = .returned (.tuple #[.bool r, .bool true]) ∧ Below w.heap.size w w' := by
  go_enter Try.func59, Try.ntmps59
  go_wp2_with fail
  generalize hW : (World.alloc _ _ : World) = W0
  have hB0 : Below w.heap.size w W0 := by rw [← hW]; (repeat (first | exact Below.refl _ _ | assumption | refine Below.setCell ?_ (by first | (simp; done) | (simp; omega)) _ | refine Below.alloc ?_ (by first | (simp; done) | (simp; omega)) _ | refine Below.drew ?_))
  have qa : W0.heap[(w.heap.size : Nat)]? = some (Obj.cells (#[.int .i64 a0, .int .i64 a1, .int .i64 a2, .int .i64 a3, .int .i64 a4, .int .i64 a5]) 31 (0, 0)) := by
    rw [← hW]
    repeat (first | (refine alloc_at ?_; first | (simp; done) | (simp; omega)) | refine drew_row ?_ | refine alloc_past ?_ | assumption)
  have qc : W0.heap[(w.heap.size + 1 : Nat)]? = some (Obj.cells (#[.int .i64 x, .int .i64 y]) 44 (0, 0)) := by
    rw [← hW]
    repeat (first | (refine alloc_at ?_; first | (simp; done) | (simp; omega)) | refine drew_row ?_ | refine alloc_past ?_ | assumption)
  clear hW
  refine (H0.out _).mono ?_
  rintro e W1 ⟨rfl, hb⟩
  have nqa := rowk qa hb rfl
  have nqc := rowk qc hb rfl
  have hB1 := below_of hB0 hb hB0.size
  clear hb hB0 qa qc
  have qa := nqa
  have qc := nqc
  clear nqa nqc
  have qa_c := fun j => cell_of_row W1 _ j _ _ _ qa
  have qa_f := fun j => frozen_of_row W1 _ j _ _ qa
  have qc_c := fun j => cell_of_row W1 _ j _ _ _ qc
  have qc_f := fun j => frozen_of_row W1 _ j _ _ qc
  go_wp2_with fail
  refine (H1.out _).mono ?_
  rintro e W2 ⟨rfl, hb⟩
  have nqa := rowk qa hb rfl
  have nqc := rowk qc hb rfl
  have hB2 := below_of hB1 hb hB1.size
  clear hb hB1 qa qc qa_c qa_f qc_c qc_f
  have qa := nqa
  have qc := nqc
  clear nqa nqc
  have qa_c := fun j => cell_of_row W2 _ j _ _ _ qa
  have qa_f := fun j => frozen_of_row W2 _ j _ _ qa
  have qc_c := fun j => cell_of_row W2 _ j _ _ _ qc
  have qc_f := fun j => frozen_of_row W2 _ j _ _ qc
  go_wp2_with fail
  refine (HF.out _).mono ?_
  rintro e W3 ⟨rfl, hb⟩
  have nqa := rowk qa hb rfl
  have nqc := rowk qc hb rfl
  have hB3 := below_of hB2 hb hB2.size
  clear hb hB2 qa qc qa_c qa_f qc_c qc_f
  have qa := nqa
  have qc := nqc
  clear nqa nqc
  have qa_c := fun j => cell_of_row W3 _ j _ _ _ qa
  have qa_f := fun j => frozen_of_row W3 _ j _ _ qa
  have qc_c := fun j => cell_of_row W3 _ j _ _ _ qc
  have qc_f := fun j => frozen_of_row W3 _ j _ _ qc
  go_wp2_with fail
  go_ret2
  exact ⟨rfl, hB3⟩
set_option maxHeartbeats 1000000 in
theorem iblack_no0 (a0 a1 a2 a3 a4 a5 : Int) (x y : Int) (H0 : Hid (∀ w, Calls Try.prog 73 #[.agg #[.int .i64 a0, .int .i64 a1, .int .i64 a2, .int .i64 a3, .int .i64 a4, .int .i64 a5]] w fun e w' => e = .returned (.bool false) ∧ Below w.heap.size w w')) (w : World) : Calls Try.prog 59 #[.agg #[.int .i64 a0, .int .i64 a1, .int .i64 a2, .int .i64 a3, .int .i64 a4, .int .i64 a5], .agg #[.int .i64 x, .int .i64 y]] w fun e w' => e = .returned (.tuple #[.bool false, .bool false]) ∧ Below w.heap.size w w' := by
  go_enter Try.func59, Try.ntmps59
  go_wp2_with fail
  generalize hW : (World.alloc _ _ : World) = W0
  have hB0 : Below w.heap.size w W0 := by rw [← hW]; (repeat (first | exact Below.refl _ _ | assumption | refine Below.setCell ?_ (by first | (simp; done) | (simp; omega)) _ | refine Below.alloc ?_ (by first | (simp; done) | (simp; omega)) _ | refine Below.drew ?_))
  have qa : W0.heap[(w.heap.size : Nat)]? = some (Obj.cells (#[.int .i64 a0, .int .i64 a1, .int .i64 a2, .int .i64 a3, .int .i64 a4, .int .i64 a5]) 31 (0, 0)) := by
    rw [← hW]
    repeat (first | (refine alloc_at ?_; first | (simp; done) | (simp; omega)) | refine drew_row ?_ | refine alloc_past ?_ | assumption)
  have qc : W0.heap[(w.heap.size + 1 : Nat)]? = some (Obj.cells (#[.int .i64 x, .int .i64 y]) 44 (0, 0)) := by
    rw [← hW]
    repeat (first | (refine alloc_at ?_; first | (simp; done) | (simp; omega)) | refine drew_row ?_ | refine alloc_past ?_ | assumption)
  clear hW
  refine (H0.out _).mono ?_
  rintro e W1 ⟨rfl, hb⟩
  have nqa := rowk qa hb rfl
  have nqc := rowk qc hb rfl
  have hB1 := below_of hB0 hb hB0.size
  clear hb hB0 qa qc
  have qa := nqa
  have qc := nqc
  clear nqa nqc
  have qa_c := fun j => cell_of_row W1 _ j _ _ _ qa
  have qa_f := fun j => frozen_of_row W1 _ j _ _ qa
  have qc_c := fun j => cell_of_row W1 _ j _ _ _ qc
  have qc_f := fun j => frozen_of_row W1 _ j _ _ qc
  go_wp2_with fail
  go_ret2
  exact ⟨rfl, hB1⟩
set_option maxHeartbeats 1000000 in
theorem iblack_no1 (a0 a1 a2 a3 a4 a5 : Int) (x y : Int) (H0 : Hid (∀ w, Calls Try.prog 73 #[.agg #[.int .i64 a0, .int .i64 a1, .int .i64 a2, .int .i64 a3, .int .i64 a4, .int .i64 a5]] w fun e w' => e = .returned (.bool true) ∧ Below w.heap.size w w')) (H1 : Hid (∀ w, Calls Try.prog 107 #[.agg #[.int .i64 x, .int .i64 y]] w fun e w' => e = .returned (.bool false) ∧ Below w.heap.size w w')) (w : World) : Calls Try.prog 59 #[.agg #[.int .i64 a0, .int .i64 a1, .int .i64 a2, .int .i64 a3, .int .i64 a4, .int .i64 a5], .agg #[.int .i64 x, .int .i64 y]] w fun e w' => e = .returned (.tuple #[.bool false, .bool false]) ∧ Below w.heap.size w w' := by
  go_enter Try.func59, Try.ntmps59
  go_wp2_with fail
  generalize hW : (World.alloc _ _ : World) = W0
  have hB0 : Below w.heap.size w W0 := by rw [← hW]; (repeat (first | exact Below.refl _ _ | assumption | refine Below.setCell ?_ (by first | (simp; done) | (simp; omega)) _ | refine Below.alloc ?_ (by first | (simp; done) | (simp; omega)) _ | refine Below.drew ?_))
  have qa : W0.heap[(w.heap.size : Nat)]? = some (Obj.cells (#[.int .i64 a0, .int .i64 a1, .int .i64 a2, .int .i64 a3, .int .i64 a4, .int .i64 a5]) 31 (0, 0)) := by
    rw [← hW]
    repeat (first | (refine alloc_at ?_; first | (simp; done) | (simp; omega)) | refine drew_row ?_ | refine alloc_past ?_ | assumption)
  have qc : W0.heap[(w.heap.size + 1 : Nat)]? = some (Obj.cells (#[.int .i64 x, .int .i64 y]) 44 (0, 0)) := by
    rw [← hW]
    repeat (first | (refine alloc_at ?_; first | (simp; done) | (simp; omega)) | refine drew_row ?_ | refine alloc_past ?_ | assumption)
  clear hW
  refine (H0.out _).mono ?_
  rintro e W1 ⟨rfl, hb⟩
  have nqa := rowk qa hb rfl
  have nqc := rowk qc hb rfl
  have hB1 := below_of hB0 hb hB0.size
  clear hb hB0 qa qc
  have qa := nqa
  have qc := nqc
  clear nqa nqc
  have qa_c := fun j => cell_of_row W1 _ j _ _ _ qa
  have qa_f := fun j => frozen_of_row W1 _ j _ _ qa
  have qc_c := fun j => cell_of_row W1 _ j _ _ _ qc
  have qc_f := fun j => frozen_of_row W1 _ j _ _ qc
  go_wp2_with fail
  refine (H1.out _).mono ?_
  rintro e W2 ⟨rfl, hb⟩
  have nqa := rowk qa hb rfl
  have nqc := rowk qc hb rfl
  have hB2 := below_of hB1 hb hB1.size
  clear hb hB1 qa qc qa_c qa_f qc_c qc_f
  have qa := nqa
  have qc := nqc
  clear nqa nqc
  have qa_c := fun j => cell_of_row W2 _ j _ _ _ qa
  have qa_f := fun j => frozen_of_row W2 _ j _ _ qa
  have qc_c := fun j => cell_of_row W2 _ j _ _ _ qc
  have qc_f := fun j => frozen_of_row W2 _ j _ _ qc
  go_wp2_with fail
  go_ret2
  exact ⟨rfl, hB2⟩
end Go.Proofs.Ytkbpfdmmjpmbmaa
