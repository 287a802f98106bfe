/- CONTRACTS: ShrinkLeft and HitSheet, where they fail: they test their arguments, and then call one function. -/
import Derived.Test.YtjhokdccgachcaaSc
import Derived.Test.YtjhokdccgachcaaKp
import Derived.Test.YtjhokdccgachcaaRh
import Derived.WalkKit
import Derived.ProofKit
import Derived.OpenShut
import Derived.Lib.Hide
import Derived.WalkSpells
import Derived.Below
import Derived.BigQuiet
import Derived.LoopN
namespace Go.Proofs.Ytjhokdccgachcaa
open Go.ChangeShapes Go.WideShapes Go.ChangeAt Go.RowKit
set_option linter.unusedVariables false
set_option maxHeartbeats 1000000 in
theorem ssl_no0 (a0 a1 a2 a3 a4 a5 : Int) (b0 b1 b2 b3 b4 b5 : Int) (H0 : Hid (∀ w, Calls Try.prog 91 #[.agg #[.int .i64 a0, .int .i64 a1, .int .i64 a2, .int .i64 a3, .int .i64 a4, .int .i64 a5]] w fun e w' => e = .returned (.bool false) ∧ Below w.heap.size w w')) (w : World) : Calls Try.prog 45 #[.agg #[.int .i64 a0, .int .i64 a1, .int .i64 a2, .int .i64 a3, .int .i64 a4, .int .i64 a5], .agg #[.int .i64 b0, .int .i64 b1, .int .i64 b2, .int .i64 b3, .int .i64 b4, .int .i64 b5]] w fun e w' => e = .returned (.tuple #[.int .i64 0, .agg #[.int .i64 0, .int .i64 0, .int .i64 0, .int .i64 0, .int .i64 0, .int .i64 0], .bool false]) ∧ Below w.heap.size w w' := by
  go_enter Try.func45, Try.ntmps45
  go_wp2_with fail
  generalize hW : (World.alloc _ _ : World) = W0
  have hB0 : Below w.heap.size w W0 := by rw [← hW]; (repeat (first | exact Below.refl _ _ | assumption | refine Below.setCell ?_ (by first | (simp; done) | (simp; omega)) _ | refine Below.alloc ?_ (by first | (simp; done) | (simp; omega)) _ | refine Below.drew ?_))
  have qa : W0.heap[(w.heap.size : Nat)]? = some (Obj.cells (#[.int .i64 a0, .int .i64 a1, .int .i64 a2, .int .i64 a3, .int .i64 a4, .int .i64 a5]) 25 (0, 0)) := by
    rw [← hW]
    repeat (first | (refine alloc_at ?_; first | (simp; done) | (simp; omega)) | refine drew_row ?_ | refine alloc_past ?_ | assumption)
  have qb : W0.heap[(w.heap.size + 1 : Nat)]? = some (Obj.cells (#[.int .i64 b0, .int .i64 b1, .int .i64 b2, .int .i64 b3, .int .i64 b4, .int .i64 b5]) 25 (0, 0)) := by
    rw [← hW]
    repeat (first | (refine alloc_at ?_; first | (simp; done) | (simp; omega)) | refine drew_row ?_ | refine alloc_past ?_ | assumption)
  have qz : W0.heap[(w.heap.size + 1 + 1 : Nat)]? = some (Obj.cells (#[.int .i64 0, .int .i64 0, .int .i64 0, .int .i64 0, .int .i64 0, .int .i64 0]) 25 (0, 0)) := by
    rw [← hW]
    repeat (first | (refine alloc_at ?_; first | (simp; done) | (simp; omega)) | refine drew_row ?_ | refine alloc_past ?_ | assumption)
  clear hW
  refine (H0.out _).mono ?_
  rintro e W1 ⟨rfl, hb⟩
  have nqa := rowk qa hb rfl
  have nqb := rowk qb hb rfl
  have nqz := rowk qz hb rfl
  have hB1 := below_of hB0 hb hB0.size
  clear hb hB0 qa qb qz
  have qa := nqa
  have qb := nqb
  have qz := nqz
  clear nqa nqb nqz
  have qa_c := fun j => cell_of_row W1 _ j _ _ _ qa
  have qa_f := fun j => frozen_of_row W1 _ j _ _ qa
  have qb_c := fun j => cell_of_row W1 _ j _ _ _ qb
  have qb_f := fun j => frozen_of_row W1 _ j _ _ qb
  have qz_c := fun j => cell_of_row W1 _ j _ _ _ qz
  have qz_f := fun j => frozen_of_row W1 _ j _ _ qz
  go_wp2_with fail
  refine bodyPost_ret (v := .tuple #[.int .i64 0, .agg #[.int .i64 0, .int .i64 0, .int .i64 0, .int .i64 0, .int .i64 0, .int .i64 0], .bool false]) (by simp [results, Try.results45, go_sem, qz_c]) rfl ⟨rfl, ?_⟩
  exact below6 hB1 (by omega)
set_option maxHeartbeats 1000000 in
theorem ssl_no1 (a0 a1 a2 a3 a4 a5 : Int) (b0 b1 b2 b3 b4 b5 : Int) (H0 : Hid (∀ w, Calls Try.prog 91 #[.agg #[.int .i64 a0, .int .i64 a1, .int .i64 a2, .int .i64 a3, .int .i64 a4, .int .i64 a5]] w fun e w' => e = .returned (.bool true) ∧ Below w.heap.size w w')) (H1 : Hid (∀ w, Calls Try.prog 91 #[.agg #[.int .i64 b0, .int .i64 b1, .int .i64 b2, .int .i64 b3, .int .i64 b4, .int .i64 b5]] w fun e w' => e = .returned (.bool false) ∧ Below w.heap.size w w')) (w : World) : Calls Try.prog 45 #[.agg #[.int .i64 a0, .int .i64 a1, .int .i64 a2, .int .i64 a3, .int .i64 a4, .int .i64 a5], .agg #[.int .i64 b0, .int .i64 b1, .int .i64 b2, .int .i64 b3, .int .i64 b4, .int .i64 b5]] w fun e w' => e = .returned (.tuple #[.int .i64 0, .agg #[.int .i64 0, .int .i64 0, .int .i64 0, .int .i64 0, .int .i64 0, .int .i64 0], .bool false]) ∧ Below w.heap.size w w' := by
  go_enter Try.func45, Try.ntmps45
  go_wp2_with fail
  generalize hW : (World.alloc _ _ : World) = W0
  have hB0 : Below w.heap.size w W0 := by rw [← hW]; (repeat (first | exact Below.refl _ _ | assumption | refine Below.setCell ?_ (by first | (simp; done) | (simp; omega)) _ | refine Below.alloc ?_ (by first | (simp; done) | (simp; omega)) _ | refine Below.drew ?_))
  have qa : W0.heap[(w.heap.size : Nat)]? = some (Obj.cells (#[.int .i64 a0, .int .i64 a1, .int .i64 a2, .int .i64 a3, .int .i64 a4, .int .i64 a5]) 25 (0, 0)) := by
    rw [← hW]
    repeat (first | (refine alloc_at ?_; first | (simp; done) | (simp; omega)) | refine drew_row ?_ | refine alloc_past ?_ | assumption)
  have qb : W0.heap[(w.heap.size + 1 : Nat)]? = some (Obj.cells (#[.int .i64 b0, .int .i64 b1, .int .i64 b2, .int .i64 b3, .int .i64 b4, .int .i64 b5]) 25 (0, 0)) := by
    rw [← hW]
    repeat (first | (refine alloc_at ?_; first | (simp; done) | (simp; omega)) | refine drew_row ?_ | refine alloc_past ?_ | assumption)
  have qz : W0.heap[(w.heap.size + 1 + 1 : Nat)]? = some (Obj.cells (#[.int .i64 0, .int .i64 0, .int .i64 0, .int .i64 0, .int .i64 0, .int .i64 0]) 25 (0, 0)) := by
    rw [← hW]
    repeat (first | (refine alloc_at ?_; first | (simp; done) | (simp; omega)) | refine drew_row ?_ | refine alloc_past ?_ | assumption)
  clear hW
  refine (H0.out _).mono ?_
  rintro e W1 ⟨rfl, hb⟩
  have nqa := rowk qa hb rfl
  have nqb := rowk qb hb rfl
  have nqz := rowk qz hb rfl
  have hB1 := below_of hB0 hb hB0.size
  clear hb hB0 qa qb qz
  have qa := nqa
  have qb := nqb
  have qz := nqz
  clear nqa nqb nqz
  have qa_c := fun j => cell_of_row W1 _ j _ _ _ qa
  have qa_f := fun j => frozen_of_row W1 _ j _ _ qa
  have qb_c := fun j => cell_of_row W1 _ j _ _ _ qb
  have qb_f := fun j => frozen_of_row W1 _ j _ _ qb
  have qz_c := fun j => cell_of_row W1 _ j _ _ _ qz
  have qz_f := fun j => frozen_of_row W1 _ j _ _ qz
  go_wp2_with fail
  refine (H1.out _).mono ?_
  rintro e W2 ⟨rfl, hb⟩
  have nqa := rowk qa hb rfl
  have nqb := rowk qb hb rfl
  have nqz := rowk qz hb rfl
  have hB2 := below_of hB1 hb hB1.size
  clear hb hB1 qa qb qz qa_c qa_f qb_c qb_f qz_c qz_f
  have qa := nqa
  have qb := nqb
  have qz := nqz
  clear nqa nqb nqz
  have qa_c := fun j => cell_of_row W2 _ j _ _ _ qa
  have qa_f := fun j => frozen_of_row W2 _ j _ _ qa
  have qb_c := fun j => cell_of_row W2 _ j _ _ _ qb
  have qb_f := fun j => frozen_of_row W2 _ j _ _ qb
  have qz_c := fun j => cell_of_row W2 _ j _ _ _ qz
  have qz_f := fun j => frozen_of_row W2 _ j _ _ qz
  go_wp2_with fail
  refine bodyPost_ret (v := .tuple #[.int .i64 0, .agg #[.int .i64 0, .int .i64 0, .int .i64 0, .int .i64 0, .int .i64 0, .int .i64 0], .bool false]) (by simp [results, Try.results45, go_sem, qz_c]) rfl ⟨rfl, ?_⟩
  exact below6 hB2 (by omega)
set_option maxHeartbeats 1000000 in
theorem isl_no0 (a0 a1 a2 a3 a4 a5 : Int) (b0 b1 b2 b3 b4 b5 : Int) (H0 : Hid (∀ w, Calls Try.prog 104 #[.agg #[.int .i64 a0, .int .i64 a1, .int .i64 a2, .int .i64 a3, .int .i64 a4, .int .i64 a5]] w fun e w' => e = .returned (.bool false) ∧ Below w.heap.size w w')) (w : World) : Calls Try.prog 46 #[.agg #[.int .i64 a0, .int .i64 a1, .int .i64 a2, .int .i64 a3, .int .i64 a4, .int .i64 a5], .agg #[.int .i64 b0, .int .i64 b1, .int .i64 b2, .int .i64 b3, .int .i64 b4, .int .i64 b5]] w fun e w' => e = .returned (.tuple #[.int .i64 0, .agg #[.int .i64 0, .int .i64 0, .int .i64 0, .int .i64 0, .int .i64 0, .int .i64 0], .bool false]) ∧ Below w.heap.size w w' := by
  go_enter Try.func46, Try.ntmps46
  go_wp2_with fail
  generalize hW : (World.alloc _ _ : World) = W0
  have hB0 : Below w.heap.size w W0 := by rw [← hW]; (repeat (first | exact Below.refl _ _ | assumption | refine Below.setCell ?_ (by first | (simp; done) | (simp; omega)) _ | refine Below.alloc ?_ (by first | (simp; done) | (simp; omega)) _ | refine Below.drew ?_))
  have qa : W0.heap[(w.heap.size : Nat)]? = some (Obj.cells (#[.int .i64 a0, .int .i64 a1, .int .i64 a2, .int .i64 a3, .int .i64 a4, .int .i64 a5]) 25 (0, 0)) := by
    rw [← hW]
    repeat (first | (refine alloc_at ?_; first | (simp; done) | (simp; omega)) | refine drew_row ?_ | refine alloc_past ?_ | assumption)
  have qb : W0.heap[(w.heap.size + 1 : Nat)]? = some (Obj.cells (#[.int .i64 b0, .int .i64 b1, .int .i64 b2, .int .i64 b3, .int .i64 b4, .int .i64 b5]) 25 (0, 0)) := by
    rw [← hW]
    repeat (first | (refine alloc_at ?_; first | (simp; done) | (simp; omega)) | refine drew_row ?_ | refine alloc_past ?_ | assumption)
  have qz : W0.heap[(w.heap.size + 1 + 1 : Nat)]? = some (Obj.cells (#[.int .i64 0, .int .i64 0, .int .i64 0, .int .i64 0, .int .i64 0, .int .i64 0]) 25 (0, 0)) := by
    rw [← hW]
    repeat (first | (refine alloc_at ?_; first | (simp; done) | (simp; omega)) | refine drew_row ?_ | refine alloc_past ?_ | assumption)
  clear hW
  refine (H0.out _).mono ?_
  rintro e W1 ⟨rfl, hb⟩
  have nqa := rowk qa hb rfl
  have nqb := rowk qb hb rfl
  have nqz := rowk qz hb rfl
  have hB1 := below_of hB0 hb hB0.size
  clear hb hB0 qa qb qz
  have qa := nqa
  have qb := nqb
  have qz := nqz
  clear nqa nqb nqz
  have qa_c := fun j => cell_of_row W1 _ j _ _ _ qa
  have qa_f := fun j => frozen_of_row W1 _ j _ _ qa
  have qb_c := fun j => cell_of_row W1 _ j _ _ _ qb
  have qb_f := fun j => frozen_of_row W1 _ j _ _ qb
  have qz_c := fun j => cell_of_row W1 _ j _ _ _ qz
  have qz_f := fun j => frozen_of_row W1 _ j _ _ qz
  go_wp2_with fail
  refine bodyPost_ret (v := .tuple #[.int .i64 0, .agg #[.int .i64 0, .int .i64 0, .int .i64 0, .int .i64 0, .int .i64 0, .int .i64 0], .bool false]) (by simp [results, Try.results46, go_sem, qz_c]) rfl ⟨rfl, ?_⟩
  exact below6 hB1 (by omega)
set_option maxHeartbeats 1000000 in
theorem isl_no1 (a0 a1 a2 a3 a4 a5 : Int) (b0 b1 b2 b3 b4 b5 : Int) (H0 : Hid (∀ w, Calls Try.prog 104 #[.agg #[.int .i64 a0, .int .i64 a1, .int .i64 a2, .int .i64 a3, .int .i64 a4, .int .i64 a5]] w fun e w' => e = .returned (.bool true) ∧ Below w.heap.size w w')) (H1 : Hid (∀ w, Calls Try.prog 104 #[.agg #[.int .i64 b0, .int .i64 b1, .int .i64 b2, .int .i64 b3, .int .i64 b4, .int .i64 b5]] w fun e w' => e = .returned (.bool false) ∧ Below w.heap.size w w')) (w : World) : Calls Try.prog 46 #[.agg #[.int .i64 a0, .int .i64 a1, .int .i64 a2, .int .i64 a3, .int .i64 a4, .int .i64 a5], .agg #[.int .i64 b0, .int .i64 b1, .int .i64 b2, .int .i64 b3, .int .i64 b4, .int .i64 b5]] w fun e w' => e = .returned (.tuple #[.int .i64 0, .agg #[.int .i64 0, .int .i64 0, .int .i64 0, .int .i64 0, .int .i64 0, .int .i64 0], .bool false]) ∧ Below w.heap.size w w' := by
  go_enter Try.func46, Try.ntmps46
  go_wp2_with fail
  generalize hW : (World.alloc _ _ : World) = W0
  have hB0 : Below w.heap.size w W0 := by rw [← hW]; (repeat (first | exact Below.refl _ _ | assumption | refine Below.setCell ?_ (by first | (simp; done) | (simp; omega)) _ | refine Below.alloc ?_ (by first | (simp; done) | (simp; omega)) _ | refine Below.drew ?_))
  have qa : W0.heap[(w.heap.size : Nat)]? = some (Obj.cells (#[.int .i64 a0, .int .i64 a1, .int .i64 a2, .int .i64 a3, .int .i64 a4, .int .i64 a5]) 25 (0, 0)) := by
    rw [← hW]
    repeat (first | (refine alloc_at ?_; first | (simp; done) | (simp; omega)) | refine drew_row ?_ | refine alloc_past ?_ | assumption)
  have qb : W0.heap[(w.heap.size + 1 : Nat)]? = some (Obj.cells (#[.int .i64 b0, .int .i64 b1, .int .i64 b2, .int .i64 b3, .int .i64 b4, .int .i64 b5]) 25 (0, 0)) := by
    rw [← hW]
    repeat (first | (refine alloc_at ?_; first | (simp; done) | (simp; omega)) | refine drew_row ?_ | refine alloc_past ?_ | assumption)
  have qz : W0.heap[(w.heap.size + 1 + 1 : Nat)]? = some (Obj.cells (#[.int .i64 0, .int .i64 0, .int .i64 0, .int .i64 0, .int .i64 0, .int .i64 0]) 25 (0, 0)) := by
    rw [← hW]
    repeat (first | (refine alloc_at ?_; first | (simp; done) | (simp; omega)) | refine drew_row ?_ | refine alloc_past ?_ | assumption)
  clear hW
  refine (H0.out _).mono ?_
  rintro e W1 ⟨rfl, hb⟩
  have nqa := rowk qa hb rfl
  have nqb := rowk qb hb rfl
  have nqz := rowk qz hb rfl
  have hB1 := below_of hB0 hb hB0.size
  clear hb hB0 qa qb qz
  have qa := nqa
  have qb := nqb
  have qz := nqz
  clear nqa nqb nqz
  have qa_c := fun j => cell_of_row W1 _ j _ _ _ qa
  have qa_f := fun j => frozen_of_row W1 _ j _ _ qa
  have qb_c := fun j => cell_of_row W1 _ j _ _ _ qb
  have qb_f := fun j => frozen_of_row W1 _ j _ _ qb
  have qz_c := fun j => cell_of_row W1 _ j _ _ _ qz
  have qz_f := fun j => frozen_of_row W1 _ j _ _ qz
  go_wp2_with fail
  refine (H1.out _).mono ?_
  rintro e W2 ⟨rfl, hb⟩
  have nqa := rowk qa hb rfl
  have nqb := rowk qb hb rfl
  have nqz := rowk qz hb rfl
  have hB2 := below_of hB1 hb hB1.size
  clear hb hB1 qa qb qz qa_c qa_f qb_c qb_f qz_c qz_f
  have qa := nqa
  have qb := nqb
  have qz := nqz
  clear nqa nqb nqz
  have qa_c := fun j => cell_of_row W2 _ j _ _ _ qa
  have qa_f := fun j => frozen_of_row W2 _ j _ _ qa
  have qb_c := fun j => cell_of_row W2 _ j _ _ _ qb
  have qb_f := fun j => frozen_of_row W2 _ j _ _ qb
  have qz_c := fun j => cell_of_row W2 _ j _ _ _ qz
  have qz_f := fun j => frozen_of_row W2 _ j _ _ qz
  go_wp2_with fail
  refine bodyPost_ret (v := .tuple #[.int .i64 0, .agg #[.int .i64 0, .int .i64 0, .int .i64 0, .int .i64 0, .int .i64 0, .int .i64 0], .bool false]) (by simp [results, Try.results46, go_sem, qz_c]) rfl ⟨rfl, ?_⟩
  exact below6 hB2 (by omega)
set_option maxHeartbeats 1000000 in
theorem shi_no0 (a0 a1 a2 a3 a4 a5 : Int) (b0 b1 b2 b3 b4 b5 : Int) (d0 d1 d2 d3 d4 d5 : Int) (H0 : Hid (∀ w, Calls Try.prog 91 #[.agg #[.int .i64 a0, .int .i64 a1, .int .i64 a2, .int .i64 a3, .int .i64 a4, .int .i64 a5]] w fun e w' => e = .returned (.bool false) ∧ Below w.heap.size w w')) (w : World) : Calls Try.prog 39 #[.agg #[.int .i64 a0, .int .i64 a1, .int .i64 a2, .int .i64 a3, .int .i64 a4, .int .i64 a5], .agg #[.int .i64 b0, .int .i64 b1, .int .i64 b2, .int .i64 b3, .int .i64 b4, .int .i64 b5], .agg #[.int .i64 d0, .int .i64 d1, .int .i64 d2, .int .i64 d3, .int .i64 d4, .int .i64 d5]] w fun e w' => e = .returned (.tuple #[.agg #[.int .i64 0, .int .i64 0, .int .i64 0, .int .i64 0, .int .i64 0, .int .i64 0], .bool false]) ∧ Below w.heap.size w w' := by
  go_enter Try.func39, Try.ntmps39
  go_wp2_with fail
  generalize hW : (World.alloc _ _ : World) = W0
  have hB0 : Below w.heap.size w W0 := by rw [← hW]; (repeat (first | exact Below.refl _ _ | assumption | refine Below.setCell ?_ (by first | (simp; done) | (simp; omega)) _ | refine Below.alloc ?_ (by first | (simp; done) | (simp; omega)) _ | refine Below.drew ?_))
  have qa : W0.heap[(w.heap.size : Nat)]? = some (Obj.cells (#[.int .i64 a0, .int .i64 a1, .int .i64 a2, .int .i64 a3, .int .i64 a4, .int .i64 a5]) 25 (0, 0)) := by
    rw [← hW]
    repeat (first | (refine alloc_at ?_; first | (simp; done) | (simp; omega)) | refine drew_row ?_ | refine alloc_past ?_ | assumption)
  have qb : W0.heap[(w.heap.size + 1 : Nat)]? = some (Obj.cells (#[.int .i64 b0, .int .i64 b1, .int .i64 b2, .int .i64 b3, .int .i64 b4, .int .i64 b5]) 25 (0, 0)) := by
    rw [← hW]
    repeat (first | (refine alloc_at ?_; first | (simp; done) | (simp; omega)) | refine drew_row ?_ | refine alloc_past ?_ | assumption)
  have qd : W0.heap[(w.heap.size + 1 + 1 : Nat)]? = some (Obj.cells (#[.int .i64 d0, .int .i64 d1, .int .i64 d2, .int .i64 d3, .int .i64 d4, .int .i64 d5]) 25 (0, 0)) := by
    rw [← hW]
    repeat (first | (refine alloc_at ?_; first | (simp; done) | (simp; omega)) | refine drew_row ?_ | refine alloc_past ?_ | assumption)
  have qz : W0.heap[(w.heap.size + 1 + 1 + 1 : Nat)]? = some (Obj.cells (#[.int .i64 0, .int .i64 0, .int .i64 0, .int .i64 0, .int .i64 0, .int .i64 0]) 25 (0, 0)) := by
    rw [← hW]
    repeat (first | (refine alloc_at ?_; first | (simp; done) | (simp; omega)) | refine drew_row ?_ | refine alloc_past ?_ | assumption)
  clear hW
  refine (H0.out _).mono ?_
  rintro e W1 ⟨rfl, hb⟩
  have nqa := rowk qa hb rfl
  have nqb := rowk qb hb rfl
  have nqd := rowk qd hb rfl
  have nqz := rowk qz hb rfl
  have hB1 := below_of hB0 hb hB0.size
  clear hb hB0 qa qb qd qz
  have qa := nqa
  have qb := nqb
  have qd := nqd
  have qz := nqz
  clear nqa nqb nqd nqz
  have qa_c := fun j => cell_of_row W1 _ j _ _ _ qa
  have qa_f := fun j => frozen_of_row W1 _ j _ _ qa
  have qb_c := fun j => cell_of_row W1 _ j _ _ _ qb
  have qb_f := fun j => frozen_of_row W1 _ j _ _ qb
  have qd_c := fun j => cell_of_row W1 _ j _ _ _ qd
  have qd_f := fun j => frozen_of_row W1 _ j _ _ qd
  have qz_c := fun j => cell_of_row W1 _ j _ _ _ qz
  have qz_f := fun j => frozen_of_row W1 _ j _ _ qz
  go_wp2_with fail
  refine bodyPost_ret (v := .tuple #[.agg #[.int .i64 0, .int .i64 0, .int .i64 0, .int .i64 0, .int .i64 0, .int .i64 0], .bool false]) (by simp [results, Try.results39, go_sem, qz_c]) rfl ⟨rfl, ?_⟩
  exact below6 hB1 (by omega)
set_option maxHeartbeats 1000000 in
theorem shi_no1 (a0 a1 a2 a3 a4 a5 : Int) (b0 b1 b2 b3 b4 b5 : Int) (d0 d1 d2 d3 d4 d5 : Int) (H0 : Hid (∀ w, Calls Try.prog 91 #[.agg #[.int .i64 a0, .int .i64 a1, .int .i64 a2, .int .i64 a3, .int .i64 a4, .int .i64 a5]] w fun e w' => e = .returned (.bool true) ∧ Below w.heap.size w w')) (H1 : Hid (∀ w, Calls Try.prog 91 #[.agg #[.int .i64 b0, .int .i64 b1, .int .i64 b2, .int .i64 b3, .int .i64 b4, .int .i64 b5]] w fun e w' => e = .returned (.bool false) ∧ Below w.heap.size w w')) (w : World) : Calls Try.prog 39 #[.agg #[.int .i64 a0, .int .i64 a1, .int .i64 a2, .int .i64 a3, .int .i64 a4, .int .i64 a5], .agg #[.int .i64 b0, .int .i64 b1, .int .i64 b2, .int .i64 b3, .int .i64 b4, .int .i64 b5], .agg #[.int .i64 d0, .int .i64 d1, .int .i64 d2, .int .i64 d3, .int .i64 d4, .int .i64 d5]] w fun e w' => e = .returned (.tuple #[.agg #[.int .i64 0, .int .i64 0, .int .i64 0, .int .i64 0, .int .i64 0, .int .i64 0], .bool false]) ∧ Below w.heap.size w w' := by
  go_enter Try.func39, Try.ntmps39
  go_wp2_with fail
  generalize hW : (World.alloc _ _ : World) = W0
  have hB0 : Below w.heap.size w W0 := by rw [← hW]; (repeat (first | exact Below.refl _ _ | assumption | refine Below.setCell ?_ (by first | (simp; done) | (simp; omega)) _ | refine Below.alloc ?_ (by first | (simp; done) | (simp; omega)) _ | refine Below.drew ?_))
  have qa : W0.heap[(w.heap.size : Nat)]? = some (Obj.cells (#[.int .i64 a0, .int .i64 a1, .int .i64 a2, .int .i64 a3, .int .i64 a4, .int .i64 a5]) 25 (0, 0)) := by
    rw [← hW]
    repeat (first | (refine alloc_at ?_; first | (simp; done) | (simp; omega)) | refine drew_row ?_ | refine alloc_past ?_ | assumption)
  have qb : W0.heap[(w.heap.size + 1 : Nat)]? = some (Obj.cells (#[.int .i64 b0, .int .i64 b1, .int .i64 b2, .int .i64 b3, .int .i64 b4, .int .i64 b5]) 25 (0, 0)) := by
    rw [← hW]
    repeat (first | (refine alloc_at ?_; first | (simp; done) | (simp; omega)) | refine drew_row ?_ | refine alloc_past ?_ | assumption)
  have qd : W0.heap[(w.heap.size + 1 + 1 : Nat)]? = some (Obj.cells (#[.int .i64 d0, .int .i64 d1, .int .i64 d2, .int .i64 d3, .int .i64 d4, .int .i64 d5]) 25 (0, 0)) := by
    rw [← hW]
    repeat (first | (refine alloc_at ?_; first | (simp; done) | (simp; omega)) | refine drew_row ?_ | refine alloc_past ?_ | assumption)
  have qz : W0.heap[(w.heap.size + 1 + 1 + 1 : Nat)]? = some (Obj.cells (#[.int .i64 0, .int .i64 0, .int .i64 0, .int .i64 0, .int .i64 0, .int .i64 0]) 25 (0, 0)) := by
    rw [← hW]
    repeat (first | (refine alloc_at ?_; first | (simp; done) | (simp; omega)) | refine drew_row ?_ | refine alloc_past ?_ | assumption)
  clear hW
  refine (H0.out _).mono ?_
  rintro e W1 ⟨rfl, hb⟩
  have nqa := rowk qa hb rfl
  have nqb := rowk qb hb rfl
  have nqd := rowk qd hb rfl
  have nqz := rowk qz hb rfl
  have hB1 := below_of hB0 hb hB0.size
  clear hb hB0 qa qb qd qz
  have qa := nqa
  have qb := nqb
  have qd := nqd
  have qz := nqz
  clear nqa nqb nqd nqz
  have qa_c := fun j => cell_of_row W1 _ j _ _ _ qa
  have qa_f := fun j => frozen_of_row W1 _ j _ _ qa
  have qb_c := fun j => cell_of_row W1 _ j _ _ _ qb
  have qb_f := fun j => frozen_of_row W1 _ j _ _ qb
  have qd_c := fun j => cell_of_row W1 _ j _ _ _ qd
  have qd_f := fun j => frozen_of_row W1 _ j _ _ qd
  have qz_c := fun j => cell_of_row W1 _ j _ _ _ qz
  have qz_f := fun j => frozen_of_row W1 _ j _ _ qz
  go_wp2_with fail
  refine (H1.out _).mono ?_
  rintro e W2 ⟨rfl, hb⟩
  have nqa := rowk qa hb rfl
  have nqb := rowk qb hb rfl
  have nqd := rowk qd hb rfl
  have nqz := rowk qz hb rfl
  have hB2 := below_of hB1 hb hB1.size
  clear hb hB1 qa qb qd qz qa_c qa_f qb_c qb_f qd_c qd_f qz_c qz_f
  have qa := nqa
  have qb := nqb
  have qd := nqd
  have qz := nqz
  clear nqa nqb nqd nqz
  have qa_c := fun j => cell_of_row W2 _ j _ _ _ qa
  have qa_f := fun j => frozen_of_row W2 _ j _ _ qa
  have qb_c := fun j => cell_of_row W2 _ j _ _ _ qb
  have qb_f := fun j => frozen_of_row W2 _ j _ _ qb
  have qd_c := fun j => cell_of_row W2 _ j _ _ _ qd
  have qd_f := fun j => frozen_of_row W2 _ j _ _ qd
  have qz_c := fun j => cell_of_row W2 _ j _ _ _ qz
  have qz_f := fun j => frozen_of_row W2 _ j _ _ qz
  go_wp2_with fail
  refine bodyPost_ret (v := .tuple #[.agg #[.int .i64 0, .int .i64 0, .int .i64 0, .int .i64 0, .int .i64 0, .int .i64 0], .bool false]) (by simp [results, Try.results39, go_sem, qz_c]) rfl ⟨rfl, ?_⟩
  exact below6 hB2 (by omega)
set_option maxHeartbeats 1000000 in
theorem shi_no2 (a0 a1 a2 a3 a4 a5 : Int) (b0 b1 b2 b3 b4 b5 : Int) (d0 d1 d2 d3 d4 d5 : Int) (H0 : Hid (∀ w, Calls Try.prog 91 #[.agg #[.int .i64 a0, .int .i64 a1, .int .i64 a2, .int .i64 a3, .int .i64 a4, .int .i64 a5]] w fun e w' => e = .returned (.bool true) ∧ Below w.heap.size w w')) (H1 : Hid (∀ w, Calls Try.prog 91 #[.agg #[.int .i64 b0, .int .i64 b1, .int .i64 b2, .int .i64 b3, .int .i64 b4, .int .i64 b5]] w fun e w' => e = .returned (.bool true) ∧ Below w.heap.size w w')) (H2 : Hid (∀ w, Calls Try.prog 91 #[.agg #[.int .i64 d0, .int .i64 d1, .int .i64 d2, .int .i64 d3, .int .i64 d4, .int .i64 d5]] w fun e w' => e = .returned (.bool false) ∧ Below w.heap.size w w')) (w : World) : Calls Try.prog 39 #[.agg #[.int .i64 a0, .int .i64 a1, .int .i64 a2, .int .i64 a3, .int .i64 a4, .int .i64 a5], .agg #[.int .i64 b0, .int .i64 b1, .int .i64 b2, .int .i64 b3, .int .i64 b4, .int .i64 b5], .agg #[.int .i64 d0, .int .i64 d1, .int .i64 d2, .int .i64 d3, .int .i64 d4, .int .i64 d5]] w fun e w' => e = .returned (.tuple #[.agg #[.int .i64 0, .int .i64 0, .int .i64 0, .int .i64 0, .int .i64 0, .int .i64 0], .bool false]) ∧ Below w.heap.size w w' := by
  go_enter Try.func39, Try.ntmps39
  go_wp2_with fail
  generalize hW : (World.alloc _ _ : World) = W0
  have hB0 : Below w.heap.size w W0 := by rw [← hW]; (repeat (first | exact Below.refl _ _ | assumption | refine Below.setCell ?_ (by first | (simp; done) | (simp; omega)) _ | refine Below.alloc ?_ (by first | (simp; done) | (simp; omega)) _ | refine Below.drew ?_))
  have qa : W0.heap[(w.heap.size : Nat)]? = some (Obj.cells (#[.int .i64 a0, .int .i64 a1, .int .i64 a2, .int .i64 a3, .int .i64 a4, .int .i64 a5]) 25 (0, 0)) := by
    rw [← hW]
    repeat (first | (refine alloc_at ?_; first | (simp; done) | (simp; omega)) | refine drew_row ?_ | refine alloc_past ?_ | assumption)
  have qb : W0.heap[(w.heap.size + 1 : Nat)]? = some (Obj.cells (#[.int .i64 b0, .int .i64 b1, .int .i64 b2, .int .i64 b3, .int .i64 b4, .int .i64 b5]) 25 (0, 0)) := by
    rw [← hW]
    repeat (first | (refine alloc_at ?_; first | (simp; done) | (simp; omega)) | refine drew_row ?_ | refine alloc_past ?_ | assumption)
  have qd : W0.heap[(w.heap.size + 1 + 1 : Nat)]? = some (Obj.cells (#[.int .i64 d0, .int .i64 d1, .int .i64 d2, .int .i64 d3, .int .i64 d4, .int .i64 d5]) 25 (0, 0)) := by
    rw [← hW]
    repeat (first | (refine alloc_at ?_; first | (simp; done) | (simp; omega)) | refine drew_row ?_ | refine alloc_past ?_ | assumption)
  have qz : W0.heap[(w.heap.size + 1 + 1 + 1 : Nat)]? = some (Obj.cells (#[.int .i64 0, .int .i64 0, .int .i64 0, .int .i64 0, .int .i64 0, .int .i64 0]) 25 (0, 0)) := by
    rw [← hW]
    repeat (first | (refine alloc_at ?_; first | (simp; done) | (simp; omega)) | refine drew_row ?_ | refine alloc_past ?_ | assumption)
  clear hW
  refine (H0.out _).mono ?_
  rintro e W1 ⟨rfl, hb⟩
  have nqa := rowk qa hb rfl
  have nqb := rowk qb hb rfl
  have nqd := rowk qd hb rfl
  have nqz := rowk qz hb rfl
  have hB1 := below_of hB0 hb hB0.size
  clear hb hB0 qa qb qd qz
  have qa := nqa
  have qb := nqb
  have qd := nqd
  have qz := nqz
  clear nqa nqb nqd nqz
  have qa_c := fun j => cell_of_row W1 _ j _ _ _ qa
  have qa_f := fun j => frozen_of_row W1 _ j _ _ qa
  have qb_c := fun j => cell_of_row W1 _ j _ _ _ qb
  have qb_f := fun j => frozen_of_row W1 _ j _ _ qb
  have qd_c := fun j => cell_of_row W1 _ j _ _ _ qd
  have qd_f := fun j => frozen_of_row W1 _ j _ _ qd
  have qz_c := fun j => cell_of_row W1 _ j _ _ _ qz
  have qz_f := fun j => frozen_of_row W1 _ j _ _ qz
  go_wp2_with fail
  refine (H1.out _).mono ?_
  rintro e W2 ⟨rfl, hb⟩
  have nqa := rowk qa hb rfl
  have nqb := rowk qb hb rfl
  have nqd := rowk qd hb rfl
  have nqz := rowk qz hb rfl
  have hB2 := below_of hB1 hb hB1.size
  clear hb hB1 qa qb qd qz qa_c qa_f qb_c qb_f qd_c qd_f qz_c qz_f
  have qa := nqa
  have qb := nqb
  have qd := nqd
  have qz := nqz
  clear nqa nqb nqd nqz
  have qa_c := fun j => cell_of_row W2 _ j _ _ _ qa
  have qa_f := fun j => frozen_of_row W2 _ j _ _ qa
  have qb_c := fun j => cell_of_row W2 _ j _ _ _ qb
  have qb_f := fun j => frozen_of_row W2 _ j _ _ qb
  have qd_c := fun j => cell_of_row W2 _ j _ _ _ qd
  have qd_f := fun j => frozen_of_row W2 _ j _ _ qd
  have qz_c := fun j => cell_of_row W2 _ j _ _ _ qz
  have qz_f := fun j => frozen_of_row W2 _ j _ _ qz
  go_wp2_with fail
  refine (H2.out _).mono ?_
  rintro e W3 ⟨rfl, hb⟩
  have nqa := rowk qa hb rfl
  have nqb := rowk qb hb rfl
  have nqd := rowk qd hb rfl
  have nqz := rowk qz hb rfl
  have hB3 := below_of hB2 hb hB2.size
  clear hb hB2 qa qb qd qz qa_c qa_f qb_c qb_f qd_c qd_f qz_c qz_f
  have qa := nqa
  have qb := nqb
  have qd := nqd
  have qz := nqz
  clear nqa nqb nqd nqz
  have qa_c := fun j => cell_of_row W3 _ j _ _ _ qa
  have qa_f := fun j => frozen_of_row W3 _ j _ _ qa
  have qb_c := fun j => cell_of_row W3 _ j _ _ _ qb
  have qb_f := fun j => frozen_of_row W3 _ j _ _ qb
  have qd_c := fun j => cell_of_row W3 _ j _ _ _ qd
  have qd_f := fun j => frozen_of_row W3 _ j _ _ qd
  have qz_c := fun j => cell_of_row W3 _ j _ _ _ qz
  have qz_f := fun j => frozen_of_row W3 _ j _ _ qz
  go_wp2_with fail
  refine bodyPost_ret (v := .tuple #[.agg #[.int .i64 0, .int .i64 0, .int .i64 0, .int .i64 0, .int .i64 0, .int .i64 0], .bool false]) (by simp [results, Try.results39, go_sem, qz_c]) rfl ⟨rfl, ?_⟩
  exact below6 hB3 (by omega)
set_option maxHeartbeats 1000000 in
theorem ihi_no0 (a0 a1 a2 a3 a4 a5 : Int) (b0 b1 b2 b3 b4 b5 : Int) (d0 d1 d2 d3 d4 d5 : Int) (H0 : Hid (∀ w, Calls Try.prog 104 #[.agg #[.int .i64 a0, .int .i64 a1, .int .i64 a2, .int .i64 a3, .int .i64 a4, .int .i64 a5]] w fun e w' => e = .returned (.bool false) ∧ Below w.heap.size w w')) (w : World) : Calls Try.prog 40 #[.agg #[.int .i64 a0, .int .i64 a1, .int .i64 a2, .int .i64 a3, .int .i64 a4, .int .i64 a5], .agg #[.int .i64 b0, .int .i64 b1, .int .i64 b2, .int .i64 b3, .int .i64 b4, .int .i64 b5], .agg #[.int .i64 d0, .int .i64 d1, .int .i64 d2, .int .i64 d3, .int .i64 d4, .int .i64 d5]] w fun e w' => e = .returned (.tuple #[.agg #[.int .i64 0, .int .i64 0, .int .i64 0, .int .i64 0, .int .i64 0, .int .i64 0], .bool false]) ∧ Below w.heap.size w w' := by
  go_enter Try.func40, Try.ntmps40
  go_wp2_with fail
  generalize hW : (World.alloc _ _ : World) = W0
  have hB0 : Below w.heap.size w W0 := by rw [← hW]; (repeat (first | exact Below.refl _ _ | assumption | refine Below.setCell ?_ (by first | (simp; done) | (simp; omega)) _ | refine Below.alloc ?_ (by first | (simp; done) | (simp; omega)) _ | refine Below.drew ?_))
  have qa : W0.heap[(w.heap.size : Nat)]? = some (Obj.cells (#[.int .i64 a0, .int .i64 a1, .int .i64 a2, .int .i64 a3, .int .i64 a4, .int .i64 a5]) 25 (0, 0)) := by
    rw [← hW]
    repeat (first | (refine alloc_at ?_; first | (simp; done) | (simp; omega)) | refine drew_row ?_ | refine alloc_past ?_ | assumption)
  have qb : W0.heap[(w.heap.size + 1 : Nat)]? = some (Obj.cells (#[.int .i64 b0, .int .i64 b1, .int .i64 b2, .int .i64 b3, .int .i64 b4, .int .i64 b5]) 25 (0, 0)) := by
    rw [← hW]
    repeat (first | (refine alloc_at ?_; first | (simp; done) | (simp; omega)) | refine drew_row ?_ | refine alloc_past ?_ | assumption)
  have qd : W0.heap[(w.heap.size + 1 + 1 : Nat)]? = some (Obj.cells (#[.int .i64 d0, .int .i64 d1, .int .i64 d2, .int .i64 d3, .int .i64 d4, .int .i64 d5]) 25 (0, 0)) := by
    rw [← hW]
    repeat (first | (refine alloc_at ?_; first | (simp; done) | (simp; omega)) | refine drew_row ?_ | refine alloc_past ?_ | assumption)
  have qz : W0.heap[(w.heap.size + 1 + 1 + 1 : Nat)]? = some (Obj.cells (#[.int .i64 0, .int .i64 0, .int .i64 0, .int .i64 0, .int .i64 0, .int .i64 0]) 25 (0, 0)) := by
    rw [← hW]
    repeat (first | (refine alloc_at ?_; first | (simp; done) | (simp; omega)) | refine drew_row ?_ | refine alloc_past ?_ | assumption)
  clear hW
  refine (H0.out _).mono ?_
  rintro e W1 ⟨rfl, hb⟩
  have nqa := rowk qa hb rfl
  have nqb := rowk qb hb rfl
  have nqd := rowk qd hb rfl
  have nqz := rowk qz hb rfl
  have hB1 := below_of hB0 hb hB0.size
  clear hb hB0 qa qb qd qz
  have qa := nqa
  have qb := nqb
  have qd := nqd
  have qz := nqz
  clear nqa nqb nqd nqz
  have qa_c := fun j => cell_of_row W1 _ j _ _ _ qa
  have qa_f := fun j => frozen_of_row W1 _ j _ _ qa
  have qb_c := fun j => cell_of_row W1 _ j _ _ _ qb
  have qb_f := fun j => frozen_of_row W1 _ j _ _ qb
  have qd_c := fun j => cell_of_row W1 _ j _ _ _ qd
  have qd_f := fun j => frozen_of_row W1 _ j _ _ qd
  have qz_c := fun j => cell_of_row W1 _ j _ _ _ qz
  have qz_f := fun j => frozen_of_row W1 _ j _ _ qz
  go_wp2_with fail
  refine bodyPost_ret (v := .tuple #[.agg #[.int .i64 0, .int .i64 0, .int .i64 0, .int .i64 0, .int .i64 0, .int .i64 0], .bool false]) (by simp [results, Try.results40, go_sem, qz_c]) rfl ⟨rfl, ?_⟩
  exact below6 hB1 (by omega)
set_option maxHeartbeats 1000000 in
theorem ihi_no1 (a0 a1 a2 a3 a4 a5 : Int) (b0 b1 b2 b3 b4 b5 : Int) (d0 d1 d2 d3 d4 d5 : Int) (H0 : Hid (∀ w, Calls Try.prog 104 #[.agg #[.int .i64 a0, .int .i64 a1, .int .i64 a2, .int .i64 a3, .int .i64 a4, .int .i64 a5]] w fun e w' => e = .returned (.bool true) ∧ Below w.heap.size w w')) (H1 : Hid (∀ w, Calls Try.prog 104 #[.agg #[.int .i64 b0, .int .i64 b1, .int .i64 b2, .int .i64 b3, .int .i64 b4, .int .i64 b5]] w fun e w' => e = .returned (.bool false) ∧ Below w.heap.size w w')) (w : World) : Calls Try.prog 40 #[.agg #[.int .i64 a0, .int .i64 a1, .int .i64 a2, .int .i64 a3, .int .i64 a4, .int .i64 a5], .agg #[.int .i64 b0, .int .i64 b1, .int .i64 b2, .int .i64 b3, .int .i64 b4, .int .i64 b5], .agg #[.int .i64 d0, .int .i64 d1, .int .i64 d2, .int .i64 d3, .int .i64 d4, .int .i64 d5]] w fun e w' => e = .returned (.tuple #[.agg #[.int .i64 0, .int .i64 0, .int .i64 0, .int .i64 0, .int .i64 0, .int .i64 0], .bool false]) ∧ Below w.heap.size w w' := by
  go_enter Try.func40, Try.ntmps40
  go_wp2_with fail
  generalize hW : (World.alloc _ _ : World) = W0
  have hB0 : Below w.heap.size w W0 := by rw [← hW]; (repeat (first | exact Below.refl _ _ | assumption | refine Below.setCell ?_ (by first | (simp; done) | (simp; omega)) _ | refine Below.alloc ?_ (by first | (simp; done) | (simp; omega)) _ | refine Below.drew ?_))
  have qa : W0.heap[(w.heap.size : Nat)]? = some (Obj.cells (#[.int .i64 a0, .int .i64 a1, .int .i64 a2, .int .i64 a3, .int .i64 a4, .int .i64 a5]) 25 (0, 0)) := by
    rw [← hW]
    repeat (first | (refine alloc_at ?_; first | (simp; done) | (simp; omega)) | refine drew_row ?_ | refine alloc_past ?_ | assumption)
  have qb : W0.heap[(w.heap.size + 1 : Nat)]? = some (Obj.cells (#[.int .i64 b0, .int .i64 b1, .int .i64 b2, .int .i64 b3, .int .i64 b4, .int .i64 b5]) 25 (0, 0)) := by
    rw [← hW]
    repeat (first | (refine alloc_at ?_; first | (simp; done) | (simp; omega)) | refine drew_row ?_ | refine alloc_past ?_ | assumption)
  have qd : W0.heap[(w.heap.size + 1 + 1 : Nat)]? = some (Obj.cells (#[.int .i64 d0, .int .i64 d1, .int .i64 d2, .int .i64 d3, .int .i64 d4, .int .i64 d5]) 25 (0, 0)) := by
    rw [← hW]
    repeat (first | (refine alloc_at ?_; first | (simp; done) | (simp; omega)) | refine drew_row ?_ | refine alloc_past ?_ | assumption)
  have qz : W0.heap[(w.heap.size + 1 + 1 + 1 : Nat)]? = some (Obj.cells (#[.int .i64 0, .int .i64 0, .int .i64 0, .int .i64 0, .int .i64 0, .int .i64 0]) 25 (0, 0)) := by
    rw [← hW]
    repeat (first | (refine alloc_at ?_; first | (simp; done) | (simp; omega)) | refine drew_row ?_ | refine alloc_past ?_ | assumption)
  clear hW
  refine (H0.out _).mono ?_
  rintro e W1 ⟨rfl, hb⟩
  have nqa := rowk qa hb rfl
  have nqb := rowk qb hb rfl
  have nqd := rowk qd hb rfl
  have nqz := rowk qz hb rfl
  have hB1 := below_of hB0 hb hB0.size
  clear hb hB0 qa qb qd qz
  have qa := nqa
  have qb := nqb
  have qd := nqd
  have qz := nqz
  clear nqa nqb nqd nqz
  have qa_c := fun j => cell_of_row W1 _ j _ _ _ qa
  have qa_f := fun j => frozen_of_row W1 _ j _ _ qa
  have qb_c := fun j => cell_of_row W1 _ j _ _ _ qb
  have qb_f := fun j => frozen_of_row W1 _ j _ _ qb
  have qd_c := fun j => cell_of_row W1 _ j _ _ _ qd
  have qd_f := fun j => frozen_of_row W1 _ j _ _ qd
  have qz_c := fun j => cell_of_row W1 _ j _ _ _ qz
  have qz_f := fun j => frozen_of_row W1 _ j _ _ qz
  go_wp2_with fail
  refine (H1.out _).mono ?_
  rintro e W2 ⟨rfl, hb⟩
  have nqa := rowk qa hb rfl
  have nqb := rowk qb hb rfl
  have nqd := rowk qd hb rfl
  have nqz := rowk qz hb rfl
  have hB2 := below_of hB1 hb hB1.size
  clear hb hB1 qa qb qd qz qa_c qa_f qb_c qb_f qd_c qd_f qz_c qz_f
  have qa := nqa
  have qb := nqb
  have qd := nqd
  have qz := nqz
  clear nqa nqb nqd nqz
  have qa_c := fun j => cell_of_row W2 _ j _ _ _ qa
  have qa_f := fun j => frozen_of_row W2 _ j _ _ qa
  have qb_c := fun j => cell_of_row W2 _ j _ _ _ qb
  have qb_f := fun j => frozen_of_row W2 _ j _ _ qb
  have qd_c := fun j => cell_of_row W2 _ j _ _ _ qd
  have qd_f := fun j => frozen_of_row W2 _ j _ _ qd
  have qz_c := fun j => cell_of_row W2 _ j _ _ _ qz
  have qz_f := fun j => frozen_of_row W2 _ j _ _ qz
  go_wp2_with fail
  refine bodyPost_ret (v := .tuple #[.agg #[.int .i64 0, .int .i64 0, .int .i64 0, .int .i64 0, .int .i64 0, .int .i64 0], .bool false]) (by simp [results, Try.results40, go_sem, qz_c]) rfl ⟨rfl, ?_⟩
  exact below6 hB2 (by omega)
set_option maxHeartbeats 1000000 in
theorem ihi_no2 (a0 a1 a2 a3 a4 a5 : Int) (b0 b1 b2 b3 b4 b5 : Int) (d0 d1 d2 d3 d4 d5 : Int) (H0 : Hid (∀ w, Calls Try.prog 104 #[.agg #[.int .i64 a0, .int .i64 a1, .int .i64 a2, .int .i64 a3, .int .i64 a4, .int .i64 a5]] w fun e w' => e = .returned (.bool true) ∧ Below w.heap.size w w')) (H1 : Hid (∀ w, Calls Try.prog 104 #[.agg #[.int .i64 b0, .int .i64 b1, .int .i64 b2, .int .i64 b3, .int .i64 b4, .int .i64 b5]] w fun e w' => e = .returned (.bool true) ∧ Below w.heap.size w w')) (H2 : Hid (∀ w, Calls Try.prog 104 #[.agg #[.int .i64 d0, .int .i64 d1, .int .i64 d2, .int .i64 d3, .int .i64 d4, .int .i64 d5]] w fun e w' => e = .returned (.bool false) ∧ Below w.heap.size w w')) (w : World) : Calls Try.prog 40 #[.agg #[.int .i64 a0, .int .i64 a1, .int .i64 a2, .int .i64 a3, .int .i64 a4, .int .i64 a5], .agg #[.int .i64 b0, .int .i64 b1, .int .i64 b2, .int .i64 b3, .int .i64 b4, .int .i64 b5], .agg #[.int .i64 d0, .int .i64 d1, .int .i64 d2, .int .i64 d3, .int .i64 d4, .int .i64 d5]] w fun e w' => e = .returned (.tuple #[.agg #[.int .i64 0, .int .i64 0, .int .i64 0, .int .i64 0, .int .i64 0, .int .i64 0], .bool false]) ∧ Below w.heap.size w w' := by
  go_enter Try.func40, Try.ntmps40
  go_wp2_with fail
  generalize hW : (World.alloc _ _ : World) = W0
  have hB0 : Below w.heap.size w W0 := by rw [← hW]; (repeat (first | exact Below.refl _ _ | assumption | refine Below.setCell ?_ (by first | (simp; done) | (simp; omega)) _ | refine Below.alloc ?_ (by first | (simp; done) | (simp; omega)) _ | refine Below.drew ?_))
  have qa : W0.heap[(w.heap.size : Nat)]? = some (Obj.cells (#[.int .i64 a0, .int .i64 a1, .int .i64 a2, .int .i64 a3, .int .i64 a4, .int .i64 a5]) 25 (0, 0)) := by
    rw [← hW]
    repeat (first | (refine alloc_at ?_; first | (simp; done) | (simp; omega)) | refine drew_row ?_ | refine alloc_past ?_ | assumption)
  have qb : W0.heap[(w.heap.size + 1 : Nat)]? = some (Obj.cells (#[.int .i64 b0, .int .i64 b1, .int .i64 b2, .int .i64 b3, .int .i64 b4, .int .i64 b5]) 25 (0, 0)) := by
    rw [← hW]
    repeat (first | (refine alloc_at ?_; first | (simp; done) | (simp; omega)) | refine drew_row ?_ | refine alloc_past ?_ | assumption)
  have qd : W0.heap[(w.heap.size + 1 + 1 : Nat)]? = some (Obj.cells (#[.int .i64 d0, .int .i64 d1, .int .i64 d2, .int .i64 d3, .int .i64 d4, .int .i64 d5]) 25 (0, 0)) := by
    rw [← hW]
    repeat (first | (refine alloc_at ?_; first | (simp; done) | (simp; omega)) | refine drew_row ?_ | refine alloc_past ?_ | assumption)
  have qz : W0.heap[(w.heap.size + 1 + 1 + 1 : Nat)]? = some (Obj.cells (#[.int .i64 0, .int .i64 0, .int .i64 0, .int .i64 0, .int .i64 0, .int .i64 0]) 25 (0, 0)) := by
    rw [← hW]
    repeat (first | (refine alloc_at ?_; first | (simp; done) | (simp; omega)) | refine drew_row ?_ | refine alloc_past ?_ | assumption)
  clear hW
  refine (H0.out _).mono ?_
  rintro e W1 ⟨rfl, hb⟩
  have nqa := rowk qa hb rfl
  have nqb := rowk qb hb rfl
  have nqd := rowk qd hb rfl
  have nqz := rowk qz hb rfl
  have hB1 := below_of hB0 hb hB0.size
  clear hb hB0 qa qb qd qz
  have qa := nqa
  have qb := nqb
  have qd := nqd
  have qz := nqz
  clear nqa nqb nqd nqz
  have qa_c := fun j => cell_of_row W1 _ j _ _ _ qa
  have qa_f := fun j => frozen_of_row W1 _ j _ _ qa
  have qb_c := fun j => cell_of_row W1 _ j _ _ _ qb
  have qb_f := fun j => frozen_of_row W1 _ j _ _ qb
  have qd_c := fun j => cell_of_row W1 _ j _ _ _ qd
  have qd_f := fun j => frozen_of_row W1 _ j _ _ qd
  have qz_c := fun j => cell_of_row W1 _ j _ _ _ qz
  have qz_f := fun j => frozen_of_row W1 _ j _ _ qz
  go_wp2_with fail
  refine (H1.out _).mono ?_
  rintro e W2 ⟨rfl, hb⟩
  have nqa := rowk qa hb rfl
  have nqb := rowk qb hb rfl
  have nqd := rowk qd hb rfl
  have nqz := rowk qz hb rfl
  have hB2 := below_of hB1 hb hB1.size
  clear hb hB1 qa qb qd qz qa_c qa_f qb_c qb_f qd_c qd_f qz_c qz_f
  have qa := nqa
  have qb := nqb
  have qd := nqd
  have qz := nqz
  clear nqa nqb nqd nqz
  have qa_c := fun j => cell_of_row W2 _ j _ _ _ qa
  have qa_f := fun j => frozen_of_row W2 _ j _ _ qa
  have qb_c := fun j => cell_of_row W2 _ j _ _ _ qb
  have qb_f := fun j => frozen_of_row W2 _ j _ _ qb
  have qd_c := fun j => cell_of_row W2 _ j _ _ _ qd
  have qd_f := fun j => frozen_of_row W2 _ j _ _ qd
  have qz_c := fun j => cell_of_row W2 _ j _ _ _ qz
  have qz_f := fun j => frozen_of_row W2 _ j _ _ qz
  go_wp2_with fail
  refine (H2.out _).mono ?_
  rintro e W3 ⟨rfl, hb⟩
  have nqa := rowk qa hb rfl
  have nqb := rowk qb hb rfl
  have nqd := rowk qd hb rfl
  have nqz := rowk qz hb rfl
  have hB3 := below_of hB2 hb hB2.size
  clear hb hB2 qa qb qd qz qa_c qa_f qb_c qb_f qd_c qd_f qz_c qz_f
  have qa := nqa
  have qb := nqb
  have qd := nqd
  have qz := nqz
  clear nqa nqb nqd nqz
  have qa_c := fun j => cell_of_row W3 _ j _ _ _ qa
  have qa_f := fun j => frozen_of_row W3 _ j _ _ qa
  have qb_c := fun j => cell_of_row W3 _ j _ _ _ qb
  have qb_f := fun j => frozen_of_row W3 _ j _ _ qb
  have qd_c := fun j => cell_of_row W3 _ j _ _ _ qd
  have qd_f := fun j => frozen_of_row W3 _ j _ _ qd
  have qz_c := fun j => cell_of_row W3 _ j _ _ _ qz
  have qz_f := fun j => frozen_of_row W3 _ j _ _ qz
  go_wp2_with fail
  refine bodyPost_ret (v := .tuple #[.agg #[.int .i64 0, .int .i64 0, .int .i64 0, .int .i64 0, .int .i64 0, .int .i64 0], .bool false]) (by simp [results, Try.results40, go_sem, qz_c]) rfl ⟨rfl, ?_⟩
  exact below6 hB3 (by omega)
end Go.Proofs.Ytjhokdccgachcaa
