/- CONTRACTS: MotionBehind and MotionBack: they test their arguments, and then call one function. -/
import Derived.Test.YtpgfmigbjffemaaSc
import Derived.Test.YtpgfmigbjffemaaKp
import Derived.Test.YtpgfmigbjffemaaKr
import Derived.WalkKit
import Derived.ProofKit
import Derived.OpenShut
import Derived.Lib.Hide
import Derived.WalkSpells
import Derived.Below
import Derived.BigQuiet
import Derived.LoopN
namespace Go.Proofs.Ytpgfmigbjffemaa
open Go.ChangeShapes Go.WideShapes Go.ChangeAt Go.RowKit
set_option linter.unusedVariables false
set_option maxHeartbeats 1000000 in
theorem smb_yes (m0 m1 m2 : Int) (n0 n1 n2 : Int) (r0 r1 r2 : Int) (H0 : Hid (∀ w, Calls Try.prog 147 #[.agg #[.int .i64 m0, .int .i64 m1, .int .i64 m2]] w fun e w' => e = .returned (.bool true) ∧ Below w.heap.size w w')) (H1 : Hid (∀ w, Calls Try.prog 147 #[.agg #[.int .i64 n0, .int .i64 n1, .int .i64 n2]] w fun e w' => e = .returned (.bool true) ∧ Below w.heap.size w w')) (HF : Hid (∀ w, Calls Try.prog 153 #[.agg #[.int .i64 m0, .int .i64 m1, .int .i64 m2], .agg #[.int .i64 n0, .int .i64 n1, .int .i64 n2]] w fun e w' => e = .returned (.agg #[.int .i64 r0, .int .i64 r1, .int .i64 r2]) ∧ Below w.heap.size w w')) (w : World) : Calls Try.prog 69 #[.agg #[.int .i64 m0, .int .i64 m1, .int .i64 m2], .agg #[.int .i64 n0, .int .i64 n1, .int .i64 n2]] w fun e w' => e = .returned (.tuple #[.agg #[.int .i64 r0, .int .i64 r1, .int .i64 r2], .bool true]) ∧ Below w.heap.size w w' := by
  go_enter Try.func69, Try.ntmps69
  go_wp2_with fail
  generalize hW : (World.alloc _ _ : World) = W0
  have hB0 : Below w.heap.size w W0 := by rw [← hW]; (repeat (first | exact Below.refl _ _ | assumption | refine Below.setCell ?_ (by first | (simp; done) | (simp; omega)) _ | refine Below.alloc ?_ (by first | (simp; done) | (simp; omega)) _ | refine Below.drew ?_))
  have qm : W0.heap[(w.heap.size : Nat)]? = some (Obj.cells (#[.int .i64 m0, .int .i64 m1, .int .i64 m2]) 67 (0, 0)) := by
    rw [← hW]
    repeat (first | (refine alloc_at ?_; first | (simp; done) | (simp; omega)) | refine drew_row ?_ | refine alloc_past ?_ | assumption)
  have qn : W0.heap[(w.heap.size + 1 : Nat)]? = some (Obj.cells (#[.int .i64 n0, .int .i64 n1, .int .i64 n2]) 67 (0, 0)) := by
    rw [← hW]
    repeat (first | (refine alloc_at ?_; first | (simp; done) | (simp; omega)) | refine drew_row ?_ | refine alloc_past ?_ | assumption)
  have qz : W0.heap[(w.heap.size + 1 + 1 : Nat)]? = some (Obj.cells (#[.int .i64 0, .int .i64 0, .int .i64 0]) 67 (0, 0)) := by
    rw [← hW]
    repeat (first | (refine alloc_at ?_; first | (simp; done) | (simp; omega)) | refine drew_row ?_ | refine alloc_past ?_ | assumption)
  clear hW
  refine (H0.out _).mono ?_
  rintro e W1 ⟨rfl, hb⟩
  have nqm := rowk qm hb rfl
  have nqn := rowk qn hb rfl
  have nqz := rowk qz hb rfl
  have hB1 := below_of hB0 hb hB0.size
  clear hb hB0 qm qn qz
  have qm := nqm
  have qn := nqn
  have qz := nqz
  clear nqm nqn nqz
  have qm_c := fun j => cell_of_row W1 _ j _ _ _ qm
  have qm_f := fun j => frozen_of_row W1 _ j _ _ qm
  have qn_c := fun j => cell_of_row W1 _ j _ _ _ qn
  have qn_f := fun j => frozen_of_row W1 _ j _ _ qn
  have qz_c := fun j => cell_of_row W1 _ j _ _ _ qz
  have qz_f := fun j => frozen_of_row W1 _ j _ _ qz
  go_wp2_with fail
  refine (H1.out _).mono ?_
  rintro e W2 ⟨rfl, hb⟩
  have nqm := rowk qm hb rfl
  have nqn := rowk qn hb rfl
  have nqz := rowk qz hb rfl
  have hB2 := below_of hB1 hb hB1.size
  clear hb hB1 qm qn qz qm_c qm_f qn_c qn_f qz_c qz_f
  have qm := nqm
  have qn := nqn
  have qz := nqz
  clear nqm nqn nqz
  have qm_c := fun j => cell_of_row W2 _ j _ _ _ qm
  have qm_f := fun j => frozen_of_row W2 _ j _ _ qm
  have qn_c := fun j => cell_of_row W2 _ j _ _ _ qn
  have qn_f := fun j => frozen_of_row W2 _ j _ _ qn
  have qz_c := fun j => cell_of_row W2 _ j _ _ _ qz
  have qz_f := fun j => frozen_of_row W2 _ j _ _ qz
  go_wp2_with fail
  refine (HF.out _).mono ?_
  rintro e W3 ⟨rfl, hb⟩
  have nqm := rowk qm hb rfl
  have nqn := rowk qn hb rfl
  have nqz := rowk qz hb rfl
  have hB3 := below_of hB2 hb hB2.size
  clear hb hB2 qm qn qz qm_c qm_f qn_c qn_f qz_c qz_f
  have qm := nqm
  have qn := nqn
  have qz := nqz
  clear nqm nqn nqz
  have qm_c := fun j => cell_of_row W3 _ j _ _ _ qm
  have qm_f := fun j => frozen_of_row W3 _ j _ _ qm
  have qn_c := fun j => cell_of_row W3 _ j _ _ _ qn
  have qn_f := fun j => frozen_of_row W3 _ j _ _ qn
  have qz_c := fun j => cell_of_row W3 _ j _ _ _ qz
  have qz_f := fun j => frozen_of_row W3 _ j _ _ qz
  go_wp2_with fail
  refine bodyPost_ret (v := .tuple #[.agg #[.int .i64 r0, .int .i64 r1, .int .i64 r2], .bool true]) (by simp [results, Try.results69, go_sem, qz_c]) rfl ⟨rfl, ?_⟩
  exact belowc3 hB3 (by omega)
set_option maxHeartbeats 1000000 in
theorem smb_no0 (m0 m1 m2 : Int) (n0 n1 n2 : Int) (H0 : Hid (∀ w, Calls Try.prog 147 #[.agg #[.int .i64 m0, .int .i64 m1, .int .i64 m2]] w fun e w' => e = .returned (.bool false) ∧ Below w.heap.size w w')) (w : World) : Calls Try.prog 69 #[.agg #[.int .i64 m0, .int .i64 m1, .int .i64 m2], .agg #[.int .i64 n0, .int .i64 n1, .int .i64 n2]] w fun e w' => e = .returned (.tuple #[.agg #[.int .i64 0, .int .i64 0, .int .i64 0], .bool false]) ∧ Below w.heap.size w w' := by
  go_enter Try.func69, Try.ntmps69
  go_wp2_with fail
  generalize hW : (World.alloc _ _ : World) = W0
  have hB0 : Below w.heap.size w W0 := by rw [← hW]; (repeat (first | exact Below.refl _ _ | assumption | refine Below.setCell ?_ (by first | (simp; done) | (simp; omega)) _ | refine Below.alloc ?_ (by first | (simp; done) | (simp; omega)) _ | refine Below.drew ?_))
  have qm : W0.heap[(w.heap.size : Nat)]? = some (Obj.cells (#[.int .i64 m0, .int .i64 m1, .int .i64 m2]) 67 (0, 0)) := by
    rw [← hW]
    repeat (first | (refine alloc_at ?_; first | (simp; done) | (simp; omega)) | refine drew_row ?_ | refine alloc_past ?_ | assumption)
  have qn : W0.heap[(w.heap.size + 1 : Nat)]? = some (Obj.cells (#[.int .i64 n0, .int .i64 n1, .int .i64 n2]) 67 (0, 0)) := by
    rw [← hW]
    repeat (first | (refine alloc_at ?_; first | (simp; done) | (simp; omega)) | refine drew_row ?_ | refine alloc_past ?_ | assumption)
  have qz : W0.heap[(w.heap.size + 1 + 1 : Nat)]? = some (Obj.cells (#[.int .i64 0, .int .i64 0, .int .i64 0]) 67 (0, 0)) := by
    rw [← hW]
    repeat (first | (refine alloc_at ?_; first | (simp; done) | (simp; omega)) | refine drew_row ?_ | refine alloc_past ?_ | assumption)
  clear hW
  refine (H0.out _).mono ?_
  rintro e W1 ⟨rfl, hb⟩
  have nqm := rowk qm hb rfl
  have nqn := rowk qn hb rfl
  have nqz := rowk qz hb rfl
  have hB1 := below_of hB0 hb hB0.size
  clear hb hB0 qm qn qz
  have qm := nqm
  have qn := nqn
  have qz := nqz
  clear nqm nqn nqz
  have qm_c := fun j => cell_of_row W1 _ j _ _ _ qm
  have qm_f := fun j => frozen_of_row W1 _ j _ _ qm
  have qn_c := fun j => cell_of_row W1 _ j _ _ _ qn
  have qn_f := fun j => frozen_of_row W1 _ j _ _ qn
  have qz_c := fun j => cell_of_row W1 _ j _ _ _ qz
  have qz_f := fun j => frozen_of_row W1 _ j _ _ qz
  go_wp2_with fail
  refine bodyPost_ret (v := .tuple #[.agg #[.int .i64 0, .int .i64 0, .int .i64 0], .bool false]) (by simp [results, Try.results69, go_sem, qz_c]) rfl ⟨rfl, ?_⟩
  exact belowc3 hB1 (by omega)
set_option maxHeartbeats 1000000 in
theorem smb_no1 (m0 m1 m2 : Int) (n0 n1 n2 : Int) (H0 : Hid (∀ w, Calls Try.prog 147 #[.agg #[.int .i64 m0, .int .i64 m1, .int .i64 m2]] w fun e w' => e = .returned (.bool true) ∧ Below w.heap.size w w')) (H1 : Hid (∀ w, Calls Try.prog 147 #[.agg #[.int .i64 n0, .int .i64 n1, .int .i64 n2]] w fun e w' => e = .returned (.bool false) ∧ Below w.heap.size w w')) (w : World) : Calls Try.prog 69 #[.agg #[.int .i64 m0, .int .i64 m1, .int .i64 m2], .agg #[.int .i64 n0, .int .i64 n1, .int .i64 n2]] w fun e w' => e = .returned (.tuple #[.agg #[.int .i64 0, .int .i64 0, .int .i64 0], .bool false]) ∧ Below w.heap.size w w' := by
  go_enter Try.func69, Try.ntmps69
  go_wp2_with fail
  generalize hW : (World.alloc _ _ : World) = W0
  have hB0 : Below w.heap.size w W0 := by rw [← hW]; (repeat (first | exact Below.refl _ _ | assumption | refine Below.setCell ?_ (by first | (simp; done) | (simp; omega)) _ | refine Below.alloc ?_ (by first | (simp; done) | (simp; omega)) _ | refine Below.drew ?_))
  have qm : W0.heap[(w.heap.size : Nat)]? = some (Obj.cells (#[.int .i64 m0, .int .i64 m1, .int .i64 m2]) 67 (0, 0)) := by
    rw [← hW]
    repeat (first | (refine alloc_at ?_; first | (simp; done) | (simp; omega)) | refine drew_row ?_ | refine alloc_past ?_ | assumption)
  have qn : W0.heap[(w.heap.size + 1 : Nat)]? = some (Obj.cells (#[.int .i64 n0, .int .i64 n1, .int .i64 n2]) 67 (0, 0)) := by
    rw [← hW]
    repeat (first | (refine alloc_at ?_; first | (simp; done) | (simp; omega)) | refine drew_row ?_ | refine alloc_past ?_ | assumption)
  have qz : W0.heap[(w.heap.size + 1 + 1 : Nat)]? = some (Obj.cells (#[.int .i64 0, .int .i64 0, .int .i64 0]) 67 (0, 0)) := by
    rw [← hW]
    repeat (first | (refine alloc_at ?_; first | (simp; done) | (simp; omega)) | refine drew_row ?_ | refine alloc_past ?_ | assumption)
  clear hW
  refine (H0.out _).mono ?_
  rintro e W1 ⟨rfl, hb⟩
  have nqm := rowk qm hb rfl
  have nqn := rowk qn hb rfl
  have nqz := rowk qz hb rfl
  have hB1 := below_of hB0 hb hB0.size
  clear hb hB0 qm qn qz
  have qm := nqm
  have qn := nqn
  have qz := nqz
  clear nqm nqn nqz
  have qm_c := fun j => cell_of_row W1 _ j _ _ _ qm
  have qm_f := fun j => frozen_of_row W1 _ j _ _ qm
  have qn_c := fun j => cell_of_row W1 _ j _ _ _ qn
  have qn_f := fun j => frozen_of_row W1 _ j _ _ qn
  have qz_c := fun j => cell_of_row W1 _ j _ _ _ qz
  have qz_f := fun j => frozen_of_row W1 _ j _ _ qz
  go_wp2_with fail
  refine (H1.out _).mono ?_
  rintro e W2 ⟨rfl, hb⟩
  have nqm := rowk qm hb rfl
  have nqn := rowk qn hb rfl
  have nqz := rowk qz hb rfl
  have hB2 := below_of hB1 hb hB1.size
  clear hb hB1 qm qn qz qm_c qm_f qn_c qn_f qz_c qz_f
  have qm := nqm
  have qn := nqn
  have qz := nqz
  clear nqm nqn nqz
  have qm_c := fun j => cell_of_row W2 _ j _ _ _ qm
  have qm_f := fun j => frozen_of_row W2 _ j _ _ qm
  have qn_c := fun j => cell_of_row W2 _ j _ _ _ qn
  have qn_f := fun j => frozen_of_row W2 _ j _ _ qn
  have qz_c := fun j => cell_of_row W2 _ j _ _ _ qz
  have qz_f := fun j => frozen_of_row W2 _ j _ _ qz
  go_wp2_with fail
  refine bodyPost_ret (v := .tuple #[.agg #[.int .i64 0, .int .i64 0, .int .i64 0], .bool false]) (by simp [results, Try.results69, go_sem, qz_c]) rfl ⟨rfl, ?_⟩
  exact belowc3 hB2 (by omega)
set_option maxHeartbeats 1000000 in
theorem imb_no0 (m0 m1 m2 : Int) (n0 n1 n2 : Int) (H0 : Hid (∀ w, Calls Try.prog 149 #[.agg #[.int .i64 m0, .int .i64 m1, .int .i64 m2]] w fun e w' => e = .returned (.bool false) ∧ Below w.heap.size w w')) (w : World) : Calls Try.prog 70 #[.agg #[.int .i64 m0, .int .i64 m1, .int .i64 m2], .agg #[.int .i64 n0, .int .i64 n1, .int .i64 n2]] w fun e w' => e = .returned (.tuple #[.agg #[.int .i64 0, .int .i64 0, .int .i64 0], .bool false]) ∧ Below w.heap.size w w' := by
  go_enter Try.func70, Try.ntmps70
  go_wp2_with fail
  generalize hW : (World.alloc _ _ : World) = W0
  have hB0 : Below w.heap.size w W0 := by rw [← hW]; (repeat (first | exact Below.refl _ _ | assumption | refine Below.setCell ?_ (by first | (simp; done) | (simp; omega)) _ | refine Below.alloc ?_ (by first | (simp; done) | (simp; omega)) _ | refine Below.drew ?_))
  have qm : W0.heap[(w.heap.size : Nat)]? = some (Obj.cells (#[.int .i64 m0, .int .i64 m1, .int .i64 m2]) 67 (0, 0)) := by
    rw [← hW]
    repeat (first | (refine alloc_at ?_; first | (simp; done) | (simp; omega)) | refine drew_row ?_ | refine alloc_past ?_ | assumption)
  have qn : W0.heap[(w.heap.size + 1 : Nat)]? = some (Obj.cells (#[.int .i64 n0, .int .i64 n1, .int .i64 n2]) 67 (0, 0)) := by
    rw [← hW]
    repeat (first | (refine alloc_at ?_; first | (simp; done) | (simp; omega)) | refine drew_row ?_ | refine alloc_past ?_ | assumption)
  have qz : W0.heap[(w.heap.size + 1 + 1 : Nat)]? = some (Obj.cells (#[.int .i64 0, .int .i64 0, .int .i64 0]) 67 (0, 0)) := by
    rw [← hW]
    repeat (first | (refine alloc_at ?_; first | (simp; done) | (simp; omega)) | refine drew_row ?_ | refine alloc_past ?_ | assumption)
  clear hW
  refine (H0.out _).mono ?_
  rintro e W1 ⟨rfl, hb⟩
  have nqm := rowk qm hb rfl
  have nqn := rowk qn hb rfl
  have nqz := rowk qz hb rfl
  have hB1 := below_of hB0 hb hB0.size
  clear hb hB0 qm qn qz
  have qm := nqm
  have qn := nqn
  have qz := nqz
  clear nqm nqn nqz
  have qm_c := fun j => cell_of_row W1 _ j _ _ _ qm
  have qm_f := fun j => frozen_of_row W1 _ j _ _ qm
  have qn_c := fun j => cell_of_row W1 _ j _ _ _ qn
  have qn_f := fun j => frozen_of_row W1 _ j _ _ qn
  have qz_c := fun j => cell_of_row W1 _ j _ _ _ qz
  have qz_f := fun j => frozen_of_row W1 _ j _ _ qz
  go_wp2_with fail
  refine bodyPost_ret (v := .tuple #[.agg #[.int .i64 0, .int .i64 0, .int .i64 0], .bool false]) (by simp [results, Try.results70, go_sem, qz_c]) rfl ⟨rfl, ?_⟩
  exact belowc3 hB1 (by omega)
set_option maxHeartbeats 1000000 in
theorem imb_no1 (m0 m1 m2 : Int) (n0 n1 n2 : Int) (H0 : Hid (∀ w, Calls Try.prog 149 #[.agg #[.int .i64 m0, .int .i64 m1, .int .i64 m2]] w fun e w' => e = .returned (.bool true) ∧ Below w.heap.size w w')) (H1 : Hid (∀ w, Calls Try.prog 149 #[.agg #[.int .i64 n0, .int .i64 n1, .int .i64 n2]] w fun e w' => e = .returned (.bool false) ∧ Below w.heap.size w w')) (w : World) : Calls Try.prog 70 #[.agg #[.int .i64 m0, .int .i64 m1, .int .i64 m2], .agg #[.int .i64 n0, .int .i64 n1, .int .i64 n2]] w fun e w' => e = .returned (.tuple #[.agg #[.int .i64 0, .int .i64 0, .int .i64 0], .bool false]) ∧ Below w.heap.size w w' := by
  go_enter Try.func70, Try.ntmps70
  go_wp2_with fail
  generalize hW : (World.alloc _ _ : World) = W0
  have hB0 : Below w.heap.size w W0 := by rw [← hW]; (repeat (first | exact Below.refl _ _ | assumption | refine Below.setCell ?_ (by first | (simp; done) | (simp; omega)) _ | refine Below.alloc ?_ (by first | (simp; done) | (simp; omega)) _ | refine Below.drew ?_))
  have qm : W0.heap[(w.heap.size : Nat)]? = some (Obj.cells (#[.int .i64 m0, .int .i64 m1, .int .i64 m2]) 67 (0, 0)) := by
    rw [← hW]
    repeat (first | (refine alloc_at ?_; first | (simp; done) | (simp; omega)) | refine drew_row ?_ | refine alloc_past ?_ | assumption)
  have qn : W0.heap[(w.heap.size + 1 : Nat)]? = some (Obj.cells (#[.int .i64 n0, .int .i64 n1, .int .i64 n2]) 67 (0, 0)) := by
    rw [← hW]
    repeat (first | (refine alloc_at ?_; first | (simp; done) | (simp; omega)) | refine drew_row ?_ | refine alloc_past ?_ | assumption)
  have qz : W0.heap[(w.heap.size + 1 + 1 : Nat)]? = some (Obj.cells (#[.int .i64 0, .int .i64 0, .int .i64 0]) 67 (0, 0)) := by
    rw [← hW]
    repeat (first | (refine alloc_at ?_; first | (simp; done) | (simp; omega)) | refine drew_row ?_ | refine alloc_past ?_ | assumption)
  clear hW
  refine (H0.out _).mono ?_
  rintro e W1 ⟨rfl, hb⟩
  have nqm := rowk qm hb rfl
  have nqn := rowk qn hb rfl
  have nqz := rowk qz hb rfl
  have hB1 := below_of hB0 hb hB0.size
  clear hb hB0 qm qn qz
  have qm := nqm
  have qn := nqn
  have qz := nqz
  clear nqm nqn nqz
  have qm_c := fun j => cell_of_row W1 _ j _ _ _ qm
  have qm_f := fun j => frozen_of_row W1 _ j _ _ qm
  have qn_c := fun j => cell_of_row W1 _ j _ _ _ qn
  have qn_f := fun j => frozen_of_row W1 _ j _ _ qn
  have qz_c := fun j => cell_of_row W1 _ j _ _ _ qz
  have qz_f := fun j => frozen_of_row W1 _ j _ _ qz
  go_wp2_with fail
  refine (H1.out _).mono ?_
  rintro e W2 ⟨rfl, hb⟩
  have nqm := rowk qm hb rfl
  have nqn := rowk qn hb rfl
  have nqz := rowk qz hb rfl
  have hB2 := below_of hB1 hb hB1.size
  clear hb hB1 qm qn qz qm_c qm_f qn_c qn_f qz_c qz_f
  have qm := nqm
  have qn := nqn
  have qz := nqz
  clear nqm nqn nqz
  have qm_c := fun j => cell_of_row W2 _ j _ _ _ qm
  have qm_f := fun j => frozen_of_row W2 _ j _ _ qm
  have qn_c := fun j => cell_of_row W2 _ j _ _ _ qn
  have qn_f := fun j => frozen_of_row W2 _ j _ _ qn
  have qz_c := fun j => cell_of_row W2 _ j _ _ _ qz
  have qz_f := fun j => frozen_of_row W2 _ j _ _ qz
  go_wp2_with fail
  refine bodyPost_ret (v := .tuple #[.agg #[.int .i64 0, .int .i64 0, .int .i64 0], .bool false]) (by simp [results, Try.results70, go_sem, qz_c]) rfl ⟨rfl, ?_⟩
  exact belowc3 hB2 (by omega)
set_option maxHeartbeats 1000000 in
theorem smk_no0 (m0 m1 m2 : Int) (H0 : Hid (∀ w, Calls Try.prog 147 #[.agg #[.int .i64 m0, .int .i64 m1, .int .i64 m2]] w fun e w' => e = .returned (.bool false) ∧ Below w.heap.size w w')) (w : World) : Calls Try.prog 72 #[.agg #[.int .i64 m0, .int .i64 m1, .int .i64 m2]] w fun e w' => e = .returned (.tuple #[.agg #[.int .i64 0, .int .i64 0, .int .i64 0], .bool false]) ∧ Below w.heap.size w w' := by
  go_enter Try.func72, Try.ntmps72
  go_wp2_with fail
  generalize hW : (World.alloc _ _ : World) = W0
  have hB0 : Below w.heap.size w W0 := by rw [← hW]; (repeat (first | exact Below.refl _ _ | assumption | refine Below.setCell ?_ (by first | (simp; done) | (simp; omega)) _ | refine Below.alloc ?_ (by first | (simp; done) | (simp; omega)) _ | refine Below.drew ?_))
  have qm : W0.heap[(w.heap.size : Nat)]? = some (Obj.cells (#[.int .i64 m0, .int .i64 m1, .int .i64 m2]) 67 (0, 0)) := by
    rw [← hW]
    repeat (first | (refine alloc_at ?_; first | (simp; done) | (simp; omega)) | refine drew_row ?_ | refine alloc_past ?_ | assumption)
  have qz : W0.heap[(w.heap.size + 1 : Nat)]? = some (Obj.cells (#[.int .i64 0, .int .i64 0, .int .i64 0]) 67 (0, 0)) := by
    rw [← hW]
    repeat (first | (refine alloc_at ?_; first | (simp; done) | (simp; omega)) | refine drew_row ?_ | refine alloc_past ?_ | assumption)
  clear hW
  refine (H0.out _).mono ?_
  rintro e W1 ⟨rfl, hb⟩
  have nqm := rowk qm hb rfl
  have nqz := rowk qz hb rfl
  have hB1 := below_of hB0 hb hB0.size
  clear hb hB0 qm qz
  have qm := nqm
  have qz := nqz
  clear nqm nqz
  have qm_c := fun j => cell_of_row W1 _ j _ _ _ qm
  have qm_f := fun j => frozen_of_row W1 _ j _ _ qm
  have qz_c := fun j => cell_of_row W1 _ j _ _ _ qz
  have qz_f := fun j => frozen_of_row W1 _ j _ _ qz
  go_wp2_with fail
  refine bodyPost_ret (v := .tuple #[.agg #[.int .i64 0, .int .i64 0, .int .i64 0], .bool false]) (by simp [results, Try.results72, go_sem, qz_c]) rfl ⟨rfl, ?_⟩
  exact belowc3 hB1 (by omega)
set_option maxHeartbeats 1000000 in
theorem imk_no0 (m0 m1 m2 : Int) (H0 : Hid (∀ w, Calls Try.prog 149 #[.agg #[.int .i64 m0, .int .i64 m1, .int .i64 m2]] w fun e w' => e = .returned (.bool false) ∧ Below w.heap.size w w')) (w : World) : Calls Try.prog 73 #[.agg #[.int .i64 m0, .int .i64 m1, .int .i64 m2]] w fun e w' => e = .returned (.tuple #[.agg #[.int .i64 0, .int .i64 0, .int .i64 0], .bool false]) ∧ Below w.heap.size w w' := by
  go_enter Try.func73, Try.ntmps73
  go_wp2_with fail
  generalize hW : (World.alloc _ _ : World) = W0
  have hB0 : Below w.heap.size w W0 := by rw [← hW]; (repeat (first | exact Below.refl _ _ | assumption | refine Below.setCell ?_ (by first | (simp; done) | (simp; omega)) _ | refine Below.alloc ?_ (by first | (simp; done) | (simp; omega)) _ | refine Below.drew ?_))
  have qm : W0.heap[(w.heap.size : Nat)]? = some (Obj.cells (#[.int .i64 m0, .int .i64 m1, .int .i64 m2]) 67 (0, 0)) := by
    rw [← hW]
    repeat (first | (refine alloc_at ?_; first | (simp; done) | (simp; omega)) | refine drew_row ?_ | refine alloc_past ?_ | assumption)
  have qz : W0.heap[(w.heap.size + 1 : Nat)]? = some (Obj.cells (#[.int .i64 0, .int .i64 0, .int .i64 0]) 67 (0, 0)) := by
    rw [← hW]
    repeat (first | (refine alloc_at ?_; first | (simp; done) | (simp; omega)) | refine drew_row ?_ | refine alloc_past ?_ | assumption)
  clear hW
  refine (H0.out _).mono ?_
  rintro e W1 ⟨rfl, hb⟩
  have nqm := rowk qm hb rfl
  have nqz := rowk qz hb rfl
  have hB1 := below_of hB0 hb hB0.size
  clear hb hB0 qm qz
  have qm := nqm
  have qz := nqz
  clear nqm nqz
  have qm_c := fun j => cell_of_row W1 _ j _ _ _ qm
  have qm_f := fun j => frozen_of_row W1 _ j _ _ qm
  have qz_c := fun j => cell_of_row W1 _ j _ _ _ qz
  have qz_f := fun j => frozen_of_row W1 _ j _ _ qz
  go_wp2_with fail
  refine bodyPost_ret (v := .tuple #[.agg #[.int .i64 0, .int .i64 0, .int .i64 0], .bool false]) (by simp [results, Try.results73, go_sem, qz_c]) rfl ⟨rfl, ?_⟩
  exact belowc3 hB1 (by omega)
end Go.Proofs.Ytpgfmigbjffemaa
