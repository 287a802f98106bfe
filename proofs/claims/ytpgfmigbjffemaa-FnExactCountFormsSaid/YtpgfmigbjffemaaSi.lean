/- CONTRACTS: FlipCell of the code. -/
import Derived.Test.YtpgfmigbjffemaaSb
import Derived.Test.YtpgfmigbjffemaaSc
import Derived.Test.YtpgfmigbjffemaaSd
import Derived.Test.YtpgfmigbjffemaaKp
import Derived.Test.YtpgfmigbjffemaaRg
import Derived.Deep.RegionHeld3
import Derived.RegionTactic
import Derived.WalkKit
import Derived.ProofKit
import Derived.OpenShut
import Derived.Lib.Hide
import Derived.WalkSpells
import Derived.Below
import Derived.BigQuiet
import Derived.LoopN
namespace Go.Proofs.Ytpgfmigbjffemaa
open Go.ChangeShapes Go.WideShapes Go.ChangeAt Go.RowKit
set_option linter.unusedVariables false
set_option maxHeartbeats 1000000 in
theorem iflip_no0 (a0 a1 a2 a3 a4 a5 : Int) (x y : Int) (H0 : Hid (∀ w, Calls Try.prog 49 #[.agg #[.int .i64 a0, .int .i64 a1, .int .i64 a2, .int .i64 a3, .int .i64 a4, .int .i64 a5]] w fun e w' => e = .returned (.bool false) ∧ Below w.heap.size w w')) (w : World) : Calls Try.prog 51 #[.agg #[.int .i64 a0, .int .i64 a1, .int .i64 a2, .int .i64 a3, .int .i64 a4, .int .i64 a5], .agg #[.int .i64 x, .int .i64 y]] w fun e w' => e = .returned (.tuple #[.agg #[.int .i64 0, .int .i64 0, .int .i64 0, .int .i64 0, .int .i64 0, .int .i64 0], .bool false]) ∧ Below w.heap.size w w' := by
  go_enter Try.func51, Try.ntmps51
  go_wp2_with fail
  generalize hW : (World.alloc _ _ : World) = W0
  have hB0 : Below w.heap.size w W0 := by rw [← hW]; (repeat (first | exact Below.refl _ _ | assumption | refine Below.setCell ?_ (by first | (simp; done) | (simp; omega)) _ | refine Below.alloc ?_ (by first | (simp; done) | (simp; omega)) _ | refine Below.drew ?_))
  have qa : W0.heap[(w.heap.size : Nat)]? = some (Obj.cells (#[.int .i64 a0, .int .i64 a1, .int .i64 a2, .int .i64 a3, .int .i64 a4, .int .i64 a5]) 28 (0, 0)) := by
    rw [← hW]
    repeat (first | (refine alloc_at ?_; first | (simp; done) | (simp; omega)) | refine drew_row ?_ | refine alloc_past ?_ | assumption)
  have qc : W0.heap[(w.heap.size + 1 : Nat)]? = some (Obj.cells (#[.int .i64 x, .int .i64 y]) 44 (0, 0)) := by
    rw [← hW]
    repeat (first | (refine alloc_at ?_; first | (simp; done) | (simp; omega)) | refine drew_row ?_ | refine alloc_past ?_ | assumption)
  have qz : W0.heap[(w.heap.size + 1 + 1 : Nat)]? = some (Obj.cells (#[.int .i64 0, .int .i64 0, .int .i64 0, .int .i64 0, .int .i64 0, .int .i64 0]) 28 (0, 0)) := by
    rw [← hW]
    repeat (first | (refine alloc_at ?_; first | (simp; done) | (simp; omega)) | refine drew_row ?_ | refine alloc_past ?_ | assumption)
  clear hW
  refine (H0.out _).mono ?_
  rintro e W1 ⟨rfl, hb⟩
  have nqa := rowk qa hb rfl
  have nqc := rowk qc hb rfl
  have nqz := rowk qz hb rfl
  have hB1 := below_of hB0 hb hB0.size
  clear hb hB0 qa qc qz
  have qa := nqa
  have qc := nqc
  have qz := nqz
  clear nqa nqc nqz
  have qa_c := fun j => cell_of_row W1 _ j _ _ _ qa
  have qa_f := fun j => frozen_of_row W1 _ j _ _ qa
  have qc_c := fun j => cell_of_row W1 _ j _ _ _ qc
  have qc_f := fun j => frozen_of_row W1 _ j _ _ qc
  have qz_c := fun j => cell_of_row W1 _ j _ _ _ qz
  have qz_f := fun j => frozen_of_row W1 _ j _ _ qz
  go_wp2_with fail
  refine bodyPost_ret (v := .tuple #[.agg #[.int .i64 0, .int .i64 0, .int .i64 0, .int .i64 0, .int .i64 0, .int .i64 0], .bool false]) (by simp [results, Try.results51, go_sem, qz_c]) rfl ⟨rfl, ?_⟩
  exact below6 hB1 (by omega)
set_option maxHeartbeats 1000000 in
theorem iflip_no1 (a0 a1 a2 a3 a4 a5 : Int) (x y : Int) (H0 : Hid (∀ w, Calls Try.prog 49 #[.agg #[.int .i64 a0, .int .i64 a1, .int .i64 a2, .int .i64 a3, .int .i64 a4, .int .i64 a5]] w fun e w' => e = .returned (.bool true) ∧ Below w.heap.size w w')) (H1 : Hid (∀ w, Calls Try.prog 109 #[.agg #[.int .i64 x, .int .i64 y]] w fun e w' => e = .returned (.bool false) ∧ Below w.heap.size w w')) (w : World) : Calls Try.prog 51 #[.agg #[.int .i64 a0, .int .i64 a1, .int .i64 a2, .int .i64 a3, .int .i64 a4, .int .i64 a5], .agg #[.int .i64 x, .int .i64 y]] w fun e w' => e = .returned (.tuple #[.agg #[.int .i64 0, .int .i64 0, .int .i64 0, .int .i64 0, .int .i64 0, .int .i64 0], .bool false]) ∧ Below w.heap.size w w' := by
  go_enter Try.func51, Try.ntmps51
  go_wp2_with fail
  generalize hW : (World.alloc _ _ : World) = W0
  have hB0 : Below w.heap.size w W0 := by rw [← hW]; (repeat (first | exact Below.refl _ _ | assumption | refine Below.setCell ?_ (by first | (simp; done) | (simp; omega)) _ | refine Below.alloc ?_ (by first | (simp; done) | (simp; omega)) _ | refine Below.drew ?_))
  have qa : W0.heap[(w.heap.size : Nat)]? = some (Obj.cells (#[.int .i64 a0, .int .i64 a1, .int .i64 a2, .int .i64 a3, .int .i64 a4, .int .i64 a5]) 28 (0, 0)) := by
    rw [← hW]
    repeat (first | (refine alloc_at ?_; first | (simp; done) | (simp; omega)) | refine drew_row ?_ | refine alloc_past ?_ | assumption)
  have qc : W0.heap[(w.heap.size + 1 : Nat)]? = some (Obj.cells (#[.int .i64 x, .int .i64 y]) 44 (0, 0)) := by
    rw [← hW]
    repeat (first | (refine alloc_at ?_; first | (simp; done) | (simp; omega)) | refine drew_row ?_ | refine alloc_past ?_ | assumption)
  have qz : W0.heap[(w.heap.size + 1 + 1 : Nat)]? = some (Obj.cells (#[.int .i64 0, .int .i64 0, .int .i64 0, .int .i64 0, .int .i64 0, .int .i64 0]) 28 (0, 0)) := by
    rw [← hW]
    repeat (first | (refine alloc_at ?_; first | (simp; done) | (simp; omega)) | refine drew_row ?_ | refine alloc_past ?_ | assumption)
  clear hW
  refine (H0.out _).mono ?_
  rintro e W1 ⟨rfl, hb⟩
  have nqa := rowk qa hb rfl
  have nqc := rowk qc hb rfl
  have nqz := rowk qz hb rfl
  have hB1 := below_of hB0 hb hB0.size
  clear hb hB0 qa qc qz
  have qa := nqa
  have qc := nqc
  have qz := nqz
  clear nqa nqc nqz
  have qa_c := fun j => cell_of_row W1 _ j _ _ _ qa
  have qa_f := fun j => frozen_of_row W1 _ j _ _ qa
  have qc_c := fun j => cell_of_row W1 _ j _ _ _ qc
  have qc_f := fun j => frozen_of_row W1 _ j _ _ qc
  have qz_c := fun j => cell_of_row W1 _ j _ _ _ qz
  have qz_f := fun j => frozen_of_row W1 _ j _ _ qz
  go_wp2_with fail
  refine (H1.out _).mono ?_
  rintro e W2 ⟨rfl, hb⟩
  have nqa := rowk qa hb rfl
  have nqc := rowk qc hb rfl
  have nqz := rowk qz hb rfl
  have hB2 := below_of hB1 hb hB1.size
  clear hb hB1 qa qc qz qa_c qa_f qc_c qc_f qz_c qz_f
  have qa := nqa
  have qc := nqc
  have qz := nqz
  clear nqa nqc nqz
  have qa_c := fun j => cell_of_row W2 _ j _ _ _ qa
  have qa_f := fun j => frozen_of_row W2 _ j _ _ qa
  have qc_c := fun j => cell_of_row W2 _ j _ _ _ qc
  have qc_f := fun j => frozen_of_row W2 _ j _ _ qc
  have qz_c := fun j => cell_of_row W2 _ j _ _ _ qz
  have qz_f := fun j => frozen_of_row W2 _ j _ _ qz
  go_wp2_with fail
  refine bodyPost_ret (v := .tuple #[.agg #[.int .i64 0, .int .i64 0, .int .i64 0, .int .i64 0, .int .i64 0, .int .i64 0], .bool false]) (by simp [results, Try.results51, go_sem, qz_c]) rfl ⟨rfl, ?_⟩
  exact below6 hB2 (by omega)
set_option maxHeartbeats 1000000 in
theorem iflip_yes0 (a0 a1 a2 a3 a4 a5 : Int) (x : Int) (hx : 0 ≤ x ∧ x ≤ 5) (H0 : Hid (∀ w, Calls Try.prog 49 #[.agg #[.int .i64 a0, .int .i64 a1, .int .i64 a2, .int .i64 a3, .int .i64 a4, .int .i64 a5]] w fun e w' => e = .returned (.bool true) ∧ Below w.heap.size w w')) (H1 : Hid (∀ w, Calls Try.prog 109 #[.agg #[.int .i64 x, .int .i64 0]] w fun e w' => e = .returned (.bool true) ∧ Below w.heap.size w w')) (w : World) : Calls Try.prog 51 #[.agg #[.int .i64 a0, .int .i64 a1, .int .i64 a2, .int .i64 a3, .int .i64 a4, .int .i64 a5], .agg #[.int .i64 x, .int .i64 0]] w fun e w' => e = .returned (.tuple #[.agg #[.int .i64 (bits .xor .i64 a0 (wrap64 (2 ^ x.toNat))), .int .i64 a1, .int .i64 a2, .int .i64 a3, .int .i64 a4, .int .i64 a5], .bool true]) ∧ Below w.heap.size w w' := by
  go_enter Try.func51, Try.ntmps51
  go_wp2_with fail
  generalize hW : (World.alloc _ _ : World) = W0
  have hB0 : Below w.heap.size w W0 := by rw [← hW]; (repeat (first | exact Below.refl _ _ | assumption | refine Below.setCell ?_ (by first | (simp; done) | (simp; omega)) _ | refine Below.alloc ?_ (by first | (simp; done) | (simp; omega)) _ | refine Below.drew ?_))
  have qa : W0.heap[(w.heap.size : Nat)]? = some (Obj.cells (#[.int .i64 a0, .int .i64 a1, .int .i64 a2, .int .i64 a3, .int .i64 a4, .int .i64 a5]) 28 (0, 0)) := by
    rw [← hW]
    repeat (first | (refine alloc_at ?_; first | (simp; done) | (simp; omega)) | refine drew_row ?_ | refine alloc_past ?_ | assumption)
  have qc : W0.heap[(w.heap.size + 1 : Nat)]? = some (Obj.cells (#[.int .i64 x, .int .i64 0]) 44 (0, 0)) := by
    rw [← hW]
    repeat (first | (refine alloc_at ?_; first | (simp; done) | (simp; omega)) | refine drew_row ?_ | refine alloc_past ?_ | assumption)
  have qz : W0.heap[(w.heap.size + 1 + 1 : Nat)]? = some (Obj.cells (#[.int .i64 0, .int .i64 0, .int .i64 0, .int .i64 0, .int .i64 0, .int .i64 0]) 28 (0, 0)) := by
    rw [← hW]
    repeat (first | (refine alloc_at ?_; first | (simp; done) | (simp; omega)) | refine drew_row ?_ | refine alloc_past ?_ | assumption)
  clear hW
  refine (H0.out _).mono ?_
  rintro e W1 ⟨rfl, hb⟩
  have nqa := rowk qa hb rfl
  have nqc := rowk qc hb rfl
  have nqz := rowk qz hb rfl
  have hB1 := below_of hB0 hb hB0.size
  clear hb hB0 qa qc qz
  have qa := nqa
  have qc := nqc
  have qz := nqz
  clear nqa nqc nqz
  have qa_c := fun j => cell_of_row W1 _ j _ _ _ qa
  have qa_f := fun j => frozen_of_row W1 _ j _ _ qa
  have qc_c := fun j => cell_of_row W1 _ j _ _ _ qc
  have qc_f := fun j => frozen_of_row W1 _ j _ _ qc
  have qz_c := fun j => cell_of_row W1 _ j _ _ _ qz
  have qz_f := fun j => frozen_of_row W1 _ j _ _ qz
  go_wp2_with fail
  refine (H1.out _).mono ?_
  rintro e W2 ⟨rfl, hb⟩
  have nqa := rowk qa hb rfl
  have nqc := rowk qc hb rfl
  have nqz := rowk qz hb rfl
  have hB2 := below_of hB1 hb hB1.size
  clear hb hB1 qa qc qz qa_c qa_f qc_c qc_f qz_c qz_f
  have qa := nqa
  have qc := nqc
  have qz := nqz
  clear nqa nqc nqz
  have qa_c := fun j => cell_of_row W2 _ j _ _ _ qa
  have qa_f := fun j => frozen_of_row W2 _ j _ _ qa
  have qc_c := fun j => cell_of_row W2 _ j _ _ _ qc
  have qc_f := fun j => frozen_of_row W2 _ j _ _ qc
  have qz_c := fun j => cell_of_row W2 _ j _ _ _ qz
  have qz_f := fun j => frozen_of_row W2 _ j _ _ qz
  go_wp2_with fail
  go_region
  go_wp2_with fail
  refine bodyPost_ret (v := .tuple #[.agg #[.int .i64 (bits .xor .i64 a0 (wrap64 (2 ^ x.toNat))), .int .i64 a1, .int .i64 a2, .int .i64 a3, .int .i64 a4, .int .i64 a5], .bool true]) (by simp [results, Try.results51, go_sem, qz_c]) rfl ⟨rfl, ?_⟩
  exact (below6 (hB2.setCell (Nat.le_refl _) _) (by omega)).drew
set_option maxHeartbeats 1000000 in
theorem iflip_yes1 (a0 a1 a2 a3 a4 a5 : Int) (x : Int) (hx : 0 ≤ x ∧ x ≤ 5) (H0 : Hid (∀ w, Calls Try.prog 49 #[.agg #[.int .i64 a0, .int .i64 a1, .int .i64 a2, .int .i64 a3, .int .i64 a4, .int .i64 a5]] w fun e w' => e = .returned (.bool true) ∧ Below w.heap.size w w')) (H1 : Hid (∀ w, Calls Try.prog 109 #[.agg #[.int .i64 x, .int .i64 1]] w fun e w' => e = .returned (.bool true) ∧ Below w.heap.size w w')) (w : World) : Calls Try.prog 51 #[.agg #[.int .i64 a0, .int .i64 a1, .int .i64 a2, .int .i64 a3, .int .i64 a4, .int .i64 a5], .agg #[.int .i64 x, .int .i64 1]] w fun e w' => e = .returned (.tuple #[.agg #[.int .i64 a0, .int .i64 (bits .xor .i64 a1 (wrap64 (2 ^ x.toNat))), .int .i64 a2, .int .i64 a3, .int .i64 a4, .int .i64 a5], .bool true]) ∧ Below w.heap.size w w' := by
  go_enter Try.func51, Try.ntmps51
  go_wp2_with fail
  generalize hW : (World.alloc _ _ : World) = W0
  have hB0 : Below w.heap.size w W0 := by rw [← hW]; (repeat (first | exact Below.refl _ _ | assumption | refine Below.setCell ?_ (by first | (simp; done) | (simp; omega)) _ | refine Below.alloc ?_ (by first | (simp; done) | (simp; omega)) _ | refine Below.drew ?_))
  have qa : W0.heap[(w.heap.size : Nat)]? = some (Obj.cells (#[.int .i64 a0, .int .i64 a1, .int .i64 a2, .int .i64 a3, .int .i64 a4, .int .i64 a5]) 28 (0, 0)) := by
    rw [← hW]
    repeat (first | (refine alloc_at ?_; first | (simp; done) | (simp; omega)) | refine drew_row ?_ | refine alloc_past ?_ | assumption)
  have qc : W0.heap[(w.heap.size + 1 : Nat)]? = some (Obj.cells (#[.int .i64 x, .int .i64 1]) 44 (0, 0)) := by
    rw [← hW]
    repeat (first | (refine alloc_at ?_; first | (simp; done) | (simp; omega)) | refine drew_row ?_ | refine alloc_past ?_ | assumption)
  have qz : W0.heap[(w.heap.size + 1 + 1 : Nat)]? = some (Obj.cells (#[.int .i64 0, .int .i64 0, .int .i64 0, .int .i64 0, .int .i64 0, .int .i64 0]) 28 (0, 0)) := by
    rw [← hW]
    repeat (first | (refine alloc_at ?_; first | (simp; done) | (simp; omega)) | refine drew_row ?_ | refine alloc_past ?_ | assumption)
  clear hW
  refine (H0.out _).mono ?_
  rintro e W1 ⟨rfl, hb⟩
  have nqa := rowk qa hb rfl
  have nqc := rowk qc hb rfl
  have nqz := rowk qz hb rfl
  have hB1 := below_of hB0 hb hB0.size
  clear hb hB0 qa qc qz
  have qa := nqa
  have qc := nqc
  have qz := nqz
  clear nqa nqc nqz
  have qa_c := fun j => cell_of_row W1 _ j _ _ _ qa
  have qa_f := fun j => frozen_of_row W1 _ j _ _ qa
  have qc_c := fun j => cell_of_row W1 _ j _ _ _ qc
  have qc_f := fun j => frozen_of_row W1 _ j _ _ qc
  have qz_c := fun j => cell_of_row W1 _ j _ _ _ qz
  have qz_f := fun j => frozen_of_row W1 _ j _ _ qz
  go_wp2_with fail
  refine (H1.out _).mono ?_
  rintro e W2 ⟨rfl, hb⟩
  have nqa := rowk qa hb rfl
  have nqc := rowk qc hb rfl
  have nqz := rowk qz hb rfl
  have hB2 := below_of hB1 hb hB1.size
  clear hb hB1 qa qc qz qa_c qa_f qc_c qc_f qz_c qz_f
  have qa := nqa
  have qc := nqc
  have qz := nqz
  clear nqa nqc nqz
  have qa_c := fun j => cell_of_row W2 _ j _ _ _ qa
  have qa_f := fun j => frozen_of_row W2 _ j _ _ qa
  have qc_c := fun j => cell_of_row W2 _ j _ _ _ qc
  have qc_f := fun j => frozen_of_row W2 _ j _ _ qc
  have qz_c := fun j => cell_of_row W2 _ j _ _ _ qz
  have qz_f := fun j => frozen_of_row W2 _ j _ _ qz
  go_wp2_with fail
  go_region
  go_wp2_with fail
  refine bodyPost_ret (v := .tuple #[.agg #[.int .i64 a0, .int .i64 (bits .xor .i64 a1 (wrap64 (2 ^ x.toNat))), .int .i64 a2, .int .i64 a3, .int .i64 a4, .int .i64 a5], .bool true]) (by simp [results, Try.results51, go_sem, qz_c]) rfl ⟨rfl, ?_⟩
  exact (below6 (hB2.setCell (Nat.le_refl _) _) (by omega)).drew
set_option maxHeartbeats 1000000 in
theorem iflip_yes2 (a0 a1 a2 a3 a4 a5 : Int) (x : Int) (hx : 0 ≤ x ∧ x ≤ 5) (H0 : Hid (∀ w, Calls Try.prog 49 #[.agg #[.int .i64 a0, .int .i64 a1, .int .i64 a2, .int .i64 a3, .int .i64 a4, .int .i64 a5]] w fun e w' => e = .returned (.bool true) ∧ Below w.heap.size w w')) (H1 : Hid (∀ w, Calls Try.prog 109 #[.agg #[.int .i64 x, .int .i64 2]] w fun e w' => e = .returned (.bool true) ∧ Below w.heap.size w w')) (w : World) : Calls Try.prog 51 #[.agg #[.int .i64 a0, .int .i64 a1, .int .i64 a2, .int .i64 a3, .int .i64 a4, .int .i64 a5], .agg #[.int .i64 x, .int .i64 2]] w fun e w' => e = .returned (.tuple #[.agg #[.int .i64 a0, .int .i64 a1, .int .i64 (bits .xor .i64 a2 (wrap64 (2 ^ x.toNat))), .int .i64 a3, .int .i64 a4, .int .i64 a5], .bool true]) ∧ Below w.heap.size w w' := by
  go_enter Try.func51, Try.ntmps51
  go_wp2_with fail
  generalize hW : (World.alloc _ _ : World) = W0
  have hB0 : Below w.heap.size w W0 := by rw [← hW]; (repeat (first | exact Below.refl _ _ | assumption | refine Below.setCell ?_ (by first | (simp; done) | (simp; omega)) _ | refine Below.alloc ?_ (by first | (simp; done) | (simp; omega)) _ | refine Below.drew ?_))
  have qa : W0.heap[(w.heap.size : Nat)]? = some (Obj.cells (#[.int .i64 a0, .int .i64 a1, .int .i64 a2, .int .i64 a3, .int .i64 a4, .int .i64 a5]) 28 (0, 0)) := by
    rw [← hW]
    repeat (first | (refine alloc_at ?_; first | (simp; done) | (simp; omega)) | refine drew_row ?_ | refine alloc_past ?_ | assumption)
  have qc : W0.heap[(w.heap.size + 1 : Nat)]? = some (Obj.cells (#[.int .i64 x, .int .i64 2]) 44 (0, 0)) := by
    rw [← hW]
    repeat (first | (refine alloc_at ?_; first | (simp; done) | (simp; omega)) | refine drew_row ?_ | refine alloc_past ?_ | assumption)
  have qz : W0.heap[(w.heap.size + 1 + 1 : Nat)]? = some (Obj.cells (#[.int .i64 0, .int .i64 0, .int .i64 0, .int .i64 0, .int .i64 0, .int .i64 0]) 28 (0, 0)) := by
    rw [← hW]
    repeat (first | (refine alloc_at ?_; first | (simp; done) | (simp; omega)) | refine drew_row ?_ | refine alloc_past ?_ | assumption)
  clear hW
  refine (H0.out _).mono ?_
  rintro e W1 ⟨rfl, hb⟩
  have nqa := rowk qa hb rfl
  have nqc := rowk qc hb rfl
  have nqz := rowk qz hb rfl
  have hB1 := below_of hB0 hb hB0.size
  clear hb hB0 qa qc qz
  have qa := nqa
  have qc := nqc
  have qz := nqz
  clear nqa nqc nqz
  have qa_c := fun j => cell_of_row W1 _ j _ _ _ qa
  have qa_f := fun j => frozen_of_row W1 _ j _ _ qa
  have qc_c := fun j => cell_of_row W1 _ j _ _ _ qc
  have qc_f := fun j => frozen_of_row W1 _ j _ _ qc
  have qz_c := fun j => cell_of_row W1 _ j _ _ _ qz
  have qz_f := fun j => frozen_of_row W1 _ j _ _ qz
  go_wp2_with fail
  refine (H1.out _).mono ?_
  rintro e W2 ⟨rfl, hb⟩
  have nqa := rowk qa hb rfl
  have nqc := rowk qc hb rfl
  have nqz := rowk qz hb rfl
  have hB2 := below_of hB1 hb hB1.size
  clear hb hB1 qa qc qz qa_c qa_f qc_c qc_f qz_c qz_f
  have qa := nqa
  have qc := nqc
  have qz := nqz
  clear nqa nqc nqz
  have qa_c := fun j => cell_of_row W2 _ j _ _ _ qa
  have qa_f := fun j => frozen_of_row W2 _ j _ _ qa
  have qc_c := fun j => cell_of_row W2 _ j _ _ _ qc
  have qc_f := fun j => frozen_of_row W2 _ j _ _ qc
  have qz_c := fun j => cell_of_row W2 _ j _ _ _ qz
  have qz_f := fun j => frozen_of_row W2 _ j _ _ qz
  go_wp2_with fail
  go_region
  go_wp2_with fail
  refine bodyPost_ret (v := .tuple #[.agg #[.int .i64 a0, .int .i64 a1, .int .i64 (bits .xor .i64 a2 (wrap64 (2 ^ x.toNat))), .int .i64 a3, .int .i64 a4, .int .i64 a5], .bool true]) (by simp [results, Try.results51, go_sem, qz_c]) rfl ⟨rfl, ?_⟩
  exact (below6 (hB2.setCell (Nat.le_refl _) _) (by omega)).drew
set_option maxHeartbeats 1000000 in
theorem iflip_yes3 (a0 a1 a2 a3 a4 a5 : Int) (x : Int) (hx : 0 ≤ x ∧ x ≤ 5) (H0 : Hid (∀ w, Calls Try.prog 49 #[.agg #[.int .i64 a0, .int .i64 a1, .int .i64 a2, .int .i64 a3, .int .i64 a4, .int .i64 a5]] w fun e w' => e = .returned (.bool true) ∧ Below w.heap.size w w')) (H1 : Hid (∀ w, Calls Try.prog 109 #[.agg #[.int .i64 x, .int .i64 3]] w fun e w' => e = .returned (.bool true) ∧ Below w.heap.size w w')) (w : World) : Calls Try.prog 51 #[.agg #[.int .i64 a0, .int .i64 a1, .int .i64 a2, .int .i64 a3, .int .i64 a4, .int .i64 a5], .agg #[.int .i64 x, .int .i64 3]] w fun e w' => e = .returned (.tuple #[.agg #[.int .i64 a0, .int .i64 a1, .int .i64 a2, .int .i64 (bits .xor .i64 a3 (wrap64 (2 ^ x.toNat))), .int .i64 a4, .int .i64 a5], .bool true]) ∧ Below w.heap.size w w' := by
  go_enter Try.func51, Try.ntmps51
  go_wp2_with fail
  generalize hW : (World.alloc _ _ : World) = W0
  have hB0 : Below w.heap.size w W0 := by rw [← hW]; (repeat (first | exact Below.refl _ _ | assumption | refine Below.setCell ?_ (by first | (simp; done) | (simp; omega)) _ | refine Below.alloc ?_ (by first | (simp; done) | (simp; omega)) _ | refine Below.drew ?_))
  have qa : W0.heap[(w.heap.size : Nat)]? = some (Obj.cells (#[.int .i64 a0, .int .i64 a1, .int .i64 a2, .int .i64 a3, .int .i64 a4, .int .i64 a5]) 28 (0, 0)) := by
    rw [← hW]
    repeat (first | (refine alloc_at ?_; first | (simp; done) | (simp; omega)) | refine drew_row ?_ | refine alloc_past ?_ | assumption)
  have qc : W0.heap[(w.heap.size + 1 : Nat)]? = some (Obj.cells (#[.int .i64 x, .int .i64 3]) 44 (0, 0)) := by
    rw [← hW]
    repeat (first | (refine alloc_at ?_; first | (simp; done) | (simp; omega)) | refine drew_row ?_ | refine alloc_past ?_ | assumption)
  have qz : W0.heap[(w.heap.size + 1 + 1 : Nat)]? = some (Obj.cells (#[.int .i64 0, .int .i64 0, .int .i64 0, .int .i64 0, .int .i64 0, .int .i64 0]) 28 (0, 0)) := by
    rw [← hW]
    repeat (first | (refine alloc_at ?_; first | (simp; done) | (simp; omega)) | refine drew_row ?_ | refine alloc_past ?_ | assumption)
  clear hW
  refine (H0.out _).mono ?_
  rintro e W1 ⟨rfl, hb⟩
  have nqa := rowk qa hb rfl
  have nqc := rowk qc hb rfl
  have nqz := rowk qz hb rfl
  have hB1 := below_of hB0 hb hB0.size
  clear hb hB0 qa qc qz
  have qa := nqa
  have qc := nqc
  have qz := nqz
  clear nqa nqc nqz
  have qa_c := fun j => cell_of_row W1 _ j _ _ _ qa
  have qa_f := fun j => frozen_of_row W1 _ j _ _ qa
  have qc_c := fun j => cell_of_row W1 _ j _ _ _ qc
  have qc_f := fun j => frozen_of_row W1 _ j _ _ qc
  have qz_c := fun j => cell_of_row W1 _ j _ _ _ qz
  have qz_f := fun j => frozen_of_row W1 _ j _ _ qz
  go_wp2_with fail
  refine (H1.out _).mono ?_
  rintro e W2 ⟨rfl, hb⟩
  have nqa := rowk qa hb rfl
  have nqc := rowk qc hb rfl
  have nqz := rowk qz hb rfl
  have hB2 := below_of hB1 hb hB1.size
  clear hb hB1 qa qc qz qa_c qa_f qc_c qc_f qz_c qz_f
  have qa := nqa
  have qc := nqc
  have qz := nqz
  clear nqa nqc nqz
  have qa_c := fun j => cell_of_row W2 _ j _ _ _ qa
  have qa_f := fun j => frozen_of_row W2 _ j _ _ qa
  have qc_c := fun j => cell_of_row W2 _ j _ _ _ qc
  have qc_f := fun j => frozen_of_row W2 _ j _ _ qc
  have qz_c := fun j => cell_of_row W2 _ j _ _ _ qz
  have qz_f := fun j => frozen_of_row W2 _ j _ _ qz
  go_wp2_with fail
  go_region
  go_wp2_with fail
  refine bodyPost_ret (v := .tuple #[.agg #[.int .i64 a0, .int .i64 a1, .int .i64 a2, .int .i64 (bits .xor .i64 a3 (wrap64 (2 ^ x.toNat))), .int .i64 a4, .int .i64 a5], .bool true]) (by simp [results, Try.results51, go_sem, qz_c]) rfl ⟨rfl, ?_⟩
  exact (below6 (hB2.setCell (Nat.le_refl _) _) (by omega)).drew
set_option maxHeartbeats 1000000 in
theorem iflip_yes4 (a0 a1 a2 a3 a4 a5 : Int) (x : Int) (hx : 0 ≤ x ∧ x ≤ 5) (H0 : Hid (∀ w, Calls Try.prog 49 #[.agg #[.int .i64 a0, .int .i64 a1, .int .i64 a2, .int .i64 a3, .int .i64 a4, .int .i64 a5]] w fun e w' => e = .returned (.bool true) ∧ Below w.heap.size w w')) (H1 : Hid (∀ w, Calls Try.prog 109 #[.agg #[.int .i64 x, .int .i64 4]] w fun e w' => e = .returned (.bool true) ∧ Below w.heap.size w w')) (w : World) : Calls Try.prog 51 #[.agg #[.int .i64 a0, .int .i64 a1, .int .i64 a2, .int .i64 a3, .int .i64 a4, .int .i64 a5], .agg #[.int .i64 x, .int .i64 4]] w fun e w' => e = .returned (.tuple #[.agg #[.int .i64 a0, .int .i64 a1, .int .i64 a2, .int .i64 a3, .int .i64 (bits .xor .i64 a4 (wrap64 (2 ^ x.toNat))), .int .i64 a5], .bool true]) ∧ Below w.heap.size w w' := by
  go_enter Try.func51, Try.ntmps51
  go_wp2_with fail
  generalize hW : (World.alloc _ _ : World) = W0
  have hB0 : Below w.heap.size w W0 := by rw [← hW]; (repeat (first | exact Below.refl _ _ | assumption | refine Below.setCell ?_ (by first | (simp; done) | (simp; omega)) _ | refine Below.alloc ?_ (by first | (simp; done) | (simp; omega)) _ | refine Below.drew ?_))
  have qa : W0.heap[(w.heap.size : Nat)]? = some (Obj.cells (#[.int .i64 a0, .int .i64 a1, .int .i64 a2, .int .i64 a3, .int .i64 a4, .int .i64 a5]) 28 (0, 0)) := by
    rw [← hW]
    repeat (first | (refine alloc_at ?_; first | (simp; done) | (simp; omega)) | refine drew_row ?_ | refine alloc_past ?_ | assumption)
  have qc : W0.heap[(w.heap.size + 1 : Nat)]? = some (Obj.cells (#[.int .i64 x, .int .i64 4]) 44 (0, 0)) := by
    rw [← hW]
    repeat (first | (refine alloc_at ?_; first | (simp; done) | (simp; omega)) | refine drew_row ?_ | refine alloc_past ?_ | assumption)
  have qz : W0.heap[(w.heap.size + 1 + 1 : Nat)]? = some (Obj.cells (#[.int .i64 0, .int .i64 0, .int .i64 0, .int .i64 0, .int .i64 0, .int .i64 0]) 28 (0, 0)) := by
    rw [← hW]
    repeat (first | (refine alloc_at ?_; first | (simp; done) | (simp; omega)) | refine drew_row ?_ | refine alloc_past ?_ | assumption)
  clear hW
  refine (H0.out _).mono ?_
  rintro e W1 ⟨rfl, hb⟩
  have nqa := rowk qa hb rfl
  have nqc := rowk qc hb rfl
  have nqz := rowk qz hb rfl
  have hB1 := below_of hB0 hb hB0.size
  clear hb hB0 qa qc qz
  have qa := nqa
  have qc := nqc
  have qz := nqz
  clear nqa nqc nqz
  have qa_c := fun j => cell_of_row W1 _ j _ _ _ qa
  have qa_f := fun j => frozen_of_row W1 _ j _ _ qa
  have qc_c := fun j => cell_of_row W1 _ j _ _ _ qc
  have qc_f := fun j => frozen_of_row W1 _ j _ _ qc
  have qz_c := fun j => cell_of_row W1 _ j _ _ _ qz
  have qz_f := fun j => frozen_of_row W1 _ j _ _ qz
  go_wp2_with fail
  refine (H1.out _).mono ?_
  rintro e W2 ⟨rfl, hb⟩
  have nqa := rowk qa hb rfl
  have nqc := rowk qc hb rfl
  have nqz := rowk qz hb rfl
  have hB2 := below_of hB1 hb hB1.size
  clear hb hB1 qa qc qz qa_c qa_f qc_c qc_f qz_c qz_f
  have qa := nqa
  have qc := nqc
  have qz := nqz
  clear nqa nqc nqz
  have qa_c := fun j => cell_of_row W2 _ j _ _ _ qa
  have qa_f := fun j => frozen_of_row W2 _ j _ _ qa
  have qc_c := fun j => cell_of_row W2 _ j _ _ _ qc
  have qc_f := fun j => frozen_of_row W2 _ j _ _ qc
  have qz_c := fun j => cell_of_row W2 _ j _ _ _ qz
  have qz_f := fun j => frozen_of_row W2 _ j _ _ qz
  go_wp2_with fail
  go_region
  go_wp2_with fail
  refine bodyPost_ret (v := .tuple #[.agg #[.int .i64 a0, .int .i64 a1, .int .i64 a2, .int .i64 a3, .int .i64 (bits .xor .i64 a4 (wrap64 (2 ^ x.toNat))), .int .i64 a5], .bool true]) (by simp [results, Try.results51, go_sem, qz_c]) rfl ⟨rfl, ?_⟩
  exact (below6 (hB2.setCell (Nat.le_refl _) _) (by omega)).drew
set_option maxHeartbeats 1000000 in
theorem iflip_yes5 (a0 a1 a2 a3 a4 a5 : Int) (x : Int) (hx : 0 ≤ x ∧ x ≤ 5) (H0 : Hid (∀ w, Calls Try.prog 49 #[.agg #[.int .i64 a0, .int .i64 a1, .int .i64 a2, .int .i64 a3, .int .i64 a4, .int .i64 a5]] w fun e w' => e = .returned (.bool true) ∧ Below w.heap.size w w')) (H1 : Hid (∀ w, Calls Try.prog 109 #[.agg #[.int .i64 x, .int .i64 5]] w fun e w' => e = .returned (.bool true) ∧ Below w.heap.size w w')) (w : World) : Calls Try.prog 51 #[.agg #[.int .i64 a0, .int .i64 a1, .int .i64 a2, .int .i64 a3, .int .i64 a4, .int .i64 a5], .agg #[.int .i64 x, .int .i64 5]] w fun e w' => e = .returned (.tuple #[.agg #[.int .i64 a0, .int .i64 a1, .int .i64 a2, .int .i64 a3, .int .i64 a4, .int .i64 (bits .xor .i64 a5 (wrap64 (2 ^ x.toNat)))], .bool true]) ∧ Below w.heap.size w w' := by
  go_enter Try.func51, Try.ntmps51
  go_wp2_with fail
  generalize hW : (World.alloc _ _ : World) = W0
  have hB0 : Below w.heap.size w W0 := by rw [← hW]; (repeat (first | exact Below.refl _ _ | assumption | refine Below.setCell ?_ (by first | (simp; done) | (simp; omega)) _ | refine Below.alloc ?_ (by first | (simp; done) | (simp; omega)) _ | refine Below.drew ?_))
  have qa : W0.heap[(w.heap.size : Nat)]? = some (Obj.cells (#[.int .i64 a0, .int .i64 a1, .int .i64 a2, .int .i64 a3, .int .i64 a4, .int .i64 a5]) 28 (0, 0)) := by
    rw [← hW]
    repeat (first | (refine alloc_at ?_; first | (simp; done) | (simp; omega)) | refine drew_row ?_ | refine alloc_past ?_ | assumption)
  have qc : W0.heap[(w.heap.size + 1 : Nat)]? = some (Obj.cells (#[.int .i64 x, .int .i64 5]) 44 (0, 0)) := by
    rw [← hW]
    repeat (first | (refine alloc_at ?_; first | (simp; done) | (simp; omega)) | refine drew_row ?_ | refine alloc_past ?_ | assumption)
  have qz : W0.heap[(w.heap.size + 1 + 1 : Nat)]? = some (Obj.cells (#[.int .i64 0, .int .i64 0, .int .i64 0, .int .i64 0, .int .i64 0, .int .i64 0]) 28 (0, 0)) := by
    rw [← hW]
    repeat (first | (refine alloc_at ?_; first | (simp; done) | (simp; omega)) | refine drew_row ?_ | refine alloc_past ?_ | assumption)
  clear hW
  refine (H0.out _).mono ?_
  rintro e W1 ⟨rfl, hb⟩
  have nqa := rowk qa hb rfl
  have nqc := rowk qc hb rfl
  have nqz := rowk qz hb rfl
  have hB1 := below_of hB0 hb hB0.size
  clear hb hB0 qa qc qz
  have qa := nqa
  have qc := nqc
  have qz := nqz
  clear nqa nqc nqz
  have qa_c := fun j => cell_of_row W1 _ j _ _ _ qa
  have qa_f := fun j => frozen_of_row W1 _ j _ _ qa
  have qc_c := fun j => cell_of_row W1 _ j _ _ _ qc
  have qc_f := fun j => frozen_of_row W1 _ j _ _ qc
  have qz_c := fun j => cell_of_row W1 _ j _ _ _ qz
  have qz_f := fun j => frozen_of_row W1 _ j _ _ qz
  go_wp2_with fail
  refine (H1.out _).mono ?_
  rintro e W2 ⟨rfl, hb⟩
  have nqa := rowk qa hb rfl
  have nqc := rowk qc hb rfl
  have nqz := rowk qz hb rfl
  have hB2 := below_of hB1 hb hB1.size
  clear hb hB1 qa qc qz qa_c qa_f qc_c qc_f qz_c qz_f
  have qa := nqa
  have qc := nqc
  have qz := nqz
  clear nqa nqc nqz
  have qa_c := fun j => cell_of_row W2 _ j _ _ _ qa
  have qa_f := fun j => frozen_of_row W2 _ j _ _ qa
  have qc_c := fun j => cell_of_row W2 _ j _ _ _ qc
  have qc_f := fun j => frozen_of_row W2 _ j _ _ qc
  have qz_c := fun j => cell_of_row W2 _ j _ _ _ qz
  have qz_f := fun j => frozen_of_row W2 _ j _ _ qz
  go_wp2_with fail
  go_region
  go_wp2_with fail
  refine bodyPost_ret (v := .tuple #[.agg #[.int .i64 a0, .int .i64 a1, .int .i64 a2, .int .i64 a3, .int .i64 a4, .int .i64 (bits .xor .i64 a5 (wrap64 (2 ^ x.toNat)))], .bool true]) (by simp [results, Try.results51, go_sem, qz_c]) rfl ⟨rfl, ?_⟩
  exact (below6 (hB2.setCell (Nat.le_refl _) _) (by omega)).drew
end Go.Proofs.Ytpgfmigbjffemaa
