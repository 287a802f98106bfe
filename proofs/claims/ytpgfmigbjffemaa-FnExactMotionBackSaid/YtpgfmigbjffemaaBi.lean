/- THE WALKS of MotionBehind in the code and of MotionBack in the model and in the code. -/
import Derived.Test.YtpgfmigbjffemaaKt
import Derived.Test.YtpgfmigbjffemaaWn
import Derived.Deep.RegionHeld3
import Derived.WalkKit
import Derived.ProofKit
import Derived.OpenShut
import Derived.Lib.Hide
import Derived.WalkSpells
import Derived.Below
import Derived.BigQuiet
import Derived.LoopN
namespace Go.Proofs.Ytpgfmigbjffemaa
open Go.ChangeShapes Go.WideShapes Go.ChangeAt Go.RowKit
set_option linter.unusedVariables false
set_option maxHeartbeats 8000000 in
theorem imb_go (m0 m1 m2 n0 n1 n2 p q s t N P Q : Int) (H0 : Hid (∀ w, Calls Try.prog 149 #[.agg #[.int .i64 m0, .int .i64 m1, .int .i64 m2]] w fun e w' => e = .returned (.bool true) ∧ Below w.heap.size w w')) (H1 : Hid (∀ w, Calls Try.prog 149 #[.agg #[.int .i64 n0, .int .i64 n1, .int .i64 n2]] w fun e w' => e = .returned (.bool true) ∧ Below w.heap.size w w')) (HV : Hid (∀ w, Calls Try.prog 152 #[.int .i64 n0, .int .i64 m1, .int .i64 m2] w fun e w' => e = .returned (.agg #[.int .i64 p, .int .i64 q]) ∧ Below w.heap.size w w')) (HB : Hid (∀ w, Calls Try.prog 144 #[.int .i64 m0, .int .i64 n0] w fun e w' => e = .returned (.int .i64 N) ∧ Below w.heap.size w w')) (HM : Hid (∀ w, Calls Try.prog 154 #[.int .i64 N, .int .i64 s, .int .i64 t] w fun e w' => e = .returned (.agg #[.int .i64 N, .int .i64 P, .int .i64 Q]) ∧ Below w.heap.size w w')) (s1 : wrap64 (p + n1) = s) (s2 : wrap64 (q + n2) = t) (s3 : IntKind.i64.wrap (p + n1) = s) (s4 : IntKind.i64.wrap (q + n2) = t) (w : World) : Calls Try.prog 70 #[.agg #[.int .i64 m0, .int .i64 m1, .int .i64 m2], .agg #[.int .i64 n0, .int .i64 n1, .int .i64 n2]] w fun e w' => e = .returned (.tuple #[.agg #[.int .i64 N, .int .i64 P, .int .i64 Q], .bool true]) ∧ Below w.heap.size w w' := by
  go_enter Try.func70, Try.ntmps70
  go_wp2_with fail
  generalize hW : (World.alloc _ _ : World) = W0
  have hB0 : Below w.heap.size w W0 := by rw [← hW]; (repeat (first | exact Below.refl _ _ | assumption | refine Below.setCell ?_ (by first | (simp; done) | (simp; omega)) _ | refine Below.alloc ?_ (by first | (simp; done) | (simp; omega)) _ | refine Below.drew ?_))
  have qm : W0.heap[(w.heap.size : Nat)]? = some (Obj.cells (#[.int .i64 m0, .int .i64 m1, .int .i64 m2]) 67 (0, 0)) := by
    rw [← hW]
    repeat (first | (refine alloc_at ?_; first | (simp; done) | (simp; omega)) | refine drew_row ?_ | refine alloc_past ?_ | assumption)
  have qn : W0.heap[(w.heap.size + 1 : Nat)]? = some (Obj.cells (#[.int .i64 n0, .int .i64 n1, .int .i64 n2]) 67 (0, 0)) := by
    rw [← hW]
    repeat (first | (refine alloc_at ?_; first | (simp; done) | (simp; omega)) | refine drew_row ?_ | refine alloc_past ?_ | assumption)
  have qz : W0.heap[(w.heap.size + 1 + 1 : Nat)]? = some (Obj.cells (#[.int .i64 0, .int .i64 0, .int .i64 0]) 67 (0, 0)) := by
    rw [← hW]
    repeat (first | (refine alloc_at ?_; first | (simp; done) | (simp; omega)) | refine drew_row ?_ | refine alloc_past ?_ | assumption)
  clear hW
  refine (H0.out _).mono ?_
  rintro e W1 ⟨rfl, hb⟩
  have nqm := rowk qm hb rfl
  have nqn := rowk qn hb rfl
  have nqz := rowk qz hb rfl
  have hB1 := below_of hB0 hb hB0.size
  clear hb hB0 qm qn qz
  have qm := nqm
  have qn := nqn
  have qz := nqz
  clear nqm nqn nqz
  have qm_c := fun j => cell_of_row W1 _ j _ _ _ qm
  have qm_f := fun j => frozen_of_row W1 _ j _ _ qm
  have qn_c := fun j => cell_of_row W1 _ j _ _ _ qn
  have qn_f := fun j => frozen_of_row W1 _ j _ _ qn
  have qz_c := fun j => cell_of_row W1 _ j _ _ _ qz
  have qz_f := fun j => frozen_of_row W1 _ j _ _ qz
  go_wp2_with fail
  refine (H1.out _).mono ?_
  rintro e W2 ⟨rfl, hb⟩
  have nqm := rowk qm hb rfl
  have nqn := rowk qn hb rfl
  have nqz := rowk qz hb rfl
  have hB2 := below_of hB1 hb hB1.size
  clear hb hB1 qm qn qz qm_c qm_f qn_c qn_f qz_c qz_f
  have qm := nqm
  have qn := nqn
  have qz := nqz
  clear nqm nqn nqz
  have qm_c := fun j => cell_of_row W2 _ j _ _ _ qm
  have qm_f := fun j => frozen_of_row W2 _ j _ _ qm
  have qn_c := fun j => cell_of_row W2 _ j _ _ _ qn
  have qn_f := fun j => frozen_of_row W2 _ j _ _ qn
  have qz_c := fun j => cell_of_row W2 _ j _ _ _ qz
  have qz_f := fun j => frozen_of_row W2 _ j _ _ qz
  go_wp2_with fail
  refine (HV.out _).mono ?_
  rintro e W3 ⟨rfl, hb⟩
  have nqm := rowk qm hb rfl
  have nqn := rowk qn hb rfl
  have nqz := rowk qz hb rfl
  have hB3 := below_of hB2 hb hB2.size
  clear hb hB2 qm qn qz qm_c qm_f qn_c qn_f qz_c qz_f
  have qm := nqm
  have qn := nqn
  have qz := nqz
  clear nqm nqn nqz
  have qm_c := fun j => cell_of_row W3 _ j _ _ _ qm
  have qm_f := fun j => frozen_of_row W3 _ j _ _ qm
  have qn_c := fun j => cell_of_row W3 _ j _ _ _ qn
  have qn_f := fun j => frozen_of_row W3 _ j _ _ qn
  have qz_c := fun j => cell_of_row W3 _ j _ _ _ qz
  have qz_f := fun j => frozen_of_row W3 _ j _ _ qz
  go_wp2_with fail
  have hlt := row_lt qz
  obtain ⟨W4, hW⟩ : ∃ W, W = W3.alloc (.cells #[.int .i64 p, .int .i64 q] 44) := ⟨_, rfl⟩
  obtain ⟨g, hg⟩ : ∃ g, g = W3.heap.size := ⟨_, rfl⟩
  have k0 : (fun U => U.cell? ⟨w.heap.size, 0, none⟩ = some (.int .i64 m0) ∧ U.cell? ⟨w.heap.size, 1, none⟩ = some (.int .i64 m1) ∧ U.cell? ⟨w.heap.size, 2, none⟩ = some (.int .i64 m2) ∧ U.cell? ⟨w.heap.size + 1, 0, none⟩ = some (.int .i64 n0) ∧ U.cell? ⟨w.heap.size + 1, 1, none⟩ = some (.int .i64 n1) ∧ U.cell? ⟨w.heap.size + 1, 2, none⟩ = some (.int .i64 n2) ∧ U.cell? ⟨g, 0, none⟩ = some (.int .i64 p) ∧ U.cell? ⟨g, 1, none⟩ = some (.int .i64 q) ∧ Below w.heap.size w U) W4 := by
    subst hW
    subst hg
    exact ⟨cell_of_row _ _ 0 _ _ _ (alloc_past qm), cell_of_row _ _ 1 _ _ _ (alloc_past qm), cell_of_row _ _ 2 _ _ _ (alloc_past qm), cell_of_row _ _ 0 _ _ _ (alloc_past qn), cell_of_row _ _ 1 _ _ _ (alloc_past qn), cell_of_row _ _ 2 _ _ _ (alloc_past qn), by go_simp, by go_simp, hB3.alloc hB3.size _⟩
  have qz2 : W4.drew.heap[(w.heap.size + 1 + 1 : Nat)]? = some (Obj.cells #[.int .i64 0, .int .i64 0, .int .i64 0] 67 (0, 0)) := by
    rw [hW]
    exact drew_row (alloc_past qz)
  have hgz : w.heap.size + 1 + 1 < g := by rw [hg]; exact hlt
  rw [← hW, ← hg]
  dsimp only at k0
  clear hW hg hlt qm qn qz qm_c qm_f qn_c qn_f qz_c qz_f hB3 H0 H1 HV
  go_region_held3 (fun U => U.cell? ⟨w.heap.size, 0, none⟩ = some (.int .i64 m0) ∧ U.cell? ⟨w.heap.size, 1, none⟩ = some (.int .i64 m1) ∧ U.cell? ⟨w.heap.size, 2, none⟩ = some (.int .i64 m2) ∧ U.cell? ⟨w.heap.size + 1, 0, none⟩ = some (.int .i64 n0) ∧ U.cell? ⟨w.heap.size + 1, 1, none⟩ = some (.int .i64 n1) ∧ U.cell? ⟨w.heap.size + 1, 2, none⟩ = some (.int .i64 n2) ∧ U.cell? ⟨g, 0, none⟩ = some (.int .i64 p) ∧ U.cell? ⟨g, 1, none⟩ = some (.int .i64 q) ∧ Below w.heap.size w U) (first | with_reducible exact drewc8 k0 | with_reducible assumption | (with_reducible refine stn8_3 ?_ ⟨by omega, by omega, by omega, by omega, by omega, by omega, by omega, by omega⟩ (by omega); with_reducible assumption)) (first | (go_at_call 144; with_reducible refine (HB.out _).mono ?_; rintro e w' ⟨rfl, hb'⟩; have hk := keepc8 (by with_reducible assumption) hb' rfl; (first | have hq := rowk hq hb' rfl | have hq := rowk qz2 hb' rfl)) | (go_at_call 154; with_reducible refine (HM.out _).mono ?_; rintro e w' ⟨rfl, hb'⟩; have hk := keepc8 (by with_reducible assumption) hb' rfl; (first | have hq := rowk hq hb' rfl | have hq := rowk qz2 hb' rfl); obtain ⟨z0, z1, z2, f0, f1, f2⟩ := zeroc3 hq))
  all_goals
    have hBe := hk.2.2.2.2.2.2.2.2
    clear hk k0
    go_wp2_with fail
    refine bodyPost_ret (v := .tuple #[.agg #[.int .i64 N, .int .i64 P, .int .i64 Q], .bool true]) (by simp [results, Try.results70, go_sem, z0, z1, z2]) rfl ⟨rfl, ?_⟩
    exact belowc3 hBe (by omega)
set_option maxHeartbeats 8000000 in
theorem smk_go (m0 m1 m2 p q s t N P Q : Int) (H0 : Hid (∀ w, Calls Try.prog 147 #[.agg #[.int .i64 m0, .int .i64 m1, .int .i64 m2]] w fun e w' => e = .returned (.bool true) ∧ Below w.heap.size w w')) (HB : Hid (∀ w, Calls Try.prog 145 #[.int .i64 m0] w fun e w' => e = .returned (.int .i64 N) ∧ Below w.heap.size w w')) (HV : Hid (∀ w, Calls Try.prog 151 #[.int .i64 N, .int .i64 m1, .int .i64 m2] w fun e w' => e = .returned (.tuple #[.int .i64 p, .int .i64 q]) ∧ Below w.heap.size w w')) (HX : Hid (∀ w, Calls Try.prog 155 #[.int .i64 s] w fun e w' => e = .returned (.int .i64 P) ∧ Below w.heap.size w w')) (HY : Hid (∀ w, Calls Try.prog 155 #[.int .i64 t] w fun e w' => e = .returned (.int .i64 Q) ∧ Below w.heap.size w w')) (s1 : wrap64 (-p) = s) (s2 : wrap64 (-q) = t) (s3 : IntKind.i64.wrap (-p) = s) (s4 : IntKind.i64.wrap (-q) = t) (w : World) : Calls Try.prog 72 #[.agg #[.int .i64 m0, .int .i64 m1, .int .i64 m2]] w fun e w' => e = .returned (.tuple #[.agg #[.int .i64 N, .int .i64 P, .int .i64 Q], .bool true]) ∧ Below w.heap.size w w' := by
  go_enter Try.func72, Try.ntmps72
  go_wp2_with fail
  generalize hW : (World.alloc _ _ : World) = W0
  have hB0 : Below w.heap.size w W0 := by rw [← hW]; (repeat (first | exact Below.refl _ _ | assumption | refine Below.setCell ?_ (by first | (simp; done) | (simp; omega)) _ | refine Below.alloc ?_ (by first | (simp; done) | (simp; omega)) _ | refine Below.drew ?_))
  have qm : W0.heap[(w.heap.size : Nat)]? = some (Obj.cells (#[.int .i64 m0, .int .i64 m1, .int .i64 m2]) 67 (0, 0)) := by
    rw [← hW]
    repeat (first | (refine alloc_at ?_; first | (simp; done) | (simp; omega)) | refine drew_row ?_ | refine alloc_past ?_ | assumption)
  have qz : W0.heap[(w.heap.size + 1 : Nat)]? = some (Obj.cells (#[.int .i64 0, .int .i64 0, .int .i64 0]) 67 (0, 0)) := by
    rw [← hW]
    repeat (first | (refine alloc_at ?_; first | (simp; done) | (simp; omega)) | refine drew_row ?_ | refine alloc_past ?_ | assumption)
  clear hW
  refine (H0.out _).mono ?_
  rintro e W1 ⟨rfl, hb⟩
  have nqm := rowk qm hb rfl
  have nqz := rowk qz hb rfl
  have hB1 := below_of hB0 hb hB0.size
  clear hb hB0 qm qz
  have qm := nqm
  have qz := nqz
  clear nqm nqz
  have qm_c := fun j => cell_of_row W1 _ j _ _ _ qm
  have qm_f := fun j => frozen_of_row W1 _ j _ _ qm
  have qz_c := fun j => cell_of_row W1 _ j _ _ _ qz
  have qz_f := fun j => frozen_of_row W1 _ j _ _ qz
  go_wp2_with fail
  refine (HB.out _).mono ?_
  rintro e W2 ⟨rfl, hb⟩
  have nqm := rowk qm hb rfl
  have nqz := rowk qz hb rfl
  have hB2 := below_of hB1 hb hB1.size
  clear hb hB1 qm qz qm_c qm_f qz_c qz_f
  have qm := nqm
  have qz := nqz
  clear nqm nqz
  have qm_c := fun j => cell_of_row W2 _ j _ _ _ qm
  have qm_f := fun j => frozen_of_row W2 _ j _ _ qm
  have qz_c := fun j => cell_of_row W2 _ j _ _ _ qz
  have qz_f := fun j => frozen_of_row W2 _ j _ _ qz
  go_wp2_with fail
  refine (HV.out _).mono ?_
  rintro e W3 ⟨rfl, hb⟩
  have nqm := rowk qm hb rfl
  have nqz := rowk qz hb rfl
  have hB3 := below_of hB2 hb hB2.size
  clear hb hB2 qm qz qm_c qm_f qz_c qz_f
  have qm := nqm
  have qz := nqz
  clear nqm nqz
  have qm_c := fun j => cell_of_row W3 _ j _ _ _ qm
  have qm_f := fun j => frozen_of_row W3 _ j _ _ qm
  have qz_c := fun j => cell_of_row W3 _ j _ _ _ qz
  have qz_f := fun j => frozen_of_row W3 _ j _ _ qz
  go_wp2_with fail
  refine (HX.out _).mono ?_
  rintro e W4 ⟨rfl, hb⟩
  have nqm := rowk qm hb rfl
  have nqz := rowk qz hb rfl
  have hB4 := below_of hB3 hb hB3.size
  clear hb hB3 qm qz qm_c qm_f qz_c qz_f
  have qm := nqm
  have qz := nqz
  clear nqm nqz
  have qm_c := fun j => cell_of_row W4 _ j _ _ _ qm
  have qm_f := fun j => frozen_of_row W4 _ j _ _ qm
  have qz_c := fun j => cell_of_row W4 _ j _ _ _ qz
  have qz_f := fun j => frozen_of_row W4 _ j _ _ qz
  go_wp2_with fail
  refine (HY.out _).mono ?_
  rintro e W5 ⟨rfl, hb⟩
  have nqm := rowk qm hb rfl
  have nqz := rowk qz hb rfl
  have hB5 := below_of hB4 hb hB4.size
  clear hb hB4 qm qz qm_c qm_f qz_c qz_f
  have qm := nqm
  have qz := nqz
  clear nqm nqz
  have qm_c := fun j => cell_of_row W5 _ j _ _ _ qm
  have qm_f := fun j => frozen_of_row W5 _ j _ _ qm
  have qz_c := fun j => cell_of_row W5 _ j _ _ _ qz
  have qz_f := fun j => frozen_of_row W5 _ j _ _ qz
  go_wp2_with fail
  refine bodyPost_ret (v := .tuple #[.agg #[.int .i64 N, .int .i64 P, .int .i64 Q], .bool true]) (by simp [results, Try.results72, go_sem, qz_c]) rfl ⟨rfl, ?_⟩
  exact belowc3 hB5 (by omega)
set_option maxHeartbeats 8000000 in
theorem imk_go (m0 m1 m2 p q s t N P Q : Int) (H0 : Hid (∀ w, Calls Try.prog 149 #[.agg #[.int .i64 m0, .int .i64 m1, .int .i64 m2]] w fun e w' => e = .returned (.bool true) ∧ Below w.heap.size w w')) (HB : Hid (∀ w, Calls Try.prog 146 #[.int .i64 m0] w fun e w' => e = .returned (.int .i64 N) ∧ Below w.heap.size w w')) (HV : Hid (∀ w, Calls Try.prog 152 #[.int .i64 N, .int .i64 m1, .int .i64 m2] w fun e w' => e = .returned (.agg #[.int .i64 p, .int .i64 q]) ∧ Below w.heap.size w w')) (HM : Hid (∀ w, Calls Try.prog 154 #[.int .i64 N, .int .i64 s, .int .i64 t] w fun e w' => e = .returned (.agg #[.int .i64 N, .int .i64 P, .int .i64 Q]) ∧ Below w.heap.size w w')) (s1 : wrap64 (-p) = s) (s2 : wrap64 (-q) = t) (s3 : IntKind.i64.wrap (-p) = s) (s4 : IntKind.i64.wrap (-q) = t) (w : World) : Calls Try.prog 73 #[.agg #[.int .i64 m0, .int .i64 m1, .int .i64 m2]] w fun e w' => e = .returned (.tuple #[.agg #[.int .i64 N, .int .i64 P, .int .i64 Q], .bool true]) ∧ Below w.heap.size w w' := by
  go_enter Try.func73, Try.ntmps73
  go_wp2_with fail
  generalize hW : (World.alloc _ _ : World) = W0
  have hB0 : Below w.heap.size w W0 := by rw [← hW]; (repeat (first | exact Below.refl _ _ | assumption | refine Below.setCell ?_ (by first | (simp; done) | (simp; omega)) _ | refine Below.alloc ?_ (by first | (simp; done) | (simp; omega)) _ | refine Below.drew ?_))
  have qm : W0.heap[(w.heap.size : Nat)]? = some (Obj.cells (#[.int .i64 m0, .int .i64 m1, .int .i64 m2]) 67 (0, 0)) := by
    rw [← hW]
    repeat (first | (refine alloc_at ?_; first | (simp; done) | (simp; omega)) | refine drew_row ?_ | refine alloc_past ?_ | assumption)
  have qz : W0.heap[(w.heap.size + 1 : Nat)]? = some (Obj.cells (#[.int .i64 0, .int .i64 0, .int .i64 0]) 67 (0, 0)) := by
    rw [← hW]
    repeat (first | (refine alloc_at ?_; first | (simp; done) | (simp; omega)) | refine drew_row ?_ | refine alloc_past ?_ | assumption)
  clear hW
  refine (H0.out _).mono ?_
  rintro e W1 ⟨rfl, hb⟩
  have nqm := rowk qm hb rfl
  have nqz := rowk qz hb rfl
  have hB1 := below_of hB0 hb hB0.size
  clear hb hB0 qm qz
  have qm := nqm
  have qz := nqz
  clear nqm nqz
  have qm_c := fun j => cell_of_row W1 _ j _ _ _ qm
  have qm_f := fun j => frozen_of_row W1 _ j _ _ qm
  have qz_c := fun j => cell_of_row W1 _ j _ _ _ qz
  have qz_f := fun j => frozen_of_row W1 _ j _ _ qz
  go_wp2_with fail
  refine (HB.out _).mono ?_
  rintro e W2 ⟨rfl, hb⟩
  have nqm := rowk qm hb rfl
  have nqz := rowk qz hb rfl
  have hB2 := below_of hB1 hb hB1.size
  clear hb hB1 qm qz qm_c qm_f qz_c qz_f
  have qm := nqm
  have qz := nqz
  clear nqm nqz
  have qm_c := fun j => cell_of_row W2 _ j _ _ _ qm
  have qm_f := fun j => frozen_of_row W2 _ j _ _ qm
  have qz_c := fun j => cell_of_row W2 _ j _ _ _ qz
  have qz_f := fun j => frozen_of_row W2 _ j _ _ qz
  go_wp2_with fail
  refine (HV.out _).mono ?_
  rintro e W3 ⟨rfl, hb⟩
  have nqm := rowk qm hb rfl
  have nqz := rowk qz hb rfl
  have hB3 := below_of hB2 hb hB2.size
  clear hb hB2 qm qz qm_c qm_f qz_c qz_f
  have qm := nqm
  have qz := nqz
  clear nqm nqz
  have qm_c := fun j => cell_of_row W3 _ j _ _ _ qm
  have qm_f := fun j => frozen_of_row W3 _ j _ _ qm
  have qz_c := fun j => cell_of_row W3 _ j _ _ _ qz
  have qz_f := fun j => frozen_of_row W3 _ j _ _ qz
  go_wp2_with fail
  refine (HM.out _).mono ?_
  rintro e W4 ⟨rfl, hb⟩
  have nqz := rowk (alloc_past qz) hb rfl
  have hB4 := below_of (hB3.alloc hB3.size _) hb (by simp; exact Nat.le_trans hB3.size (Nat.le_succ _))
  clear hb hB3 qm qz qm_c qm_f qz_c qz_f
  have qz_c := fun j => cell_of_row W4 _ j _ _ _ nqz
  have qz_f := fun j => frozen_of_row W4 _ j _ _ nqz
  go_wp2_with fail
  refine bodyPost_ret (v := .tuple #[.agg #[.int .i64 N, .int .i64 P, .int .i64 Q], .bool true]) (by simp [results, Try.results73, go_sem, qz_c]) rfl ⟨rfl, ?_⟩
  exact belowc3 hB4 (by omega)
end Go.Proofs.Ytpgfmigbjffemaa
