/- CONTRACTS: FirstPlace, the code's. -/
import Derived.Test.YtkobgklpcpoglaaFq3
import Derived.Test.YtkobgklpcpoglaaRk
import Derived.Test.YtkobgklpcpoglaaPi
import Derived.Test.YtkobgklpcpoglaaRh
import Derived.Deep.RegionHeld3
import Derived.WalkKit
import Derived.ProofKit
import Derived.OpenShut
import Derived.Lib.Hide
import Derived.WalkSpells
import Derived.Below
import Derived.BigQuiet
import Derived.LoopN
namespace Go.Proofs.Ytkobgklpcpoglaa
open Go.ChangeShapes Go.WideShapes Go.ChangeAt Go.RowKit
set_option linter.unusedVariables false
theorem SA2 (a0 a1 a2 a3 a4 a5 : Int) {w U : World} (h : KR 2 [(w.heap.size, Obj.cells #[.int .i64 a0, .int .i64 a1, .int .i64 a2, .int .i64 a3, .int .i64 a4, .int .i64 a5] 25 (0, 0)), (w.heap.size + 1, Obj.cells #[.int .i64 0, .int .i64 0, .int .i64 0, .int .i64 0, .int .i64 0, .int .i64 0] 25 (0, 0))] w U) : (U.cell? ⟨w.heap.size, 0, none⟩ = some (.int .i64 (a0)) ∧ U.cell? ⟨w.heap.size, 1, none⟩ = some (.int .i64 (a1)) ∧ U.cell? ⟨w.heap.size, 2, none⟩ = some (.int .i64 (a2)) ∧ U.cell? ⟨w.heap.size, 3, none⟩ = some (.int .i64 (a3)) ∧ U.cell? ⟨w.heap.size, 4, none⟩ = some (.int .i64 (a4)) ∧ U.cell? ⟨w.heap.size, 5, none⟩ = some (.int .i64 (a5)) ∧ KR 2 [(w.heap.size, Obj.cells #[.int .i64 a0, .int .i64 a1, .int .i64 a2, .int .i64 a3, .int .i64 a4, .int .i64 a5] 25 (0, 0)), (w.heap.size + 1, Obj.cells #[.int .i64 0, .int .i64 0, .int .i64 0, .int .i64 0, .int .i64 0, .int .i64 0] 25 (0, 0))] w U) :=
  have h1 := fun j => cell_of_row U _ j _ _ _ (h.row (g := w.heap.size) (List.mem_cons_self ..))
  ⟨h1 0, h1 1, h1 2, h1 3, h1 4, h1 5, h⟩
set_option maxHeartbeats 3000000 in
theorem ifp_yes (a0 a1 a2 a3 a4 a5 : Int) (r0 r1 r2 r3 r4 r5 : Int) (p q s : Int) (H0 : Hid (∀ w, Calls Try.prog 64 #[.agg #[.int .i64 a0, .int .i64 a1, .int .i64 a2, .int .i64 a3, .int .i64 a4, .int .i64 a5]] w fun e w' => e = .returned (.bool true) ∧ Below w.heap.size w w')) (HF : Hid (∀ (B g cap : Nat) (w : World), g < w.heap.size → w.ownsRow B 62 3 (.slice (some ⟨g, 0, none⟩) (L1 6 1).length cap) (L1 6 1).length (tv (L1 6 1)) → Calls Try.prog 155 #[.agg #[.int .i64 a0, .int .i64 a1, .int .i64 a2, .int .i64 a3, .int .i64 a4, .int .i64 a5], .slice (some ⟨g, 0, none⟩) (L1 6 1).length cap] w fun e w' => e = .returned (.tuple #[.agg #[.int .i64 r0, .int .i64 r1, .int .i64 r2, .int .i64 r3, .int .i64 r4, .int .i64 r5], .agg #[.int .i64 p, .int .i64 q, .int .i64 s]]) ∧ Below w.heap.size w w')) (w : World) : Calls Try.prog 70 #[.agg #[.int .i64 a0, .int .i64 a1, .int .i64 a2, .int .i64 a3, .int .i64 a4, .int .i64 a5]] w fun e w' => e = .returned (.tuple #[.agg #[.int .i64 r0, .int .i64 r1, .int .i64 r2, .int .i64 r3, .int .i64 r4, .int .i64 r5], .bool true]) ∧ Below w.heap.size w w' := by
  have HM := Lib.hid mo61
  go_enter Try.func70, Try.ntmps70
  go_wp2_with fail
  generalize hW : (World.alloc _ _ : World) = W0
  have hB0 : Below w.heap.size w W0 := by rw [← hW]; (repeat (first | exact Below.refl _ _ | assumption | refine Below.setCell ?_ (by first | (simp; done) | (simp; omega)) _ | refine Below.alloc ?_ (by first | (simp; done) | (simp; omega)) _ | refine Below.drew ?_))
  have qa : W0.heap[(w.heap.size : Nat)]? = some (Obj.cells (#[.int .i64 a0, .int .i64 a1, .int .i64 a2, .int .i64 a3, .int .i64 a4, .int .i64 a5]) 25 (0, 0)) := by
    rw [← hW]
    repeat (first | (refine alloc_at ?_; first | (simp; done) | (simp; omega)) | refine drew_row ?_ | refine alloc_past ?_ | assumption)
  have qz : W0.heap[(w.heap.size + 1 : Nat)]? = some (Obj.cells (#[.int .i64 0, .int .i64 0, .int .i64 0, .int .i64 0, .int .i64 0, .int .i64 0]) 25 (0, 0)) := by
    rw [← hW]
    repeat (first | (refine alloc_at ?_; first | (simp; done) | (simp; omega)) | refine drew_row ?_ | refine alloc_past ?_ | assumption)
  clear hW
  refine (H0.out _).mono ?_
  rintro e W1 ⟨rfl, hb⟩
  have nqa := rowk qa hb rfl
  have nqz := rowk qz hb rfl
  have hB1 := below_of hB0 hb hB0.size
  clear hb hB0 qa qz
  have qa := nqa
  have qz := nqz
  clear nqa nqz
  have qa_c := fun j => cell_of_row W1 _ j _ _ _ qa
  have qa_f := fun j => frozen_of_row W1 _ j _ _ qa
  have qz_c := fun j => cell_of_row W1 _ j _ _ _ qz
  have qz_f := fun j => frozen_of_row W1 _ j _ _ qz
  go_wp2_with fail
  have hkr : KR 2 [(w.heap.size, Obj.cells #[.int .i64 a0, .int .i64 a1, .int .i64 a2, .int .i64 a3, .int .i64 a4, .int .i64 a5] 25 (0, 0)), (w.heap.size + 1, Obj.cells #[.int .i64 0, .int .i64 0, .int .i64 0, .int .i64 0, .int .i64 0, .int .i64 0] 25 (0, 0))] w W1 := ⟨by simp [qa, qz], by have := row_lt qz; omega, hB1⟩
  have z0 := KR.le hkr
  clear qa qz qa_c qa_f qz_c qz_f hB1
  set_option maxRecDepth 8000 in
  go_region_held3 (fun U => (U.cell? ⟨w.heap.size, 0, none⟩ = some (.int .i64 (a0)) ∧ U.cell? ⟨w.heap.size, 1, none⟩ = some (.int .i64 (a1)) ∧ U.cell? ⟨w.heap.size, 2, none⟩ = some (.int .i64 (a2)) ∧ U.cell? ⟨w.heap.size, 3, none⟩ = some (.int .i64 (a3)) ∧ U.cell? ⟨w.heap.size, 4, none⟩ = some (.int .i64 (a4)) ∧ U.cell? ⟨w.heap.size, 5, none⟩ = some (.int .i64 (a5)) ∧ KR 2 [(w.heap.size, Obj.cells #[.int .i64 a0, .int .i64 a1, .int .i64 a2, .int .i64 a3, .int .i64 a4, .int .i64 a5] 25 (0, 0)), (w.heap.size + 1, Obj.cells #[.int .i64 0, .int .i64 0, .int .i64 0, .int .i64 0, .int .i64 0, .int .i64 0] 25 (0, 0))] w U)) ((with_reducible refine SA2 a0 a1 a2 a3 a4 a5 ?_; repeat (first | with_reducible assumption | with_reducible refine KR.al ?_ | with_reducible refine KR.drew ?_ | with_reducible refine KR.set ?_ (by first | omega | (simp; omega))))) (first | (go_at_call 156; with_reducible refine (HM.out _).mono ?_; rintro e w1 ⟨g1, c1, rfl, ho, hge, hb1⟩; have hkr1 : KR 2 [(w.heap.size, Obj.cells #[.int .i64 a0, .int .i64 a1, .int .i64 a2, .int .i64 a3, .int .i64 a4, .int .i64 a5] 25 (0, 0)), (w.heap.size + 1, Obj.cells #[.int .i64 0, .int .i64 0, .int .i64 0, .int .i64 0, .int .i64 0, .int .i64 0] 25 (0, 0))] w w1 := KR.far (by repeat (first | with_reducible assumption | with_reducible refine KR.al ?_ | with_reducible refine KR.drew ?_ | with_reducible refine KR.set ?_ (by first | omega | (simp; omega)))) hb1 rfl; have z1 := KR.le hkr1; have y1 := hb1.size; have hg1 := (ho.lt g1 rfl).2; have ho0 := own_mono ho (Nat.zero_le _); (try (first | (have q1 := rowk (g := W1.heap.size) (drew_row (alloc_past (alloc_at rfl))) hb1 rfl; have q2 := rowk (g := W1.heap.size + 1) (drew_row (alloc_at (by simp))) hb1 rfl) | (have q1 := rowk (g := W1.heap.size) (drew_row (alloc_at rfl)) hb1 rfl))); (try (have q1_w := Nat.ne_of_lt (row_lt q1); have q1_v := Nat.ne_of_gt (row_lt q1))); (try (have q2_w := Nat.ne_of_lt (row_lt q2); have q2_v := Nat.ne_of_gt (row_lt q2)))) | (go_at_call 155; with_reducible refine (HF.out 0 g1 c1 _ (by first | exact hg1 | (simp; omega)) (by first | exact ho0 | exact ho0.alloc _ | exact (ho0.alloc _).alloc _)).mono ?_; rintro e w2 ⟨rfl, hb2⟩; have hkr2 : KR 2 [(w.heap.size, Obj.cells #[.int .i64 a0, .int .i64 a1, .int .i64 a2, .int .i64 a3, .int .i64 a4, .int .i64 a5] 25 (0, 0)), (w.heap.size + 1, Obj.cells #[.int .i64 0, .int .i64 0, .int .i64 0, .int .i64 0, .int .i64 0, .int .i64 0] 25 (0, 0))] w w2 := KR.far (by repeat (first | with_reducible assumption | with_reducible refine KR.al ?_ | with_reducible refine KR.drew ?_ | with_reducible refine KR.set ?_ (by first | omega | (simp; omega)))) hb2 rfl; have z2 := KR.le hkr2; have y2 := hb2.size; (try (first | (have q1 := rowk q1 hb2 rfl) | (have q1 := rowk (alloc_past q1) hb2 rfl) | (have q1 := rowk (alloc_past (alloc_past q1)) hb2 rfl)); have q1_c := fun j => cell_of_row _ _ j _ _ _ q1; have q1_f := fun j => frozen_of_row _ _ j _ _ q1; have q1_z := row_lt q1; have q1_y := Nat.lt_add_one_of_lt q1_z; have q1_a := Nat.ne_of_lt q1_z; have q1_b := Nat.ne_of_gt q1_z; have q1_d := Nat.ne_of_lt q1_y; have q1_e := Nat.ne_of_gt q1_y); (try (first | (have q2 := rowk q2 hb2 rfl) | (have q2 := rowk (alloc_past q2) hb2 rfl) | (have q2 := rowk (alloc_past (alloc_past q2)) hb2 rfl)); have q2_c := fun j => cell_of_row _ _ j _ _ _ q2; have q2_f := fun j => frozen_of_row _ _ j _ _ q2; have q2_z := row_lt q2; have q2_y := Nat.lt_add_one_of_lt q2_z; have q2_a := Nat.ne_of_lt q2_z; have q2_b := Nat.ne_of_gt q2_z; have q2_d := Nat.ne_of_lt q2_y; have q2_e := Nat.ne_of_gt q2_y); (try (first | (have q3 := rowk (g := w1.heap.size) (alloc_past (alloc_at rfl)) hb2 rfl; have q4 := rowk (g := w1.heap.size + 1) (alloc_at (by simp)) hb2 rfl) | (have q3 := rowk (g := w1.heap.size) (alloc_at rfl) hb2 rfl))); (try (have q3_c := fun j => cell_of_row _ _ j _ _ _ q3; have q3_f := fun j => frozen_of_row _ _ j _ _ q3; have q3_z := row_lt q3; have q3_y := Nat.lt_add_one_of_lt q3_z; have q3_a := Nat.ne_of_lt q3_z; have q3_b := Nat.ne_of_gt q3_z; have q3_d := Nat.ne_of_lt q3_y; have q3_e := Nat.ne_of_gt q3_y)); (try (have q4_c := fun j => cell_of_row _ _ j _ _ _ q4; have q4_f := fun j => frozen_of_row _ _ j _ _ q4; have q4_z := row_lt q4; have q4_y := Nat.lt_add_one_of_lt q4_z; have q4_a := Nat.ne_of_lt q4_z; have q4_b := Nat.ne_of_gt q4_z; have q4_d := Nat.ne_of_lt q4_y; have q4_e := Nat.ne_of_gt q4_y))))
  all_goals
    have zrow := fun j => cell_of_row w2 _ j _ _ _ (hkr2.row (g := w.heap.size + 1) (List.mem_cons_of_mem _ (List.mem_cons_self ..)))
    have zfro := fun j => frozen_of_row w2 _ j _ _ (hkr2.row (g := w.heap.size + 1) (List.mem_cons_of_mem _ (List.mem_cons_self ..)))
    have hB2 := Lib.hid hkr2
    have m1 : w.heap.size + 1 ≠ W1.heap.size := by omega
    have m2 : w.heap.size + 1 ≠ W1.heap.size + 1 := by omega
    have m3 : w.heap.size + 1 ≠ w1.heap.size := by omega
    have m4 : w.heap.size + 1 ≠ w1.heap.size + 1 := by omega
    have m5 : w.heap.size + 1 ≠ w2.heap.size := by omega
    have m6 : w.heap.size + 1 ≠ w2.heap.size + 1 := by omega
    have m7 : w.heap.size + 1 < w2.heap.size := by omega
    have m8 : w.heap.size + 1 < w2.heap.size + 1 := by omega
    clear hkr hkr1 hkr2 ho0 hg1
    go_wp2_with fail
    have hbb := hB2.out.2.2
    have hzr := hB2.out.row (g := w.heap.size + 1) (List.mem_cons_of_mem _ (List.mem_cons_self ..))
    clear zrow zfro H0 HF HM
    first
    | (generalize hX : (World.alloc _ _ : World) = X; have hx : X.heap[w.heap.size + 1]? = some (.cells #[.int .i64 r0, .int .i64 r1, .int .i64 r2, .int .i64 r3, .int .i64 r4, .int .i64 r5] 25 (0, 0)) := (by rw [← hX]; (repeat (first | with_reducible refine alloc_past ?_ | with_reducible refine set3o _ _ _ (by first | assumption | omega) ?_ | with_reducible refine set6q _ _ _ _ _ _ (by first | assumption | omega) ?_)); with_reducible refine row6 _ _ _ _ _ _ ?_; (repeat (first | with_reducible refine alloc_past ?_ | with_reducible refine set3o _ _ _ (by first | assumption | omega) ?_ | with_reducible refine set6q _ _ _ _ _ _ (by first | assumption | omega) ?_)); exact hzr); have hB : Below w.heap.size w X := (by rw [← hX]; repeat (first | with_reducible exact hbb | with_reducible refine Below.alloc ?_ (by first | (simp; done) | (simp; omega)) _ | with_reducible refine Below.setCell ?_ (by first | omega | (simp; done) | (simp; omega)) _)); clear hX; have x_c := fun j => cell_of_row X _ j _ _ _ hx; exact bodyPost_ret (v := .tuple #[.agg #[.int .i64 r0, .int .i64 r1, .int .i64 r2, .int .i64 r3, .int .i64 r4, .int .i64 r5], .bool true]) (by simp [results, Try.results70, go_sem, x_c]) rfl ⟨rfl, hB⟩)
    | (generalize hX : (World.setCell _ _ _ : World) = X; have hx : X.heap[w.heap.size + 1]? = some (.cells #[.int .i64 r0, .int .i64 r1, .int .i64 r2, .int .i64 r3, .int .i64 r4, .int .i64 r5] 25 (0, 0)) := (by rw [← hX]; (repeat (first | with_reducible refine alloc_past ?_ | with_reducible refine set3o _ _ _ (by first | assumption | omega) ?_ | with_reducible refine set6q _ _ _ _ _ _ (by first | assumption | omega) ?_)); with_reducible refine row6 _ _ _ _ _ _ ?_; (repeat (first | with_reducible refine alloc_past ?_ | with_reducible refine set3o _ _ _ (by first | assumption | omega) ?_ | with_reducible refine set6q _ _ _ _ _ _ (by first | assumption | omega) ?_)); exact hzr); have hB : Below w.heap.size w X := (by rw [← hX]; repeat (first | with_reducible exact hbb | with_reducible refine Below.alloc ?_ (by first | (simp; done) | (simp; omega)) _ | with_reducible refine Below.setCell ?_ (by first | omega | (simp; done) | (simp; omega)) _)); clear hX; have x_c := fun j => cell_of_row X _ j _ _ _ hx; exact bodyPost_ret (v := .tuple #[.agg #[.int .i64 r0, .int .i64 r1, .int .i64 r2, .int .i64 r3, .int .i64 r4, .int .i64 r5], .bool true]) (by simp [results, Try.results70, go_sem, x_c]) rfl ⟨rfl, hB⟩)
end Go.Proofs.Ytkobgklpcpoglaa
