/- CONTRACTS: iff, the code's. -/
import Derived.Test.YtkobgklpcpoglaaFq5
import Derived.Deep.RegionHeld3
import Derived.WalkKit
import Derived.ProofKit
import Derived.OpenShut
import Derived.Lib.Hide
import Derived.WalkSpells
import Derived.Below
import Derived.BigQuiet
import Derived.LoopN
namespace Go.Proofs.Ytkobgklpcpoglaa
open Go.ChangeShapes Go.WideShapes Go.ChangeAt Go.RowKit
set_option linter.unusedVariables false
theorem SA3 (a0 a1 a2 a3 a4 a5 : Int) {w U : World} (h : KR 3 [(w.heap.size, Obj.cells #[.int .i64 a0, .int .i64 a1, .int .i64 a2, .int .i64 a3, .int .i64 a4, .int .i64 a5] 25 (0, 0)), (w.heap.size + 1, Obj.cells #[.int .i64 0, .int .i64 0, .int .i64 0, .int .i64 0, .int .i64 0, .int .i64 0] 25 (0, 0)), (w.heap.size + 2, Obj.cells #[.int .i64 0, .int .i64 0, .int .i64 0] 62 (0, 0))] w U) : (U.cell? ⟨w.heap.size, 0, none⟩ = some (.int .i64 (a0)) ∧ U.cell? ⟨w.heap.size, 1, none⟩ = some (.int .i64 (a1)) ∧ U.cell? ⟨w.heap.size, 2, none⟩ = some (.int .i64 (a2)) ∧ U.cell? ⟨w.heap.size, 3, none⟩ = some (.int .i64 (a3)) ∧ U.cell? ⟨w.heap.size, 4, none⟩ = some (.int .i64 (a4)) ∧ U.cell? ⟨w.heap.size, 5, none⟩ = some (.int .i64 (a5)) ∧ KR 3 [(w.heap.size, Obj.cells #[.int .i64 a0, .int .i64 a1, .int .i64 a2, .int .i64 a3, .int .i64 a4, .int .i64 a5] 25 (0, 0)), (w.heap.size + 1, Obj.cells #[.int .i64 0, .int .i64 0, .int .i64 0, .int .i64 0, .int .i64 0, .int .i64 0] 25 (0, 0)), (w.heap.size + 2, Obj.cells #[.int .i64 0, .int .i64 0, .int .i64 0] 62 (0, 0))] w U) :=
  have h1 := fun j => cell_of_row U _ j _ _ _ (h.row (g := w.heap.size) (List.mem_cons_self ..))
  ⟨h1 0, h1 1, h1 2, h1 3, h1 4, h1 5, h⟩
theorem mos68b : Mos (L1 6 8) := by
  have h : ∀ c ∈ L1 6 8, c.1 < 8 ∧ c.2.1 < 6 ∧ c.2.2 < 6 := by decide +kernel
  exact h
theorem mo68 (w : World) : Calls Try.prog 159 #[] w fun e w' => ∃ g cap, e = .returned (.slice (some ⟨g, 0, none⟩) (L1 6 8).length cap) ∧ w'.ownsRow w.heap.size 62 3 (.slice (some ⟨g, 0, none⟩) (L1 6 8).length cap) (L1 6 8).length (tv (L1 6 8)) ∧ w.heap.size ≤ g ∧ Below w.heap.size w w' := allmotions_f w
theorem set3z3 {g : Nat} {W : World} (u0 u1 u2 : Value) (h : W.heap[g]? = some (Obj.cells #[.int .i64 0, .int .i64 0, .int .i64 0] 62 (0, 0))) : (((W.setCell ⟨g, 0, none⟩ u0).setCell ⟨g, 1, none⟩ u1).setCell ⟨g, 2, none⟩ u2).heap[g]? = some (Obj.cells #[u0, u1, u2] 62 (0, 0)) := set3r _ _ _ h
set_option maxHeartbeats 1500000 in
theorem iff_yes (a0 a1 a2 a3 a4 a5 : Int) (r0 r1 r2 r3 r4 r5 : Int) (p q s : Int) (H0 : Hid (∀ w, Calls Try.prog 64 #[.agg #[.int .i64 a0, .int .i64 a1, .int .i64 a2, .int .i64 a3, .int .i64 a4, .int .i64 a5]] w fun e w' => e = .returned (.bool true) ∧ Below w.heap.size w w')) (HF : Hid (∀ (B g cap : Nat) (w : World), g < w.heap.size → w.ownsRow B 62 3 (.slice (some ⟨g, 0, none⟩) (L1 6 8).length cap) (L1 6 8).length (tv (L1 6 8)) → Calls Try.prog 155 #[.agg #[.int .i64 a0, .int .i64 a1, .int .i64 a2, .int .i64 a3, .int .i64 a4, .int .i64 a5], .slice (some ⟨g, 0, none⟩) (L1 6 8).length cap] w fun e w' => e = .returned (.tuple #[.agg #[.int .i64 r0, .int .i64 r1, .int .i64 r2, .int .i64 r3, .int .i64 r4, .int .i64 r5], .agg #[.int .i64 p, .int .i64 q, .int .i64 s]]) ∧ Below w.heap.size w w')) (w : World) : Calls Try.prog 74 #[.agg #[.int .i64 a0, .int .i64 a1, .int .i64 a2, .int .i64 a3, .int .i64 a4, .int .i64 a5]] w fun e w' => e = .returned (.tuple #[.agg #[.int .i64 r0, .int .i64 r1, .int .i64 r2, .int .i64 r3, .int .i64 r4, .int .i64 r5], .agg #[.int .i64 p, .int .i64 q, .int .i64 s], .bool true]) ∧ Below w.heap.size w w' := by
  have HM := Lib.hid mo68
  go_enter Try.func74, Try.ntmps74
  go_wp2_with fail
  generalize hW : (World.alloc _ _ : World) = W0
  have hB0 : Below w.heap.size w W0 := by rw [← hW]; (repeat (first | exact Below.refl _ _ | assumption | refine Below.setCell ?_ (by first | (simp; done) | (simp; omega)) _ | refine Below.alloc ?_ (by first | (simp; done) | (simp; omega)) _ | refine Below.drew ?_))
  have qa : W0.heap[(w.heap.size : Nat)]? = some (Obj.cells (#[.int .i64 a0, .int .i64 a1, .int .i64 a2, .int .i64 a3, .int .i64 a4, .int .i64 a5]) 25 (0, 0)) := by
    rw [← hW]
    repeat (first | (refine alloc_at ?_; first | (simp; done) | (simp; omega)) | refine drew_row ?_ | refine alloc_past ?_ | assumption)
  have qz : W0.heap[(w.heap.size + 1 : Nat)]? = some (Obj.cells (#[.int .i64 0, .int .i64 0, .int .i64 0, .int .i64 0, .int .i64 0, .int .i64 0]) 25 (0, 0)) := by
    rw [← hW]
    repeat (first | (refine alloc_at ?_; first | (simp; done) | (simp; omega)) | refine drew_row ?_ | refine alloc_past ?_ | assumption)
  have qy : W0.heap[(w.heap.size + 2 : Nat)]? = some (Obj.cells (#[.int .i64 0, .int .i64 0, .int .i64 0]) 62 (0, 0)) := by
    rw [← hW]
    repeat (first | (refine alloc_at ?_; first | (simp; done) | (simp; omega)) | refine drew_row ?_ | refine alloc_past ?_ | assumption)
  clear hW
  refine (H0.out _).mono ?_
  rintro e W1 ⟨rfl, hb⟩
  have nqa := rowk qa hb rfl
  have nqz := rowk qz hb rfl
  have nqy := rowk qy hb rfl
  have hB1 := below_of hB0 hb hB0.size
  clear hb hB0 qa qz qy
  have qa_c := fun j => cell_of_row W1 _ j _ _ _ nqa
  go_wp2_with fail
  have hkr : KR 3 [(w.heap.size, Obj.cells #[.int .i64 a0, .int .i64 a1, .int .i64 a2, .int .i64 a3, .int .i64 a4, .int .i64 a5] 25 (0, 0)), (w.heap.size + 1, Obj.cells #[.int .i64 0, .int .i64 0, .int .i64 0, .int .i64 0, .int .i64 0, .int .i64 0] 25 (0, 0)), (w.heap.size + 2, Obj.cells #[.int .i64 0, .int .i64 0, .int .i64 0] 62 (0, 0))] w W1 := ⟨by simp [nqa, nqz, nqy], by have := row_lt nqy; omega, hB1⟩
  have z0 := KR.le hkr
  clear nqa nqz nqy qa_c hB1
  rename_i KK hKK
  have key : ∀ {A C : Nat} {x0 x1 x4 x7 x8 x9 x10 x11 x12 x13 x14 x15 x16 x17 x18 x19 : Value} {X : World}, X.heap[A]? = some (.cells #[.int .i64 r0, .int .i64 r1, .int .i64 r2, .int .i64 r3, .int .i64 r4, .int .i64 r5] 25 (0, 0)) → X.heap[C]? = some (.cells #[.int .i64 p, .int .i64 q, .int .i64 s] 62 (0, 0)) → w.heap.size + 3 ≤ A ∧ w.heap.size + 3 ≤ C → KR 3 [(w.heap.size, Obj.cells #[.int .i64 a0, .int .i64 a1, .int .i64 a2, .int .i64 a3, .int .i64 a4, .int .i64 a5] 25 (0, 0)), (w.heap.size + 1, Obj.cells #[.int .i64 0, .int .i64 0, .int .i64 0, .int .i64 0, .int .i64 0, .int .i64 0] 25 (0, 0)), (w.heap.size + 2, Obj.cells #[.int .i64 0, .int .i64 0, .int .i64 0] 62 (0, 0))] w X → KK { tmps := #[x0, x1, .pointer (some ⟨w.heap.size + 1, 0, none⟩), .pointer (some ⟨w.heap.size + 2, 0, none⟩), x4, .pointer (some ⟨A, 0, none⟩), .pointer (some ⟨C, 0, none⟩), x7, x8, x9, x10, x11, x12, x13, x14, x15, x16, x17, x18, x19], defers := [] } X := by
    intro A C x0 x1 x4 x7 x8 x9 x10 x11 x12 x13 x14 x15 x16 x17 x18 x19 X hA hC hle hK
    apply hKK
    have a_c := fun j => cell_of_row X _ j _ _ _ hA
    have c_c := fun j => cell_of_row X _ j _ _ _ hC
    have z1_c := fun j => cell_of_row X _ j _ _ _ (hK.row (g := w.heap.size + 1) (List.mem_cons_of_mem _ (List.mem_cons_self ..)))
    have z1_f := fun j => frozen_of_row X _ j _ _ (hK.row (g := w.heap.size + 1) (List.mem_cons_of_mem _ (List.mem_cons_self ..)))
    have z2_c := fun j => cell_of_row X _ j _ _ _ (hK.row (g := w.heap.size + 2) (List.mem_cons_of_mem _ (List.mem_cons_of_mem _ (List.mem_cons_self ..))))
    have z2_f := fun j => frozen_of_row X _ j _ _ (hK.row (g := w.heap.size + 2) (List.mem_cons_of_mem _ (List.mem_cons_of_mem _ (List.mem_cons_self ..))))
    have n1 : w.heap.size + 1 ≠ A := by omega
    have m1 : A ≠ w.heap.size + 1 := by omega
    have n2 : w.heap.size + 1 ≠ C := by omega
    have m2 : C ≠ w.heap.size + 1 := by omega
    have n3 : w.heap.size + 2 ≠ A := by omega
    have m3 : A ≠ w.heap.size + 2 := by omega
    have n4 : w.heap.size + 2 ≠ C := by omega
    have m4 : C ≠ w.heap.size + 2 := by omega
    have HK := Lib.hid hK
    have HC := Lib.hid hC
    clear hA hK hC
    clear H0 HF HM hkr
    go_wp2_with fail
    set_option maxRecDepth 8000 in
    go_region
    all_goals
      clear a_c c_c z1_c z1_f z2_c z2_f
      generalize hY : World.drew _ = Y
      have l1 : w.heap.size ≤ w.heap.size + 1 := by omega
      have l2 : w.heap.size ≤ w.heap.size + 2 := by omega
      have hB : Below w.heap.size w Y := by rw [← hY]; exact (((((((((HK.out.2.2.setCell l1 _).setCell l1 _).setCell l1 _).setCell l1 _).setCell l1 _).setCell l1 _).setCell l2 _).setCell l2 _).setCell l2 _).drew
      have ry : Y.heap[w.heap.size + 1]? = some (.cells #[.int .i64 r0, .int .i64 r1, .int .i64 r2, .int .i64 r3, .int .i64 r4, .int .i64 r5] 25 (0, 0)) := by rw [← hY]; exact drew_row (set3o _ _ _ (by omega) (row6 _ _ _ _ _ _ (HK.out.row (g := w.heap.size + 1) (List.mem_cons_of_mem _ (List.mem_cons_self ..)))))
      have rv : Y.heap[w.heap.size + 2]? = some (.cells #[.int .i64 p, .int .i64 q, .int .i64 s] 62 (0, 0)) := by rw [← hY]; exact drew_row (set3r _ _ _ (set6q _ _ _ _ _ _ (by omega) (HK.out.row (g := w.heap.size + 2) (List.mem_cons_of_mem _ (List.mem_cons_of_mem _ (List.mem_cons_self ..))))))
      clear hY
      have y_c := fun j => cell_of_row Y _ j _ _ _ ry
      have v_c := fun j => cell_of_row Y _ j _ _ _ rv
      go_wp2_with fail
      exact bodyPost_ret (v := .tuple #[.agg #[.int .i64 r0, .int .i64 r1, .int .i64 r2, .int .i64 r3, .int .i64 r4, .int .i64 r5], .agg #[.int .i64 p, .int .i64 q, .int .i64 s], .bool true]) (by simp [results, Try.results74, go_sem, y_c, v_c]) rfl ⟨rfl, hB⟩
  set_option maxRecDepth 8000 in
  go_region_held3 (fun U => (U.cell? ⟨w.heap.size, 0, none⟩ = some (.int .i64 (a0)) ∧ U.cell? ⟨w.heap.size, 1, none⟩ = some (.int .i64 (a1)) ∧ U.cell? ⟨w.heap.size, 2, none⟩ = some (.int .i64 (a2)) ∧ U.cell? ⟨w.heap.size, 3, none⟩ = some (.int .i64 (a3)) ∧ U.cell? ⟨w.heap.size, 4, none⟩ = some (.int .i64 (a4)) ∧ U.cell? ⟨w.heap.size, 5, none⟩ = some (.int .i64 (a5)) ∧ KR 3 [(w.heap.size, Obj.cells #[.int .i64 a0, .int .i64 a1, .int .i64 a2, .int .i64 a3, .int .i64 a4, .int .i64 a5] 25 (0, 0)), (w.heap.size + 1, Obj.cells #[.int .i64 0, .int .i64 0, .int .i64 0, .int .i64 0, .int .i64 0, .int .i64 0] 25 (0, 0)), (w.heap.size + 2, Obj.cells #[.int .i64 0, .int .i64 0, .int .i64 0] 62 (0, 0))] w U)) ((with_reducible refine SA3 a0 a1 a2 a3 a4 a5 ?_; repeat (first | with_reducible assumption | with_reducible refine KR.al ?_ | with_reducible refine KR.drew ?_ | with_reducible refine KR.set ?_ (by first | omega | (simp; omega))))) (first | (go_at_call 159; with_reducible refine (HM.out _).mono ?_; rintro e w1 ⟨g1, c1, rfl, ho, hge, hb1⟩; have hkr1 : KR 3 [(w.heap.size, Obj.cells #[.int .i64 a0, .int .i64 a1, .int .i64 a2, .int .i64 a3, .int .i64 a4, .int .i64 a5] 25 (0, 0)), (w.heap.size + 1, Obj.cells #[.int .i64 0, .int .i64 0, .int .i64 0, .int .i64 0, .int .i64 0, .int .i64 0] 25 (0, 0)), (w.heap.size + 2, Obj.cells #[.int .i64 0, .int .i64 0, .int .i64 0] 62 (0, 0))] w w1 := KR.far (by repeat (first | with_reducible assumption | with_reducible refine KR.al ?_ | with_reducible refine KR.drew ?_ | with_reducible refine KR.set ?_ (by first | omega | (simp; omega)))) hb1 rfl; have z1 := KR.le hkr1; have y1 := hb1.size; have hg1 := (ho.lt g1 rfl).2; have ho0 := own_mono ho (Nat.zero_le _); (try (first | (have q1 := rowk (g := W1.heap.size) (drew_row (alloc_past (alloc_at rfl))) hb1 rfl; have q2 := rowk (g := W1.heap.size + 1) (drew_row (alloc_at (by simp))) hb1 rfl) | (have q1 := rowk (g := W1.heap.size) (drew_row (alloc_at rfl)) hb1 rfl))); (try (have q1_w := Nat.ne_of_lt (row_lt q1); have q1_v := Nat.ne_of_gt (row_lt q1))); (try (have q2_w := Nat.ne_of_lt (row_lt q2); have q2_v := Nat.ne_of_gt (row_lt q2)))) | (go_at_call 155; with_reducible refine (HF.out 0 g1 c1 _ (by first | exact hg1 | (simp; omega)) (by first | exact ho0 | exact ho0.alloc _ | exact (ho0.alloc _).alloc _)).mono ?_; rintro e w2 ⟨rfl, hb2⟩; have hkr2 : KR 3 [(w.heap.size, Obj.cells #[.int .i64 a0, .int .i64 a1, .int .i64 a2, .int .i64 a3, .int .i64 a4, .int .i64 a5] 25 (0, 0)), (w.heap.size + 1, Obj.cells #[.int .i64 0, .int .i64 0, .int .i64 0, .int .i64 0, .int .i64 0, .int .i64 0] 25 (0, 0)), (w.heap.size + 2, Obj.cells #[.int .i64 0, .int .i64 0, .int .i64 0] 62 (0, 0))] w w2 := KR.far (by repeat (first | with_reducible assumption | with_reducible refine KR.al ?_ | with_reducible refine KR.drew ?_ | with_reducible refine KR.set ?_ (by first | omega | (simp; omega)))) hb2 rfl; have z2 := KR.le hkr2; have y2 := hb2.size; (try (first | (have q1 := rowk q1 hb2 rfl) | (have q1 := rowk (alloc_past q1) hb2 rfl) | (have q1 := rowk (alloc_past (alloc_past q1)) hb2 rfl)); have q1_c := fun j => cell_of_row _ _ j _ _ _ q1; have q1_f := fun j => frozen_of_row _ _ j _ _ q1; have q1_z := row_lt q1; have q1_y := Nat.lt_add_one_of_lt q1_z; have q1_a := Nat.ne_of_lt q1_z; have q1_b := Nat.ne_of_gt q1_z; have q1_d := Nat.ne_of_lt q1_y; have q1_e := Nat.ne_of_gt q1_y); (try (first | (have q2 := rowk q2 hb2 rfl) | (have q2 := rowk (alloc_past q2) hb2 rfl) | (have q2 := rowk (alloc_past (alloc_past q2)) hb2 rfl)); have q2_c := fun j => cell_of_row _ _ j _ _ _ q2; have q2_f := fun j => frozen_of_row _ _ j _ _ q2; have q2_z := row_lt q2; have q2_y := Nat.lt_add_one_of_lt q2_z; have q2_a := Nat.ne_of_lt q2_z; have q2_b := Nat.ne_of_gt q2_z; have q2_d := Nat.ne_of_lt q2_y; have q2_e := Nat.ne_of_gt q2_y); (try (first | (have q3 := rowk (g := w1.heap.size) (alloc_past (alloc_at rfl)) hb2 rfl; have q4 := rowk (g := w1.heap.size + 1) (alloc_at (by simp)) hb2 rfl) | (have q3 := rowk (g := w1.heap.size) (alloc_at rfl) hb2 rfl))); (try (have q3_c := fun j => cell_of_row _ _ j _ _ _ q3; have q3_f := fun j => frozen_of_row _ _ j _ _ q3; have q3_z := row_lt q3; have q3_y := Nat.lt_add_one_of_lt q3_z; have q3_a := Nat.ne_of_lt q3_z; have q3_b := Nat.ne_of_gt q3_z; have q3_d := Nat.ne_of_lt q3_y; have q3_e := Nat.ne_of_gt q3_y)); (try (have q4_c := fun j => cell_of_row _ _ j _ _ _ q4; have q4_f := fun j => frozen_of_row _ _ j _ _ q4; have q4_z := row_lt q4; have q4_y := Nat.lt_add_one_of_lt q4_z; have q4_a := Nat.ne_of_lt q4_z; have q4_b := Nat.ne_of_gt q4_z; have q4_d := Nat.ne_of_lt q4_y; have q4_e := Nat.ne_of_gt q4_y))))
  all_goals
    refine key ?_ ?_ ?_ ?_
    · first | (with_reducible refine alloc_at ?_; (first | (simp; done) | rfl)) | (with_reducible refine alloc_past ?_; with_reducible refine alloc_at ?_; (first | rfl | (simp; done))) | ((repeat (first | with_reducible refine alloc_past ?_ | with_reducible refine set3o _ _ _ (by first | assumption | omega) ?_ | with_reducible refine set6q _ _ _ _ _ _ (by first | assumption | omega) ?_)); with_reducible refine row6 _ _ _ _ _ _ ?_; (repeat (first | with_reducible refine alloc_past ?_ | with_reducible refine set3o _ _ _ (by first | assumption | omega) ?_ | with_reducible refine set6q _ _ _ _ _ _ (by first | assumption | omega) ?_)); with_reducible assumption)
    · first | (with_reducible refine alloc_at ?_; (first | (simp; done) | rfl)) | (with_reducible refine alloc_past ?_; with_reducible refine alloc_at ?_; (first | rfl | (simp; done))) | ((repeat (first | with_reducible refine alloc_past ?_ | with_reducible refine set3o _ _ _ (by first | assumption | omega) ?_ | with_reducible refine set6q _ _ _ _ _ _ (by first | assumption | omega) ?_)); with_reducible refine set3z3 _ _ _ ?_; (repeat (first | with_reducible refine alloc_past ?_ | with_reducible refine set3o _ _ _ (by first | assumption | omega) ?_ | with_reducible refine set6q _ _ _ _ _ _ (by first | assumption | omega) ?_)); with_reducible assumption)
    · exact ⟨by omega, by omega⟩
    · repeat (first | with_reducible exact hkr2 | with_reducible refine KR.al ?_ | with_reducible refine KR.set ?_ (by first | omega | (simp; omega)))
end Go.Proofs.Ytkobgklpcpoglaa
