/- THE LAWS' WALKS over two contracts each: ChanceSame -/
import Derived.Test.YthphkhcppljdlaaTc9
import Derived.Test.YthphkhcppljdlaaSc
import Derived.Deep.RegionHeld3
import Derived.RegionTactic
import Derived.WalkKit
import Derived.ProofKit
import Derived.OpenShut
import Derived.Lib.Hide
import Derived.WalkSpells
import Derived.Below
import Derived.BigQuiet
import Derived.LoopN
namespace Go.Proofs.Ythphkhcppljdlaa
open Go.ChangeShapes Go.WideShapes Go.ChangeAt Go.RowKit
set_option linter.unusedVariables false
theorem eq2_same (x y : Int) (w : World) : Calls Try.prog 27 #[.agg #[.int .i64 x, .int .i64 y], .agg #[.int .i64 x, .int .i64 y]] w fun e w' => e = .returned (.bool true) ∧ Below w.heap.size w w' := by
  go_enter Try.func27, Try.ntmps27
  go_wp2_with fail
  refine wp_loop_rounds 3 ?_
  iterate 2
    rw [rounds_succ]
    go_wp2_with fail
    go_region
    go_wp2_with fail
  rw [rounds_succ]
  go_wp2_with fail
  go_ret
  exact ⟨rfl, by (repeat (first | exact Below.refl _ _ | assumption | refine Below.setCell ?_ (by first | (simp; done) | (simp; omega)) _ | refine Below.alloc ?_ (by first | (simp; done) | (simp; omega)) _ | refine Below.drew ?_))⟩
theorem SL1 {w U : World} {a0 a1 a2 a3 a4 a5 : Int} (h : KR 1 [(w.heap.size, Obj.cells #[.int .i64 a0, .int .i64 a1, .int .i64 a2, .int .i64 a3, .int .i64 a4, .int .i64 a5] 24 (0, 0))] w U) : U.cell? ⟨w.heap.size, 0, none⟩ = some (.int .i64 a0) ∧ U.cell? ⟨w.heap.size, 1, none⟩ = some (.int .i64 a1) ∧ U.cell? ⟨w.heap.size, 2, none⟩ = some (.int .i64 a2) ∧ U.cell? ⟨w.heap.size, 3, none⟩ = some (.int .i64 a3) ∧ U.cell? ⟨w.heap.size, 4, none⟩ = some (.int .i64 a4) ∧ U.cell? ⟨w.heap.size, 5, none⟩ = some (.int .i64 a5) ∧ KR 1 [(w.heap.size, Obj.cells #[.int .i64 a0, .int .i64 a1, .int .i64 a2, .int .i64 a3, .int .i64 a4, .int .i64 a5] 24 (0, 0))] w U :=
  have h0 := fun j => cell_of_row U _ j _ _ _ (h.row (g := w.heap.size) (List.mem_cons_self ..))
  ⟨h0 0, h0 1, h0 2, h0 3, h0 4, h0 5, h⟩
theorem SM1 {a0 a1 a2 a3 a4 a5 r0 r1 : Int} {m G1 : Nat} {w U : World} (h : KR m [(G1, Obj.cells #[.int .i64 r0, .int .i64 r1] 25 (0, 0)), (w.heap.size, Obj.cells #[.int .i64 a0, .int .i64 a1, .int .i64 a2, .int .i64 a3, .int .i64 a4, .int .i64 a5] 24 (0, 0))] w U) : U.cell? ⟨G1, 0, none⟩ = some (.int .i64 r0) ∧ U.cell? ⟨G1, 1, none⟩ = some (.int .i64 r1) ∧ U.cell? ⟨w.heap.size, 0, none⟩ = some (.int .i64 a0) ∧ U.cell? ⟨w.heap.size, 1, none⟩ = some (.int .i64 a1) ∧ U.cell? ⟨w.heap.size, 2, none⟩ = some (.int .i64 a2) ∧ U.cell? ⟨w.heap.size, 3, none⟩ = some (.int .i64 a3) ∧ U.cell? ⟨w.heap.size, 4, none⟩ = some (.int .i64 a4) ∧ U.cell? ⟨w.heap.size, 5, none⟩ = some (.int .i64 a5) ∧ KR m [(G1, Obj.cells #[.int .i64 r0, .int .i64 r1] 25 (0, 0)), (w.heap.size, Obj.cells #[.int .i64 a0, .int .i64 a1, .int .i64 a2, .int .i64 a3, .int .i64 a4, .int .i64 a5] 24 (0, 0))] w U :=
  have g := fun j => cell_of_row U _ j _ _ _ (h.row (g := G1) (List.mem_cons_self ..))
  have h0 := fun j => cell_of_row U _ j _ _ _ (h.row (g := w.heap.size) (List.mem_cons_of_mem _ (List.mem_cons_self ..)))
  ⟨g 0, g 1, h0 0, h0 1, h0 2, h0 3, h0 4, h0 5, h⟩
set_option maxHeartbeats 4000000 in
theorem cs_core (a0 a1 a2 a3 a4 a5 : Int) (n : Int) (r0 r1 : Int) (t : Bool) (HS : Hid (∀ w, Calls Try.prog 45 #[.agg #[.int .i64 a0, .int .i64 a1, .int .i64 a2, .int .i64 a3, .int .i64 a4, .int .i64 a5], .int .i64 n] w fun e w' => e = .returned (.tuple #[.agg #[.int .i64 r0, .int .i64 r1], .bool t]) ∧ Below w.heap.size w w'))(HI : Hid (∀ w, Calls Try.prog 46 #[.agg #[.int .i64 a0, .int .i64 a1, .int .i64 a2, .int .i64 a3, .int .i64 a4, .int .i64 a5], .int .i64 n] w fun e w' => e = .returned (.tuple #[.agg #[.int .i64 r0, .int .i64 r1], .bool t]) ∧ Below w.heap.size w w')) (w : World) : Calls Try.prog 12 #[.agg #[.int .i64 a0, .int .i64 a1, .int .i64 a2, .int .i64 a3, .int .i64 a4, .int .i64 a5], .int .i64 n] w fun e w' => e = .returned (.bool true) ∧ Below w.heap.size w w' := by
  go_enter Try.func12, Try.ntmps12
  go_wp2_with fail
  generalize hW : (World.alloc _ _ : World) = W0
  have q0 : W0.heap[(w.heap.size : Nat)]? = some (Obj.cells #[.int .i64 a0, .int .i64 a1, .int .i64 a2, .int .i64 a3, .int .i64 a4, .int .i64 a5] 24 (0, 0)) := by
    rw [← hW]
    repeat (first | (refine alloc_at ?_; first | (simp; done) | (simp; omega)) | refine drew_row ?_ | refine alloc_past ?_ | assumption)
  have hk : KR 1 [(w.heap.size, Obj.cells #[.int .i64 a0, .int .i64 a1, .int .i64 a2, .int .i64 a3, .int .i64 a4, .int .i64 a5] 24 (0, 0))] w W0 := ⟨by simp [q0], by rw [← hW]; simp, by rw [← hW]; (repeat (first | exact Below.refl _ _ | assumption | refine Below.setCell ?_ (by first | (simp; done) | (simp; omega)) _ | refine Below.alloc ?_ (by first | (simp; done) | (simp; omega)) _ | refine Below.drew ?_))⟩
  clear hW q0
  have r0_c := fun j => cell_of_row _ _ j _ _ _ (hk.row (g := w.heap.size) (List.mem_cons_self ..))
  go_wp2_with fail
  refine (to_sheet _ _ _ _ _ _ _).mono ?_
  rintro e V00 ⟨rfl, hb⟩
  clear r0_c
  have hk := hk.far hb rfl
  clear hb
  have r0_c := fun j => cell_of_row _ _ j _ _ _ (hk.row (g := w.heap.size) (List.mem_cons_self ..))
  go_wp2_with fail
  refine (HS.out _).mono ?_
  rintro e V01 ⟨rfl, hb⟩
  clear r0_c
  have hk := hk.far hb rfl
  clear hb
  have s0_c := fun j => cell_of_row (V01.alloc (.cells #[.int .i64 r0, .int .i64 r1] 25)) _ j _ _ _ (alloc_past (hk.row (g := w.heap.size) (List.mem_cons_self ..)))
  have n_c := fun j => cell_of_row (V01.alloc (.cells #[.int .i64 r0, .int .i64 r1] 25)) _ j _ _ _ (alloc_at (g := V01.heap.size) rfl)
  go_wp2_with fail
  clear n_c s0_c
  have hx : (V01.alloc (.cells #[.int .i64 r0, .int .i64 r1] 25)).heap[V01.heap.size]? = some (Obj.cells #[.int .i64 r0, .int .i64 r1] 25 (0, 0)) := alloc_at rfl
  have hk2 := hk.al (o := .cells #[.int .i64 r0, .int .i64 r1] 25)
  have hG : w.heap.size + 1 ≤ V01.heap.size := KR.le hk
  obtain ⟨X, hX⟩ : ∃ X, X = V01.alloc (.cells #[.int .i64 r0, .int .i64 r1] 25) := ⟨_, rfl⟩
  rw [← hX] at hx hk2 ⊢
  clear hX
  generalize V01.heap.size = G1 at hx hG ⊢
  clear hk
  obtain ⟨m, hm, hk⟩ := hk2.push hx hG
  clear hk2 hx hG
  have r0_c := fun j => cell_of_row _ _ j _ _ _ (hk.row (g := w.heap.size) (List.mem_cons_of_mem _ (List.mem_cons_self ..)))
  refine (to_sheet _ _ _ _ _ _ _).mono ?_
  rintro e V10 ⟨rfl, hb⟩
  clear r0_c
  have hk := hk.far hb rfl
  clear hb
  have r0_c := fun j => cell_of_row _ _ j _ _ _ (hk.row (g := w.heap.size) (List.mem_cons_of_mem _ (List.mem_cons_self ..)))
  go_wp2_with fail
  refine (HI.out _).mono ?_
  rintro e V11 ⟨rfl, hb⟩
  clear r0_c
  have hk := hk.far hb rfl
  clear hb
  have s0_c := fun j => cell_of_row (V11.alloc (.cells #[.int .i64 r0, .int .i64 r1] 25)) _ j _ _ _ (alloc_past (hk.row (g := w.heap.size) (List.mem_cons_of_mem _ (List.mem_cons_self ..))))
  have n_c := fun j => cell_of_row (V11.alloc (.cells #[.int .i64 r0, .int .i64 r1] 25)) _ j _ _ _ (alloc_at (g := V11.heap.size) rfl)
  have g_c := fun j => cell_of_row (V11.alloc (.cells #[.int .i64 r0, .int .i64 r1] 25)) _ j _ _ _ (alloc_past (hk.row (g := G1) (List.mem_cons_self ..)))
  go_wp2_with fail
  clear n_c s0_c g_c
  have hx : (V11.alloc (.cells #[.int .i64 r0, .int .i64 r1] 25)).heap[V11.heap.size]? = some (Obj.cells #[.int .i64 r0, .int .i64 r1] 25 (0, 0)) := alloc_at rfl
  have hk2 := hk.al (o := .cells #[.int .i64 r0, .int .i64 r1] 25)
  have hG : w.heap.size + m ≤ V11.heap.size := KR.le hk
  have hB := hk2.2.2
  refine (eq2_same r0 r1 _).mono ?_
  rintro e W3 ⟨rfl, hb⟩
  have hB3 := below_of hB hb hB.size
  clear hb hB hx hk2 hk hG
  go_wp2_with fail
  go_ret
  exact ⟨rfl, hB3⟩
end Go.Proofs.Ythphkhcppljdlaa
