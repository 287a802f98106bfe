/- THE LAW's WALK over two contracts: MirrorCell -/
import Derived.Test.YtkjaaaefcmpokaaTc9
import Derived.Test.YtkjaaaefcmpokaaSc
import Derived.Deep.RegionHeld3
import Derived.RegionTactic
import Derived.WalkKit
import Derived.ProofKit
import Derived.OpenShut
import Derived.Lib.Hide
import Derived.WalkSpells
import Derived.Below
import Derived.BigQuiet
import Derived.LoopN
namespace Go.Proofs.Ytkjaaaefcmpokaa
open Go.ChangeShapes Go.WideShapes Go.ChangeAt Go.RowKit
set_option linter.unusedVariables false
theorem eq2_same (x y : Int) (w : World) : Calls Try.prog 53 #[.agg #[.int .i64 x, .int .i64 y], .agg #[.int .i64 x, .int .i64 y]] w fun e w' => e = .returned (.bool true) ∧ Below w.heap.size w w' := by
  go_enter Try.func53, Try.ntmps53
  go_wp2_with fail
  refine wp_loop_rounds 3 ?_
  iterate 2
    rw [rounds_succ]
    go_wp2_with fail
    go_region
    go_wp2_with fail
  rw [rounds_succ]
  go_wp2_with fail
  go_ret
  exact ⟨rfl, by (repeat (first | exact Below.refl _ _ | assumption | refine Below.setCell ?_ (by first | (simp; done) | (simp; omega)) _ | refine Below.alloc ?_ (by first | (simp; done) | (simp; omega)) _ | refine Below.drew ?_))⟩
theorem SLac {w U : World} {a0 a1 a2 a3 a4 a5 x y : Int} (h : KR 2 [(w.heap.size, Obj.cells #[.int .i64 a0, .int .i64 a1, .int .i64 a2, .int .i64 a3, .int .i64 a4, .int .i64 a5] 24 (0, 0)), (w.heap.size + 1, Obj.cells #[.int .i64 x, .int .i64 y] 47 (0, 0))] w U) : U.cell? ⟨w.heap.size, 0, none⟩ = some (.int .i64 a0) ∧ U.cell? ⟨w.heap.size, 1, none⟩ = some (.int .i64 a1) ∧ U.cell? ⟨w.heap.size, 2, none⟩ = some (.int .i64 a2) ∧ U.cell? ⟨w.heap.size, 3, none⟩ = some (.int .i64 a3) ∧ U.cell? ⟨w.heap.size, 4, none⟩ = some (.int .i64 a4) ∧ U.cell? ⟨w.heap.size, 5, none⟩ = some (.int .i64 a5) ∧ U.cell? ⟨w.heap.size + 1, 0, none⟩ = some (.int .i64 x) ∧ U.cell? ⟨w.heap.size + 1, 1, none⟩ = some (.int .i64 y) ∧ KR 2 [(w.heap.size, Obj.cells #[.int .i64 a0, .int .i64 a1, .int .i64 a2, .int .i64 a3, .int .i64 a4, .int .i64 a5] 24 (0, 0)), (w.heap.size + 1, Obj.cells #[.int .i64 x, .int .i64 y] 47 (0, 0))] w U :=
  have h0 := fun j => cell_of_row U _ j _ _ _ (h.row (g := w.heap.size) (List.mem_cons_self ..))
  have h1 := fun j => cell_of_row U _ j _ _ _ (h.row (g := w.heap.size + 1) (List.mem_cons_of_mem _ (List.mem_cons_self ..)))
  ⟨h0 0, h0 1, h0 2, h0 3, h0 4, h0 5, h1 0, h1 1, h⟩
theorem SMac {a0 a1 a2 a3 a4 a5 x y r0 r1 : Int} {m G1 : Nat} {w U : World} (h : KR m [(G1, Obj.cells #[.int .i64 r0, .int .i64 r1] 47 (0, 0)), (w.heap.size, Obj.cells #[.int .i64 a0, .int .i64 a1, .int .i64 a2, .int .i64 a3, .int .i64 a4, .int .i64 a5] 24 (0, 0)), (w.heap.size + 1, Obj.cells #[.int .i64 x, .int .i64 y] 47 (0, 0))] w U) : U.cell? ⟨G1, 0, none⟩ = some (.int .i64 r0) ∧ U.cell? ⟨G1, 1, none⟩ = some (.int .i64 r1) ∧ U.cell? ⟨w.heap.size, 0, none⟩ = some (.int .i64 a0) ∧ U.cell? ⟨w.heap.size, 1, none⟩ = some (.int .i64 a1) ∧ U.cell? ⟨w.heap.size, 2, none⟩ = some (.int .i64 a2) ∧ U.cell? ⟨w.heap.size, 3, none⟩ = some (.int .i64 a3) ∧ U.cell? ⟨w.heap.size, 4, none⟩ = some (.int .i64 a4) ∧ U.cell? ⟨w.heap.size, 5, none⟩ = some (.int .i64 a5) ∧ U.cell? ⟨w.heap.size + 1, 0, none⟩ = some (.int .i64 x) ∧ U.cell? ⟨w.heap.size + 1, 1, none⟩ = some (.int .i64 y) ∧ KR m [(G1, Obj.cells #[.int .i64 r0, .int .i64 r1] 47 (0, 0)), (w.heap.size, Obj.cells #[.int .i64 a0, .int .i64 a1, .int .i64 a2, .int .i64 a3, .int .i64 a4, .int .i64 a5] 24 (0, 0)), (w.heap.size + 1, Obj.cells #[.int .i64 x, .int .i64 y] 47 (0, 0))] w U :=
  have g := fun j => cell_of_row U _ j _ _ _ (h.row (g := G1) (List.mem_cons_self ..))
  have h0 := fun j => cell_of_row U _ j _ _ _ (h.row (g := w.heap.size) (List.mem_cons_of_mem _ (List.mem_cons_self ..)))
  have h1 := fun j => cell_of_row U _ j _ _ _ (h.row (g := w.heap.size + 1) (List.mem_cons_of_mem _ (List.mem_cons_of_mem _ (List.mem_cons_self ..))))
  ⟨g 0, g 1, h0 0, h0 1, h0 2, h0 3, h0 4, h0 5, h1 0, h1 1, h⟩
set_option maxHeartbeats 4000000 in
theorem mcell_core (a0 a1 a2 a3 a4 a5 : Int) (x y : Int) (r0 r1 : Int) (t : Bool) (HS : Hid (∀ w, Calls Try.prog 50 #[.agg #[.int .i64 a0, .int .i64 a1, .int .i64 a2, .int .i64 a3, .int .i64 a4, .int .i64 a5], .agg #[.int .i64 x, .int .i64 y]] w fun e w' => e = .returned (.tuple #[.agg #[.int .i64 r0, .int .i64 r1], .bool t]) ∧ Below w.heap.size w w'))(HI : Hid (∀ w, Calls Try.prog 52 #[.agg #[.int .i64 a0, .int .i64 a1, .int .i64 a2, .int .i64 a3, .int .i64 a4, .int .i64 a5], .agg #[.int .i64 x, .int .i64 y]] w fun e w' => e = .returned (.tuple #[.agg #[.int .i64 r0, .int .i64 r1], .bool t]) ∧ Below w.heap.size w w')) (w : World) : Calls Try.prog 12 #[.agg #[.int .i64 a0, .int .i64 a1, .int .i64 a2, .int .i64 a3, .int .i64 a4, .int .i64 a5], .agg #[.int .i64 x, .int .i64 y]] w fun e w' => e = .returned (.bool true) ∧ Below w.heap.size w w' := by
  go_enter Try.func12, Try.ntmps12
  go_wp2_with fail
  generalize hW : (World.alloc _ _ : World) = W0
  have q0 : W0.heap[(w.heap.size : Nat)]? = some (Obj.cells #[.int .i64 a0, .int .i64 a1, .int .i64 a2, .int .i64 a3, .int .i64 a4, .int .i64 a5] 24 (0, 0)) := by
    rw [← hW]
    repeat (first | (refine alloc_at ?_; first | (simp; done) | (simp; omega)) | refine drew_row ?_ | refine alloc_past ?_ | assumption)
  have q1 : W0.heap[(w.heap.size + 1 : Nat)]? = some (Obj.cells #[.int .i64 x, .int .i64 y] 47 (0, 0)) := by
    rw [← hW]
    repeat (first | (refine alloc_at ?_; first | (simp; done) | (simp; omega)) | refine drew_row ?_ | refine alloc_past ?_ | assumption)
  have hk : KR 2 [(w.heap.size, Obj.cells #[.int .i64 a0, .int .i64 a1, .int .i64 a2, .int .i64 a3, .int .i64 a4, .int .i64 a5] 24 (0, 0)), (w.heap.size + 1, Obj.cells #[.int .i64 x, .int .i64 y] 47 (0, 0))] w W0 := ⟨by simp [q0, q1], by rw [← hW]; simp, by rw [← hW]; (repeat (first | exact Below.refl _ _ | assumption | refine Below.setCell ?_ (by first | (simp; done) | (simp; omega)) _ | refine Below.alloc ?_ (by first | (simp; done) | (simp; omega)) _ | refine Below.drew ?_))⟩
  clear hW q0 q1
  have hz := KR.le hk
  set_option maxRecDepth 8000 in
  go_region_held3 (fun U => U.cell? ⟨w.heap.size, 0, none⟩ = some (.int .i64 a0) ∧ U.cell? ⟨w.heap.size, 1, none⟩ = some (.int .i64 a1) ∧ U.cell? ⟨w.heap.size, 2, none⟩ = some (.int .i64 a2) ∧ U.cell? ⟨w.heap.size, 3, none⟩ = some (.int .i64 a3) ∧ U.cell? ⟨w.heap.size, 4, none⟩ = some (.int .i64 a4) ∧ U.cell? ⟨w.heap.size, 5, none⟩ = some (.int .i64 a5) ∧ U.cell? ⟨w.heap.size + 1, 0, none⟩ = some (.int .i64 x) ∧ U.cell? ⟨w.heap.size + 1, 1, none⟩ = some (.int .i64 y) ∧ KR 2 [(w.heap.size, Obj.cells #[.int .i64 a0, .int .i64 a1, .int .i64 a2, .int .i64 a3, .int .i64 a4, .int .i64 a5] 24 (0, 0)), (w.heap.size + 1, Obj.cells #[.int .i64 x, .int .i64 y] 47 (0, 0))] w U) (with_reducible refine SLac ?_; (repeat (first | with_reducible assumption | with_reducible refine KR.al ?_ | with_reducible refine KR.drew ?_ | with_reducible refine KR.set ?_ (by first | omega | (simp; omega))))) (first | (go_at_call 23; refine (to_sheet _ _ _ _ _ _ _).mono ?_; rintro e w' ⟨rfl, hb'⟩; have hk : KR 2 [(w.heap.size, Obj.cells #[.int .i64 a0, .int .i64 a1, .int .i64 a2, .int .i64 a3, .int .i64 a4, .int .i64 a5] 24 (0, 0)), (w.heap.size + 1, Obj.cells #[.int .i64 x, .int .i64 y] 47 (0, 0))] w w' := KR.far (by (repeat (first | with_reducible assumption | with_reducible refine KR.al ?_ | with_reducible refine KR.drew ?_ | with_reducible refine KR.set ?_ (by first | omega | (simp; omega))))) hb' rfl; have hz := KR.le hk; (first | have hn := rowk hn hb' rfl | have hn := rowk (drew_row (alloc_at rfl)) hb' rfl | have hn := rowk (alloc_at rfl) hb' rfl | skip); (try (have hnz := row_lt hn))) | (go_at_call 51; refine (a2_any _ _ _).mono ?_; rintro e w' ⟨rfl, hb'⟩; have hk : KR 2 [(w.heap.size, Obj.cells #[.int .i64 a0, .int .i64 a1, .int .i64 a2, .int .i64 a3, .int .i64 a4, .int .i64 a5] 24 (0, 0)), (w.heap.size + 1, Obj.cells #[.int .i64 x, .int .i64 y] 47 (0, 0))] w w' := KR.far (by (repeat (first | with_reducible assumption | with_reducible refine KR.al ?_ | with_reducible refine KR.drew ?_ | with_reducible refine KR.set ?_ (by first | omega | (simp; omega))))) hb' rfl; have hz := KR.le hk; (first | have hn := rowk hn hb' rfl | have hn := rowk (drew_row (alloc_at rfl)) hb' rfl | have hn := rowk (alloc_at rfl) hb' rfl | skip); (try (have hnz := row_lt hn))) | (go_at_call 50; with_reducible refine (HS.out _).mono ?_; rintro e w' ⟨rfl, hb'⟩; have hk : KR 2 [(w.heap.size, Obj.cells #[.int .i64 a0, .int .i64 a1, .int .i64 a2, .int .i64 a3, .int .i64 a4, .int .i64 a5] 24 (0, 0)), (w.heap.size + 1, Obj.cells #[.int .i64 x, .int .i64 y] 47 (0, 0))] w w' := KR.far (by (repeat (first | with_reducible assumption | with_reducible refine KR.al ?_ | with_reducible refine KR.drew ?_ | with_reducible refine KR.set ?_ (by first | omega | (simp; omega))))) hb' rfl; have hz := KR.le hk; (first | have hn := rowk hn hb' rfl | have hn := rowk (drew_row (alloc_at rfl)) hb' rfl | have hn := rowk (alloc_at rfl) hb' rfl | skip); (try (have hnz := row_lt hn)); (first | (have hz2 := zero2 hn; obtain ⟨z0, z1, zf0, zf1⟩ := hz2) | skip)))
  all_goals
    first
    | (have hx : (w'.alloc (.cells #[.int .i64 r0, .int .i64 r1] 47)).heap[w'.heap.size]? = some (Obj.cells #[.int .i64 r0, .int .i64 r1] 47 (0, 0)) := alloc_at rfl
       have hk2 := hk.al (o := .cells #[.int .i64 r0, .int .i64 r1] 47)
       have hG : w.heap.size + 2 ≤ w'.heap.size := KR.le hk
       obtain ⟨X, hX⟩ : ∃ X, X = w'.alloc (.cells #[.int .i64 r0, .int .i64 r1] 47) := ⟨_, rfl⟩
       rw [← hX] at hx hk2 ⊢
       clear hX
       generalize w'.heap.size = G1 at hx hG ⊢)
    | (have hx := row2 _ _ (.int .i64 r0) (.int .i64 r1) hn
       obtain ⟨G1, hGe⟩ := gOf hn
       have hG : w.heap.size + 2 ≤ G1 := by rw [hGe]; first | omega | (simp; omega)
       rw [← hGe] at hn hx ⊢
       have hk2 := hk.set (v := .int .i64 r0) (i := 0) hG |>.set (v := .int .i64 r1) (i := 1) hG
       clear hGe
       generalize hX : World.setCell _ _ _ = X at hx hk2 ⊢
       clear hX)
    clear hk
    obtain ⟨m, hm, hk⟩ := hk2.push hx hG
    clear hk2 hx hG
    go_wp2_with fail
    have hz := KR.le hk
    set_option maxRecDepth 8000 in
    go_region_held3 (fun U => U.cell? ⟨G1, 0, none⟩ = some (.int .i64 r0) ∧ U.cell? ⟨G1, 1, none⟩ = some (.int .i64 r1) ∧ U.cell? ⟨w.heap.size, 0, none⟩ = some (.int .i64 a0) ∧ U.cell? ⟨w.heap.size, 1, none⟩ = some (.int .i64 a1) ∧ U.cell? ⟨w.heap.size, 2, none⟩ = some (.int .i64 a2) ∧ U.cell? ⟨w.heap.size, 3, none⟩ = some (.int .i64 a3) ∧ U.cell? ⟨w.heap.size, 4, none⟩ = some (.int .i64 a4) ∧ U.cell? ⟨w.heap.size, 5, none⟩ = some (.int .i64 a5) ∧ U.cell? ⟨w.heap.size + 1, 0, none⟩ = some (.int .i64 x) ∧ U.cell? ⟨w.heap.size + 1, 1, none⟩ = some (.int .i64 y) ∧ KR m [(G1, Obj.cells #[.int .i64 r0, .int .i64 r1] 47 (0, 0)), (w.heap.size, Obj.cells #[.int .i64 a0, .int .i64 a1, .int .i64 a2, .int .i64 a3, .int .i64 a4, .int .i64 a5] 24 (0, 0)), (w.heap.size + 1, Obj.cells #[.int .i64 x, .int .i64 y] 47 (0, 0))] w U) (with_reducible refine SMac ?_; (repeat (first | with_reducible assumption | with_reducible refine KR.al ?_ | with_reducible refine KR.drew ?_ | with_reducible refine KR.set ?_ (by first | omega | (simp; omega))))) (first | (go_at_call 23; refine (to_sheet _ _ _ _ _ _ _).mono ?_; rintro e w' ⟨rfl, hb'⟩; have hk : KR m [(G1, Obj.cells #[.int .i64 r0, .int .i64 r1] 47 (0, 0)), (w.heap.size, Obj.cells #[.int .i64 a0, .int .i64 a1, .int .i64 a2, .int .i64 a3, .int .i64 a4, .int .i64 a5] 24 (0, 0)), (w.heap.size + 1, Obj.cells #[.int .i64 x, .int .i64 y] 47 (0, 0))] w w' := KR.far (by (repeat (first | with_reducible assumption | with_reducible refine KR.al ?_ | with_reducible refine KR.drew ?_ | with_reducible refine KR.set ?_ (by first | omega | (simp; omega))))) hb' rfl; have hz := KR.le hk; (first | have hn := rowk hn hb' rfl | have hn := rowk (drew_row (alloc_at rfl)) hb' rfl | have hn := rowk (alloc_at rfl) hb' rfl | skip); (try (have hnz := row_lt hn))) | (go_at_call 51; refine (a2_any _ _ _).mono ?_; rintro e w' ⟨rfl, hb'⟩; have hk : KR m [(G1, Obj.cells #[.int .i64 r0, .int .i64 r1] 47 (0, 0)), (w.heap.size, Obj.cells #[.int .i64 a0, .int .i64 a1, .int .i64 a2, .int .i64 a3, .int .i64 a4, .int .i64 a5] 24 (0, 0)), (w.heap.size + 1, Obj.cells #[.int .i64 x, .int .i64 y] 47 (0, 0))] w w' := KR.far (by (repeat (first | with_reducible assumption | with_reducible refine KR.al ?_ | with_reducible refine KR.drew ?_ | with_reducible refine KR.set ?_ (by first | omega | (simp; omega))))) hb' rfl; have hz := KR.le hk; (first | have hn := rowk hn hb' rfl | have hn := rowk (drew_row (alloc_at rfl)) hb' rfl | have hn := rowk (alloc_at rfl) hb' rfl | skip); (try (have hnz := row_lt hn))) | (go_at_call 52; with_reducible refine (HI.out _).mono ?_; rintro e w' ⟨rfl, hb'⟩; have hk : KR m [(G1, Obj.cells #[.int .i64 r0, .int .i64 r1] 47 (0, 0)), (w.heap.size, Obj.cells #[.int .i64 a0, .int .i64 a1, .int .i64 a2, .int .i64 a3, .int .i64 a4, .int .i64 a5] 24 (0, 0)), (w.heap.size + 1, Obj.cells #[.int .i64 x, .int .i64 y] 47 (0, 0))] w w' := KR.far (by (repeat (first | with_reducible assumption | with_reducible refine KR.al ?_ | with_reducible refine KR.drew ?_ | with_reducible refine KR.set ?_ (by first | omega | (simp; omega))))) hb' rfl; have hz := KR.le hk; (first | have hn := rowk hn hb' rfl | have hn := rowk (drew_row (alloc_at rfl)) hb' rfl | have hn := rowk (alloc_at rfl) hb' rfl | skip); (try (have hnz := row_lt hn)); (first | (have hz2 := zero2 hn; obtain ⟨z0, z1, zf0, zf1⟩ := hz2) | skip)))
    all_goals
      first
      | (have hx : (w'.alloc (.cells #[.int .i64 r0, .int .i64 r1] 47)).heap[w'.heap.size]? = some (Obj.cells #[.int .i64 r0, .int .i64 r1] 47 (0, 0)) := alloc_at rfl
         have hk2 := hk.al (o := .cells #[.int .i64 r0, .int .i64 r1] 47)
         have hG : w.heap.size + m ≤ w'.heap.size := KR.le hk
         obtain ⟨X, hX⟩ : ∃ X, X = w'.alloc (.cells #[.int .i64 r0, .int .i64 r1] 47) := ⟨_, rfl⟩
         rw [← hX] at hx hk2 ⊢
         clear hX
         generalize w'.heap.size = G at hx hG ⊢)
      | (have hx := row2 _ _ (.int .i64 r0) (.int .i64 r1) hn
         obtain ⟨G, hGe⟩ := gOf hn
         have hG : w.heap.size + m ≤ G := by rw [hGe]; first | omega | (simp; omega)
         rw [← hGe] at hn hx ⊢
         have hk2 := hk.set (v := .int .i64 r0) (i := 0) hG |>.set (v := .int .i64 r1) (i := 1) hG
         clear hGe
         generalize hX : World.setCell _ _ _ = X at hx hk2 ⊢
         clear hX)
      have y_c := fun j => cell_of_row X _ j _ _ _ hx
      have x_c := fun j => cell_of_row X _ j _ _ _ (hk2.row (g := G1) (List.mem_cons_self ..))
      have hB := hk2.2.2
      clear hk
      go_wp2_with fail
      refine (eq2_same r0 r1 _).mono ?_
      rintro e W3 ⟨rfl, hb⟩
      have hB3 := below_of hB hb hB.size
      clear hb hB hx hk2 x_c y_c
      go_wp2_with fail
      go_ret
      exact ⟨rfl, hB3⟩
end Go.Proofs.Ytkjaaaefcmpokaa
