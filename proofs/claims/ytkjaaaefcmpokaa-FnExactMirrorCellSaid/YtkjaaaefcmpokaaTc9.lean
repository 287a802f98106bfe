/- CONTRACTS: one more press's tally; the mean number of black cells. -/
import Derived.Test.YtkjaaaefcmpokaaTb9
import Derived.Test.YtkjaaaefcmpokaaRh
import Derived.Test.YtkjaaaefcmpokaaRk
import Derived.RegionTactic
import Derived.Deep.RegionHeld3
import Derived.WalkKit
import Derived.ProofKit
import Derived.OpenShut
import Derived.Lib.Hide
import Derived.WalkSpells
import Derived.Below
import Derived.BigQuiet
import Derived.LoopN
namespace Go.Proofs.Ytkjaaaefcmpokaa
open Go.ChangeShapes Go.WideShapes Go.ChangeAt Go.RowKit
set_option linter.unusedVariables false
theorem zero2 {g : Nat} {W : World} {t : TypeId} (h : W.heap[g]? = some (Obj.cells (#[.int .i64 0, .int .i64 0]) t (0, 0))) : W.cell? ⟨g, 0, none⟩ = some (.int .i64 0) ∧ W.cell? ⟨g, 1, none⟩ = some (.int .i64 0) ∧ W.frozen? ⟨g, 0, none⟩ = false ∧ W.frozen? ⟨g, 1, none⟩ = false :=
  ⟨cell_of_row _ _ 0 _ _ _ h, cell_of_row _ _ 1 _ _ _ h, frozen_of_row _ _ 0 _ _ h, frozen_of_row _ _ 1 _ _ h⟩
theorem row2 {g : Nat} {W : World} {t : TypeId} (x y u v : Value) (hq : W.heap[g]? = some (Obj.cells (#[x, y]) t (0, 0))) : ((W.setCell ⟨g, 0, none⟩ u).setCell ⟨g, 1, none⟩ v).heap[g]? = some (Obj.cells #[u, v] t (0, 0)) := by
  have e0 : (W.setCell ⟨g, 0, none⟩ u).heap[g]? = some (Obj.cells #[u, y] t (0, 0)) := heap_setCell_same W g 0 _ t u hq
  exact heap_setCell_same (W.setCell ⟨g, 0, none⟩ u) g 1 _ t v e0
theorem KR.sub {n m : Nat} {l l' : List (Nat × Obj)} {w U : World} (h : KR n l w U) (hm : ∀ p ∈ l', p ∈ l ∧ p.1 < w.heap.size + m) (hmn : m ≤ n) : KR m l' w U :=
  ⟨fun p hp => ⟨(hm p hp).2, (h.1 p (hm p hp).1).2⟩, by have := h.2.1; omega, h.2.2⟩
theorem KR.two {n : Nat} {l : List (Nat × Obj)} {w U : World} {x y u v : Value} {g : Nat} {t : TypeId} (h : KR n ((g, Obj.cells #[x, y] t (0, 0)) :: l) w U) (hl : ∀ p ∈ l, p.1 ≠ g) (hg : w.heap.size ≤ g) : KR n ((g, Obj.cells #[u, v] t (0, 0)) :: l) w ((U.setCell ⟨g, 0, none⟩ u).setCell ⟨g, 1, none⟩ v) := by
  refine ⟨fun p hp => ?_, by simpa using h.2.1, (h.2.2.setCell hg _).setCell hg _⟩
  rcases List.mem_cons.mp hp with rfl | hp
  · exact ⟨(h.1 _ (List.mem_cons_self ..)).1, row2 x y u v (h.row (List.mem_cons_self ..))⟩
  · refine ⟨(h.1 _ (List.mem_cons_of_mem _ hp)).1, ?_⟩
    rw [Below.heap_setCell _ _ _ _ (hl p hp), Below.heap_setCell _ _ _ _ (hl p hp)]
    exact (h.1 _ (List.mem_cons_of_mem _ hp)).2
theorem KR.push {n : Nat} {l : List (Nat × Obj)} {w W : World} {G : Nat} {o : Obj} (h : KR n l w W) (hg : W.heap[G]? = some o) (hG : w.heap.size + n ≤ G) : ∃ m, w.heap.size + m = G + 1 ∧ KR m ((G, o) :: l) w W := by
  refine ⟨G + 1 - w.heap.size, by omega, ⟨fun p hp => ?_, by have := row_lt hg; omega, h.2.2⟩⟩
  rcases List.mem_cons.mp hp with rfl | hp
  · exact ⟨by show G < _; omega, hg⟩
  · exact ⟨by have := (h.1 p hp).1; omega, (h.1 p hp).2⟩
theorem SP1 {w U : World} {a b : Int} {t : TypeId} {l : List (Nat × Obj)} {n : Nat} (h : KR n ((w.heap.size, Obj.cells #[.int .i64 a, .int .i64 b] t (0, 0)) :: l) w U) : U.cell? ⟨w.heap.size, 0, none⟩ = some (.int .i64 a) ∧ U.cell? ⟨w.heap.size, 1, none⟩ = some (.int .i64 b) ∧ KR n ((w.heap.size, Obj.cells #[.int .i64 a, .int .i64 b] t (0, 0)) :: l) w U :=
  have h0 := fun j => cell_of_row U _ j _ _ _ (h.row (g := w.heap.size) (List.mem_cons_self ..))
  ⟨h0 0, h0 1, h⟩
theorem it0 (a b : Int) (w : World) : (Instr.index 224 (.agg #[.int .i64 a, .int .i64 b]) (.int .i64 0)).run Try.prog w = .ok (.int .i64 a) w := by kernel_rfl
theorem it1 (a b : Int) (w : World) : (Instr.index 224 (.agg #[.int .i64 a, .int .i64 b]) (.int .i64 1)).run Try.prog w = .ok (.int .i64 b) w := by kernel_rfl
set_option maxHeartbeats 2000000 in
theorem pressed0_go (a b h h0 h1 d p0 q0 r0 p1 q1 r1 : Int) (HC : Hid (∀ w, Calls Try.prog 336 #[.agg #[.int .i64 a, .int .i64 b]] w fun e w' => e = .returned (.agg #[.int .i64 h0, .int .i64 h1]) ∧ Below w.heap.size w w')) (hd : wrap64 (36 - h) = d) (e0 : wrap64 (a * d) = p0) (e1 : wrap64 (h0 * h) = q0) (e2 : wrap64 (p0 + q0) = r0) (f0 : wrap64 (b * d) = p1) (f1 : wrap64 (h1 * h) = q1) (f2 : wrap64 (p1 + q1) = r1) (w : World) : Calls Try.prog 306 #[.agg #[.int .i64 a, .int .i64 b], .int .i64 0, .int .i64 h] w fun e w' => e = .returned (.agg #[.int .i64 r0, .int .i64 r1]) ∧ Below w.heap.size w w' := by
  have HB := Lib.hid hitby0
  have i0 := fun W => it0 a b W
  have i1 := fun W => it1 a b W
  go_enter Try.func306, Try.ntmps306
  go_wp2_with fail
  generalize hW : (World.alloc _ _ : World) = W0
  have q0' : W0.heap[(w.heap.size : Nat)]? = some (Obj.cells #[.int .i64 a, .int .i64 b] 224 (0, 0)) := by
    rw [← hW]
    repeat (first | (refine alloc_at ?_; first | (simp; done) | (simp; omega)) | refine drew_row ?_ | refine alloc_past ?_ | assumption)
  have q1' : W0.heap[(w.heap.size + 1 : Nat)]? = some (Obj.cells #[.int .i64 0, .int .i64 0] 224 (0, 0)) := by
    rw [← hW]
    repeat (first | (refine alloc_at ?_; first | (simp; done) | (simp; omega)) | refine drew_row ?_ | refine alloc_past ?_ | assumption)
  have hk : KR 2 [(w.heap.size, Obj.cells #[.int .i64 a, .int .i64 b] 224 (0, 0)), (w.heap.size + 1, Obj.cells #[.int .i64 0, .int .i64 0] 224 (0, 0))] w W0 := ⟨by simp [q0', q1'], by rw [← hW]; simp, by rw [← hW]; (repeat (first | exact Below.refl _ _ | assumption | refine Below.setCell ?_ (by first | (simp; done) | (simp; omega)) _ | refine Below.alloc ?_ (by first | (simp; done) | (simp; omega)) _ | refine Below.drew ?_))⟩
  clear hW q0' q1'
  have hz := KR.le hk
  set_option maxRecDepth 8000 in
  go_region_held3 (fun U => U.cell? ⟨w.heap.size, 0, none⟩ = some (.int .i64 a) ∧ U.cell? ⟨w.heap.size, 1, none⟩ = some (.int .i64 b) ∧ KR 2 [(w.heap.size, Obj.cells #[.int .i64 a, .int .i64 b] 224 (0, 0)), (w.heap.size + 1, Obj.cells #[.int .i64 0, .int .i64 0] 224 (0, 0))] w U) (with_reducible refine SP1 ?_; (repeat (first | with_reducible assumption | with_reducible refine KR.al ?_ | with_reducible refine KR.drew ?_ | with_reducible refine KR.set ?_ (by first | omega | (simp; omega))))) (first | (go_at_call 325; with_reducible refine (HB.out _).mono ?_; rintro e w' ⟨rfl, hb'⟩; have hk : KR 2 [(w.heap.size, Obj.cells #[.int .i64 a, .int .i64 b] 224 (0, 0)), (w.heap.size + 1, Obj.cells #[.int .i64 0, .int .i64 0] 224 (0, 0))] w w' := KR.far (by (repeat (first | with_reducible assumption | with_reducible refine KR.al ?_ | with_reducible refine KR.drew ?_ | with_reducible refine KR.set ?_ (by first | omega | (simp; omega))))) hb' rfl; have hz := KR.le hk; (first | have hn := rowk hn hb' rfl | have hn := rowk (drew_row (alloc_at rfl)) hb' rfl | have hn := rowk (alloc_at rfl) hb' rfl | skip); (try (have hnz := row_lt hn))) | (go_at_call 336; with_reducible refine (HC.out _).mono ?_; rintro e w' ⟨rfl, hb'⟩; have hk : KR 2 [(w.heap.size, Obj.cells #[.int .i64 a, .int .i64 b] 224 (0, 0)), (w.heap.size + 1, Obj.cells #[.int .i64 0, .int .i64 0] 224 (0, 0))] w w' := KR.far (by (repeat (first | with_reducible assumption | with_reducible refine KR.al ?_ | with_reducible refine KR.drew ?_ | with_reducible refine KR.set ?_ (by first | omega | (simp; omega))))) hb' rfl; have hz := KR.le hk; (first | have hn := rowk hn hb' rfl | have hn := rowk (drew_row (alloc_at rfl)) hb' rfl | have hn := rowk (alloc_at rfl) hb' rfl | skip); (try (have hnz := row_lt hn)); (first | (have hz2 := zero2 hn; obtain ⟨z0, z1, zf0, zf1⟩ := hz2) | skip)))
  all_goals
    first
    | (have hx : (w'.alloc (.cells #[.int .i64 h0, .int .i64 h1] 224)).heap[w'.heap.size]? = some (Obj.cells #[.int .i64 h0, .int .i64 h1] 224 (0, 0)) := alloc_at rfl
       have hk2 := hk.al (o := .cells #[.int .i64 h0, .int .i64 h1] 224)
       have hG : w.heap.size + 2 ≤ w'.heap.size := KR.le hk
       obtain ⟨X, hX⟩ : ∃ X, X = w'.alloc (.cells #[.int .i64 h0, .int .i64 h1] 224) := ⟨_, rfl⟩
       rw [← hX] at hx hk2 ⊢
       clear hX
       generalize w'.heap.size = G at hx hG ⊢)
    | (have hx := row2 _ _ (.int .i64 h0) (.int .i64 h1) hn
       obtain ⟨G, hGe⟩ := gOf hn
       have hG : w.heap.size + 2 ≤ G := by rw [hGe]; first | omega | (simp; omega)
       rw [← hGe] at hn hx ⊢
       have hk2 := hk.set (v := .int .i64 h0) (i := 0) hG |>.set (v := .int .i64 h1) (i := 1) hG
       clear hGe
       generalize hX : World.setCell _ _ _ = X at hx hk2 ⊢
       clear hX)
    have a_c := fun j => cell_of_row X _ j _ _ _ (hk2.row (g := w.heap.size) (List.mem_cons_self ..))
    have a_f := fun j => frozen_of_row X _ j _ _ (hk2.row (g := w.heap.size) (List.mem_cons_self ..))
    have y_c := fun j => cell_of_row X _ j _ _ _ (hk2.row (g := w.heap.size + 1) (List.mem_cons_of_mem _ (List.mem_cons_self ..)))
    have y_f := fun j => frozen_of_row X _ j _ _ (hk2.row (g := w.heap.size + 1) (List.mem_cons_of_mem _ (List.mem_cons_self ..)))
    have x_c := fun j => cell_of_row X _ j _ _ _ hx
    have hB := hk2.2.2
    have n1 : ¬ G = w.heap.size := by omega
    have n2 : ¬ w.heap.size = G := by omega
    have n3 : ¬ G = w.heap.size + 1 := by omega
    have n4 : ¬ w.heap.size + 1 = G := by omega
    clear hk2 hk hx HB HC
    go_wp2_with fail
    refine wp_loop_rounds 3 ?_
    iterate 2
      rw [rounds_succ]
      go_wp2_with fail
    rw [rounds_succ]
    go_wp2_with fail
    refine bodyPost_ret (v := .agg #[.int .i64 r0, .int .i64 r1]) (by simp [results, Try.results306, go_sem, y_c]) rfl ⟨rfl, ?_⟩
    exact (((hB.setCell (by simp) _).setCell (by simp) _).setCell (by simp) _).setCell (by simp) _
set_option maxHeartbeats 2000000 in
theorem pressed1_go (a b h h0 h1 d p0 q0 r0 p1 q1 r1 : Int) (HC : Hid (∀ w, Calls Try.prog 337 #[.agg #[.int .i64 a, .int .i64 b]] w fun e w' => e = .returned (.agg #[.int .i64 h0, .int .i64 h1]) ∧ Below w.heap.size w w')) (hd : wrap64 (36 - h) = d) (e0 : wrap64 (a * d) = p0) (e1 : wrap64 (h0 * h) = q0) (e2 : wrap64 (p0 + q0) = r0) (f0 : wrap64 (b * d) = p1) (f1 : wrap64 (h1 * h) = q1) (f2 : wrap64 (p1 + q1) = r1) (w : World) : Calls Try.prog 306 #[.agg #[.int .i64 a, .int .i64 b], .int .i64 1, .int .i64 h] w fun e w' => e = .returned (.agg #[.int .i64 r0, .int .i64 r1]) ∧ Below w.heap.size w w' := by
  have HB := Lib.hid hitby1
  have i0 := fun W => it0 a b W
  have i1 := fun W => it1 a b W
  go_enter Try.func306, Try.ntmps306
  go_wp2_with fail
  generalize hW : (World.alloc _ _ : World) = W0
  have q0' : W0.heap[(w.heap.size : Nat)]? = some (Obj.cells #[.int .i64 a, .int .i64 b] 224 (0, 0)) := by
    rw [← hW]
    repeat (first | (refine alloc_at ?_; first | (simp; done) | (simp; omega)) | refine drew_row ?_ | refine alloc_past ?_ | assumption)
  have q1' : W0.heap[(w.heap.size + 1 : Nat)]? = some (Obj.cells #[.int .i64 0, .int .i64 0] 224 (0, 0)) := by
    rw [← hW]
    repeat (first | (refine alloc_at ?_; first | (simp; done) | (simp; omega)) | refine drew_row ?_ | refine alloc_past ?_ | assumption)
  have hk : KR 2 [(w.heap.size, Obj.cells #[.int .i64 a, .int .i64 b] 224 (0, 0)), (w.heap.size + 1, Obj.cells #[.int .i64 0, .int .i64 0] 224 (0, 0))] w W0 := ⟨by simp [q0', q1'], by rw [← hW]; simp, by rw [← hW]; (repeat (first | exact Below.refl _ _ | assumption | refine Below.setCell ?_ (by first | (simp; done) | (simp; omega)) _ | refine Below.alloc ?_ (by first | (simp; done) | (simp; omega)) _ | refine Below.drew ?_))⟩
  clear hW q0' q1'
  have hz := KR.le hk
  set_option maxRecDepth 8000 in
  go_region_held3 (fun U => U.cell? ⟨w.heap.size, 0, none⟩ = some (.int .i64 a) ∧ U.cell? ⟨w.heap.size, 1, none⟩ = some (.int .i64 b) ∧ KR 2 [(w.heap.size, Obj.cells #[.int .i64 a, .int .i64 b] 224 (0, 0)), (w.heap.size + 1, Obj.cells #[.int .i64 0, .int .i64 0] 224 (0, 0))] w U) (with_reducible refine SP1 ?_; (repeat (first | with_reducible assumption | with_reducible refine KR.al ?_ | with_reducible refine KR.drew ?_ | with_reducible refine KR.set ?_ (by first | omega | (simp; omega))))) (first | (go_at_call 325; with_reducible refine (HB.out _).mono ?_; rintro e w' ⟨rfl, hb'⟩; have hk : KR 2 [(w.heap.size, Obj.cells #[.int .i64 a, .int .i64 b] 224 (0, 0)), (w.heap.size + 1, Obj.cells #[.int .i64 0, .int .i64 0] 224 (0, 0))] w w' := KR.far (by (repeat (first | with_reducible assumption | with_reducible refine KR.al ?_ | with_reducible refine KR.drew ?_ | with_reducible refine KR.set ?_ (by first | omega | (simp; omega))))) hb' rfl; have hz := KR.le hk; (first | have hn := rowk hn hb' rfl | have hn := rowk (drew_row (alloc_at rfl)) hb' rfl | have hn := rowk (alloc_at rfl) hb' rfl | skip); (try (have hnz := row_lt hn))) | (go_at_call 337; with_reducible refine (HC.out _).mono ?_; rintro e w' ⟨rfl, hb'⟩; have hk : KR 2 [(w.heap.size, Obj.cells #[.int .i64 a, .int .i64 b] 224 (0, 0)), (w.heap.size + 1, Obj.cells #[.int .i64 0, .int .i64 0] 224 (0, 0))] w w' := KR.far (by (repeat (first | with_reducible assumption | with_reducible refine KR.al ?_ | with_reducible refine KR.drew ?_ | with_reducible refine KR.set ?_ (by first | omega | (simp; omega))))) hb' rfl; have hz := KR.le hk; (first | have hn := rowk hn hb' rfl | have hn := rowk (drew_row (alloc_at rfl)) hb' rfl | have hn := rowk (alloc_at rfl) hb' rfl | skip); (try (have hnz := row_lt hn)); (first | (have hz2 := zero2 hn; obtain ⟨z0, z1, zf0, zf1⟩ := hz2) | skip)))
  all_goals
    first
    | (have hx : (w'.alloc (.cells #[.int .i64 h0, .int .i64 h1] 224)).heap[w'.heap.size]? = some (Obj.cells #[.int .i64 h0, .int .i64 h1] 224 (0, 0)) := alloc_at rfl
       have hk2 := hk.al (o := .cells #[.int .i64 h0, .int .i64 h1] 224)
       have hG : w.heap.size + 2 ≤ w'.heap.size := KR.le hk
       obtain ⟨X, hX⟩ : ∃ X, X = w'.alloc (.cells #[.int .i64 h0, .int .i64 h1] 224) := ⟨_, rfl⟩
       rw [← hX] at hx hk2 ⊢
       clear hX
       generalize w'.heap.size = G at hx hG ⊢)
    | (have hx := row2 _ _ (.int .i64 h0) (.int .i64 h1) hn
       obtain ⟨G, hGe⟩ := gOf hn
       have hG : w.heap.size + 2 ≤ G := by rw [hGe]; first | omega | (simp; omega)
       rw [← hGe] at hn hx ⊢
       have hk2 := hk.set (v := .int .i64 h0) (i := 0) hG |>.set (v := .int .i64 h1) (i := 1) hG
       clear hGe
       generalize hX : World.setCell _ _ _ = X at hx hk2 ⊢
       clear hX)
    have a_c := fun j => cell_of_row X _ j _ _ _ (hk2.row (g := w.heap.size) (List.mem_cons_self ..))
    have a_f := fun j => frozen_of_row X _ j _ _ (hk2.row (g := w.heap.size) (List.mem_cons_self ..))
    have y_c := fun j => cell_of_row X _ j _ _ _ (hk2.row (g := w.heap.size + 1) (List.mem_cons_of_mem _ (List.mem_cons_self ..)))
    have y_f := fun j => frozen_of_row X _ j _ _ (hk2.row (g := w.heap.size + 1) (List.mem_cons_of_mem _ (List.mem_cons_self ..)))
    have x_c := fun j => cell_of_row X _ j _ _ _ hx
    have hB := hk2.2.2
    have n1 : ¬ G = w.heap.size := by omega
    have n2 : ¬ w.heap.size = G := by omega
    have n3 : ¬ G = w.heap.size + 1 := by omega
    have n4 : ¬ w.heap.size + 1 = G := by omega
    clear hk2 hk hx HB HC
    go_wp2_with fail
    refine wp_loop_rounds 3 ?_
    iterate 2
      rw [rounds_succ]
      go_wp2_with fail
    rw [rounds_succ]
    go_wp2_with fail
    refine bodyPost_ret (v := .agg #[.int .i64 r0, .int .i64 r1]) (by simp [results, Try.results306, go_sem, y_c]) rfl ⟨rfl, ?_⟩
    exact (((hB.setCell (by simp) _).setCell (by simp) _).setCell (by simp) _).setCell (by simp) _
set_option maxHeartbeats 2000000 in
theorem pressed2_go (a b h h0 h1 d p0 q0 r0 p1 q1 r1 : Int) (HC : Hid (∀ w, Calls Try.prog 338 #[.agg #[.int .i64 a, .int .i64 b]] w fun e w' => e = .returned (.agg #[.int .i64 h0, .int .i64 h1]) ∧ Below w.heap.size w w')) (hd : wrap64 (36 - h) = d) (e0 : wrap64 (a * d) = p0) (e1 : wrap64 (h0 * h) = q0) (e2 : wrap64 (p0 + q0) = r0) (f0 : wrap64 (b * d) = p1) (f1 : wrap64 (h1 * h) = q1) (f2 : wrap64 (p1 + q1) = r1) (w : World) : Calls Try.prog 306 #[.agg #[.int .i64 a, .int .i64 b], .int .i64 2, .int .i64 h] w fun e w' => e = .returned (.agg #[.int .i64 r0, .int .i64 r1]) ∧ Below w.heap.size w w' := by
  have HB := Lib.hid hitby2
  have i0 := fun W => it0 a b W
  have i1 := fun W => it1 a b W
  go_enter Try.func306, Try.ntmps306
  go_wp2_with fail
  generalize hW : (World.alloc _ _ : World) = W0
  have q0' : W0.heap[(w.heap.size : Nat)]? = some (Obj.cells #[.int .i64 a, .int .i64 b] 224 (0, 0)) := by
    rw [← hW]
    repeat (first | (refine alloc_at ?_; first | (simp; done) | (simp; omega)) | refine drew_row ?_ | refine alloc_past ?_ | assumption)
  have q1' : W0.heap[(w.heap.size + 1 : Nat)]? = some (Obj.cells #[.int .i64 0, .int .i64 0] 224 (0, 0)) := by
    rw [← hW]
    repeat (first | (refine alloc_at ?_; first | (simp; done) | (simp; omega)) | refine drew_row ?_ | refine alloc_past ?_ | assumption)
  have hk : KR 2 [(w.heap.size, Obj.cells #[.int .i64 a, .int .i64 b] 224 (0, 0)), (w.heap.size + 1, Obj.cells #[.int .i64 0, .int .i64 0] 224 (0, 0))] w W0 := ⟨by simp [q0', q1'], by rw [← hW]; simp, by rw [← hW]; (repeat (first | exact Below.refl _ _ | assumption | refine Below.setCell ?_ (by first | (simp; done) | (simp; omega)) _ | refine Below.alloc ?_ (by first | (simp; done) | (simp; omega)) _ | refine Below.drew ?_))⟩
  clear hW q0' q1'
  have hz := KR.le hk
  set_option maxRecDepth 8000 in
  go_region_held3 (fun U => U.cell? ⟨w.heap.size, 0, none⟩ = some (.int .i64 a) ∧ U.cell? ⟨w.heap.size, 1, none⟩ = some (.int .i64 b) ∧ KR 2 [(w.heap.size, Obj.cells #[.int .i64 a, .int .i64 b] 224 (0, 0)), (w.heap.size + 1, Obj.cells #[.int .i64 0, .int .i64 0] 224 (0, 0))] w U) (with_reducible refine SP1 ?_; (repeat (first | with_reducible assumption | with_reducible refine KR.al ?_ | with_reducible refine KR.drew ?_ | with_reducible refine KR.set ?_ (by first | omega | (simp; omega))))) (first | (go_at_call 325; with_reducible refine (HB.out _).mono ?_; rintro e w' ⟨rfl, hb'⟩; have hk : KR 2 [(w.heap.size, Obj.cells #[.int .i64 a, .int .i64 b] 224 (0, 0)), (w.heap.size + 1, Obj.cells #[.int .i64 0, .int .i64 0] 224 (0, 0))] w w' := KR.far (by (repeat (first | with_reducible assumption | with_reducible refine KR.al ?_ | with_reducible refine KR.drew ?_ | with_reducible refine KR.set ?_ (by first | omega | (simp; omega))))) hb' rfl; have hz := KR.le hk; (first | have hn := rowk hn hb' rfl | have hn := rowk (drew_row (alloc_at rfl)) hb' rfl | have hn := rowk (alloc_at rfl) hb' rfl | skip); (try (have hnz := row_lt hn))) | (go_at_call 338; with_reducible refine (HC.out _).mono ?_; rintro e w' ⟨rfl, hb'⟩; have hk : KR 2 [(w.heap.size, Obj.cells #[.int .i64 a, .int .i64 b] 224 (0, 0)), (w.heap.size + 1, Obj.cells #[.int .i64 0, .int .i64 0] 224 (0, 0))] w w' := KR.far (by (repeat (first | with_reducible assumption | with_reducible refine KR.al ?_ | with_reducible refine KR.drew ?_ | with_reducible refine KR.set ?_ (by first | omega | (simp; omega))))) hb' rfl; have hz := KR.le hk; (first | have hn := rowk hn hb' rfl | have hn := rowk (drew_row (alloc_at rfl)) hb' rfl | have hn := rowk (alloc_at rfl) hb' rfl | skip); (try (have hnz := row_lt hn)); (first | (have hz2 := zero2 hn; obtain ⟨z0, z1, zf0, zf1⟩ := hz2) | skip)))
  all_goals
    first
    | (have hx : (w'.alloc (.cells #[.int .i64 h0, .int .i64 h1] 224)).heap[w'.heap.size]? = some (Obj.cells #[.int .i64 h0, .int .i64 h1] 224 (0, 0)) := alloc_at rfl
       have hk2 := hk.al (o := .cells #[.int .i64 h0, .int .i64 h1] 224)
       have hG : w.heap.size + 2 ≤ w'.heap.size := KR.le hk
       obtain ⟨X, hX⟩ : ∃ X, X = w'.alloc (.cells #[.int .i64 h0, .int .i64 h1] 224) := ⟨_, rfl⟩
       rw [← hX] at hx hk2 ⊢
       clear hX
       generalize w'.heap.size = G at hx hG ⊢)
    | (have hx := row2 _ _ (.int .i64 h0) (.int .i64 h1) hn
       obtain ⟨G, hGe⟩ := gOf hn
       have hG : w.heap.size + 2 ≤ G := by rw [hGe]; first | omega | (simp; omega)
       rw [← hGe] at hn hx ⊢
       have hk2 := hk.set (v := .int .i64 h0) (i := 0) hG |>.set (v := .int .i64 h1) (i := 1) hG
       clear hGe
       generalize hX : World.setCell _ _ _ = X at hx hk2 ⊢
       clear hX)
    have a_c := fun j => cell_of_row X _ j _ _ _ (hk2.row (g := w.heap.size) (List.mem_cons_self ..))
    have a_f := fun j => frozen_of_row X _ j _ _ (hk2.row (g := w.heap.size) (List.mem_cons_self ..))
    have y_c := fun j => cell_of_row X _ j _ _ _ (hk2.row (g := w.heap.size + 1) (List.mem_cons_of_mem _ (List.mem_cons_self ..)))
    have y_f := fun j => frozen_of_row X _ j _ _ (hk2.row (g := w.heap.size + 1) (List.mem_cons_of_mem _ (List.mem_cons_self ..)))
    have x_c := fun j => cell_of_row X _ j _ _ _ hx
    have hB := hk2.2.2
    have n1 : ¬ G = w.heap.size := by omega
    have n2 : ¬ w.heap.size = G := by omega
    have n3 : ¬ G = w.heap.size + 1 := by omega
    have n4 : ¬ w.heap.size + 1 = G := by omega
    clear hk2 hk hx HB HC
    go_wp2_with fail
    refine wp_loop_rounds 3 ?_
    iterate 2
      rw [rounds_succ]
      go_wp2_with fail
    rw [rounds_succ]
    go_wp2_with fail
    refine bodyPost_ret (v := .agg #[.int .i64 r0, .int .i64 r1]) (by simp [results, Try.results306, go_sem, y_c]) rfl ⟨rfl, ?_⟩
    exact (((hB.setCell (by simp) _).setCell (by simp) _).setCell (by simp) _).setCell (by simp) _
end Go.Proofs.Ytkjaaaefcmpokaa
