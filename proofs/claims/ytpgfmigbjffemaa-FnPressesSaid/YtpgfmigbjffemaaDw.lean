/- CONTRACTS: the drawn arguments of the presses. -/
import Derived.Test.YtpgfmigbjffemaaDv
import Derived.Test.YtpgfmigbjffemaaRg
import Derived.Deep.RegionHeld3
import Derived.WalkKit
import Derived.ProofKit
import Derived.OpenShut
import Derived.Lib.Hide
import Derived.WalkSpells
import Derived.Below
import Derived.BigQuiet
import Derived.LoopN
namespace Go.Proofs.Ytpgfmigbjffemaa
open Go.ChangeShapes Go.WideShapes Go.ChangeAt Go.RowKit
set_option linter.unusedVariables false
theorem keepg8 {g : Nat} {g0 o0 g1 o1 g2 o2 g3 o3 g4 o4 g5 o5 g6 o6 g7 o7 : Nat} {v0 v1 v2 v3 v4 v5 v6 v7 : Value} {w W W' : World} (h : W.cell? ⟨g0, o0, none⟩ = some v0 ∧ W.cell? ⟨g1, o1, none⟩ = some v1 ∧ W.cell? ⟨g2, o2, none⟩ = some v2 ∧ W.cell? ⟨g3, o3, none⟩ = some v3 ∧ W.cell? ⟨g4, o4, none⟩ = some v4 ∧ W.cell? ⟨g5, o5, none⟩ = some v5 ∧ W.cell? ⟨g6, o6, none⟩ = some v6 ∧ W.cell? ⟨g7, o7, none⟩ = some v7 ∧ Below w.heap.size w W) (hg : W.grownBy W' (some g)) (hne : g0 ≠ g ∧ g1 ≠ g ∧ g2 ≠ g ∧ g3 ≠ g ∧ g4 ≠ g ∧ g5 ≠ g ∧ g6 ≠ g ∧ g7 ≠ g) (hB : w.heap.size ≤ g) : W'.cell? ⟨g0, o0, none⟩ = some v0 ∧ W'.cell? ⟨g1, o1, none⟩ = some v1 ∧ W'.cell? ⟨g2, o2, none⟩ = some v2 ∧ W'.cell? ⟨g3, o3, none⟩ = some v3 ∧ W'.cell? ⟨g4, o4, none⟩ = some v4 ∧ W'.cell? ⟨g5, o5, none⟩ = some v5 ∧ W'.cell? ⟨g6, o6, none⟩ = some v6 ∧ W'.cell? ⟨g7, o7, none⟩ = some v7 ∧ Below w.heap.size w W' := by
  obtain ⟨h0, h1, h2, h3, h4, h5, h6, h7, h⟩ := h
  obtain ⟨l0, l1, l2, l3, l4, l5, l6, l7⟩ := hne
  exact ⟨(World.cell?_of_block (w := W) (hg.block g0 (blk_lt h0) (fun e => by cases e; exact l0 rfl))).trans h0, (World.cell?_of_block (w := W) (hg.block g1 (blk_lt h1) (fun e => by cases e; exact l1 rfl))).trans h1, (World.cell?_of_block (w := W) (hg.block g2 (blk_lt h2) (fun e => by cases e; exact l2 rfl))).trans h2, (World.cell?_of_block (w := W) (hg.block g3 (blk_lt h3) (fun e => by cases e; exact l3 rfl))).trans h3, (World.cell?_of_block (w := W) (hg.block g4 (blk_lt h4) (fun e => by cases e; exact l4 rfl))).trans h4, (World.cell?_of_block (w := W) (hg.block g5 (blk_lt h5) (fun e => by cases e; exact l5 rfl))).trans h5, (World.cell?_of_block (w := W) (hg.block g6 (blk_lt h6) (fun e => by cases e; exact l6 rfl))).trans h6, (World.cell?_of_block (w := W) (hg.block g7 (blk_lt h7) (fun e => by cases e; exact l7 rfl))).trans h7, below_to h hg hB⟩
theorem cell_set6 {W : World} {g k : Nat} {i : Nat} {u0 u1 u2 u3 u4 u5 : Value} (h : k ≠ g) : ((((((W.setCell ⟨g, 0, none⟩ u0).setCell ⟨g, 1, none⟩ u1).setCell ⟨g, 2, none⟩ u2).setCell ⟨g, 3, none⟩ u3).setCell ⟨g, 4, none⟩ u4).setCell ⟨g, 5, none⟩ u5).cell? ⟨k, i, none⟩ = W.cell? ⟨k, i, none⟩ := by
  apply World.cell?_of_block
  show ((((((W.setCell ⟨g, 0, none⟩ u0).setCell ⟨g, 1, none⟩ u1).setCell ⟨g, 2, none⟩ u2).setCell ⟨g, 3, none⟩ u3).setCell ⟨g, 4, none⟩ u4).setCell ⟨g, 5, none⟩ u5).heap[k]? = W.heap[k]?
  rw [Below.heap_setCell _ _ _ _ h, Below.heap_setCell _ _ _ _ h, Below.heap_setCell _ _ _ _ h, Below.heap_setCell _ _ _ _ h, Below.heap_setCell _ _ _ _ h, Below.heap_setCell _ _ _ _ h]
theorem cell_set2 {W : World} {g k : Nat} {i : Nat} {u0 u1 : Value} (h : k ≠ g) : ((W.setCell ⟨g, 0, none⟩ u0).setCell ⟨g, 1, none⟩ u1).cell? ⟨k, i, none⟩ = W.cell? ⟨k, i, none⟩ := by
  apply World.cell?_of_block
  show ((W.setCell ⟨g, 0, none⟩ u0).setCell ⟨g, 1, none⟩ u1).heap[k]? = W.heap[k]?
  rw [Below.heap_setCell _ _ _ _ h, Below.heap_setCell _ _ _ _ h]
theorem storen8 {g : Nat} {g0 o0 g1 o1 g2 o2 g3 o3 g4 o4 g5 o5 g6 o6 g7 o7 : Nat} {v0 v1 v2 v3 v4 v5 v6 v7 : Value} {u0 u1 u2 u3 u4 u5 : Value} {w W : World} (h : W.cell? ⟨g0, o0, none⟩ = some v0 ∧ W.cell? ⟨g1, o1, none⟩ = some v1 ∧ W.cell? ⟨g2, o2, none⟩ = some v2 ∧ W.cell? ⟨g3, o3, none⟩ = some v3 ∧ W.cell? ⟨g4, o4, none⟩ = some v4 ∧ W.cell? ⟨g5, o5, none⟩ = some v5 ∧ W.cell? ⟨g6, o6, none⟩ = some v6 ∧ W.cell? ⟨g7, o7, none⟩ = some v7 ∧ Below w.heap.size w W) (hne : g0 ≠ g ∧ g1 ≠ g ∧ g2 ≠ g ∧ g3 ≠ g ∧ g4 ≠ g ∧ g5 ≠ g ∧ g6 ≠ g ∧ g7 ≠ g) (hB : w.heap.size ≤ g) : ((((((W.setCell ⟨g, 0, none⟩ u0).setCell ⟨g, 1, none⟩ u1).setCell ⟨g, 2, none⟩ u2).setCell ⟨g, 3, none⟩ u3).setCell ⟨g, 4, none⟩ u4).setCell ⟨g, 5, none⟩ u5).cell? ⟨g0, o0, none⟩ = some v0 ∧ ((((((W.setCell ⟨g, 0, none⟩ u0).setCell ⟨g, 1, none⟩ u1).setCell ⟨g, 2, none⟩ u2).setCell ⟨g, 3, none⟩ u3).setCell ⟨g, 4, none⟩ u4).setCell ⟨g, 5, none⟩ u5).cell? ⟨g1, o1, none⟩ = some v1 ∧ ((((((W.setCell ⟨g, 0, none⟩ u0).setCell ⟨g, 1, none⟩ u1).setCell ⟨g, 2, none⟩ u2).setCell ⟨g, 3, none⟩ u3).setCell ⟨g, 4, none⟩ u4).setCell ⟨g, 5, none⟩ u5).cell? ⟨g2, o2, none⟩ = some v2 ∧ ((((((W.setCell ⟨g, 0, none⟩ u0).setCell ⟨g, 1, none⟩ u1).setCell ⟨g, 2, none⟩ u2).setCell ⟨g, 3, none⟩ u3).setCell ⟨g, 4, none⟩ u4).setCell ⟨g, 5, none⟩ u5).cell? ⟨g3, o3, none⟩ = some v3 ∧ ((((((W.setCell ⟨g, 0, none⟩ u0).setCell ⟨g, 1, none⟩ u1).setCell ⟨g, 2, none⟩ u2).setCell ⟨g, 3, none⟩ u3).setCell ⟨g, 4, none⟩ u4).setCell ⟨g, 5, none⟩ u5).cell? ⟨g4, o4, none⟩ = some v4 ∧ ((((((W.setCell ⟨g, 0, none⟩ u0).setCell ⟨g, 1, none⟩ u1).setCell ⟨g, 2, none⟩ u2).setCell ⟨g, 3, none⟩ u3).setCell ⟨g, 4, none⟩ u4).setCell ⟨g, 5, none⟩ u5).cell? ⟨g5, o5, none⟩ = some v5 ∧ ((((((W.setCell ⟨g, 0, none⟩ u0).setCell ⟨g, 1, none⟩ u1).setCell ⟨g, 2, none⟩ u2).setCell ⟨g, 3, none⟩ u3).setCell ⟨g, 4, none⟩ u4).setCell ⟨g, 5, none⟩ u5).cell? ⟨g6, o6, none⟩ = some v6 ∧ ((((((W.setCell ⟨g, 0, none⟩ u0).setCell ⟨g, 1, none⟩ u1).setCell ⟨g, 2, none⟩ u2).setCell ⟨g, 3, none⟩ u3).setCell ⟨g, 4, none⟩ u4).setCell ⟨g, 5, none⟩ u5).cell? ⟨g7, o7, none⟩ = some v7 ∧ Below w.heap.size w ((((((W.setCell ⟨g, 0, none⟩ u0).setCell ⟨g, 1, none⟩ u1).setCell ⟨g, 2, none⟩ u2).setCell ⟨g, 3, none⟩ u3).setCell ⟨g, 4, none⟩ u4).setCell ⟨g, 5, none⟩ u5) := by
  obtain ⟨h0, h1, h2, h3, h4, h5, h6, h7, h⟩ := h
  obtain ⟨l0, l1, l2, l3, l4, l5, l6, l7⟩ := hne
  exact ⟨(cell_set6 l0).trans h0, (cell_set6 l1).trans h1, (cell_set6 l2).trans h2, (cell_set6 l3).trans h3, (cell_set6 l4).trans h4, (cell_set6 l5).trans h5, (cell_set6 l6).trans h6, (cell_set6 l7).trans h7, below6 h hB⟩
theorem storem8 {g : Nat} {g0 o0 g1 o1 g2 o2 g3 o3 g4 o4 g5 o5 g6 o6 g7 o7 : Nat} {v0 v1 v2 v3 v4 v5 v6 v7 : Value} {u0 u1 : Value} {w W : World} (h : W.cell? ⟨g0, o0, none⟩ = some v0 ∧ W.cell? ⟨g1, o1, none⟩ = some v1 ∧ W.cell? ⟨g2, o2, none⟩ = some v2 ∧ W.cell? ⟨g3, o3, none⟩ = some v3 ∧ W.cell? ⟨g4, o4, none⟩ = some v4 ∧ W.cell? ⟨g5, o5, none⟩ = some v5 ∧ W.cell? ⟨g6, o6, none⟩ = some v6 ∧ W.cell? ⟨g7, o7, none⟩ = some v7 ∧ Below w.heap.size w W) (hne : g0 ≠ g ∧ g1 ≠ g ∧ g2 ≠ g ∧ g3 ≠ g ∧ g4 ≠ g ∧ g5 ≠ g ∧ g6 ≠ g ∧ g7 ≠ g) (hB : w.heap.size ≤ g) : ((W.setCell ⟨g, 0, none⟩ u0).setCell ⟨g, 1, none⟩ u1).cell? ⟨g0, o0, none⟩ = some v0 ∧ ((W.setCell ⟨g, 0, none⟩ u0).setCell ⟨g, 1, none⟩ u1).cell? ⟨g1, o1, none⟩ = some v1 ∧ ((W.setCell ⟨g, 0, none⟩ u0).setCell ⟨g, 1, none⟩ u1).cell? ⟨g2, o2, none⟩ = some v2 ∧ ((W.setCell ⟨g, 0, none⟩ u0).setCell ⟨g, 1, none⟩ u1).cell? ⟨g3, o3, none⟩ = some v3 ∧ ((W.setCell ⟨g, 0, none⟩ u0).setCell ⟨g, 1, none⟩ u1).cell? ⟨g4, o4, none⟩ = some v4 ∧ ((W.setCell ⟨g, 0, none⟩ u0).setCell ⟨g, 1, none⟩ u1).cell? ⟨g5, o5, none⟩ = some v5 ∧ ((W.setCell ⟨g, 0, none⟩ u0).setCell ⟨g, 1, none⟩ u1).cell? ⟨g6, o6, none⟩ = some v6 ∧ ((W.setCell ⟨g, 0, none⟩ u0).setCell ⟨g, 1, none⟩ u1).cell? ⟨g7, o7, none⟩ = some v7 ∧ Below w.heap.size w ((W.setCell ⟨g, 0, none⟩ u0).setCell ⟨g, 1, none⟩ u1) := by
  obtain ⟨h0, h1, h2, h3, h4, h5, h6, h7, h⟩ := h
  obtain ⟨l0, l1, l2, l3, l4, l5, l6, l7⟩ := hne
  exact ⟨(cell_set2 l0).trans h0, (cell_set2 l1).trans h1, (cell_set2 l2).trans h2, (cell_set2 l3).trans h3, (cell_set2 l4).trans h4, (cell_set2 l5).trans h5, (cell_set2 l6).trans h6, (cell_set2 l7).trans h7, (h.setCell hB _).setCell hB _⟩
theorem zero2 {g : Nat} {W : World} (h : W.heap[g]? = some (Obj.cells #[.int .i64 0, .int .i64 0] 44 (0, 0))) : W.cell? ⟨g, 0, none⟩ = some (.int .i64 0) ∧ W.cell? ⟨g, 1, none⟩ = some (.int .i64 0) ∧ W.frozen? ⟨g, 0, none⟩ = false ∧ W.frozen? ⟨g, 1, none⟩ = false :=
  ⟨cell_of_row _ _ 0 _ _ _ h, cell_of_row _ _ 1 _ _ _ h, frozen_of_row _ _ 0 _ _ h, frozen_of_row _ _ 1 _ _ h⟩
theorem Cu.drew {W : World} {B g : Nat} {A : Option Addr} {len cap : Nat} {zs : List Int} {m : Int} (h : Cu W B g A len cap zs m) : Cu W.drew B g A len cap zs m := by
  obtain ⟨h1, h2, h3, a, s, h4, h5, h6, h7⟩ := h
  exact ⟨h1, h2, h3, a, s, h4, h5, h6, h7⟩
def DpPost (w : World) (e : Ending) (w' : World) : Prop := ∃ (r0 r1 r2 r3 r4 r5 s0 s1 s2 s3 s4 s5 x y : Int), Wf6 r0 r1 r2 r3 r4 r5 ∧ Wf6 s0 s1 s2 s3 s4 s5 ∧ (Lit.int .i64 x).wf = true ∧ (Lit.int .i64 y).wf = true ∧ e = .returned (.tuple #[.agg #[.int .i64 r0, .int .i64 r1, .int .i64 r2, .int .i64 r3, .int .i64 r4, .int .i64 r5], .agg #[.int .i64 s0, .int .i64 s1, .int .i64 s2, .int .i64 s3, .int .i64 s4, .int .i64 s5], .agg #[.int .i64 x, .int .i64 y]]) ∧ Below w.heap.size w w'
set_option maxHeartbeats 2000000 in
theorem draw_press (B : Nat) (A : Option Addr) (len cap : Nat) (zs : List Int) (w : World) (h : CodeIn w B A len zs) (hB : B ≤ w.heap.size) (hl : len ≤ 65536) :
    Calls Try.prog 39 #[.slice A len cap] w (DpPost w) := by
  have H := Lib.hid h
  clear h
  go_enter Try.func39, Try.ntmps39
  go_wp2_with fail
  generalize hW : (World.alloc _ _ : World) = W0
  have HB := Lib.hid (show Below w.heap.size w W0 by rw [← hW]; (repeat (first | exact Below.refl _ _ | assumption | refine Below.setCell ?_ (by first | (simp; done) | (simp; omega)) _ | refine Below.alloc ?_ (by first | (simp; done) | (simp; omega)) _ | refine Below.drew ?_)))
  have P0 := Lib.hid (show W0.heap[w.heap.size]? = some (.cells #[.int .i64 0, .int .i64 0, .int .i64 0, .int .i64 0, .int .i64 0, .int .i64 0] 28 (0, 0)) ∧ W0.heap[w.heap.size + 1]? = some (.cells #[.int .i64 0, .int .i64 0, .int .i64 0, .int .i64 0, .int .i64 0, .int .i64 0] 28 (0, 0)) ∧ W0.heap[w.heap.size + 1 + 1]? = some (.cells #[.int .i64 0, .int .i64 0] 44 (0, 0)) by
    rw [← hW]
    exact ⟨alloc_past (alloc_past (alloc_past (alloc_at rfl))), alloc_past (alloc_past (alloc_at (by simp))), alloc_past (alloc_at (by simp))⟩)
  have H0 := Lib.hid (show CuTo B (w.heap.size + 1 + 1 + 1) A len cap zs 0 W0 W0 by
    refine ⟨?_, g_refl _ _⟩
    rw [← hW]
    have e := cu_new (W := ((w.alloc (.cells #[.int .i64 0, .int .i64 0, .int .i64 0, .int .i64 0, .int .i64 0, .int .i64 0] 28)).alloc (.cells #[.int .i64 0, .int .i64 0, .int .i64 0, .int .i64 0, .int .i64 0, .int .i64 0] 28)).alloc (.cells #[.int .i64 0, .int .i64 0] 44)) (cap := cap) (H.out.below ((((Below.refl _ _).alloc (Nat.le_refl _) _).alloc (by simp) _).alloc (by simp; omega) _) hB) (by simp; omega) hl
    simpa using e)
  clear hW H
  generalize hg : w.heap.size + 1 + 1 + 1 = g at H0 ⊢
  refine (cell_any B g A len cap zs 0 W0 H0.out.1 (by omega)).mono ?_
  rintro e W1 ⟨x, y, hx, hy, rfl, hc⟩
  have H1 := Lib.hid (H0.out.step hc)
  have P1 := Lib.hid (And.intro (rowg P0.out.1 hc.2 (by omega)) (And.intro (rowg P0.out.2.1 hc.2 (by omega)) (rowg P0.out.2.2 hc.2 (by omega))))
  have HX := Lib.hid hx
  have HY := Lib.hid hy
  clear hc H0 P0 hx hy
  go_wp2_with fail
  refine (stamp_dr B g A len cap zs (0 + 6) W1 H1.out.1 (by omega)).mono ?_
  rintro e W2 ⟨s0, s1, s2, s3, s4, s5, hs, rfl, hc⟩
  have H2 := Lib.hid (H1.out.step hc)
  have P2 := Lib.hid (And.intro (rowg P1.out.1 hc.2 (by omega)) (And.intro (rowg P1.out.2.1 hc.2 (by omega)) (rowg P1.out.2.2 hc.2 (by omega))))
  have HS := Lib.hid hs
  have hgz : g < W2.heap.size := H2.out.1.glt
  clear hc H1 P1 hs
  go_wp2_with fail
  generalize hW : (World.alloc _ _ : World) = W3
  have H3 := Lib.hid (show CuTo B g A len cap zs (0 + 6 + 100) W0 W3 by rw [← hW]; exact (H2.out.alloc _).alloc _)
  have P3 := Lib.hid (show W3.heap[w.heap.size]? = some (.cells #[.int .i64 0, .int .i64 0, .int .i64 0, .int .i64 0, .int .i64 0, .int .i64 0] 28 (0, 0)) ∧ W3.heap[w.heap.size + 1]? = some (.cells #[.int .i64 0, .int .i64 0, .int .i64 0, .int .i64 0, .int .i64 0, .int .i64 0] 28 (0, 0)) ∧ W3.heap[w.heap.size + 1 + 1]? = some (.cells #[.int .i64 0, .int .i64 0] 44 (0, 0)) by
    rw [← hW]
    exact ⟨alloc_past (alloc_past P2.out.1), alloc_past (alloc_past P2.out.2.1), alloc_past (alloc_past P2.out.2.2)⟩)
  have k0 : W3.cell? ⟨W2.heap.size, 0, none⟩ = some (.int .i64 x) ∧ W3.cell? ⟨W2.heap.size, 1, none⟩ = some (.int .i64 y) ∧ W3.cell? ⟨W2.heap.size + 1, 0, none⟩ = some (.int .i64 s0) ∧ W3.cell? ⟨W2.heap.size + 1, 1, none⟩ = some (.int .i64 s1) ∧ W3.cell? ⟨W2.heap.size + 1, 2, none⟩ = some (.int .i64 s2) ∧ W3.cell? ⟨W2.heap.size + 1, 3, none⟩ = some (.int .i64 s3) ∧ W3.cell? ⟨W2.heap.size + 1, 4, none⟩ = some (.int .i64 s4) ∧ W3.cell? ⟨W2.heap.size + 1, 5, none⟩ = some (.int .i64 s5) ∧ Below w.heap.size w W3 := by
    refine ⟨?_, ?_, ?_, ?_, ?_, ?_, ?_, ?_, below_to HB.out H3.out.2 (by omega)⟩
    all_goals
      subst hW
      go_simp
  clear hW H2 P2
  generalize W2.heap.size = c at k0 hgz ⊢
  have HCu := Lib.hid (Cu.drew H3.out.1)
  go_region_held3 (fun U => U.cell? ⟨c, 0, none⟩ = some (.int .i64 x) ∧ U.cell? ⟨c, 1, none⟩ = some (.int .i64 y) ∧ U.cell? ⟨c + 1, 0, none⟩ = some (.int .i64 s0) ∧ U.cell? ⟨c + 1, 1, none⟩ = some (.int .i64 s1) ∧ U.cell? ⟨c + 1, 2, none⟩ = some (.int .i64 s2) ∧ U.cell? ⟨c + 1, 3, none⟩ = some (.int .i64 s3) ∧ U.cell? ⟨c + 1, 4, none⟩ = some (.int .i64 s4) ∧ U.cell? ⟨c + 1, 5, none⟩ = some (.int .i64 s5) ∧ Below w.heap.size w U) (first | with_reducible exact drewc8 k0 | with_reducible assumption | (with_reducible refine storen8 ?_ (by omega) (by omega); with_reducible assumption) | (with_reducible refine storem8 ?_ (by omega) (by omega); with_reducible assumption)) (first | (go_at_call 119; refine (sheet_dr B g A len cap zs (0 + 6 + 100) _ HCu.out (by omega)).mono ?_; rintro e w' ⟨r0, r1, r2, r3, r4, r5, hw, rfl, hc⟩; have hk := keepg8 (by with_reducible assumption) hc.2 (by omega) (by omega); have HW := Lib.hid hw; have p1 := zero6 (rowg (W := W3.drew) P3.out.1 hc.2 (by omega)); have p2 := zero6 (rowg (W := W3.drew) P3.out.2.1 hc.2 (by omega)); have p3 := zero2 (rowg (W := W3.drew) P3.out.2.2 hc.2 (by omega)); clear hc hw; obtain ⟨z0, z1, z2, z3, z4, z5, f0, f1, f2, f3, f4, f5⟩ := p1; obtain ⟨y0, y1, y2, y3, y4, y5, e0, e1, e2, e3, e4, e5⟩ := p2; obtain ⟨x0, x1, d0, d1⟩ := p3))
  rename_i hSe
  have hBe := hSe.2.2.2.2.2.2.2.2
  clear hSe hk k0
  go_wp2_with fail
  refine bodyPost_ret (v := .tuple #[.agg #[.int .i64 r0, .int .i64 r1, .int .i64 r2, .int .i64 r3, .int .i64 r4, .int .i64 r5], .agg #[.int .i64 s0, .int .i64 s1, .int .i64 s2, .int .i64 s3, .int .i64 s4, .int .i64 s5], .agg #[.int .i64 x, .int .i64 y]]) (by simp [results, Try.results39, go_sem, z0, z1, z2, z3, z4, z5, y0, y1, y2, y3, y4, y5, x0, x1]) rfl ⟨r0, r1, r2, r3, r4, r5, s0, s1, s2, s3, s4, s5, x, y, HW.out, HS.out, HX.out, HY.out, rfl, ?_⟩
  exact hBe
end Go.Proofs.Ytpgfmigbjffemaa
