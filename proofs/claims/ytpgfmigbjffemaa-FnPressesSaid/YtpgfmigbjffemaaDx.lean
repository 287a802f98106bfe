/- CONTRACTS: the drawn arguments of IsBlack and FlipCell. -/
import Derived.Test.YtpgfmigbjffemaaDw
import Derived.Test.YtpgfmigbjffemaaRg
import Derived.Deep.RegionHeld3
import Derived.WalkKit
import Derived.ProofKit
import Derived.OpenShut
import Derived.Lib.Hide
import Derived.WalkSpells
import Derived.Below
import Derived.BigQuiet
import Derived.LoopN
namespace Go.Proofs.Ytpgfmigbjffemaa
open Go.ChangeShapes Go.WideShapes Go.ChangeAt Go.RowKit
set_option linter.unusedVariables false
theorem keepg2 {g : Nat} {g0 o0 g1 o1 : Nat} {v0 v1 : Value} {w W W' : World} (h : W.cell? ⟨g0, o0, none⟩ = some v0 ∧ W.cell? ⟨g1, o1, none⟩ = some v1 ∧ Below w.heap.size w W) (hg : W.grownBy W' (some g)) (hne : g0 ≠ g ∧ g1 ≠ g) (hB : w.heap.size ≤ g) : W'.cell? ⟨g0, o0, none⟩ = some v0 ∧ W'.cell? ⟨g1, o1, none⟩ = some v1 ∧ Below w.heap.size w W' := by
  obtain ⟨h0, h1, h⟩ := h
  obtain ⟨l0, l1⟩ := hne
  exact ⟨(World.cell?_of_block (w := W) (hg.block g0 (blk_lt h0) (fun e => by cases e; exact l0 rfl))).trans h0, (World.cell?_of_block (w := W) (hg.block g1 (blk_lt h1) (fun e => by cases e; exact l1 rfl))).trans h1, below_to h hg hB⟩
theorem storen2 {g : Nat} {g0 o0 g1 o1 : Nat} {v0 v1 : Value} {u0 u1 u2 u3 u4 u5 : Value} {w W : World} (h : W.cell? ⟨g0, o0, none⟩ = some v0 ∧ W.cell? ⟨g1, o1, none⟩ = some v1 ∧ Below w.heap.size w W) (hne : g0 ≠ g ∧ g1 ≠ g) (hB : w.heap.size ≤ g) : ((((((W.setCell ⟨g, 0, none⟩ u0).setCell ⟨g, 1, none⟩ u1).setCell ⟨g, 2, none⟩ u2).setCell ⟨g, 3, none⟩ u3).setCell ⟨g, 4, none⟩ u4).setCell ⟨g, 5, none⟩ u5).cell? ⟨g0, o0, none⟩ = some v0 ∧ ((((((W.setCell ⟨g, 0, none⟩ u0).setCell ⟨g, 1, none⟩ u1).setCell ⟨g, 2, none⟩ u2).setCell ⟨g, 3, none⟩ u3).setCell ⟨g, 4, none⟩ u4).setCell ⟨g, 5, none⟩ u5).cell? ⟨g1, o1, none⟩ = some v1 ∧ Below w.heap.size w ((((((W.setCell ⟨g, 0, none⟩ u0).setCell ⟨g, 1, none⟩ u1).setCell ⟨g, 2, none⟩ u2).setCell ⟨g, 3, none⟩ u3).setCell ⟨g, 4, none⟩ u4).setCell ⟨g, 5, none⟩ u5) := by
  obtain ⟨h0, h1, h⟩ := h
  obtain ⟨l0, l1⟩ := hne
  exact ⟨(cell_set6 l0).trans h0, (cell_set6 l1).trans h1, below6 h hB⟩
theorem storem2 {g : Nat} {g0 o0 g1 o1 : Nat} {v0 v1 : Value} {u0 u1 : Value} {w W : World} (h : W.cell? ⟨g0, o0, none⟩ = some v0 ∧ W.cell? ⟨g1, o1, none⟩ = some v1 ∧ Below w.heap.size w W) (hne : g0 ≠ g ∧ g1 ≠ g) (hB : w.heap.size ≤ g) : ((W.setCell ⟨g, 0, none⟩ u0).setCell ⟨g, 1, none⟩ u1).cell? ⟨g0, o0, none⟩ = some v0 ∧ ((W.setCell ⟨g, 0, none⟩ u0).setCell ⟨g, 1, none⟩ u1).cell? ⟨g1, o1, none⟩ = some v1 ∧ Below w.heap.size w ((W.setCell ⟨g, 0, none⟩ u0).setCell ⟨g, 1, none⟩ u1) := by
  obtain ⟨h0, h1, h⟩ := h
  obtain ⟨l0, l1⟩ := hne
  exact ⟨(cell_set2 l0).trans h0, (cell_set2 l1).trans h1, (h.setCell hB _).setCell hB _⟩
def DbPost (w : World) (e : Ending) (w' : World) : Prop := ∃ (r0 r1 r2 r3 r4 r5 x y : Int), Wf6 r0 r1 r2 r3 r4 r5 ∧ (Lit.int .i64 x).wf = true ∧ (Lit.int .i64 y).wf = true ∧ e = .returned (.tuple #[.agg #[.int .i64 r0, .int .i64 r1, .int .i64 r2, .int .i64 r3, .int .i64 r4, .int .i64 r5], .agg #[.int .i64 x, .int .i64 y]]) ∧ Below w.heap.size w w'
set_option maxHeartbeats 2000000 in
theorem draw_black (B : Nat) (A : Option Addr) (len cap : Nat) (zs : List Int) (w : World) (h : CodeIn w B A len zs) (hB : B ≤ w.heap.size) (hl : len ≤ 65536) :
    Calls Try.prog 134 #[.slice A len cap] w (DbPost w) := by
  have H := Lib.hid h
  clear h
  go_enter Try.func134, Try.ntmps134
  go_wp2_with fail
  generalize hW : (World.alloc _ _ : World) = W0
  have HB := Lib.hid (show Below w.heap.size w W0 by rw [← hW]; (repeat (first | exact Below.refl _ _ | assumption | refine Below.setCell ?_ (by first | (simp; done) | (simp; omega)) _ | refine Below.alloc ?_ (by first | (simp; done) | (simp; omega)) _ | refine Below.drew ?_)))
  have P0 := Lib.hid (show W0.heap[w.heap.size]? = some (.cells #[.int .i64 0, .int .i64 0, .int .i64 0, .int .i64 0, .int .i64 0, .int .i64 0] 28 (0, 0)) ∧ W0.heap[w.heap.size + 1]? = some (.cells #[.int .i64 0, .int .i64 0] 44 (0, 0)) by
    rw [← hW]
    exact ⟨alloc_past (alloc_past (alloc_at rfl)), alloc_past (alloc_at (by simp))⟩)
  have H0 := Lib.hid (show CuTo B (w.heap.size + 1 + 1) A len cap zs 0 W0 W0 by
    refine ⟨?_, g_refl _ _⟩
    rw [← hW]
    have e := cu_new (W := (w.alloc (.cells #[.int .i64 0, .int .i64 0, .int .i64 0, .int .i64 0, .int .i64 0, .int .i64 0] 28)).alloc (.cells #[.int .i64 0, .int .i64 0] 44)) (cap := cap) (H.out.below (((Below.refl _ _).alloc (Nat.le_refl _) _).alloc (by simp) _) hB) (by simp; omega) hl
    simpa using e)
  clear hW H
  generalize hg : w.heap.size + 1 + 1 = g at H0 ⊢
  refine (cell_any B g A len cap zs 0 W0 H0.out.1 (by omega)).mono ?_
  rintro e W2 ⟨x, y, hx, hy, rfl, hc⟩
  have H2 := Lib.hid (H0.out.step hc)
  have P2 := Lib.hid (And.intro (rowg P0.out.1 hc.2 (by omega)) (rowg P0.out.2 hc.2 (by omega)))
  have HX := Lib.hid hx
  have HY := Lib.hid hy
  have hgz : g < W2.heap.size := H2.out.1.glt
  clear hc H0 P0 hx hy
  go_wp2_with fail
  generalize hW : (World.alloc _ _ : World) = W3
  have H3 := Lib.hid (show CuTo B g A len cap zs (0 + 6) W0 W3 by rw [← hW]; exact H2.out.alloc _)
  have P3 := Lib.hid (show W3.heap[w.heap.size]? = some (.cells #[.int .i64 0, .int .i64 0, .int .i64 0, .int .i64 0, .int .i64 0, .int .i64 0] 28 (0, 0)) ∧ W3.heap[w.heap.size + 1]? = some (.cells #[.int .i64 0, .int .i64 0] 44 (0, 0)) by
    rw [← hW]
    exact ⟨alloc_past P2.out.1, alloc_past P2.out.2⟩)
  have k0 : W3.cell? ⟨W2.heap.size, 0, none⟩ = some (.int .i64 x) ∧ W3.cell? ⟨W2.heap.size, 1, none⟩ = some (.int .i64 y) ∧ Below w.heap.size w W3 := by
    refine ⟨?_, ?_, below_to HB.out H3.out.2 (by omega)⟩
    all_goals
      subst hW
      go_simp
  clear hW H2 P2
  generalize W2.heap.size = c at k0 hgz ⊢
  have HCu := Lib.hid (Cu.drew H3.out.1)
  go_region_held3 (fun U => U.cell? ⟨c, 0, none⟩ = some (.int .i64 x) ∧ U.cell? ⟨c, 1, none⟩ = some (.int .i64 y) ∧ Below w.heap.size w U) (first | with_reducible exact drewc2 k0 | with_reducible assumption | (with_reducible refine storen2 ?_ (by omega) (by omega); with_reducible assumption) | (with_reducible refine storem2 ?_ (by omega) (by omega); with_reducible assumption)) (first | (go_at_call 119; refine (sheet_dr B g A len cap zs (0 + 6) _ HCu.out (by omega)).mono ?_; rintro e w' ⟨r0, r1, r2, r3, r4, r5, hw, rfl, hc⟩; have hk := keepg2 (by with_reducible assumption) hc.2 (by omega) (by omega); have HW := Lib.hid hw; have p1 := zero6 (rowg (W := W3.drew) P3.out.1 hc.2 (by omega)); have p3 := zero2 (rowg (W := W3.drew) P3.out.2 hc.2 (by omega)); clear hc hw; obtain ⟨z0, z1, z2, z3, z4, z5, f0, f1, f2, f3, f4, f5⟩ := p1; obtain ⟨x0, x1, d0, d1⟩ := p3))
  rename_i hSe
  have hBe := hSe.2.2
  clear hSe hk k0
  go_wp2_with fail
  refine bodyPost_ret (v := .tuple #[.agg #[.int .i64 r0, .int .i64 r1, .int .i64 r2, .int .i64 r3, .int .i64 r4, .int .i64 r5], .agg #[.int .i64 x, .int .i64 y]]) (by simp [results, Try.results134, go_sem, z0, z1, z2, z3, z4, z5, x0, x1]) rfl ⟨r0, r1, r2, r3, r4, r5, x, y, HW.out, HX.out, HY.out, rfl, ?_⟩
  exact hBe
theorem big_no (A : Option Addr) (len cap : Nat) (hl : len ≤ 65536) (w : World) : Calls Try.prog 38 #[.slice A len cap] w fun e w' => e = .returned (.bool false) ∧ w' = w := by
  go_enter Try.func38, Try.ntmps38
  go_wp2_with fail
  go_ret
  exact ⟨by simp <;> omega, rfl⟩
theorem big_yes (A : Option Addr) (len cap : Nat) (hl : 65536 < len) (w : World) : Calls Try.prog 38 #[.slice A len cap] w fun e w' => e = .returned (.bool true) ∧ w' = w := by
  go_enter Try.func38, Try.ntmps38
  go_wp2_with fail
  go_ret
  exact ⟨by simp <;> omega, rfl⟩
set_option maxHeartbeats 1000000 in
theorem draw_flip (B : Nat) (A : Option Addr) (len cap : Nat) (zs : List Int) (w : World) (h : CodeIn w B A len zs) (hB : B ≤ w.heap.size) (hl : len ≤ 65536) :
    Calls Try.prog 50 #[.slice A len cap] w (DbPost w) := by
  have H := Lib.hid h
  clear h
  go_enter Try.func50, Try.ntmps50
  go_wp2_with fail
  generalize hW : (World.alloc _ _ : World) = W0
  have HB := Lib.hid (show Below w.heap.size w W0 by rw [← hW]; (repeat (first | exact Below.refl _ _ | assumption | refine Below.setCell ?_ (by first | (simp; done) | (simp; omega)) _ | refine Below.alloc ?_ (by first | (simp; done) | (simp; omega)) _ | refine Below.drew ?_)))
  have P0 := Lib.hid (show W0.heap[w.heap.size]? = some (.cells #[.int .i64 0, .int .i64 0, .int .i64 0, .int .i64 0, .int .i64 0, .int .i64 0] 28 (0, 0)) ∧ W0.heap[w.heap.size + 1]? = some (.cells #[.int .i64 0, .int .i64 0] 44 (0, 0)) by
    rw [← hW]
    exact ⟨alloc_past (alloc_at rfl), alloc_at (by simp)⟩)
  clear hW
  refine (draw_black B A len cap zs W0 (H.out.below HB.out hB) (Nat.le_trans hB HB.out.size) hl).mono ?_
  rintro e W1 ⟨r0, r1, r2, r3, r4, r5, x, y, hw, hx, hy, rfl, hb⟩
  have HB1 := Lib.hid (below_of HB.out hb HB.out.size)
  have HW := Lib.hid (And.intro hw (And.intro hx hy))
  have p1 := zero6 (rowk P0.out.1 hb rfl)
  have p3 := zero2 (rowk P0.out.2 hb rfl)
  clear hb hw hx hy P0 HB H
  obtain ⟨z0, z1, z2, z3, z4, z5, f0, f1, f2, f3, f4, f5⟩ := p1
  obtain ⟨x0, x1, d0, d1⟩ := p3
  go_wp2_with fail
  refine bodyPost_ret (v := .tuple #[.agg #[.int .i64 r0, .int .i64 r1, .int .i64 r2, .int .i64 r3, .int .i64 r4, .int .i64 r5], .agg #[.int .i64 x, .int .i64 y]]) (by simp [results, Try.results50, go_sem, z0, z1, z2, z3, z4, z5, x0, x1]) rfl ⟨r0, r1, r2, r3, r4, r5, x, y, HW.out.1, HW.out.2.1, HW.out.2.2, rfl, ?_⟩
  exact ((below6 HB1.out (Nat.le_refl _)).setCell (by simp) _).setCell (by simp) _
end Go.Proofs.Ytpgfmigbjffemaa
