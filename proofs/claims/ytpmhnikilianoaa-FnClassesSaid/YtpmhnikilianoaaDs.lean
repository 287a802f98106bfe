/- CONTRACTS: a drawn sheet. -/
import Derived.Test.YtpmhnikilianoaaDq
import Derived.Test.YtpmhnikilianoaaSd
import Derived.WalkKit
import Derived.ProofKit
import Derived.OpenShut
import Derived.Lib.Hide
import Derived.WalkSpells
import Derived.Below
import Derived.BigQuiet
import Derived.LoopN
namespace Go.Proofs.Ytpmhnikilianoaa
open Go.ChangeShapes Go.WideShapes Go.ChangeAt Go.RowKit
set_option linter.unusedVariables false
theorem CuTo.below {B g N : Nat} {A : Option Addr} {len cap : Nat} {zs : List Int} {m : Int} {w W W' : World} (h : CuTo B g A len cap zs m w W) (hb : Below N W W') (hN : N = W.heap.size) : CuTo B g A len cap zs m w W' := by
  subst hN
  have hgl := h.1.glt
  obtain ⟨⟨h1, h2, h3, a, s, h4, h5, h6, h7⟩, hgr⟩ := h
  refine ⟨⟨fun j hj => ?_, h2, h3, a, s, h4, h5, h6, (hb.block g hgl).trans h7⟩, ?_⟩
  · obtain ⟨b, o', e1, e2, e3, e4, e5⟩ := h1 j hj
    exact ⟨b, o', e1, e2, (hb.cell (p := ⟨b, o' + j, none⟩) (blk_lt e3)).trans e3, e4, e5⟩
  · exact g_trans hgr ⟨hb.os, hb.tape, hb.output, hb.size, fun k hk _ => hb.block k hk⟩
theorem CuTo.mono {B g : Nat} {A : Option Addr} {len cap : Nat} {zs : List Int} {m m' : Int} {w W : World} (h : CuTo B g A len cap zs m w W) (hm : m ≤ m') : CuTo B g A len cap zs m' w W := ⟨h.1.mono hm, h.2⟩
def Wf6 (r0 r1 r2 r3 r4 r5 : Int) : Prop := (Lit.int .i64 r0).wf = true ∧ (Lit.int .i64 r1).wf = true ∧ (Lit.int .i64 r2).wf = true ∧ (Lit.int .i64 r3).wf = true ∧ (Lit.int .i64 r4).wf = true ∧ (Lit.int .i64 r5).wf = true
theorem wfb (op : BinOp) (a b : Int) : (Lit.int .i64 (bits op .i64 a b)).wf = true := WalkArith.wf_i64 ⟨bits_lo_i64 op a b, bits_hi_i64 op a b⟩
theorem flip_wf (a0 a1 a2 a3 a4 a5 : Int) (ha : Wf6 a0 a1 a2 a3 a4 a5) (x y : Int) (hx : 0 ≤ x ∧ x ≤ 5) (hy : 0 ≤ y ∧ y ≤ 5) : ∃ (r0 r1 r2 r3 r4 r5 : Int), Wf6 r0 r1 r2 r3 r4 r5 ∧ ∀ w, Calls Try.prog 212 #[.agg #[.int .i64 a0, .int .i64 a1, .int .i64 a2, .int .i64 a3, .int .i64 a4, .int .i64 a5], .int .i64 x, .int .i64 y] w fun e w' => e = .returned (.agg #[.int .i64 r0, .int .i64 r1, .int .i64 r2, .int .i64 r3, .int .i64 r4, .int .i64 r5]) ∧ Below w.heap.size w w' := by
  obtain ⟨h0, h1, h2, h3, h4, h5⟩ := ha
  refine ⟨_, _, _, _, _, _, ⟨?_, ?_, ?_, ?_, ?_, ?_⟩, fun w => l2flip_any a0 a1 a2 a3 a4 a5 x y hx hy w⟩
  all_goals
    split
    · exact wfb _ _ _
    · assumption
theorem set6row {k : Nat} {W : World} {v0 v1 v2 v3 v4 v5 : Value} (u0 u1 u2 u3 u4 u5 : Value) (h : W.heap[k]? = some (Obj.cells #[v0, v1, v2, v3, v4, v5] 28 (0, 0))) : ((((((W.setCell ⟨k, 0, none⟩ u0).setCell ⟨k, 1, none⟩ u1).setCell ⟨k, 2, none⟩ u2).setCell ⟨k, 3, none⟩ u3).setCell ⟨k, 4, none⟩ u4).setCell ⟨k, 5, none⟩ u5).heap[k]? = some (Obj.cells #[u0, u1, u2, u3, u4, u5] 28 (0, 0)) := by
  have e0 : (W.setCell ⟨k, 0, none⟩ u0).heap[k]? = some (Obj.cells #[u0, v1, v2, v3, v4, v5] 28 (0, 0)) := heap_setCell_same W k 0 _ 28 u0 h
  have e1 : ((W.setCell ⟨k, 0, none⟩ u0).setCell ⟨k, 1, none⟩ u1).heap[k]? = some (Obj.cells #[u0, u1, v2, v3, v4, v5] 28 (0, 0)) := heap_setCell_same _ k 1 _ 28 u1 e0
  have e2 : (((W.setCell ⟨k, 0, none⟩ u0).setCell ⟨k, 1, none⟩ u1).setCell ⟨k, 2, none⟩ u2).heap[k]? = some (Obj.cells #[u0, u1, u2, v3, v4, v5] 28 (0, 0)) := heap_setCell_same _ k 2 _ 28 u2 e1
  have e3 : ((((W.setCell ⟨k, 0, none⟩ u0).setCell ⟨k, 1, none⟩ u1).setCell ⟨k, 2, none⟩ u2).setCell ⟨k, 3, none⟩ u3).heap[k]? = some (Obj.cells #[u0, u1, u2, u3, v4, v5] 28 (0, 0)) := heap_setCell_same _ k 3 _ 28 u3 e2
  have e4 : (((((W.setCell ⟨k, 0, none⟩ u0).setCell ⟨k, 1, none⟩ u1).setCell ⟨k, 2, none⟩ u2).setCell ⟨k, 3, none⟩ u3).setCell ⟨k, 4, none⟩ u4).heap[k]? = some (Obj.cells #[u0, u1, u2, u3, u4, v5] 28 (0, 0)) := heap_setCell_same _ k 4 _ 28 u4 e3
  exact heap_setCell_same _ k 5 _ 28 u5 e4
theorem CuTo.set6 {B g k : Nat} {A : Option Addr} {len cap : Nat} {zs : List Int} {m : Int} {w W : World} (u0 u1 u2 u3 u4 u5 : Value) (h : CuTo B g A len cap zs m w W) (hg : g < w.heap.size) (hk : w.heap.size ≤ k) : CuTo B g A len cap zs m w ((((((W.setCell ⟨k, 0, none⟩ u0).setCell ⟨k, 1, none⟩ u1).setCell ⟨k, 2, none⟩ u2).setCell ⟨k, 3, none⟩ u3).setCell ⟨k, 4, none⟩ u4).setCell ⟨k, 5, none⟩ u5) :=
  (((((h.set hg hk _).set hg hk _).set hg hk _).set hg hk _).set hg hk _).set hg hk _
/-- Midway in the drawing: the sheet so far in its block k, the answer's block still white, the cursor. -/
def Sh (w : World) (k : Nat) (B g : Nat) (A : Option Addr) (len cap : Nat) (zs : List Int) (m : Int) (W : World) : Prop :=
  CuTo B g A len cap zs m w W ∧ W.heap[w.heap.size]? = some (.cells #[.int .i64 0, .int .i64 0, .int .i64 0, .int .i64 0, .int .i64 0, .int .i64 0] 28 (0, 0)) ∧ ∃ (r0 r1 r2 r3 r4 r5 : Int), Wf6 r0 r1 r2 r3 r4 r5 ∧ W.heap[k]? = some (.cells #[.int .i64 r0, .int .i64 r1, .int .i64 r2, .int .i64 r3, .int .i64 r4, .int .i64 r5] 28 (0, 0))
theorem Sh.step {w W W' : World} {k B g : Nat} {A : Option Addr} {len cap : Nat} {zs : List Int} {m m' : Int} (h : Sh w k B g A len cap zs m W) (hc : CuTo B g A len cap zs m' W W') (hg : g < w.heap.size) (hk : w.heap.size < k) : Sh w k B g A len cap zs m' W' := by
  obtain ⟨h1, h2, r0, r1, r2, r3, r4, r5, hw, h3⟩ := h
  exact ⟨h1.step hc, rowg h2 hc.2 (by omega), r0, r1, r2, r3, r4, r5, hw, rowg h3 hc.2 (by omega)⟩
theorem Sh.flip {w W W' : World} {k B g N : Nat} {A : Option Addr} {len cap : Nat} {zs : List Int} {m : Int} {r0 r1 r2 r3 r4 r5 : Int} (hw : Wf6 r0 r1 r2 r3 r4 r5) (h : Sh w k B g A len cap zs m W) (hb : Below N W W') (hN : N = W.heap.size) (hg : g < w.heap.size) (hk : w.heap.size < k) :
    Sh w k B g A len cap zs m ((((((W'.setCell ⟨k, 0, none⟩ (.int .i64 r0)).setCell ⟨k, 1, none⟩ (.int .i64 r1)).setCell ⟨k, 2, none⟩ (.int .i64 r2)).setCell ⟨k, 3, none⟩ (.int .i64 r3)).setCell ⟨k, 4, none⟩ (.int .i64 r4)).setCell ⟨k, 5, none⟩ (.int .i64 r5)) := by
  obtain ⟨h1, h2, q0, q1, q2, q3, q4, q5, _, h3⟩ := h
  have e2 := rowk h2 hb hN
  have e3 := rowk h3 hb hN
  refine ⟨CuTo.set6 _ _ _ _ _ _ (h1.below hb hN) hg (by omega), ?_, r0, r1, r2, r3, r4, r5, hw, set6row _ _ _ _ _ _ e3⟩
  have hne : w.heap.size ≠ k := by omega
  rw [Below.heap_setCell _ _ _ _ hne, Below.heap_setCell _ _ _ _ hne, Below.heap_setCell _ _ _ _ hne, Below.heap_setCell _ _ _ _ hne, Below.heap_setCell _ _ _ _ hne, Below.heap_setCell _ _ _ _ hne]
  exact e2
end Go.Proofs.Ytpmhnikilianoaa
