/- PLAIN LEMMAS: midway in a print: the stamp, the presses, the cells' row and the sheet that is printed so far. -/
import Derived.Test.YtnkjamdpafpcpaaPx
import Derived.Test.YtnkjamdpafpcpaaRk
import Derived.Test.YtnkjamdpafpcpaaCn
import Derived.Test.YtnkjamdpafpcpaaCm
import Derived.WalkKit
import Derived.ProofKit
import Derived.OpenShut
import Derived.Lib.Hide
import Derived.WalkSpells
import Derived.Below
import Derived.BigQuiet
import Derived.LoopN
namespace Go.Proofs.Ytnkjamdpafpcpaa
open Go.ChangeShapes Go.WideShapes Go.ChangeAt Go.RowKit
set_option linter.unusedVariables false
def o6 (f : Nat → Nat → Bool) : Obj := .cells #[.int .i64 (rowv (f 0)), .int .i64 (rowv (f 1)), .int .i64 (rowv (f 2)), .int .i64 (rowv (f 3)), .int .i64 (rowv (f 4)), .int .i64 (rowv (f 5))] 28 (0, 0)
def oz : Obj := .cells #[.int .i64 0, .int .i64 0, .int .i64 0, .int .i64 0, .int .i64 0, .int .i64 0] 28 (0, 0)
/-- Midway: i of the cells of the list are printed. -/
def Rq (w : World) (s p : Nat → Nat → Bool) (l : List (Nat × Nat)) (g cap gb i : Nat) (W : World) : Prop :=
  KR 3 [(w.heap.size, o6 s), (w.heap.size + 1, o6 p), (w.heap.size + 2, oz)] w W ∧ W.ownsRow 0 69 2 (.slice (some ⟨g, 0, none⟩) l.length cap) l.length (cv l) ∧ W.heap[gb]? = some (o6 (pfo s (l.take i) zf)) ∧ w.heap.size + 3 ≤ gb ∧ gb < W.heap.size ∧ g ≠ gb
theorem Rq.below {w W W' : World} {s p : Nat → Nat → Bool} {l : List (Nat × Nat)} {g cap gb i M : Nat} (h : Rq w s p l g cap gb i W) (hb : Below M W W') (hM : M = W.heap.size) : Rq w s p l g cap gb i W' := by
  obtain ⟨h1, h2, h3, h4, h5, h6⟩ := h
  exact ⟨h1.far hb hM, h2.kept (grown_below hb hM) (.inr (by simp [Value.ownBlock])), rowk h3 hb hM, h4, Nat.lt_of_lt_of_le h5 hb.size, h6⟩
theorem grow_set (w : World) (a : Addr) (u : Value) : w.grownBy (w.setCell a u) (some a.block) :=
  ⟨rfl, rfl, rfl, by simp, fun k hk hn => Below.heap_setCell _ _ _ _ (by intro e; exact hn (by rw [e]))⟩
theorem own_set6 {W : World} {B g gb n cap : Nat} {T : TypeId} {z : Nat} {xs : List Value} (u0 u1 u2 u3 u4 u5 : Value) (h : W.ownsRow B T z (.slice (some ⟨g, 0, none⟩) n cap) n xs) (hne : g ≠ gb) : ((((((W.setCell ⟨gb, 0, none⟩ u0).setCell ⟨gb, 1, none⟩ u1).setCell ⟨gb, 2, none⟩ u2).setCell ⟨gb, 3, none⟩ u3).setCell ⟨gb, 4, none⟩ u4).setCell ⟨gb, 5, none⟩ u5).ownsRow B T z (.slice (some ⟨g, 0, none⟩) n cap) n xs := by
  have hk : ∀ (U : World) (j : Nat) (u : Value), U.ownsRow B T z (.slice (some ⟨g, 0, none⟩) n cap) n xs → (U.setCell ⟨gb, j, none⟩ u).ownsRow B T z (.slice (some ⟨g, 0, none⟩) n cap) n xs := fun U j u h => h.kept (grow_set U ⟨gb, j, none⟩ u) (.inr (by simp [Value.ownBlock, hne]))
  exact hk _ _ _ (hk _ _ _ (hk _ _ _ (hk _ _ _ (hk _ _ _ (hk _ _ _ h)))))
theorem set6a {k : Nat} {W : World} {v0 v1 v2 v3 v4 v5 : Value} {t : TypeId} (u0 u1 u2 u3 u4 u5 : Value) (h : W.heap[k]? = some (Obj.cells #[v0, v1, v2, v3, v4, v5] t (0, 0))) : ((((((W.setCell ⟨k, 0, none⟩ u0).setCell ⟨k, 1, none⟩ u1).setCell ⟨k, 2, none⟩ u2).setCell ⟨k, 3, none⟩ u3).setCell ⟨k, 4, none⟩ u4).setCell ⟨k, 5, none⟩ u5).heap[k]? = some (Obj.cells #[u0, u1, u2, u3, u4, u5] t (0, 0)) := by
  have e0 := heap_setCell_same W k 0 _ t u0 h
  have e1 := heap_setCell_same _ k 1 _ t u1 e0
  have e2 := heap_setCell_same _ k 2 _ t u2 e1
  have e3 := heap_setCell_same _ k 3 _ t u3 e2
  have e4 := heap_setCell_same _ k 4 _ t u4 e3
  have e5 := heap_setCell_same _ k 5 _ t u5 e4
  exact e5
theorem Rq.put {w W : World} {s p : Nat → Nat → Bool} {l : List (Nat × Nat)} {g cap gb i : Nat} (h : Rq w s p l g cap gb i W) (hi : i < l.length) : Rq w s p l g cap gb (i + 1) ((((((W.setCell ⟨gb, 0, none⟩ (.int .i64 (rowv (xf (pfo s (l.take i) zf) (sf (l[i]).1 (l[i]).2 s) 0)))).setCell ⟨gb, 1, none⟩ (.int .i64 (rowv (xf (pfo s (l.take i) zf) (sf (l[i]).1 (l[i]).2 s) 1)))).setCell ⟨gb, 2, none⟩ (.int .i64 (rowv (xf (pfo s (l.take i) zf) (sf (l[i]).1 (l[i]).2 s) 2)))).setCell ⟨gb, 3, none⟩ (.int .i64 (rowv (xf (pfo s (l.take i) zf) (sf (l[i]).1 (l[i]).2 s) 3)))).setCell ⟨gb, 4, none⟩ (.int .i64 (rowv (xf (pfo s (l.take i) zf) (sf (l[i]).1 (l[i]).2 s) 4)))).setCell ⟨gb, 5, none⟩ (.int .i64 (rowv (xf (pfo s (l.take i) zf) (sf (l[i]).1 (l[i]).2 s) 5)))) := by
  obtain ⟨h1, h2, h3, h4, h5, h6⟩ := h
  refine ⟨h1.set h4 |>.set h4 |>.set h4 |>.set h4 |>.set h4 |>.set h4, own_set6 _ _ _ _ _ _ h2 h6, ?_, h4, by simpa using h5, h6⟩
  rw [pfo_succ s l zf hi]
  exact set6a _ _ _ _ _ _ h3
theorem Rq_c {w U : World} {s p : Nat → Nat → Bool} {l : List (Nat × Nat)} {g cap gb i : Nat} (h : Rq w s p l g cap gb i U) : ∀ j, U.cell? ⟨gb, j, none⟩ = (#[.int .i64 (rowv (pfo s (l.take i) zf 0)), .int .i64 (rowv (pfo s (l.take i) zf 1)), .int .i64 (rowv (pfo s (l.take i) zf 2)), .int .i64 (rowv (pfo s (l.take i) zf 3)), .int .i64 (rowv (pfo s (l.take i) zf 4)), .int .i64 (rowv (pfo s (l.take i) zf 5))] : Array Value)[j]? := fun j => cell_of_row U _ j _ _ _ h.2.2.1
theorem Rq_f {w U : World} {s p : Nat → Nat → Bool} {l : List (Nat × Nat)} {g cap gb i : Nat} (h : Rq w s p l g cap gb i U) : ∀ j, U.frozen? ⟨gb, j, none⟩ = false := fun j => frozen_of_row U _ j _ _ h.2.2.1
end Go.Proofs.Ytnkjamdpafpcpaa
