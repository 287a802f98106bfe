/- CONTRACTS: quarters and mirrors of a sheet in the model. -/
import Derived.Test.YtnkjamdpafpcpaaBt
import Derived.Test.YtnkjamdpafpcpaaSc
import Derived.Test.YtnkjamdpafpcpaaKp
import Derived.WalkKit
import Derived.ProofKit
import Derived.OpenShut
import Derived.Lib.Hide
import Derived.WalkSpells
import Derived.Below
import Derived.BigQuiet
import Derived.LoopN
namespace Go.Proofs.Ytnkjamdpafpcpaa
open Go.ChangeShapes Go.WideShapes Go.ChangeAt Go.RowKit
set_option linter.unusedVariables false
theorem set6r {k : Nat} {W : World} {v0 v1 v2 v3 v4 v5 : Value} {t : TypeId} (u0 u1 u2 u3 u4 u5 : Value) (h : W.heap[k]? = some (Obj.cells #[v0, v1, v2, v3, v4, v5] t (0, 0))) : ((((((W.setCell ⟨k, 0, none⟩ u0).setCell ⟨k, 1, none⟩ u1).setCell ⟨k, 2, none⟩ u2).setCell ⟨k, 3, none⟩ u3).setCell ⟨k, 4, none⟩ u4).setCell ⟨k, 5, none⟩ u5).heap[k]? = some (Obj.cells #[u0, u1, u2, u3, u4, u5] t (0, 0)) := by
  have e0 : (W.setCell ⟨k, 0, none⟩ u0).heap[k]? = some (Obj.cells #[u0, v1, v2, v3, v4, v5] t (0, 0)) := heap_setCell_same W k 0 _ t u0 h
  have e1 : ((W.setCell ⟨k, 0, none⟩ u0).setCell ⟨k, 1, none⟩ u1).heap[k]? = some (Obj.cells #[u0, u1, v2, v3, v4, v5] t (0, 0)) := heap_setCell_same _ k 1 _ t u1 e0
  have e2 : (((W.setCell ⟨k, 0, none⟩ u0).setCell ⟨k, 1, none⟩ u1).setCell ⟨k, 2, none⟩ u2).heap[k]? = some (Obj.cells #[u0, u1, u2, v3, v4, v5] t (0, 0)) := heap_setCell_same _ k 2 _ t u2 e1
  have e3 : ((((W.setCell ⟨k, 0, none⟩ u0).setCell ⟨k, 1, none⟩ u1).setCell ⟨k, 2, none⟩ u2).setCell ⟨k, 3, none⟩ u3).heap[k]? = some (Obj.cells #[u0, u1, u2, u3, v4, v5] t (0, 0)) := heap_setCell_same _ k 3 _ t u3 e2
  have e4 : (((((W.setCell ⟨k, 0, none⟩ u0).setCell ⟨k, 1, none⟩ u1).setCell ⟨k, 2, none⟩ u2).setCell ⟨k, 3, none⟩ u3).setCell ⟨k, 4, none⟩ u4).heap[k]? = some (Obj.cells #[u0, u1, u2, u3, u4, v5] t (0, 0)) := heap_setCell_same _ k 4 _ t u4 e3
  exact heap_setCell_same _ k 5 _ t u5 e4
theorem set6o {k g : Nat} {W : World} {o : Obj} (u0 u1 u2 u3 u4 u5 : Value) (hne : g ≠ k) (h : W.heap[g]? = some o) : ((((((W.setCell ⟨k, 0, none⟩ u0).setCell ⟨k, 1, none⟩ u1).setCell ⟨k, 2, none⟩ u2).setCell ⟨k, 3, none⟩ u3).setCell ⟨k, 4, none⟩ u4).setCell ⟨k, 5, none⟩ u5).heap[g]? = some o := by
  rw [Below.heap_setCell _ _ _ _ hne, Below.heap_setCell _ _ _ _ hne, Below.heap_setCell _ _ _ _ hne, Below.heap_setCell _ _ _ _ hne, Below.heap_setCell _ _ _ _ hne, Below.heap_setCell _ _ _ _ hne]
  exact h
/-- Midway: the sheet f in the first block, the answer's block white, the new sheet in the third as far as it is made. -/
def Tu (w : World) (s : Nat → Nat → Nat × Nat) (f : Nat → Nat → Bool) (p : Nat) (W : World) : Prop :=
  Below w.heap.size w W ∧ W.heap[w.heap.size]? = some (.cells #[.int .i64 (rowv (f 0)), .int .i64 (rowv (f 1)), .int .i64 (rowv (f 2)), .int .i64 (rowv (f 3)), .int .i64 (rowv (f 4)), .int .i64 (rowv (f 5))] 28 (0, 0)) ∧ W.heap[w.heap.size + 1]? = some (.cells #[.int .i64 0, .int .i64 0, .int .i64 0, .int .i64 0, .int .i64 0, .int .i64 0] 28 (0, 0)) ∧ W.heap[w.heap.size + 2]? = some (.cells #[.int .i64 (rowv (hv s f p 0)), .int .i64 (rowv (hv s f p 1)), .int .i64 (rowv (hv s f p 2)), .int .i64 (rowv (hv s f p 3)), .int .i64 (rowv (hv s f p 4)), .int .i64 (rowv (hv s f p 5))] 28 (0, 0)) ∧ w.heap.size + 3 ≤ W.heap.size
theorem Tu.start (w : World) (s : Nat → Nat → Nat × Nat) (f : Nat → Nat → Bool) : Tu w s f 0 (((w.alloc (.cells #[.int .i64 (rowv (f 0)), .int .i64 (rowv (f 1)), .int .i64 (rowv (f 2)), .int .i64 (rowv (f 3)), .int .i64 (rowv (f 4)), .int .i64 (rowv (f 5))] 28)).alloc (.cells #[.int .i64 0, .int .i64 0, .int .i64 0, .int .i64 0, .int .i64 0, .int .i64 0] 28)).alloc (.cells #[.int .i64 0, .int .i64 0, .int .i64 0, .int .i64 0, .int .i64 0, .int .i64 0] 28)) := by
  refine ⟨by (repeat (first | exact Below.refl _ _ | assumption | refine Below.setCell ?_ (by first | (simp; done) | (simp; omega)) _ | refine Below.alloc ?_ (by first | (simp; done) | (simp; omega)) _ | refine Below.drew ?_)), alloc_past (alloc_past (alloc_at rfl)), alloc_past (alloc_at (by simp)), ?_, by simp⟩
  rw [hv_zero s f 0, hv_zero s f 1, hv_zero s f 2, hv_zero s f 3, hv_zero s f 4, hv_zero s f 5]
  exact alloc_at (by simp)
theorem Tu.below {w W W' : World} {s : Nat → Nat → Nat × Nat} {f : Nat → Nat → Bool} {p : Nat} {N : Nat} (h : Tu w s f p W) (hb : Below N W W') (hN : N = W.heap.size) : Tu w s f p W' := by
  obtain ⟨h1, h2, h3, h4, h5⟩ := h
  subst hN
  exact ⟨below_of h1 hb (by omega), row_keep hb (by omega) h2, row_keep hb (by omega) h3, row_keep hb (by omega) h4, Nat.le_trans h5 hb.size⟩
theorem Tu.white {w W : World} {s : Nat → Nat → Nat × Nat} {f : Nat → Nat → Bool} {y x da db : Nat} (h : Tu w s f (6 * y + x) W) (hx : x < 6) (ho : Only s y x da db) (hf : f y x = false) : Tu w s f (6 * y + x + 1) W := by
  obtain ⟨h1, h2, h3, h4, h5⟩ := h
  refine ⟨h1, h2, h3, ?_, h5⟩
  rw [hv_row_none hx ho hf (show 0 < 6 by decide), hv_row_none hx ho hf (show 1 < 6 by decide), hv_row_none hx ho hf (show 2 < 6 by decide), hv_row_none hx ho hf (show 3 < 6 by decide), hv_row_none hx ho hf (show 4 < 6 by decide), hv_row_none hx ho hf (show 5 < 6 by decide)]
  exact h4
theorem Tu.black {w W : World} {s : Nat → Nat → Nat × Nat} {f : Nat → Nat → Bool} {p q : Nat} (h : Tu w s f p W) : Tu w s f q ((((((W.setCell ⟨w.heap.size + 2, 0, none⟩ (.int .i64 (rowv (hv s f q 0)))).setCell ⟨w.heap.size + 2, 1, none⟩ (.int .i64 (rowv (hv s f q 1)))).setCell ⟨w.heap.size + 2, 2, none⟩ (.int .i64 (rowv (hv s f q 2)))).setCell ⟨w.heap.size + 2, 3, none⟩ (.int .i64 (rowv (hv s f q 3)))).setCell ⟨w.heap.size + 2, 4, none⟩ (.int .i64 (rowv (hv s f q 4)))).setCell ⟨w.heap.size + 2, 5, none⟩ (.int .i64 (rowv (hv s f q 5)))) := by
  obtain ⟨h1, h2, h3, h4, h5⟩ := h
  refine ⟨below6 h1 (by omega), set6o _ _ _ _ _ _ (by omega) h2, set6o _ _ _ _ _ _ (by omega) h3, set6r _ _ _ _ _ _ h4, by simpa using h5⟩
theorem flip_hv {s : Nat → Nat → Nat × Nat} {f : Nat → Nat → Bool} {y x da db : Nat} (hx : x < 6) (hda : da < 6) (hdb : db < 6) (h : Only s y x da db) (hf : f y x = true) (w : World) : Calls Try.prog 191 #[.agg #[.int .i64 (rowv (hv s f (6 * y + x) 0)), .int .i64 (rowv (hv s f (6 * y + x) 1)), .int .i64 (rowv (hv s f (6 * y + x) 2)), .int .i64 (rowv (hv s f (6 * y + x) 3)), .int .i64 (rowv (hv s f (6 * y + x) 4)), .int .i64 (rowv (hv s f (6 * y + x) 5))], .int .i64 (db : Int), .int .i64 (da : Int)] w fun e w' => e = .returned (.agg #[.int .i64 (rowv (hv s f (6 * y + x + 1) 0)), .int .i64 (rowv (hv s f (6 * y + x + 1) 1)), .int .i64 (rowv (hv s f (6 * y + x + 1) 2)), .int .i64 (rowv (hv s f (6 * y + x + 1) 3)), .int .i64 (rowv (hv s f (6 * y + x + 1) 4)), .int .i64 (rowv (hv s f (6 * y + x + 1) 5))]) ∧ Below w.heap.size w w' := by
  have H := l2flip_any (rowv (hv s f (6 * y + x) 0)) (rowv (hv s f (6 * y + x) 1)) (rowv (hv s f (6 * y + x) 2)) (rowv (hv s f (6 * y + x) 3)) (rowv (hv s f (6 * y + x) 4)) (rowv (hv s f (6 * y + x) 5)) (db : Int) (da : Int) ⟨by omega, by omega⟩ ⟨by omega, by omega⟩ w
  have e0 : rowv (hv s f (6 * y + x + 1) 0) = if (da : Int) = 0 then bits .xor .i64 (rowv (hv s f (6 * y + x) 0)) (wrap64 (2 ^ ((db : Int)).toNat)) else rowv (hv s f (6 * y + x) 0) := hv_row_xor hx hdb h hf (by decide)
  have e1 : rowv (hv s f (6 * y + x + 1) 1) = if (da : Int) = 1 then bits .xor .i64 (rowv (hv s f (6 * y + x) 1)) (wrap64 (2 ^ ((db : Int)).toNat)) else rowv (hv s f (6 * y + x) 1) := hv_row_xor hx hdb h hf (by decide)
  have e2 : rowv (hv s f (6 * y + x + 1) 2) = if (da : Int) = 2 then bits .xor .i64 (rowv (hv s f (6 * y + x) 2)) (wrap64 (2 ^ ((db : Int)).toNat)) else rowv (hv s f (6 * y + x) 2) := hv_row_xor hx hdb h hf (by decide)
  have e3 : rowv (hv s f (6 * y + x + 1) 3) = if (da : Int) = 3 then bits .xor .i64 (rowv (hv s f (6 * y + x) 3)) (wrap64 (2 ^ ((db : Int)).toNat)) else rowv (hv s f (6 * y + x) 3) := hv_row_xor hx hdb h hf (by decide)
  have e4 : rowv (hv s f (6 * y + x + 1) 4) = if (da : Int) = 4 then bits .xor .i64 (rowv (hv s f (6 * y + x) 4)) (wrap64 (2 ^ ((db : Int)).toNat)) else rowv (hv s f (6 * y + x) 4) := hv_row_xor hx hdb h hf (by decide)
  have e5 : rowv (hv s f (6 * y + x + 1) 5) = if (da : Int) = 5 then bits .xor .i64 (rowv (hv s f (6 * y + x) 5)) (wrap64 (2 ^ ((db : Int)).toNat)) else rowv (hv s f (6 * y + x) 5) := hv_row_xor hx hdb h hf (by decide)
  rw [← e0, ← e1, ← e2, ← e3, ← e4, ← e5] at H
  exact H
theorem get_f (f : Nat → Nat → Bool) {y x : Nat} (hy : y < 6) (hx : x < 6) (w : World) : Calls Try.prog 206 #[.agg #[.int .i64 (rowv (f 0)), .int .i64 (rowv (f 1)), .int .i64 (rowv (f 2)), .int .i64 (rowv (f 3)), .int .i64 (rowv (f 4)), .int .i64 (rowv (f 5))], .int .i64 (x : Int), .int .i64 (y : Int)] w fun e w' => e = .returned (.bool (f y x)) ∧ Below w.heap.size w w' := by
  have H := get_any (rowv (f 0)) (rowv (f 1)) (rowv (f 2)) (rowv (f 3)) (rowv (f 4)) (rowv (f 5)) (x : Int) (y : Int) ⟨by omega, by omega⟩ ⟨by omega, by omega⟩ w
  rw [cell_black f hy hx] at H
  exact H
def sq : Nat → Nat → Nat × Nat := fun a b => (5 - b, a)
def sm : Nat → Nat → Nat × Nat := fun a b => (a, 5 - b)
theorem only_q {y x : Nat} (hy : y < 6) (hx : x < 6) : Only sq y x x (5 - y) := ⟨Prod.ext (by simp only [sq]; omega) rfl, fun a b ha hb => ⟨ha, fun e => by simp only [sq, Prod.mk.injEq] at e; omega⟩⟩
theorem only_m {y x : Nat} (hy : y < 6) (hx : x < 6) : Only sm y x y (5 - x) := ⟨Prod.ext rfl (by simp only [sm]; omega), fun a b ha hb => ⟨by simp only [sm]; omega, fun e => by simp only [sm, Prod.mk.injEq] at e; omega⟩⟩
end Go.Proofs.Ytnkjamdpafpcpaa
