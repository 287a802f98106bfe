/- CONTRACTS: turns of a sheet in the model. -/
import Derived.Test.YtnkjamdpafpcpaaTq
import Derived.WalkKit
import Derived.ProofKit
import Derived.OpenShut
import Derived.Lib.Hide
import Derived.WalkSpells
import Derived.Below
import Derived.BigQuiet
import Derived.LoopN
namespace Go.Proofs.Ytnkjamdpafpcpaa
open Go.ChangeShapes Go.WideShapes Go.ChangeAt Go.RowKit
set_option linter.unusedVariables false
/-- A sheet g in the first block, the answer's block white. -/
def Tt (w : World) (g : Nat → Nat → Bool) (W : World) : Prop :=
  Below w.heap.size w W ∧ W.heap[w.heap.size]? = some (.cells #[.int .i64 (rowv (g 0)), .int .i64 (rowv (g 1)), .int .i64 (rowv (g 2)), .int .i64 (rowv (g 3)), .int .i64 (rowv (g 4)), .int .i64 (rowv (g 5))] 28 (0, 0)) ∧ W.heap[w.heap.size + 1]? = some (.cells #[.int .i64 0, .int .i64 0, .int .i64 0, .int .i64 0, .int .i64 0, .int .i64 0] 28 (0, 0)) ∧ w.heap.size + 2 ≤ W.heap.size
theorem Tt.start (w : World) (f : Nat → Nat → Bool) : Tt w f ((w.alloc (.cells #[.int .i64 (rowv (f 0)), .int .i64 (rowv (f 1)), .int .i64 (rowv (f 2)), .int .i64 (rowv (f 3)), .int .i64 (rowv (f 4)), .int .i64 (rowv (f 5))] 28)).alloc (.cells #[.int .i64 0, .int .i64 0, .int .i64 0, .int .i64 0, .int .i64 0, .int .i64 0] 28)) := ⟨by (repeat (first | exact Below.refl _ _ | assumption | refine Below.setCell ?_ (by first | (simp; done) | (simp; omega)) _ | refine Below.alloc ?_ (by first | (simp; done) | (simp; omega)) _ | refine Below.drew ?_)), alloc_past (alloc_at rfl), alloc_at (by simp), by simp⟩
theorem Tt.below {w W W' : World} {g : Nat → Nat → Bool} {N : Nat} (h : Tt w g W) (hb : Below N W W') (hN : N = W.heap.size) : Tt w g W' := by
  obtain ⟨h1, h2, h3, h4⟩ := h
  subst hN
  exact ⟨below_of h1 hb (by omega), row_keep hb (by omega) h2, row_keep hb (by omega) h3, Nat.le_trans h4 hb.size⟩
theorem Tt.put {w W : World} {g : Nat → Nat → Bool} (g2 : Nat → Nat → Bool) (h : Tt w g W) : Tt w g2 ((((((W.setCell ⟨w.heap.size, 0, none⟩ (.int .i64 (rowv (g2 0)))).setCell ⟨w.heap.size, 1, none⟩ (.int .i64 (rowv (g2 1)))).setCell ⟨w.heap.size, 2, none⟩ (.int .i64 (rowv (g2 2)))).setCell ⟨w.heap.size, 3, none⟩ (.int .i64 (rowv (g2 3)))).setCell ⟨w.heap.size, 4, none⟩ (.int .i64 (rowv (g2 4)))).setCell ⟨w.heap.size, 5, none⟩ (.int .i64 (rowv (g2 5)))) := by
  obtain ⟨h1, h2, h3, h4⟩ := h
  exact ⟨below6 h1 (Nat.le_refl _), set6r _ _ _ _ _ _ h2, set6o _ _ _ _ _ _ (by omega) h3, by simpa using h4⟩
theorem eight {k : Nat} (h : k < 8) : k = 0 ∨ k = 1 ∨ k = 2 ∨ k = 3 ∨ k = 4 ∨ k = 5 ∨ k = 6 ∨ k = 7 := by omega
end Go.Proofs.Ytnkjamdpafpcpaa
