/- CONTRACTS: SheetOf, the model's. -/
import Derived.Test.YtbmfjcmlgndofaaZo
import Derived.WalkKit
import Derived.ProofKit
import Derived.OpenShut
import Derived.Lib.Hide
import Derived.WalkSpells
import Derived.Below
import Derived.BigQuiet
import Derived.LoopN
namespace Go.Proofs.Ytbmfjcmlgndofaa
open Go.ChangeShapes Go.WideShapes Go.ChangeAt Go.RowKit
set_option linter.unusedVariables false
/-- Midway: the answer's block is white, the cells lie in a row of their own. -/
def Rs (w : World) (z : List (Int × Int)) (g cap : Nat) (W : World) : Prop := KR 1 [(w.heap.size, oz)] w W ∧ W.ownsRow 0 53 2 (.slice (some ⟨g, 0, none⟩) z.length cap) z.length (cw z)
theorem Rs.below {w W W' : World} {z : List (Int × Int)} {g cap M : Nat} (h : Rs w z g cap W) (hb : Below M W W') (hM : M = W.heap.size) : Rs w z g cap W' := ⟨h.1.far hb hM, h.2.kept (grown_below hb hM) (.inr (by simp [Value.ownBlock]))⟩
/-- All cells are valid, or there is a first one that is not. -/
theorem first_bad (z : List (Int × Int)) : (∀ i (h : i < z.length), okc (z[i]).1 (z[i]).2 = true) ∨ ∃ N, ∃ hN : N < z.length, (∀ i (h : i < N), okc (z[i]'(by omega)).1 (z[i]'(by omega)).2 = true) ∧ okc (z[N]).1 (z[N]).2 = false := by
  have key : ∀ k, (hk : k ≤ z.length) → (∀ i (h : i < k), okc (z[i]'(by omega)).1 (z[i]'(by omega)).2 = true) ∨ ∃ N, ∃ hN : N < z.length, (∀ i (h : i < N), okc (z[i]'(by omega)).1 (z[i]'(by omega)).2 = true) ∧ okc (z[N]).1 (z[N]).2 = false := by
    intro k
    induction k with
    | zero => intro _; exact .inl fun i h => by omega
    | succ k ih =>
      intro hk
      rcases ih (by omega) with h | h
      · cases hq : okc (z[k]'(by omega)).1 (z[k]'(by omega)).2
        · exact .inr ⟨k, by omega, h, hq⟩
        · refine .inl fun i hi => ?_
          rcases Nat.lt_succ_iff_lt_or_eq.mp hi with h' | rfl
          · exact h i h'
          · exact hq
      · exact .inr h
  exact key z.length (Nat.le_refl _)
end Go.Proofs.Ytbmfjcmlgndofaa
