/- PLAIN LEMMAS: midway in a spread. -/
import Derived.Test.YtkjaaaefcmpokaaSp5
import Derived.Test.YtkjaaaefcmpokaaPi
import Derived.WalkKit
import Derived.ProofKit
import Derived.OpenShut
import Derived.Lib.Hide
import Derived.WalkSpells
import Derived.Below
import Derived.BigQuiet
import Derived.LoopN
namespace Go.Proofs.Ytkjaaaefcmpokaa
open Go.ChangeShapes Go.WideShapes Go.ChangeAt Go.RowKit
set_option linter.unusedVariables false
/-- Midway: i of the cells of the list are printed. -/
def Rs5 (w : World) (s p : Nat → Nat → Bool) (l : List (Nat × Nat)) (g cap gb i : Nat) (W : World) : Prop :=
  KR 3 [(w.heap.size, o6 s), (w.heap.size + 1, o6 p), (w.heap.size + 2, oz)] w W ∧ W.ownsRow 0 47 2 (.slice (some ⟨g, 0, none⟩) l.length cap) l.length (cv l) ∧ W.heap[gb]? = some (o6 (spo s (l.take i) zf)) ∧ w.heap.size + 3 ≤ gb ∧ gb < W.heap.size ∧ g ≠ gb
theorem Rs5.below {w W W' : World} {s p : Nat → Nat → Bool} {l : List (Nat × Nat)} {g cap gb i M : Nat} (h : Rs5 w s p l g cap gb i W) (hb : Below M W W') (hM : M = W.heap.size) : Rs5 w s p l g cap gb i W' := by
  obtain ⟨h1, h2, h3, h4, h5, h6⟩ := h
  exact ⟨h1.far hb hM, h2.kept (grown_below hb hM) (.inr (by simp [Value.ownBlock])), rowk h3 hb hM, h4, Nat.lt_of_lt_of_le h5 hb.size, h6⟩
theorem Rs5.put {w W : World} {s p : Nat → Nat → Bool} {l : List (Nat × Nat)} {g cap gb i : Nat} (h : Rs5 w s p l g cap gb i W) (hi : i < l.length) : Rs5 w s p l g cap gb (i + 1) ((((((W.setCell ⟨gb, 0, none⟩ (.int .i64 (rowv (jf (spo s (l.take i) zf) (sf (l[i]).1 (l[i]).2 s) 0)))).setCell ⟨gb, 1, none⟩ (.int .i64 (rowv (jf (spo s (l.take i) zf) (sf (l[i]).1 (l[i]).2 s) 1)))).setCell ⟨gb, 2, none⟩ (.int .i64 (rowv (jf (spo s (l.take i) zf) (sf (l[i]).1 (l[i]).2 s) 2)))).setCell ⟨gb, 3, none⟩ (.int .i64 (rowv (jf (spo s (l.take i) zf) (sf (l[i]).1 (l[i]).2 s) 3)))).setCell ⟨gb, 4, none⟩ (.int .i64 (rowv (jf (spo s (l.take i) zf) (sf (l[i]).1 (l[i]).2 s) 4)))).setCell ⟨gb, 5, none⟩ (.int .i64 (rowv (jf (spo s (l.take i) zf) (sf (l[i]).1 (l[i]).2 s) 5)))) := by
  obtain ⟨h1, h2, h3, h4, h5, h6⟩ := h
  refine ⟨h1.set h4 |>.set h4 |>.set h4 |>.set h4 |>.set h4 |>.set h4, own_set6 _ _ _ _ _ _ h2 h6, ?_, h4, by simpa using h5, h6⟩
  rw [spo_succ s l zf hi]
  exact set6a _ _ _ _ _ _ h3
theorem Rs5_c {w U : World} {s p : Nat → Nat → Bool} {l : List (Nat × Nat)} {g cap gb i : Nat} (h : Rs5 w s p l g cap gb i U) : ∀ j, U.cell? ⟨gb, j, none⟩ = (#[.int .i64 (rowv (spo s (l.take i) zf 0)), .int .i64 (rowv (spo s (l.take i) zf 1)), .int .i64 (rowv (spo s (l.take i) zf 2)), .int .i64 (rowv (spo s (l.take i) zf 3)), .int .i64 (rowv (spo s (l.take i) zf 4)), .int .i64 (rowv (spo s (l.take i) zf 5))] : Array Value)[j]? := fun j => cell_of_row U _ j _ _ _ h.2.2.1
theorem Rs5_f {w U : World} {s p : Nat → Nat → Bool} {l : List (Nat × Nat)} {g cap gb i : Nat} (h : Rs5 w s p l g cap gb i U) : ∀ j, U.frozen? ⟨gb, j, none⟩ = false := fun j => frozen_of_row U _ j _ _ h.2.2.1
end Go.Proofs.Ytkjaaaefcmpokaa
