/- CONTRACTS: a picture's copy; whether a picture is valid, of the model and of the code. -/
import Derived.Test.YtcjomhjgjdjigaaPv8
import Derived.Test.YtcjomhjgjdjigaaSc
import Derived.WalkKit
import Derived.ProofKit
import Derived.OpenShut
import Derived.Lib.Hide
import Derived.WalkSpells
import Derived.Below
import Derived.BigQuiet
import Derived.LoopN
namespace Go.Proofs.Ytcjomhjgjdjigaa
open Go.ChangeShapes Go.WideShapes Go.ChangeAt Go.RowKit
set_option linter.unusedVariables false
/-- Six numbers in a row, written. -/
theorem pb_row {W : World} {g k : Nat} {T : TypeId} {f : Nat → Int} (m : Nat → Int) (hk : k < 6) (h : W.heap[g]? = some (pb T f)) : ((((((W.setCell ⟨g, k * 6, none⟩ (.int .i64 (m (k * 6)))).setCell ⟨g, k * 6 + 1, none⟩ (.int .i64 (m (k * 6 + 1)))).setCell ⟨g, k * 6 + 2, none⟩ (.int .i64 (m (k * 6 + 2)))).setCell ⟨g, k * 6 + 3, none⟩ (.int .i64 (m (k * 6 + 3)))).setCell ⟨g, k * 6 + 4, none⟩ (.int .i64 (m (k * 6 + 4)))).setCell ⟨g, k * 6 + 5, none⟩ (.int .i64 (m (k * 6 + 5)))).heap[g]? = some (pb T fun j => if k * 6 ≤ j ∧ j < k * 6 + 6 then m j else f j) := by
  have h6 := pb_set (m (k * 6 + 5)) (show k * 6 + 5 < 36 by omega) (pb_set (m (k * 6 + 4)) (show k * 6 + 4 < 36 by omega) (pb_set (m (k * 6 + 3)) (show k * 6 + 3 < 36 by omega) (pb_set (m (k * 6 + 2)) (show k * 6 + 2 < 36 by omega) (pb_set (m (k * 6 + 1)) (show k * 6 + 1 < 36 by omega) (pb_set (m (k * 6)) (show k * 6 < 36 by omega) h)))))
  rw [h6]
  refine congrArg some (pb_congr fun j hj => ?_)
  unfold uq
  by_cases e5 : j = k * 6 + 5
  · subst e5; rw [if_pos rfl, if_pos (by omega)]
  rw [if_neg e5]
  by_cases e4 : j = k * 6 + 4
  · subst e4; rw [if_pos rfl, if_pos (by omega)]
  rw [if_neg e4]
  by_cases e3 : j = k * 6 + 3
  · subst e3; rw [if_pos rfl, if_pos (by omega)]
  rw [if_neg e3]
  by_cases e2 : j = k * 6 + 2
  · subst e2; rw [if_pos rfl, if_pos (by omega)]
  rw [if_neg e2]
  by_cases e1 : j = k * 6 + 1
  · subst e1; rw [if_pos rfl, if_pos (by omega)]
  rw [if_neg e1]
  by_cases e0 : j = k * 6
  · subst e0; rw [if_pos rfl, if_pos (by omega)]
  rw [if_neg e0, if_neg (by omega)]
/-- The first n numbers of m; the others are 0. -/
def up8 (m : Nat → Int) (n : Nat) : Nat → Int := fun j => if j < n then m j else 0
theorem pb_up {W : World} {g k : Nat} {T : TypeId} (m : Nat → Int) (hk : k < 6) (h : W.heap[g]? = some (pb T (up8 m (k * 6)))) : ((((((W.setCell ⟨g, k * 6, none⟩ (.int .i64 (m (k * 6)))).setCell ⟨g, k * 6 + 1, none⟩ (.int .i64 (m (k * 6 + 1)))).setCell ⟨g, k * 6 + 2, none⟩ (.int .i64 (m (k * 6 + 2)))).setCell ⟨g, k * 6 + 3, none⟩ (.int .i64 (m (k * 6 + 3)))).setCell ⟨g, k * 6 + 4, none⟩ (.int .i64 (m (k * 6 + 4)))).setCell ⟨g, k * 6 + 5, none⟩ (.int .i64 (m (k * 6 + 5)))).heap[g]? = some (pb T (up8 m ((k + 1) * 6))) := by
  rw [pb_row m hk h]
  refine congrArg some (pb_congr fun j hj => ?_)
  unfold up8
  by_cases h1 : k * 6 ≤ j ∧ j < k * 6 + 6
  · rw [if_pos h1, if_pos (by omega)]
  · rw [if_neg h1]
    by_cases h2 : j < k * 6
    · rw [if_pos h2, if_pos (by omega)]
    · rw [if_neg h2, if_neg (by omega)]
theorem pb_end {T : TypeId} (m : Nat → Int) : pb T (up8 m (6 * 6)) = pb T m := pb_congr fun j hj => by unfold up8; rw [if_pos (by omega)]
theorem pb_zero {T : TypeId} (m : Nat → Int) : pb T (up8 m (0 * 6)) = pb T fun _ => 0 := pb_congr fun j hj => by unfold up8; rw [if_neg (by omega)]
theorem pb_range6 {W : World} {g k : Nat} {T : TypeId} {m : Nat → Int} (hk : k < 6) (h : W.heap[g]? = some (pb T m)) : W.rangeAt g (k * 6) [.int .i64 (m (k * 6)), .int .i64 (m (k * 6 + 1)), .int .i64 (m (k * 6 + 2)), .int .i64 (m (k * 6 + 3)), .int .i64 (m (k * 6 + 4)), .int .i64 (m (k * 6 + 5))] := by
  intro j v hv
  rw [pb_cell h]
  have hj : j < 6 := by
    have := (List.getElem?_eq_some_iff.1 hv).1
    simpa using this
  rw [if_pos (by omega)]
  rcases (show j = 0 ∨ j = 1 ∨ j = 2 ∨ j = 3 ∨ j = 4 ∨ j = 5 by omega) with rfl | rfl | rfl | rfl | rfl | rfl <;> simpa using hv
theorem pb_there6 {W : World} {g k : Nat} {T : TypeId} {m : Nat → Int} (hk : k < 6) (h : W.heap[g]? = some (pb T m)) : W.there g (k * 6) 6 := by
  intro j hj
  refine ⟨?_, pb_frozen h _⟩
  rw [pb_cell h, if_pos (by omega)]
  rfl
/-- Midway in a copy: the one that came in, the answer's block, the one that is made. -/
def Rp8 (T : TypeId) (w : World) (m : Nat → Int) (n : Nat) (U : World) : Prop := U.heap[w.heap.size]? = some (pb T m) ∧ U.heap[w.heap.size + 1]? = some (pb 23 fun _ => 0) ∧ U.heap[w.heap.size + 1 + 1]? = some (pb 23 (up8 m n)) ∧ Below w.heap.size w U ∧ w.heap.size + 1 + 1 < U.heap.size
theorem Rp8.below {T : TypeId} {w U U' : World} {m : Nat → Int} {n M : Nat} (h : Rp8 T w m n U) (hb : Below M U U') (hM : M = U.heap.size) : Rp8 T w m n U' := ⟨rowk h.1 hb hM, rowk h.2.1 hb hM, rowk h.2.2.1 hb hM, below_of h.2.2.2.1 hb (by have := h.2.2.2.2; omega), Nat.lt_of_lt_of_le h.2.2.2.2 hb.size⟩
theorem Rp8.put {T : TypeId} {w U : World} {m : Nat → Int} {k : Nat} (hk : k < 6) (h : Rp8 T w m (k * 6) U) : Rp8 T w m ((k + 1) * 6) ((((((U.setCell ⟨w.heap.size + 1 + 1, k * 6, none⟩ (.int .i64 (m (k * 6)))).setCell ⟨w.heap.size + 1 + 1, k * 6 + 1, none⟩ (.int .i64 (m (k * 6 + 1)))).setCell ⟨w.heap.size + 1 + 1, k * 6 + 2, none⟩ (.int .i64 (m (k * 6 + 2)))).setCell ⟨w.heap.size + 1 + 1, k * 6 + 3, none⟩ (.int .i64 (m (k * 6 + 3)))).setCell ⟨w.heap.size + 1 + 1, k * 6 + 4, none⟩ (.int .i64 (m (k * 6 + 4)))).setCell ⟨w.heap.size + 1 + 1, k * 6 + 5, none⟩ (.int .i64 (m (k * 6 + 5)))) := by
  obtain ⟨h1, h2, h3, h4, h5⟩ := h
  have s : ∀ (g : Nat), g ≠ w.heap.size + 1 + 1 → ((((((U.setCell ⟨w.heap.size + 1 + 1, k * 6, none⟩ (.int .i64 (m (k * 6)))).setCell ⟨w.heap.size + 1 + 1, k * 6 + 1, none⟩ (.int .i64 (m (k * 6 + 1)))).setCell ⟨w.heap.size + 1 + 1, k * 6 + 2, none⟩ (.int .i64 (m (k * 6 + 2)))).setCell ⟨w.heap.size + 1 + 1, k * 6 + 3, none⟩ (.int .i64 (m (k * 6 + 3)))).setCell ⟨w.heap.size + 1 + 1, k * 6 + 4, none⟩ (.int .i64 (m (k * 6 + 4)))).setCell ⟨w.heap.size + 1 + 1, k * 6 + 5, none⟩ (.int .i64 (m (k * 6 + 5)))).heap[g]? = U.heap[g]? := by
    intro g hg
    rw [Below.heap_setCell _ _ _ _ hg, Below.heap_setCell _ _ _ _ hg, Below.heap_setCell _ _ _ _ hg, Below.heap_setCell _ _ _ _ hg, Below.heap_setCell _ _ _ _ hg, Below.heap_setCell _ _ _ _ hg]
  refine ⟨?_, ?_, pb_up m hk h3, ?_, ?_⟩
  · rw [s _ (by omega)]; exact h1
  · rw [s _ (by omega)]; exact h2
  · exact (((((h4.setCell (by simp; omega) _).setCell (by simp; omega) _).setCell (by simp; omega) _).setCell (by simp; omega) _).setCell (by simp; omega) _).setCell (by simp; omega) _
  · simpa using h5
theorem lt36 {k x : Nat} (hk : k < 6) (hx : x < 6) : k * 6 + x < 36 := by omega
end Go.Proofs.Ytcjomhjgjdjigaa
