/- PLAIN LEMMAS: rows that a drawn region leaves as they are, over calls, new blocks and late stores. -/
import Derived.Test.YtnkjamdpafpcpaaKp
import Derived.Test.YtnkjamdpafpcpaaSc
import Derived.WalkKit
import Derived.ProofKit
import Derived.OpenShut
import Derived.Lib.Hide
import Derived.WalkSpells
import Derived.Below
import Derived.BigQuiet
import Derived.LoopN
namespace Go.Proofs.Ytnkjamdpafpcpaa
open Go.ChangeShapes Go.WideShapes Go.ChangeAt Go.RowKit
set_option linter.unusedVariables false
/-- Rows known, all below w's size and n more; the world is at least so large; nothing below w's size was touched. -/
def KR (n : Nat) (l : List (Nat × Obj)) (w U : World) : Prop := (∀ p ∈ l, p.1 < w.heap.size + n ∧ U.heap[p.1]? = some p.2) ∧ w.heap.size + n ≤ U.heap.size ∧ Below w.heap.size w U
theorem KR.far {n : Nat} {l : List (Nat × Obj)} {w U V : World} {M : Nat} (h : KR n l w U) (hb : Below M U V) (hM : M = U.heap.size) : KR n l w V :=
  ⟨fun p hp => ⟨(h.1 p hp).1, rowk (h.1 p hp).2 hb hM⟩, Nat.le_trans h.2.1 hb.size, below_of h.2.2 hb (by have := h.2.1; omega)⟩
theorem KR.al {n : Nat} {l : List (Nat × Obj)} {w U : World} {o : Obj} (h : KR n l w U) : KR n l w (U.alloc o) := h.far (M := U.heap.size) ((Below.refl _ _).alloc (Nat.le_refl _) o) rfl
theorem KR.drew {n : Nat} {l : List (Nat × Obj)} {w U : World} (h : KR n l w U) : KR n l w U.drew := h.far (M := U.heap.size) (Below.refl _ _).drew rfl
theorem KR.set {n g i : Nat} {l : List (Nat × Obj)} {w U : World} {v : Value} (h : KR n l w U) (hg : w.heap.size + n ≤ g) : KR n l w (U.setCell ⟨g, i, none⟩ v) := by
  refine ⟨fun p hp => ⟨(h.1 p hp).1, ?_⟩, ?_, h.2.2.setCell (by simp; omega) _⟩
  · have h1 := (h.1 p hp).1
    have hne : p.1 ≠ g := by omega
    rw [Below.heap_setCell _ _ _ _ hne]
    exact (h.1 p hp).2
  · simpa using h.2.1
theorem KR.le {n : Nat} {l : List (Nat × Obj)} {w U : World} (h : KR n l w U) : w.heap.size + n ≤ U.heap.size := h.2.1
theorem KR.row {n : Nat} {l : List (Nat × Obj)} {w U : World} (h : KR n l w U) {g : Nat} {o : Obj} (hm : (g, o) ∈ l) : U.heap[g]? = some o := (h.1 _ hm).2
theorem KR.cell {n : Nat} {l : List (Nat × Obj)} {w U : World} (h : KR n l w U) {g : Nat} {cs : Array Value} {t : TypeId} (hm : (g, Obj.cells cs t (0, 0)) ∈ l) (j : Nat) : U.cell? ⟨g, j, none⟩ = cs[j]? := cell_of_row U g j _ _ _ (h.row hm)
end Go.Proofs.Ytnkjamdpafpcpaa
