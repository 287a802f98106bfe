/- PLAIN LEMMAS: a block of 36 cells (six rows of six numbers). -/
import Derived.Test.YthphkhcppljdlaaFe7
import Derived.Test.YthphkhcppljdlaaRg
import Derived.WalkKit
import Derived.ProofKit
import Derived.OpenShut
import Derived.Lib.Hide
import Derived.WalkSpells
import Derived.Below
import Derived.BigQuiet
import Derived.LoopN
namespace Go.Proofs.Ythphkhcppljdlaa
open Go.ChangeShapes Go.WideShapes Go.ChangeAt Go.RowKit
set_option linter.unusedVariables false
/-- 36 numbers in a block. -/
def o36 (g : Nat → Int) : Obj := .cells #[.int .i64 (g 0), .int .i64 (g 1), .int .i64 (g 2), .int .i64 (g 3), .int .i64 (g 4), .int .i64 (g 5), .int .i64 (g 6), .int .i64 (g 7), .int .i64 (g 8), .int .i64 (g 9), .int .i64 (g 10), .int .i64 (g 11), .int .i64 (g 12), .int .i64 (g 13), .int .i64 (g 14), .int .i64 (g 15), .int .i64 (g 16), .int .i64 (g 17), .int .i64 (g 18), .int .i64 (g 19), .int .i64 (g 20), .int .i64 (g 21), .int .i64 (g 22), .int .i64 (g 23), .int .i64 (g 24), .int .i64 (g 25), .int .i64 (g 26), .int .i64 (g 27), .int .i64 (g 28), .int .i64 (g 29), .int .i64 (g 30), .int .i64 (g 31), .int .i64 (g 32), .int .i64 (g 33), .int .i64 (g 34), .int .i64 (g 35)] 65 (0, 0)
/-- The same as one value. -/
def v36 (g : Nat → Int) : Value := .agg #[.int .i64 (g 0), .int .i64 (g 1), .int .i64 (g 2), .int .i64 (g 3), .int .i64 (g 4), .int .i64 (g 5), .int .i64 (g 6), .int .i64 (g 7), .int .i64 (g 8), .int .i64 (g 9), .int .i64 (g 10), .int .i64 (g 11), .int .i64 (g 12), .int .i64 (g 13), .int .i64 (g 14), .int .i64 (g 15), .int .i64 (g 16), .int .i64 (g 17), .int .i64 (g 18), .int .i64 (g 19), .int .i64 (g 20), .int .i64 (g 21), .int .i64 (g 22), .int .i64 (g 23), .int .i64 (g 24), .int .i64 (g 25), .int .i64 (g 26), .int .i64 (g 27), .int .i64 (g 28), .int .i64 (g 29), .int .i64 (g 30), .int .i64 (g 31), .int .i64 (g 32), .int .i64 (g 33), .int .i64 (g 34), .int .i64 (g 35)]
/-- One of them changed. -/
def up36 (f : Nat → Int) (k : Nat) (v : Int) : Nat → Int := fun j => if j = k then v else f j
theorem o36_map (g : Nat → Int) : o36 g = .cells ((List.range 36).map fun j => Value.int .i64 (g j)).toArray 65 (0, 0) := rfl
theorem o36_congr {f g : Nat → Int} (h : ∀ j, j < 36 → f j = g j) : o36 f = o36 g := by
  rw [o36_map, o36_map]
  have : (List.range 36).map (fun j => Value.int .i64 (f j)) = (List.range 36).map (fun j => Value.int .i64 (g j)) := List.map_congr_left fun j hj => by rw [h j (List.mem_range.mp hj)]
  rw [this]
theorem o36_set {f : Nat → Int} {k : Nat} {v : Int} {W : World} {g : Nat} (hk : k < 36) (h : W.heap[g]? = some (o36 f)) : (W.setCell ⟨g, k, none⟩ (.int .i64 v)).heap[g]? = some (o36 (up36 f k v)) := by
  rw [o36_map] at h ⊢
  rw [heap_setCell_same W g k _ _ _ h]
  congr 2
  apply Array.ext'
  simp only [List.setIfInBounds_toArray]
  apply List.ext_getElem
  · simp
  · intro i h1 h2
    simp only [List.getElem_set, List.getElem_map, List.getElem_range, up36]
    by_cases e : k = i
    · subst e; simp
    · rw [if_neg e, if_neg (fun e' => e e'.symm)]
theorem o36_at {f : Nat → Int} {W : World} {g k : Nat} (h : W.heap[g]? = some (o36 f)) (hk : k < 36) : W.cell? ⟨g, k, none⟩ = some (.int .i64 (f k)) := by
  rw [o36_map] at h
  rw [cell_of_row W g k _ _ _ h]
  simp [hk]
end Go.Proofs.Ythphkhcppljdlaa
