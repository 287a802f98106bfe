/- PLAIN LEMMAS: a sheet's meetings; what lies in the memory midway. -/
import Derived.Test.YthphkhcppljdlaaO36
import Derived.Deep.WholeRow
import Derived.Test.YthphkhcppljdlaaP7
import Derived.Test.YthphkhcppljdlaaSp5
import Derived.Test.YthphkhcppljdlaaSz
import Derived.Test.YthphkhcppljdlaaKa7
import Derived.WalkKit
import Derived.ProofKit
import Derived.OpenShut
import Derived.Lib.Hide
import Derived.WalkSpells
import Derived.Below
import Derived.BigQuiet
import Derived.LoopN
namespace Go.Proofs.Ythphkhcppljdlaa
open Go.ChangeShapes Go.WideShapes Go.ChangeAt Go.RowKit
set_option linter.unusedVariables false
/-- The first k meetings. -/
def mt7 (f : Fn6) (k : Nat) : Nat → Int := fun j => if j < k then pc36 (af f (sf (j / 6) (j % 6) f)) else 0
theorem mt7_step (f : Fn6) (k : Nat) : up36 (mt7 f k) k (pc36 (af f (sf (k / 6) (k % 6) f))) = mt7 f (k + 1) := by
  funext j
  unfold up36 mt7
  by_cases e : j = k
  · subst e; simp
  · by_cases h : j < k
    · rw [if_neg e, if_pos h, if_pos (by omega)]
    · rw [if_neg e, if_neg h, if_neg (by omega)]
theorem land_f (s p : Fn6) (w : World) : Calls Try.prog 114 #[.agg #[.int .i64 (rowv (s 0)), .int .i64 (rowv (s 1)), .int .i64 (rowv (s 2)), .int .i64 (rowv (s 3)), .int .i64 (rowv (s 4)), .int .i64 (rowv (s 5))], .agg #[.int .i64 (rowv (p 0)), .int .i64 (rowv (p 1)), .int .i64 (rowv (p 2)), .int .i64 (rowv (p 3)), .int .i64 (rowv (p 4)), .int .i64 (rowv (p 5))]] w fun e w' => e = .returned (.agg #[.int .i64 (rowv (af s p 0)), .int .i64 (rowv (af s p 1)), .int .i64 (rowv (af s p 2)), .int .i64 (rowv (af s p 3)), .int .i64 (rowv (af s p 4)), .int .i64 (rowv (af s p 5))]) ∧ Below w.heap.size w w' := by
  have h := l2and_any (rowv (s 0)) (rowv (s 1)) (rowv (s 2)) (rowv (s 3)) (rowv (s 4)) (rowv (s 5)) (rowv (p 0)) (rowv (p 1)) (rowv (p 2)) (rowv (p 3)) (rowv (p 4)) (rowv (p 5)) w
  simp only [row_af] at h
  exact h
theorem ishared_f (s p : Fn6) (w : World) : Calls Try.prog 132 #[.agg #[.int .i64 (rowv (s 0)), .int .i64 (rowv (s 1)), .int .i64 (rowv (s 2)), .int .i64 (rowv (s 3)), .int .i64 (rowv (s 4)), .int .i64 (rowv (s 5))], .agg #[.int .i64 (rowv (p 0)), .int .i64 (rowv (p 1)), .int .i64 (rowv (p 2)), .int .i64 (rowv (p 3)), .int .i64 (rowv (p 4)), .int .i64 (rowv (p 5))]] w fun e w' => e = .returned (.agg #[.int .i64 (rowv (af s p 0)), .int .i64 (rowv (af s p 1)), .int .i64 (rowv (af s p 2)), .int .i64 (rowv (af s p 3)), .int .i64 (rowv (af s p 4)), .int .i64 (rowv (af s p 5))]) ∧ Below w.heap.size w w' := by
  have h := shared_any (rowv (s 0)) (rowv (s 1)) (rowv (s 2)) (rowv (s 3)) (rowv (s 4)) (rowv (s 5)) (rowv (p 0)) (rowv (p 1)) (rowv (p 2)) (rowv (p 3)) (rowv (p 4)) (rowv (p 5)) w
  simp only [row_af] at h
  exact h
theorem lcount_s (f : Fn6) (w : World) : Calls Try.prog 91 #[.agg #[.int .i64 (rowv (f 0)), .int .i64 (rowv (f 1)), .int .i64 (rowv (f 2)), .int .i64 (rowv (f 3)), .int .i64 (rowv (f 4)), .int .i64 (rowv (f 5))]] w fun e w' => e = .returned (.int .i64 (pc36 f)) ∧ Below w.heap.size w w' := l2count_any (rowv (f 0)) (rowv (f 1)) (rowv (f 2)) (rowv (f 3)) (rowv (f 4)) (rowv (f 5)) ⟨row_in (f 0), row_in (f 1), row_in (f 2), row_in (f 3), row_in (f 4), row_in (f 5)⟩ w
/-- Midway: the sheet's box, the answer's room, and in block g the meetings so far. -/
def Mx7 (w : World) (f : Fn6) (g : Nat) (m : Nat → Int) (W : World) : Prop := W.heap[w.heap.size]? = some (o6 f) ∧ W.heap[w.heap.size + 1]? = some (o36 fun _ => 0) ∧ W.heap[g]? = some (o36 m) ∧ w.heap.size + 1 < g ∧ g < W.heap.size ∧ Below w.heap.size w W
theorem Mx7.below {w W W' : World} {f : Fn6} {g M : Nat} {m : Nat → Int} (h : Mx7 w f g m W) (hb : Below M W W') (hM : M = W.heap.size) : Mx7 w f g m W' := by
  obtain ⟨h1, h2, h3, h4, h5, h6⟩ := h
  exact ⟨rowk h1 hb hM, rowk h2 hb hM, rowk h3 hb hM, h4, Nat.lt_of_lt_of_le h5 hb.size, below_of h6 hb (by omega)⟩
theorem Mx7.drew {w W : World} {f : Fn6} {g : Nat} {m : Nat → Int} (h : Mx7 w f g m W) : Mx7 w f g m W.drew := h.below (M := W.heap.size) (Below.refl _ _).drew rfl
theorem Mx7.put {w W : World} {f : Fn6} {g k : Nat} {m : Nat → Int} (h : Mx7 w f g m W) (hk : k < 36) (v : Int) : Mx7 w f g (up36 m k v) (W.setCell ⟨g, k, none⟩ (.int .i64 v)) := by
  obtain ⟨h1, h2, h3, h4, h5, h6⟩ := h
  refine ⟨?_, ?_, o36_set hk h3, h4, by simpa using h5, h6.setCell (show w.heap.size ≤ g by omega) _⟩
  · rw [Below.heap_setCell _ _ _ _ (show w.heap.size ≠ g by omega)]; exact h1
  · rw [Below.heap_setCell _ _ _ _ (show w.heap.size + 1 ≠ g by omega)]; exact h2
theorem SKm {w U : World} {f : Fn6} {g : Nat} {m : Nat → Int} (h : Mx7 w f g m U) : U.cell? ⟨w.heap.size, 0, none⟩ = some (.int .i64 (rowv (f 0))) ∧ U.cell? ⟨w.heap.size, 1, none⟩ = some (.int .i64 (rowv (f 1))) ∧ U.cell? ⟨w.heap.size, 2, none⟩ = some (.int .i64 (rowv (f 2))) ∧ U.cell? ⟨w.heap.size, 3, none⟩ = some (.int .i64 (rowv (f 3))) ∧ U.cell? ⟨w.heap.size, 4, none⟩ = some (.int .i64 (rowv (f 4))) ∧ U.cell? ⟨w.heap.size, 5, none⟩ = some (.int .i64 (rowv (f 5))) ∧ Mx7 w f g m U :=
  have h0 := fun j => cell_of_row U _ j _ _ _ h.1
  ⟨h0 0, h0 1, h0 2, h0 3, h0 4, h0 5, h⟩
end Go.Proofs.Ythphkhcppljdlaa
