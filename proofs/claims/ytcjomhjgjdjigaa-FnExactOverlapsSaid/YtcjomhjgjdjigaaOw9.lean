/- PLAIN LEMMAS: pairs of places with a cell in common; midway in Overlaps. -/
import Derived.Test.YtcjomhjgjdjigaaOv9
import Derived.Test.YtcjomhjgjdjigaaRl8
import Derived.Maps.AppendAt
import Derived.WalkKit
import Derived.ProofKit
import Derived.OpenShut
import Derived.Lib.Hide
import Derived.WalkSpells
import Derived.Below
import Derived.BigQuiet
import Derived.LoopN
namespace Go.Proofs.Ytcjomhjgjdjigaa
open Go.ChangeShapes Go.WideShapes Go.ChangeAt Go.RowKit
set_option linter.unusedVariables false
theorem okR_ex {p : Pn} (h : okR p = true) : ∃ (k : Int) (f : Nat → Nat → Bool) (x y : Nat), p.cells = [.int .i64 k, .int .i64 (rowv (f 0)), .int .i64 (rowv (f 1)), .int .i64 (rowv (f 2)), .int .i64 (rowv (f 3)), .int .i64 (rowv (f 4)), .int .i64 (rowv (f 5)), .int .i64 (x : Int), .int .i64 (y : Int)] ∧ x < 6 ∧ y < 6 ∧ gsP p = sf x y f ∧ p.k = k := by
  obtain ⟨hc, hx, hy, _⟩ := okR_form h
  exact ⟨p.k, _, _, _, hc, hx, hy, rfl, rfl⟩
/-- The pairs of i and a later place below k that a test takes. -/
def iv8 (p : Nat → Bool) (i : Nat) : Nat → List (Nat × Nat)
  | 0 => []
  | k + 1 => iv8 p i k ++ (if i < k && p k then [(i, k)] else [])
theorem iv8_low (p : Nat → Bool) (i : Nat) : ∀ k, k ≤ i + 1 → iv8 p i k = []
  | 0, _ => rfl
  | k + 1, h => by
    show iv8 p i k ++ _ = _
    rw [iv8_low p i k (by omega), decide_eq_false (by omega)]
    rfl
theorem iv8_no {p : Nat → Bool} {i k : Nat} (h : p k = false) : iv8 p i (k + 1) = iv8 p i k := by
  show iv8 p i k ++ _ = _
  rw [h, Bool.and_false]
  simp
theorem iv8_yes {p : Nat → Bool} {i k : Nat} (hi : i < k) (h : p k = true) : iv8 p i (k + 1) = iv8 p i k ++ [(i, k)] := by
  show iv8 p i k ++ _ = _
  rw [h, decide_eq_true hi]
  rfl
theorem iv8_len (p : Nat → Bool) (i : Nat) : ∀ k, (iv8 p i k).length ≤ k
  | 0 => Nat.le_refl _
  | k + 1 => by
    have := iv8_len p i k
    show (iv8 p i k ++ _).length ≤ _
    split <;> simp <;> omega
/-- Whether two prints of a list have a cell in common. -/
def ovb (z : List Pn) (i k : Nat) : Bool := !emp8 (an8 (gsP (z.getD i pn0)) (gsP (z.getD k pn0)))
/-- The pairs whose first place is below i. -/
def ovl (z : List Pn) : Nat → List (Nat × Nat)
  | 0 => []
  | i + 1 => ovl z i ++ iv8 (ovb z i) i z.length
theorem ovl_len (z : List Pn) : ∀ i, (ovl z i).length ≤ i * z.length
  | 0 => by simp [ovl]
  | i + 1 => by
    have := ovl_len z i
    have h2 := iv8_len (ovb z i) i z.length
    show (ovl z i ++ _).length ≤ _
    rw [List.length_append, Nat.add_mul]
    omega
theorem ovl_six (z : List Pn) (hz : z.length ≤ 6) {i k : Nat} (hi : i < z.length) (hk : k ≤ z.length) : (ovl z i ++ iv8 (ovb z i) i k).length ≤ 36 := by
  have h1 := ovl_len z i
  have h2 := iv8_len (ovb z i) i k
  have h3 : i * z.length ≤ 5 * 6 := Nat.mul_le_mul (by omega) hz
  rw [List.length_append]
  omega
theorem getD9 {z : List Pn} {i : Nat} (h : i < z.length) : z.getD i pn0 = z[i] := by
  rw [List.getD_eq_getElem?_getD, List.getElem?_eq_getElem h]
  rfl
/-- Midway: the pairs so far in a row of their own, the prints in theirs. -/
def Ov9 (w : World) (z : List Pn) (g c : Nat) (xs : List (Nat × Nat)) (v : Value) (U : World) : Prop := Rl 0 [] w xs v U ∧ Op9 0 g c z U ∧ g < w.heap.size
theorem Ov9.below {w U V : World} {z : List Pn} {g c : Nat} {xs : List (Nat × Nat)} {v : Value} {M : Nat} (h : Ov9 w z g c xs v U) (hb : Below M U V) (hM : M = U.heap.size) : Ov9 w z g c xs v V := ⟨h.1.below hb hM, h.2.1.below hb hM, h.2.2⟩
theorem Ov9.drew {w U : World} {z : List Pn} {g c : Nat} {xs : List (Nat × Nat)} {v : Value} (h : Ov9 w z g c xs v U) : Ov9 w z g c xs v U.drew := h.below (M := U.heap.size) (Below.refl _ _).drew rfl
theorem Ov9.al {w U : World} {z : List Pn} {g c : Nat} {xs : List (Nat × Nat)} {v : Value} (h : Ov9 w z g c xs v U) (o : Obj) : Ov9 w z g c xs v (U.alloc o) := h.below (M := U.heap.size) ((Below.refl _ _).alloc (Nat.le_refl _) o) rfl
theorem Ov9.snoc {w W w1 : World} {z : List Pn} {g c : Nat} {xs : List (Nat × Nat)} {x y : Nat} {v v' : Value} (h : Ov9 w z g c xs v W) (hown : w1.ownsRow (w.heap.size + 0) 32 2 v' (xs.length + 1) (cv xs ++ [.int .i64 (x : Int), .int .i64 (y : Int)])) (hg : W.grownBy w1 v.ownBlock) (hn : v' = .slice none 0 0 ↔ v = .slice none 0 0 ∧ 1 = 0) : Ov9 w z g c (xs ++ [(x, y)]) v' w1 := by
  refine ⟨h.1.snoc hown hg hn, ?_, h.2.2⟩
  obtain ⟨_, g2, cap2, rfl, ho⟩ := h.1
  have := (ho.lt g2 rfl).1
  exact h.2.1.kept hg (.inr (by simp only [Value.ownBlock, ne_eq, Option.some.injEq]; have := h.2.2; omega))
/-- .. and a print in a block of its own. -/
def Ow9 (w : World) (z : List Pn) (g c : Nat) (xs : List (Nat × Nat)) (v : Value) (gb : Nat) (o : Obj) (U : World) : Prop := Ov9 w z g c xs v U ∧ U.heap[gb]? = some o ∧ v.ownBlock ≠ some gb
theorem Ow9.below {w U V : World} {z : List Pn} {g c : Nat} {xs : List (Nat × Nat)} {v : Value} {gb : Nat} {o : Obj} {M : Nat} (h : Ow9 w z g c xs v gb o U) (hb : Below M U V) (hM : M = U.heap.size) : Ow9 w z g c xs v gb o V := ⟨h.1.below hb hM, rowk h.2.1 hb hM, h.2.2⟩
theorem Ow9.drew {w U : World} {z : List Pn} {g c : Nat} {xs : List (Nat × Nat)} {v : Value} {gb : Nat} {o : Obj} (h : Ow9 w z g c xs v gb o U) : Ow9 w z g c xs v gb o U.drew := h.below (M := U.heap.size) (Below.refl _ _).drew rfl
theorem Ow9.al {w U : World} {z : List Pn} {g c : Nat} {xs : List (Nat × Nat)} {v : Value} {gb : Nat} {o : Obj} (h : Ow9 w z g c xs v gb o U) (ob : Obj) : Ow9 w z g c xs v gb o (U.alloc ob) := h.below (M := U.heap.size) ((Below.refl _ _).alloc (Nat.le_refl _) ob) rfl
theorem Ow9.snoc {w W w1 : World} {z : List Pn} {g c : Nat} {xs : List (Nat × Nat)} {x y : Nat} {v v' : Value} {gb : Nat} {o : Obj} (h : Ow9 w z g c xs v gb o W) (hown : w1.ownsRow (w.heap.size + 0) 32 2 v' (xs.length + 1) (cv xs ++ [.int .i64 (x : Int), .int .i64 (y : Int)])) (hg : W.grownBy w1 v.ownBlock) (hn : v' = .slice none 0 0 ↔ v = .slice none 0 0 ∧ 1 = 0) (hat : v'.ownBlock = v.ownBlock ∨ v'.ownBlock = some W.heap.size) : Ow9 w z g c (xs ++ [(x, y)]) v' gb o w1 := by
  have hl := row_lt h.2.1
  refine ⟨h.1.snoc hown hg hn, ?_, ?_⟩
  · rw [hg.block gb hl (fun e => h.2.2 e.symm)]
    exact h.2.1
  · rcases hat with e | e
    · rw [e]; exact h.2.2
    · rw [e]; simp only [ne_eq, Option.some.injEq]; omega
theorem SKo {w U : World} {z : List Pn} {g c : Nat} {xs : List (Nat × Nat)} {v : Value} {i j : Nat} {k1 k2 : Int} {f1 f2 : Nat → Nat → Bool} {x1 y1 x2 y2 : Nat} (h : Ov9 w z g c xs v U) (hi : i < z.length) (hj : j < z.length) (h1 : z[i].cells = [.int .i64 k1, .int .i64 (rowv (f1 0)), .int .i64 (rowv (f1 1)), .int .i64 (rowv (f1 2)), .int .i64 (rowv (f1 3)), .int .i64 (rowv (f1 4)), .int .i64 (rowv (f1 5)), .int .i64 (x1 : Int), .int .i64 (y1 : Int)]) (h2 : z[j].cells = [.int .i64 k2, .int .i64 (rowv (f2 0)), .int .i64 (rowv (f2 1)), .int .i64 (rowv (f2 2)), .int .i64 (rowv (f2 3)), .int .i64 (rowv (f2 4)), .int .i64 (rowv (f2 5)), .int .i64 (x2 : Int), .int .i64 (y2 : Int)]) : U.cell? ⟨g, i * 9, none⟩ = some (.int .i64 k1) ∧ U.cell? ⟨g, i * 9 + 1, none⟩ = some (.int .i64 (rowv (f1 0))) ∧ U.cell? ⟨g, i * 9 + 2, none⟩ = some (.int .i64 (rowv (f1 1))) ∧ U.cell? ⟨g, i * 9 + 3, none⟩ = some (.int .i64 (rowv (f1 2))) ∧ U.cell? ⟨g, i * 9 + 4, none⟩ = some (.int .i64 (rowv (f1 3))) ∧ U.cell? ⟨g, i * 9 + 5, none⟩ = some (.int .i64 (rowv (f1 4))) ∧ U.cell? ⟨g, i * 9 + 6, none⟩ = some (.int .i64 (rowv (f1 5))) ∧ U.cell? ⟨g, i * 9 + 7, none⟩ = some (.int .i64 (x1 : Int)) ∧ U.cell? ⟨g, i * 9 + 8, none⟩ = some (.int .i64 (y1 : Int)) ∧ U.cell? ⟨g, j * 9, none⟩ = some (.int .i64 k2) ∧ U.cell? ⟨g, j * 9 + 1, none⟩ = some (.int .i64 (rowv (f2 0))) ∧ U.cell? ⟨g, j * 9 + 2, none⟩ = some (.int .i64 (rowv (f2 1))) ∧ U.cell? ⟨g, j * 9 + 3, none⟩ = some (.int .i64 (rowv (f2 2))) ∧ U.cell? ⟨g, j * 9 + 4, none⟩ = some (.int .i64 (rowv (f2 3))) ∧ U.cell? ⟨g, j * 9 + 5, none⟩ = some (.int .i64 (rowv (f2 4))) ∧ U.cell? ⟨g, j * 9 + 6, none⟩ = some (.int .i64 (rowv (f2 5))) ∧ U.cell? ⟨g, j * 9 + 7, none⟩ = some (.int .i64 (x2 : Int)) ∧ U.cell? ⟨g, j * 9 + 8, none⟩ = some (.int .i64 (y2 : Int)) ∧ Ov9 w z g c xs v U := by
  have q1 := h.2.1.range hi
  have q2 := h.2.1.range hj
  rw [h1] at q1
  rw [h2] at q2
  exact ⟨q1 0 _ rfl, q1 1 _ rfl, q1 2 _ rfl, q1 3 _ rfl, q1 4 _ rfl, q1 5 _ rfl, q1 6 _ rfl, q1 7 _ rfl, q1 8 _ rfl, q2 0 _ rfl, q2 1 _ rfl, q2 2 _ rfl, q2 3 _ rfl, q2 4 _ rfl, q2 5 _ rfl, q2 6 _ rfl, q2 7 _ rfl, q2 8 _ rfl, h⟩
theorem SKw {w U : World} {z : List Pn} {g c : Nat} {xs : List (Nat × Nat)} {v : Value} {gb j : Nat} {k1 k2 : Int} {f1 f2 : Nat → Nat → Bool} {x1 y1 x2 y2 : Nat} (h : Ow9 w z g c xs v gb (pr9 k1 f1 x1 y1) U) (hj : j < z.length) (h2 : z[j].cells = [.int .i64 k2, .int .i64 (rowv (f2 0)), .int .i64 (rowv (f2 1)), .int .i64 (rowv (f2 2)), .int .i64 (rowv (f2 3)), .int .i64 (rowv (f2 4)), .int .i64 (rowv (f2 5)), .int .i64 (x2 : Int), .int .i64 (y2 : Int)]) : U.cell? ⟨gb, 0, none⟩ = some (.int .i64 k1) ∧ U.cell? ⟨gb, 1, none⟩ = some (.int .i64 (rowv (f1 0))) ∧ U.cell? ⟨gb, 2, none⟩ = some (.int .i64 (rowv (f1 1))) ∧ U.cell? ⟨gb, 3, none⟩ = some (.int .i64 (rowv (f1 2))) ∧ U.cell? ⟨gb, 4, none⟩ = some (.int .i64 (rowv (f1 3))) ∧ U.cell? ⟨gb, 5, none⟩ = some (.int .i64 (rowv (f1 4))) ∧ U.cell? ⟨gb, 6, none⟩ = some (.int .i64 (rowv (f1 5))) ∧ U.cell? ⟨gb, 7, none⟩ = some (.int .i64 (x1 : Int)) ∧ U.cell? ⟨gb, 8, none⟩ = some (.int .i64 (y1 : Int)) ∧ U.cell? ⟨g, j * 9, none⟩ = some (.int .i64 k2) ∧ U.cell? ⟨g, j * 9 + 1, none⟩ = some (.int .i64 (rowv (f2 0))) ∧ U.cell? ⟨g, j * 9 + 2, none⟩ = some (.int .i64 (rowv (f2 1))) ∧ U.cell? ⟨g, j * 9 + 3, none⟩ = some (.int .i64 (rowv (f2 2))) ∧ U.cell? ⟨g, j * 9 + 4, none⟩ = some (.int .i64 (rowv (f2 3))) ∧ U.cell? ⟨g, j * 9 + 5, none⟩ = some (.int .i64 (rowv (f2 4))) ∧ U.cell? ⟨g, j * 9 + 6, none⟩ = some (.int .i64 (rowv (f2 5))) ∧ U.cell? ⟨g, j * 9 + 7, none⟩ = some (.int .i64 (x2 : Int)) ∧ U.cell? ⟨g, j * 9 + 8, none⟩ = some (.int .i64 (y2 : Int)) ∧ Ow9 w z g c xs v gb (pr9 k1 f1 x1 y1) U := by
  have q1 := fun j => cell_of_row U _ j _ _ _ h.2.1
  have q2 := h.1.2.1.range hj
  rw [h2] at q2
  exact ⟨q1 0, q1 1, q1 2, q1 3, q1 4, q1 5, q1 6, q1 7, q1 8, q2 0 _ rfl, q2 1 _ rfl, q2 2 _ rfl, q2 3 _ rfl, q2 4 _ rfl, q2 5 _ rfl, q2 6 _ rfl, q2 7 _ rfl, q2 8 _ rfl, h⟩
end Go.Proofs.Ytcjomhjgjdjigaa
