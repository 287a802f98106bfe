/- CONTRACTS: the model's shrinking. -/
import Derived.Test.YtkjaaaefcmpokaaSj5
import Derived.Test.YtkjaaaefcmpokaaTq
import Derived.Test.YtkjaaaefcmpokaaSe
import Derived.Deep.RegionHeld3
import Derived.WalkKit
import Derived.ProofKit
import Derived.OpenShut
import Derived.Lib.Hide
import Derived.WalkSpells
import Derived.Below
import Derived.BigQuiet
import Derived.LoopN
namespace Go.Proofs.Ytkjaaaefcmpokaa
open Go.ChangeShapes Go.WideShapes Go.ChangeAt Go.RowKit
set_option linter.unusedVariables false
def si5 : Nat → Nat → Nat × Nat := fun a b => (a, b)
theorem only_i {y x : Nat} (hx : x < 6) : Only si5 y x y x := ⟨rfl, fun a b _ hb => ⟨hb, fun e => by simp only [si5, Prod.mk.injEq] at e; exact e⟩⟩
/-- Midway in a shrinking: n cells are looked at. -/
def Th5 (w : World) (s p : Nat → Nat → Bool) (n : Nat) (W : World) : Prop :=
  KR 3 [(w.heap.size, o6 s), (w.heap.size + 1, o6 p), (w.heap.size + 2, oz)] w W ∧ W.heap[w.heap.size + 3]? = some (o6 (hv si5 (shr s p) n)) ∧ w.heap.size + 4 ≤ W.heap.size
theorem Th5.below {w W W' : World} {s p : Nat → Nat → Bool} {n M : Nat} (h : Th5 w s p n W) (hb : Below M W W') (hM : M = W.heap.size) : Th5 w s p n W' :=
  ⟨h.1.far hb hM, rowk h.2.1 hb hM, Nat.le_trans h.2.2 hb.size⟩
theorem Th5.white {w W : World} {s p : Nat → Nat → Bool} {y x : Nat} (h : Th5 w s p (6 * y + x) W) (hx : x < 6) (hf : shr s p y x = false) : Th5 w s p (6 * y + x + 1) W := by
  refine ⟨h.1, ?_, h.2.2⟩
  have e : o6 (hv si5 (shr s p) (6 * y + x + 1)) = o6 (hv si5 (shr s p) (6 * y + x)) := by
    unfold o6
    rw [hv_row_none hx (only_i hx) hf (show 0 < 6 by decide), hv_row_none hx (only_i hx) hf (show 1 < 6 by decide), hv_row_none hx (only_i hx) hf (show 2 < 6 by decide), hv_row_none hx (only_i hx) hf (show 3 < 6 by decide), hv_row_none hx (only_i hx) hf (show 4 < 6 by decide), hv_row_none hx (only_i hx) hf (show 5 < 6 by decide)]
  rw [e]
  exact h.2.1
theorem Th5.black {w W : World} {s p : Nat → Nat → Bool} {n q : Nat} (h : Th5 w s p n W) : Th5 w s p q ((((((W.setCell ⟨w.heap.size + 3, 0, none⟩ (.int .i64 (rowv (hv si5 (shr s p) q 0)))).setCell ⟨w.heap.size + 3, 1, none⟩ (.int .i64 (rowv (hv si5 (shr s p) q 1)))).setCell ⟨w.heap.size + 3, 2, none⟩ (.int .i64 (rowv (hv si5 (shr s p) q 2)))).setCell ⟨w.heap.size + 3, 3, none⟩ (.int .i64 (rowv (hv si5 (shr s p) q 3)))).setCell ⟨w.heap.size + 3, 4, none⟩ (.int .i64 (rowv (hv si5 (shr s p) q 4)))).setCell ⟨w.heap.size + 3, 5, none⟩ (.int .i64 (rowv (hv si5 (shr s p) q 5)))) := by
  have hg := Nat.le_refl (w.heap.size + 3)
  exact ⟨h.1.set hg |>.set hg |>.set hg |>.set hg |>.set hg |>.set hg, set6a _ _ _ _ _ _ h.2.1, by simpa using h.2.2⟩
theorem Th5_s {w U : World} {s p : Nat → Nat → Bool} {n : Nat} (h : Th5 w s p n U) : ∀ j, U.cell? ⟨w.heap.size, j, none⟩ = (#[.int .i64 (rowv (s 0)), .int .i64 (rowv (s 1)), .int .i64 (rowv (s 2)), .int .i64 (rowv (s 3)), .int .i64 (rowv (s 4)), .int .i64 (rowv (s 5))] : Array Value)[j]? := fun j => cell_of_row U _ j _ _ _ (h.1.row (g := w.heap.size) (o := o6 s) (by simp))
theorem Th5_p {w U : World} {s p : Nat → Nat → Bool} {n : Nat} (h : Th5 w s p n U) : ∀ j, U.cell? ⟨w.heap.size + 1, j, none⟩ = (#[.int .i64 (rowv (p 0)), .int .i64 (rowv (p 1)), .int .i64 (rowv (p 2)), .int .i64 (rowv (p 3)), .int .i64 (rowv (p 4)), .int .i64 (rowv (p 5))] : Array Value)[j]? := fun j => cell_of_row U _ j _ _ _ (h.1.row (g := w.heap.size + 1) (o := o6 p) (by simp))
theorem l2part_f (s p : Nat → Nat → Bool) {x y : Nat} (hx : x < 6) (hy : y < 6) (w : World) : Calls Try.prog 278 #[.agg #[.int .i64 (rowv (sf x y p 0)), .int .i64 (rowv (sf x y p 1)), .int .i64 (rowv (sf x y p 2)), .int .i64 (rowv (sf x y p 3)), .int .i64 (rowv (sf x y p 4)), .int .i64 (rowv (sf x y p 5))], .agg #[.int .i64 (rowv (s 0)), .int .i64 (rowv (s 1)), .int .i64 (rowv (s 2)), .int .i64 (rowv (s 3)), .int .i64 (rowv (s 4)), .int .i64 (rowv (s 5))]] w fun e w' => e = .returned (.bool (shr s p y x)) ∧ Below w.heap.size w w' := by
  have H := l2part_any (rowv (sf x y p 0)) (rowv (sf x y p 1)) (rowv (sf x y p 2)) (rowv (sf x y p 3)) (rowv (sf x y p 4)) (rowv (sf x y p 5)) (rowv (s 0)) (rowv (s 1)) (rowv (s 2)) (rowv (s 3)) (rowv (s 4)) (rowv (s 5)) w
  rw [part_bit s p hx hy] at H
  exact H
theorem l2shift_n (p : Nat → Nat → Bool) {x y : Nat} (hx : x < 6) (hy : y < 6) (w : World) : Calls Try.prog 167 #[.agg #[.int .i64 (rowv (p 0)), .int .i64 (rowv (p 1)), .int .i64 (rowv (p 2)), .int .i64 (rowv (p 3)), .int .i64 (rowv (p 4)), .int .i64 (rowv (p 5))], .int .i64 (x : Int), .int .i64 (y : Int)] w fun e w' => e = .returned (.agg #[.int .i64 (rowv (sf x y p 0)), .int .i64 (rowv (sf x y p 1)), .int .i64 (rowv (sf x y p 2)), .int .i64 (rowv (sf x y p 3)), .int .i64 (rowv (sf x y p 4)), .int .i64 (rowv (sf x y p 5))]) ∧ Below w.heap.size w w' := l2shift_f p (x : Int) (y : Int) (WalkArith.wf_i64 (by omega)) (WalkArith.wf_i64 (by omega)) hx hy (by omega) (by omega) w
end Go.Proofs.Ytkjaaaefcmpokaa
