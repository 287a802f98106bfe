/- CONTRACTS: turned sheets in the code. -/
import Derived.Test.YtcjomhjgjdjigaaTc
import Derived.Test.YtcjomhjgjdjigaaRg
import Derived.Deep.RegionHeld3
import Derived.RegionTactic
import Derived.WalkKit
import Derived.ProofKit
import Derived.OpenShut
import Derived.Lib.Hide
import Derived.WalkSpells
import Derived.Below
import Derived.BigQuiet
import Derived.LoopN
namespace Go.Proofs.Ytcjomhjgjdjigaa
open Go.ChangeShapes Go.WideShapes Go.ChangeAt Go.RowKit
set_option linter.unusedVariables false
theorem has_f (f : Nat → Nat → Bool) {y x : Nat} (hy : y < 6) (hx : x < 6) (w : World) : Calls Try.prog 154 #[.agg #[.int .i64 (rowv (f 0)), .int .i64 (rowv (f 1)), .int .i64 (rowv (f 2)), .int .i64 (rowv (f 3)), .int .i64 (rowv (f 4)), .int .i64 (rowv (f 5))], .agg #[.int .i64 (x : Int), .int .i64 (y : Int)]] w fun e w' => e = .returned (.bool (f y x)) ∧ Below w.heap.size w w' := by
  have H := has_any (rowv (f 0)) (rowv (f 1)) (rowv (f 2)) (rowv (f 3)) (rowv (f 4)) (rowv (f 5)) (x : Int) (y : Int) ⟨by omega, by omega⟩ ⟨by omega, by omega⟩ w
  rw [cell_black f hy hx] at H
  exact H
theorem Tu.set {w W : World} {s : Nat → Nat → Nat × Nat} {f : Nat → Nat → Bool} {p q : Nat} {da : Nat} {v : Int} (h : Tu w s f p W) (hda : da < 6) (hv1 : v = rowv (hv s f q da)) (hv2 : ∀ r, r < 6 → r ≠ da → rowv (hv s f q r) = rowv (hv s f p r)) : Tu w s f q (W.setCell ⟨w.heap.size + 2, da, none⟩ (.int .i64 v)) := by
  obtain ⟨h1, h2, h3, h4, h5⟩ := h
  refine ⟨h1.setCell (by simp) _, ?_, ?_, ?_, by simpa using h5⟩
  · rw [Below.heap_setCell _ _ _ _ (show w.heap.size ≠ w.heap.size + 2 by omega)]; exact h2
  · rw [Below.heap_setCell _ _ _ _ (show w.heap.size + 1 ≠ w.heap.size + 2 by omega)]; exact h3
  · have e := heap_setCell_same W (w.heap.size + 2) da _ 36 (.int .i64 v) h4
    rw [e, hv1]
    rcases six_n hda with rfl | rfl | rfl | rfl | rfl | rfl
    · rw [hv2 1 (by decide) (by decide), hv2 2 (by decide) (by decide), hv2 3 (by decide) (by decide), hv2 4 (by decide) (by decide), hv2 5 (by decide) (by decide)]; rfl
    · rw [hv2 0 (by decide) (by decide), hv2 2 (by decide) (by decide), hv2 3 (by decide) (by decide), hv2 4 (by decide) (by decide), hv2 5 (by decide) (by decide)]; rfl
    · rw [hv2 0 (by decide) (by decide), hv2 1 (by decide) (by decide), hv2 3 (by decide) (by decide), hv2 4 (by decide) (by decide), hv2 5 (by decide) (by decide)]; rfl
    · rw [hv2 0 (by decide) (by decide), hv2 1 (by decide) (by decide), hv2 2 (by decide) (by decide), hv2 4 (by decide) (by decide), hv2 5 (by decide) (by decide)]; rfl
    · rw [hv2 0 (by decide) (by decide), hv2 1 (by decide) (by decide), hv2 2 (by decide) (by decide), hv2 3 (by decide) (by decide), hv2 5 (by decide) (by decide)]; rfl
    · rw [hv2 0 (by decide) (by decide), hv2 1 (by decide) (by decide), hv2 2 (by decide) (by decide), hv2 3 (by decide) (by decide), hv2 4 (by decide) (by decide)]; rfl
theorem Tu.row {w W : World} {s : Nat → Nat → Nat × Nat} {f : Nat → Nat → Bool} {y x da db : Nat} (h : Tu w s f (6 * y + x) W) (hx : x < 6) (hda : da < 6) (hdb : db < 6) (ho : Only s y x da db) (hf : f y x = true) : Tu w s f (6 * y + x + 1) (W.setCell ⟨w.heap.size + 2, da, none⟩ (.int .i64 (bits .or .i64 (rowv (hv s f (6 * y + x) da)) (wrap64 (2 ^ ((db : Int)).toNat))))) := by
  refine h.set hda ?_ fun r hr hne => ?_
  · rw [hv_row_or hx hdb ho hf hda, if_pos rfl]
  · rw [hv_row_or hx hdb ho hf hr, if_neg (by omega)]
theorem Tu.drew {w W : World} {s : Nat → Nat → Nat × Nat} {f : Nat → Nat → Bool} {p : Nat} (h : Tu w s f p W) : Tu w s f p W.drew := ⟨h.1.drew, h.2⟩
theorem Tu.alloc {w W : World} {s : Nat → Nat → Nat × Nat} {f : Nat → Nat → Bool} {p : Nat} (h : Tu w s f p W) (o : Obj) : Tu w s f p (W.alloc o) := by
  obtain ⟨h1, h2, h3, h4, h5⟩ := h
  exact ⟨h1.alloc (by omega) _, alloc_past h2, alloc_past h3, alloc_past h4, by simp; omega⟩
end Go.Proofs.Ytcjomhjgjdjigaa
