/- THE PAIRS: for every argument the model's function and the code's answer the same: validity, and IsBlack. -/
import Derived.Test.YtnkjamdpafpcpaaSb
import Derived.Test.YtnkjamdpafpcpaaSd
import Derived.Test.YtnkjamdpafpcpaaWc
import Derived.WalkKit
import Derived.ProofKit
import Derived.OpenShut
import Derived.Lib.Hide
import Derived.WalkSpells
import Derived.Below
import Derived.BigQuiet
import Derived.LoopN
namespace Go.Proofs.Ytnkjamdpafpcpaa
open Go.ChangeShapes Go.WideShapes Go.ChangeAt Go.RowKit
set_option linter.unusedVariables false
theorem sh_as (a0 a1 a2 a3 a4 a5 : Int) {b : Bool} (h : (ok a0 && ok a1 && ok a2 && ok a3 && ok a4 && ok a5) = b) : Hid (∀ w, Calls Try.prog 106 #[.agg #[.int .i64 a0, .int .i64 a1, .int .i64 a2, .int .i64 a3, .int .i64 a4, .int .i64 a5]] w fun e w' => e = .returned (.bool b) ∧ Below w.heap.size w w') := Lib.hid (fun w => h ▸ l2sheet_any a0 a1 a2 a3 a4 a5 w)
theorem sh_ai (a0 a1 a2 a3 a4 a5 : Int) {b : Bool} (h : (ok a0 && ok a1 && ok a2 && ok a3 && ok a4 && ok a5) = b) : Hid (∀ w, Calls Try.prog 75 #[.agg #[.int .i64 a0, .int .i64 a1, .int .i64 a2, .int .i64 a3, .int .i64 a4, .int .i64 a5]] w fun e w' => e = .returned (.bool b) ∧ Below w.heap.size w w') := Lib.hid (fun w => h ▸ sheet_any a0 a1 a2 a3 a4 a5 w)
theorem ce_s (x y : Int) {b : Bool} (h : okc x y = b) : Hid (∀ w, Calls Try.prog 148 #[.agg #[.int .i64 x, .int .i64 y]] w fun e w' => e = .returned (.bool b) ∧ Below w.heap.size w w') := Lib.hid (fun w => h ▸ l2cell_any x y w)
theorem ce_i (x y : Int) (hx : (Lit.int .i64 x).wf = true) (hy : (Lit.int .i64 y).wf = true) {b : Bool} (h : okc x y = b) : Hid (∀ w, Calls Try.prog 174 #[.agg #[.int .i64 x, .int .i64 y]] w fun e w' => e = .returned (.bool b) ∧ Below w.heap.size w w') := Lib.hid (fun w => h ▸ iscell_any x y hx hy w)
theorem okc_in {x y : Int} (h : okc x y = true) : (0 ≤ x ∧ x ≤ 5) ∧ (0 ≤ y ∧ y ≤ 5) := by
  unfold okc at h
  simp only [Bool.and_eq_true, decide_eq_true_eq] at h
  exact h
theorem ok_in {a : Int} (h : ok a = true) : 0 ≤ a ∧ a ≤ 63 := by
  unfold ok at h
  simpa only [Bool.and_eq_true, decide_eq_true_eq] using h
theorem ok_all (a0 a1 a2 a3 a4 a5 : Int) (h : (ok a0 && ok a1 && ok a2 && ok a3 && ok a4 && ok a5) = true) : (0 ≤ a0 ∧ a0 ≤ 63) ∧ (0 ≤ a1 ∧ a1 ≤ 63) ∧ (0 ≤ a2 ∧ a2 ≤ 63) ∧ (0 ≤ a3 ∧ a3 ≤ 63) ∧ (0 ≤ a4 ∧ a4 ≤ 63) ∧ (0 ≤ a5 ∧ a5 ≤ 63) := by
  simp only [Bool.and_eq_true] at h
  exact ⟨ok_in h.1.1.1.1.1, ok_in h.1.1.1.1.2, ok_in h.1.1.1.2, ok_in h.1.1.2, ok_in h.1.2, ok_in h.2⟩
end Go.Proofs.Ytnkjamdpafpcpaa
