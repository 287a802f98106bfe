/- THE PAIRS: BothOf, EitherOf, DifferOf. -/
import Derived.Test.YtgbcgepkkgodpaaPb
import Derived.Test.YtgbcgepkkgodpaaWb
import Derived.WalkKit
import Derived.ProofKit
import Derived.OpenShut
import Derived.Lib.Hide
import Derived.WalkSpells
import Derived.Below
import Derived.BigQuiet
import Derived.LoopN
namespace Go.Proofs.Ytgbcgepkkgodpaa
open Go.ChangeShapes Go.WideShapes Go.ChangeAt Go.RowKit
set_option linter.unusedVariables false
theorem both_pair (a0 a1 a2 a3 a4 a5 : Int) (b0 b1 b2 b3 b4 b5 : Int)  : ∃ (r0 r1 r2 r3 r4 r5 : Int) (t : Bool), (∀ w, Calls Try.prog 41 #[.agg #[.int .i64 a0, .int .i64 a1, .int .i64 a2, .int .i64 a3, .int .i64 a4, .int .i64 a5], .agg #[.int .i64 b0, .int .i64 b1, .int .i64 b2, .int .i64 b3, .int .i64 b4, .int .i64 b5]] w fun e w' => e = .returned (.tuple #[.agg #[.int .i64 r0, .int .i64 r1, .int .i64 r2, .int .i64 r3, .int .i64 r4, .int .i64 r5], .bool t]) ∧ Below w.heap.size w w') ∧ (∀ w, Calls Try.prog 42 #[.agg #[.int .i64 a0, .int .i64 a1, .int .i64 a2, .int .i64 a3, .int .i64 a4, .int .i64 a5], .agg #[.int .i64 b0, .int .i64 b1, .int .i64 b2, .int .i64 b3, .int .i64 b4, .int .i64 b5]] w fun e w' => e = .returned (.tuple #[.agg #[.int .i64 r0, .int .i64 r1, .int .i64 r2, .int .i64 r3, .int .i64 r4, .int .i64 r5], .bool t]) ∧ Below w.heap.size w w') := by
  cases hv : (ok a0 && ok a1 && ok a2 && ok a3 && ok a4 && ok a5)
  · exact ⟨0, 0, 0, 0, 0, 0, false, fun w => sboth_no0 a0 a1 a2 a3 a4 a5 b0 b1 b2 b3 b4 b5 (sh_as a0 a1 a2 a3 a4 a5 hv) w, fun w => iboth_no0 a0 a1 a2 a3 a4 a5 b0 b1 b2 b3 b4 b5 (sh_ai a0 a1 a2 a3 a4 a5 hv) w⟩
  · cases hc : (ok b0 && ok b1 && ok b2 && ok b3 && ok b4 && ok b5)
    · exact ⟨0, 0, 0, 0, 0, 0, false, fun w => sboth_no1 a0 a1 a2 a3 a4 a5 b0 b1 b2 b3 b4 b5 (sh_as a0 a1 a2 a3 a4 a5 hv) (sh_as b0 b1 b2 b3 b4 b5 hc) w, fun w => iboth_no1 a0 a1 a2 a3 a4 a5 b0 b1 b2 b3 b4 b5 (sh_ai a0 a1 a2 a3 a4 a5 hv) (sh_ai b0 b1 b2 b3 b4 b5 hc) w⟩
    · exact ⟨_, _, _, _, _, _, true, fun w => sboth_yes a0 a1 a2 a3 a4 a5 b0 b1 b2 b3 b4 b5 _ _ _ _ _ _ (sh_as a0 a1 a2 a3 a4 a5 hv) (sh_as b0 b1 b2 b3 b4 b5 hc) (Lib.hid (l2and_any a0 a1 a2 a3 a4 a5 b0 b1 b2 b3 b4 b5)) w, fun w => iboth_yes a0 a1 a2 a3 a4 a5 b0 b1 b2 b3 b4 b5 _ _ _ _ _ _ (sh_ai a0 a1 a2 a3 a4 a5 hv) (sh_ai b0 b1 b2 b3 b4 b5 hc) (Lib.hid (shared_any a0 a1 a2 a3 a4 a5 b0 b1 b2 b3 b4 b5)) w⟩
theorem either_pair (a0 a1 a2 a3 a4 a5 : Int) (b0 b1 b2 b3 b4 b5 : Int)  : ∃ (r0 r1 r2 r3 r4 r5 : Int) (t : Bool), (∀ w, Calls Try.prog 43 #[.agg #[.int .i64 a0, .int .i64 a1, .int .i64 a2, .int .i64 a3, .int .i64 a4, .int .i64 a5], .agg #[.int .i64 b0, .int .i64 b1, .int .i64 b2, .int .i64 b3, .int .i64 b4, .int .i64 b5]] w fun e w' => e = .returned (.tuple #[.agg #[.int .i64 r0, .int .i64 r1, .int .i64 r2, .int .i64 r3, .int .i64 r4, .int .i64 r5], .bool t]) ∧ Below w.heap.size w w') ∧ (∀ w, Calls Try.prog 44 #[.agg #[.int .i64 a0, .int .i64 a1, .int .i64 a2, .int .i64 a3, .int .i64 a4, .int .i64 a5], .agg #[.int .i64 b0, .int .i64 b1, .int .i64 b2, .int .i64 b3, .int .i64 b4, .int .i64 b5]] w fun e w' => e = .returned (.tuple #[.agg #[.int .i64 r0, .int .i64 r1, .int .i64 r2, .int .i64 r3, .int .i64 r4, .int .i64 r5], .bool t]) ∧ Below w.heap.size w w') := by
  cases hv : (ok a0 && ok a1 && ok a2 && ok a3 && ok a4 && ok a5)
  · exact ⟨0, 0, 0, 0, 0, 0, false, fun w => seither_no0 a0 a1 a2 a3 a4 a5 b0 b1 b2 b3 b4 b5 (sh_as a0 a1 a2 a3 a4 a5 hv) w, fun w => ieither_no0 a0 a1 a2 a3 a4 a5 b0 b1 b2 b3 b4 b5 (sh_ai a0 a1 a2 a3 a4 a5 hv) w⟩
  · cases hc : (ok b0 && ok b1 && ok b2 && ok b3 && ok b4 && ok b5)
    · exact ⟨0, 0, 0, 0, 0, 0, false, fun w => seither_no1 a0 a1 a2 a3 a4 a5 b0 b1 b2 b3 b4 b5 (sh_as a0 a1 a2 a3 a4 a5 hv) (sh_as b0 b1 b2 b3 b4 b5 hc) w, fun w => ieither_no1 a0 a1 a2 a3 a4 a5 b0 b1 b2 b3 b4 b5 (sh_ai a0 a1 a2 a3 a4 a5 hv) (sh_ai b0 b1 b2 b3 b4 b5 hc) w⟩
    · exact ⟨_, _, _, _, _, _, true, fun w => seither_yes a0 a1 a2 a3 a4 a5 b0 b1 b2 b3 b4 b5 _ _ _ _ _ _ (sh_as a0 a1 a2 a3 a4 a5 hv) (sh_as b0 b1 b2 b3 b4 b5 hc) (Lib.hid (l2or_any a0 a1 a2 a3 a4 a5 b0 b1 b2 b3 b4 b5)) w, fun w => ieither_yes a0 a1 a2 a3 a4 a5 b0 b1 b2 b3 b4 b5 _ _ _ _ _ _ (sh_ai a0 a1 a2 a3 a4 a5 hv) (sh_ai b0 b1 b2 b3 b4 b5 hc) (Lib.hid (or_any a0 a1 a2 a3 a4 a5 b0 b1 b2 b3 b4 b5)) w⟩
theorem differ_pair (a0 a1 a2 a3 a4 a5 : Int) (b0 b1 b2 b3 b4 b5 : Int)  : ∃ (r0 r1 r2 r3 r4 r5 : Int) (t : Bool), (∀ w, Calls Try.prog 45 #[.agg #[.int .i64 a0, .int .i64 a1, .int .i64 a2, .int .i64 a3, .int .i64 a4, .int .i64 a5], .agg #[.int .i64 b0, .int .i64 b1, .int .i64 b2, .int .i64 b3, .int .i64 b4, .int .i64 b5]] w fun e w' => e = .returned (.tuple #[.agg #[.int .i64 r0, .int .i64 r1, .int .i64 r2, .int .i64 r3, .int .i64 r4, .int .i64 r5], .bool t]) ∧ Below w.heap.size w w') ∧ (∀ w, Calls Try.prog 46 #[.agg #[.int .i64 a0, .int .i64 a1, .int .i64 a2, .int .i64 a3, .int .i64 a4, .int .i64 a5], .agg #[.int .i64 b0, .int .i64 b1, .int .i64 b2, .int .i64 b3, .int .i64 b4, .int .i64 b5]] w fun e w' => e = .returned (.tuple #[.agg #[.int .i64 r0, .int .i64 r1, .int .i64 r2, .int .i64 r3, .int .i64 r4, .int .i64 r5], .bool t]) ∧ Below w.heap.size w w') := by
  cases hv : (ok a0 && ok a1 && ok a2 && ok a3 && ok a4 && ok a5)
  · exact ⟨0, 0, 0, 0, 0, 0, false, fun w => sdiffer_no0 a0 a1 a2 a3 a4 a5 b0 b1 b2 b3 b4 b5 (sh_as a0 a1 a2 a3 a4 a5 hv) w, fun w => idiffer_no0 a0 a1 a2 a3 a4 a5 b0 b1 b2 b3 b4 b5 (sh_ai a0 a1 a2 a3 a4 a5 hv) w⟩
  · cases hc : (ok b0 && ok b1 && ok b2 && ok b3 && ok b4 && ok b5)
    · exact ⟨0, 0, 0, 0, 0, 0, false, fun w => sdiffer_no1 a0 a1 a2 a3 a4 a5 b0 b1 b2 b3 b4 b5 (sh_as a0 a1 a2 a3 a4 a5 hv) (sh_as b0 b1 b2 b3 b4 b5 hc) w, fun w => idiffer_no1 a0 a1 a2 a3 a4 a5 b0 b1 b2 b3 b4 b5 (sh_ai a0 a1 a2 a3 a4 a5 hv) (sh_ai b0 b1 b2 b3 b4 b5 hc) w⟩
    · exact ⟨_, _, _, _, _, _, true, fun w => sdiffer_yes a0 a1 a2 a3 a4 a5 b0 b1 b2 b3 b4 b5 _ _ _ _ _ _ (sh_as a0 a1 a2 a3 a4 a5 hv) (sh_as b0 b1 b2 b3 b4 b5 hc) (Lib.hid (l2xor_any a0 a1 a2 a3 a4 a5 b0 b1 b2 b3 b4 b5)) w, fun w => idiffer_yes a0 a1 a2 a3 a4 a5 b0 b1 b2 b3 b4 b5 _ _ _ _ _ _ (sh_ai a0 a1 a2 a3 a4 a5 hv) (sh_ai b0 b1 b2 b3 b4 b5 hc) (Lib.hid (xor_any a0 a1 a2 a3 a4 a5 b0 b1 b2 b3 b4 b5)) w⟩
end Go.Proofs.Ytgbcgepkkgodpaa
