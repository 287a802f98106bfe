/- THE PAIR: IsPart. -/
import Derived.Test.YtgbcgepkkgodpaaPb
import Derived.Test.YtgbcgepkkgodpaaSk
import Derived.WalkKit
import Derived.ProofKit
import Derived.OpenShut
import Derived.Lib.Hide
import Derived.WalkSpells
import Derived.Below
import Derived.BigQuiet
import Derived.LoopN
namespace Go.Proofs.Ytgbcgepkkgodpaa
open Go.ChangeShapes Go.WideShapes Go.ChangeAt Go.RowKit
set_option linter.unusedVariables false
theorem part_pair (a0 a1 a2 a3 a4 a5 : Int) (b0 b1 b2 b3 b4 b5 : Int) : ∃ (r t : Bool), (∀ w, Calls Try.prog 49 #[.agg #[.int .i64 a0, .int .i64 a1, .int .i64 a2, .int .i64 a3, .int .i64 a4, .int .i64 a5], .agg #[.int .i64 b0, .int .i64 b1, .int .i64 b2, .int .i64 b3, .int .i64 b4, .int .i64 b5]] w fun e w' => e = .returned (.tuple #[.bool r, .bool t]) ∧ Below w.heap.size w w') ∧ (∀ w, Calls Try.prog 50 #[.agg #[.int .i64 a0, .int .i64 a1, .int .i64 a2, .int .i64 a3, .int .i64 a4, .int .i64 a5], .agg #[.int .i64 b0, .int .i64 b1, .int .i64 b2, .int .i64 b3, .int .i64 b4, .int .i64 b5]] w fun e w' => e = .returned (.tuple #[.bool r, .bool t]) ∧ Below w.heap.size w w') := by
  cases hv : (ok a0 && ok a1 && ok a2 && ok a3 && ok a4 && ok a5)
  · exact ⟨false, false, fun w => spart_no0 a0 a1 a2 a3 a4 a5 b0 b1 b2 b3 b4 b5 (sh_as a0 a1 a2 a3 a4 a5 hv) w, fun w => ipart_no0 a0 a1 a2 a3 a4 a5 b0 b1 b2 b3 b4 b5 (sh_ai a0 a1 a2 a3 a4 a5 hv) w⟩
  · cases hc : (ok b0 && ok b1 && ok b2 && ok b3 && ok b4 && ok b5)
    · exact ⟨false, false, fun w => spart_no1 a0 a1 a2 a3 a4 a5 b0 b1 b2 b3 b4 b5 (sh_as a0 a1 a2 a3 a4 a5 hv) (sh_as b0 b1 b2 b3 b4 b5 hc) w, fun w => ipart_no1 a0 a1 a2 a3 a4 a5 b0 b1 b2 b3 b4 b5 (sh_ai a0 a1 a2 a3 a4 a5 hv) (sh_ai b0 b1 b2 b3 b4 b5 hc) w⟩
    · exact ⟨_, true, fun w => spart_yes a0 a1 a2 a3 a4 a5 b0 b1 b2 b3 b4 b5 _ (sh_as a0 a1 a2 a3 a4 a5 hv) (sh_as b0 b1 b2 b3 b4 b5 hc) (Lib.hid (l2part_any a0 a1 a2 a3 a4 a5 b0 b1 b2 b3 b4 b5)) w, fun w => ipart_yes a0 a1 a2 a3 a4 a5 b0 b1 b2 b3 b4 b5 (sh_ai a0 a1 a2 a3 a4 a5 hv) (sh_ai b0 b1 b2 b3 b4 b5 hc) w⟩
end Go.Proofs.Ytgbcgepkkgodpaa
