/- THE PAIR: SizeOf. -/
import Derived.Test.YtgbcgepkkgodpaaPb
import Derived.Test.YtgbcgepkkgodpaaSz
import Derived.WalkKit
import Derived.ProofKit
import Derived.OpenShut
import Derived.Lib.Hide
import Derived.WalkSpells
import Derived.Below
import Derived.BigQuiet
import Derived.LoopN
namespace Go.Proofs.Ytgbcgepkkgodpaa
open Go.ChangeShapes Go.WideShapes Go.ChangeAt Go.RowKit
set_option linter.unusedVariables false
theorem size_pair (a0 a1 a2 a3 a4 a5 : Int) : ∃ (r : Int) (t : Bool), (∀ w, Calls Try.prog 31 #[.agg #[.int .i64 a0, .int .i64 a1, .int .i64 a2, .int .i64 a3, .int .i64 a4, .int .i64 a5]] w fun e w' => e = .returned (.tuple #[.int .i64 r, .bool t]) ∧ Below w.heap.size w w') ∧ (∀ w, Calls Try.prog 32 #[.agg #[.int .i64 a0, .int .i64 a1, .int .i64 a2, .int .i64 a3, .int .i64 a4, .int .i64 a5]] w fun e w' => e = .returned (.tuple #[.int .i64 r, .bool t]) ∧ Below w.heap.size w w') := by
  cases hv : (ok a0 && ok a1 && ok a2 && ok a3 && ok a4 && ok a5)
  · exact ⟨0, false, fun w => ssize_no0 a0 a1 a2 a3 a4 a5 (sh_as a0 a1 a2 a3 a4 a5 hv) w, fun w => isize_no0 a0 a1 a2 a3 a4 a5 (sh_ai a0 a1 a2 a3 a4 a5 hv) w⟩
  · exact ⟨_, true, fun w => ssize_yes a0 a1 a2 a3 a4 a5 _ (sh_as a0 a1 a2 a3 a4 a5 hv) (Lib.hid (l2count_any a0 a1 a2 a3 a4 a5 (ok_all a0 a1 a2 a3 a4 a5 hv))) w, fun w => isize_yes a0 a1 a2 a3 a4 a5 (ok_all a0 a1 a2 a3 a4 a5 hv) (sh_ai a0 a1 a2 a3 a4 a5 hv) w⟩
end Go.Proofs.Ytgbcgepkkgodpaa
