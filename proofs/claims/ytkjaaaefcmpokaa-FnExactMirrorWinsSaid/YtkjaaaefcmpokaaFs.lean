/- PLAIN FACT: a sheet as a map of cells is valid. -/
import Derived.Test.YtkjaaaefcmpokaaSv
import Derived.WalkKit
import Derived.ProofKit
import Derived.OpenShut
import Derived.Lib.Hide
import Derived.WalkSpells
import Derived.Below
import Derived.BigQuiet
import Derived.LoopN
namespace Go.Proofs.Ytkjaaaefcmpokaa
open Go.ChangeShapes Go.WideShapes Go.ChangeAt Go.RowKit
set_option linter.unusedVariables false
theorem sh_of (f : Nat → Nat → Bool) : (ok (rowv (f 0)) && ok (rowv (f 1)) && ok (rowv (f 2)) && ok (rowv (f 3)) && ok (rowv (f 4)) && ok (rowv (f 5))) = true := by simp only [rowv_ok, Bool.and_self]
end Go.Proofs.Ytkjaaaefcmpokaa
