/- CONTRACTS: parts of a sheet; the other colors; a flipped cell; in the model and in the code. -/
import Derived.Test.YtcjomhjgjdjigaaSb
import Derived.Test.YtcjomhjgjdjigaaSd
import Derived.Test.YtcjomhjgjdjigaaKp
import Derived.Test.YtcjomhjgjdjigaaSc
import Derived.Deep.RegionHeld3
import Derived.WalkKit
import Derived.ProofKit
import Derived.OpenShut
import Derived.Lib.Hide
import Derived.WalkSpells
import Derived.Below
import Derived.BigQuiet
import Derived.LoopN
namespace Go.Proofs.Ytcjomhjgjdjigaa
open Go.ChangeShapes Go.WideShapes Go.ChangeAt Go.RowKit
set_option linter.unusedVariables false
end Go.Proofs.Ytcjomhjgjdjigaa
