/- CONTRACTS: parts of a sheet; the other colors; a flipped cell; in the model and in the code. -/
import Derived.Test.YtpgfmigbjffemaaSb
import Derived.Test.YtpgfmigbjffemaaSd
import Derived.Test.YtpgfmigbjffemaaKp
import Derived.Test.YtpgfmigbjffemaaSc
import Derived.Deep.RegionHeld3
import Derived.WalkKit
import Derived.ProofKit
import Derived.OpenShut
import Derived.Lib.Hide
import Derived.WalkSpells
import Derived.Below
import Derived.BigQuiet
import Derived.LoopN
namespace Go.Proofs.Ytpgfmigbjffemaa
open Go.ChangeShapes Go.WideShapes Go.ChangeAt Go.RowKit
set_option linter.unusedVariables false
end Go.Proofs.Ytpgfmigbjffemaa
