/-
  No cell of these rows narrows 'for every input' (looked for: loops, veiled, ifaces, maps, wideKeys, modest, calm, conditions, laid).
  DERIVED. THE GIVEN ROWS OF THIS SEAT. 20 by the template 'for every input the law returns true; each argument reads behind the call as it read before'; 0 by the template 'total and deterministic' (their statements: YthphkhcppljdlaaTotals.lean).
  GIVEN WITH THE SEED: the statements are not yours to turn. If you find one false, say at which input.
  Laid BY PROGRAM, IN A SANDBOX (cutbox-rows.mjs): the forced cells as the released guide's own fill.sh prints them over the translation 48f90060f389cd44… (all of the seat's roots in one cut). By AI agents, Wed Nov 11 2026. No macro, syntax, notation, axiom, sorry.
-/
import Derived.Test.YthphkhcppljdlaaChecked
import GoSem.Claim
import GoSem.ClaimJoined
import GoSem.ClaimMapViews
import Derived.JoinedTies
import Derived.KernelRfl
namespace Go.Proofs.Ythphkhcppljdlaa
/- THE CELL 'sum', in the pinned program and in every row, IS THE sha256 OF THE DUMP (.gsa) THAT YthphkhcppljdlaaProg.lean LOADS. Nothing in Lean hashes anything: it is a label: what it is worth is what the hold of that sum in a sandbox is worth. -/
noncomputable def Try.pinned : Pinned := { name := "ythphkhcppljdlaa", sum := "48f90060f389cd44a39f2b07f50e114184b50a14ef0f86dc939528c9db0f95e9", checked := Try.checked }
namespace Rows
def none {H : Type} : Left H := { results := [], args := [] }

/-- 'laws.FnExactChanceToggled': WHATEVER THE INPUT: true; the input reads as it did. -/
def fnExactChanceToggledSpec : ChangeSpec := { name := "fnExactChanceToggled", fn := fun _ => fun
  | [d1, d2, d3, d4] => { results := [.lit (.bool true)], args := [d1, d2, d3, d4] }
  | _ => none }
def fnExactChanceToggledRow : OpenClaim := { program := "ythphkhcppljdlaa", sum := "48f90060f389cd44a39f2b07f50e114184b50a14ef0f86dc939528c9db0f95e9", func := "loop.example/g01220/laws.FnExactChanceToggled", spec := "fnExactChanceToggled", unfollowed := true, recurses := true, apart := false }
def FnExactChanceToggledSaid : Prop := fnExactChanceToggledRow.holds Try.pinned (OpenSpec.ofChange fnExactChanceToggledSpec)

/-- ITS FALSE NEIGHBOUR: 'it returns false'. Refute it at one input. -/
def fnExactChanceToggledWrong : ChangeSpec := { name := "fnExactChanceToggled", fn := fun _ => fun
  | [d1, d2, d3, d4] => { results := [.lit (.bool false)], args := [d1, d2, d3, d4] }
  | _ => none }
def FnExactChanceToggledWrongFalsely : Prop := fnExactChanceToggledRow.holds Try.pinned (OpenSpec.ofChange fnExactChanceToggledWrong)

/-- 'laws.FnExactMeanToggled': WHATEVER THE INPUT: true; the input reads as it did. -/
def fnExactMeanToggledSpec : ChangeSpec := { name := "fnExactMeanToggled", fn := fun _ => fun
  | [d1, d2, d3] => { results := [.lit (.bool true)], args := [d1, d2, d3] }
  | _ => none }
def fnExactMeanToggledRow : OpenClaim := { program := "ythphkhcppljdlaa", sum := "48f90060f389cd44a39f2b07f50e114184b50a14ef0f86dc939528c9db0f95e9", func := "loop.example/g01220/laws.FnExactMeanToggled", spec := "fnExactMeanToggled", unfollowed := true, recurses := true, apart := false }
def FnExactMeanToggledSaid : Prop := fnExactMeanToggledRow.holds Try.pinned (OpenSpec.ofChange fnExactMeanToggledSpec)

/-- ITS FALSE NEIGHBOUR: 'it returns false'. Refute it at one input. -/
def fnExactMeanToggledWrong : ChangeSpec := { name := "fnExactMeanToggled", fn := fun _ => fun
  | [d1, d2, d3] => { results := [.lit (.bool false)], args := [d1, d2, d3] }
  | _ => none }
def FnExactMeanToggledWrongFalsely : Prop := fnExactMeanToggledRow.holds Try.pinned (OpenSpec.ofChange fnExactMeanToggledWrong)

/-- 'laws.FnExactChanceInked': WHATEVER THE INPUT: true; the input reads as it did. -/
def fnExactChanceInkedSpec : ChangeSpec := { name := "fnExactChanceInked", fn := fun _ => fun
  | [d1, d2, d3, d4] => { results := [.lit (.bool true)], args := [d1, d2, d3, d4] }
  | _ => none }
def fnExactChanceInkedRow : OpenClaim := { program := "ythphkhcppljdlaa", sum := "48f90060f389cd44a39f2b07f50e114184b50a14ef0f86dc939528c9db0f95e9", func := "loop.example/g01220/laws.FnExactChanceInked", spec := "fnExactChanceInked", unfollowed := true, recurses := true, apart := false }
def FnExactChanceInkedSaid : Prop := fnExactChanceInkedRow.holds Try.pinned (OpenSpec.ofChange fnExactChanceInkedSpec)

/-- ITS FALSE NEIGHBOUR: 'it returns false'. Refute it at one input. -/
def fnExactChanceInkedWrong : ChangeSpec := { name := "fnExactChanceInked", fn := fun _ => fun
  | [d1, d2, d3, d4] => { results := [.lit (.bool false)], args := [d1, d2, d3, d4] }
  | _ => none }
def FnExactChanceInkedWrongFalsely : Prop := fnExactChanceInkedRow.holds Try.pinned (OpenSpec.ofChange fnExactChanceInkedWrong)

/-- 'laws.FnExactMeanInked': WHATEVER THE INPUT: true; the input reads as it did. -/
def fnExactMeanInkedSpec : ChangeSpec := { name := "fnExactMeanInked", fn := fun _ => fun
  | [d1, d2, d3] => { results := [.lit (.bool true)], args := [d1, d2, d3] }
  | _ => none }
def fnExactMeanInkedRow : OpenClaim := { program := "ythphkhcppljdlaa", sum := "48f90060f389cd44a39f2b07f50e114184b50a14ef0f86dc939528c9db0f95e9", func := "loop.example/g01220/laws.FnExactMeanInked", spec := "fnExactMeanInked", unfollowed := true, recurses := true, apart := false }
def FnExactMeanInkedSaid : Prop := fnExactMeanInkedRow.holds Try.pinned (OpenSpec.ofChange fnExactMeanInkedSpec)

/-- ITS FALSE NEIGHBOUR: 'it returns false'. Refute it at one input. -/
def fnExactMeanInkedWrong : ChangeSpec := { name := "fnExactMeanInked", fn := fun _ => fun
  | [d1, d2, d3] => { results := [.lit (.bool false)], args := [d1, d2, d3] }
  | _ => none }
def FnExactMeanInkedWrongFalsely : Prop := fnExactMeanInkedRow.holds Try.pinned (OpenSpec.ofChange fnExactMeanInkedWrong)

/-- 'laws.FnExactMeanWiped': WHATEVER THE INPUT: true; the input reads as it did. -/
def fnExactMeanWipedSpec : ChangeSpec := { name := "fnExactMeanWiped", fn := fun _ => fun
  | [d1, d2, d3] => { results := [.lit (.bool true)], args := [d1, d2, d3] }
  | _ => none }
def fnExactMeanWipedRow : OpenClaim := { program := "ythphkhcppljdlaa", sum := "48f90060f389cd44a39f2b07f50e114184b50a14ef0f86dc939528c9db0f95e9", func := "loop.example/g01220/laws.FnExactMeanWiped", spec := "fnExactMeanWiped", unfollowed := true, recurses := true, apart := false }
def FnExactMeanWipedSaid : Prop := fnExactMeanWipedRow.holds Try.pinned (OpenSpec.ofChange fnExactMeanWipedSpec)

/-- ITS FALSE NEIGHBOUR: 'it returns false'. Refute it at one input. -/
def fnExactMeanWipedWrong : ChangeSpec := { name := "fnExactMeanWiped", fn := fun _ => fun
  | [d1, d2, d3] => { results := [.lit (.bool false)], args := [d1, d2, d3] }
  | _ => none }
def FnExactMeanWipedWrongFalsely : Prop := fnExactMeanWipedRow.holds Try.pinned (OpenSpec.ofChange fnExactMeanWipedWrong)

/-- 'laws.FnExactChanceFits': WHATEVER THE INPUT: true; the input reads as it did. -/
def fnExactChanceFitsSpec : ChangeSpec := { name := "fnExactChanceFits", fn := fun _ => fun
  | [d1, d2] => { results := [.lit (.bool true)], args := [d1, d2] }
  | _ => none }
def fnExactChanceFitsRow : OpenClaim := { program := "ythphkhcppljdlaa", sum := "48f90060f389cd44a39f2b07f50e114184b50a14ef0f86dc939528c9db0f95e9", func := "loop.example/g01220/laws.FnExactChanceFits", spec := "fnExactChanceFits", apart := false }
def FnExactChanceFitsSaid : Prop := fnExactChanceFitsRow.holds Try.pinned (OpenSpec.ofChange fnExactChanceFitsSpec)

/-- ITS FALSE NEIGHBOUR: 'it returns false'. Refute it at one input. -/
def fnExactChanceFitsWrong : ChangeSpec := { name := "fnExactChanceFits", fn := fun _ => fun
  | [d1, d2] => { results := [.lit (.bool false)], args := [d1, d2] }
  | _ => none }
def FnExactChanceFitsWrongFalsely : Prop := fnExactChanceFitsRow.holds Try.pinned (OpenSpec.ofChange fnExactChanceFitsWrong)

/-- 'laws.FnExactChanceApart': WHATEVER THE INPUT: true; the input reads as it did. -/
def fnExactChanceApartSpec : ChangeSpec := { name := "fnExactChanceApart", fn := fun _ => fun
  | [d1, d2] => { results := [.lit (.bool true)], args := [d1, d2] }
  | _ => none }
def fnExactChanceApartRow : OpenClaim := { program := "ythphkhcppljdlaa", sum := "48f90060f389cd44a39f2b07f50e114184b50a14ef0f86dc939528c9db0f95e9", func := "loop.example/g01220/laws.FnExactChanceApart", spec := "fnExactChanceApart", apart := false }
def FnExactChanceApartSaid : Prop := fnExactChanceApartRow.holds Try.pinned (OpenSpec.ofChange fnExactChanceApartSpec)

/-- ITS FALSE NEIGHBOUR: 'it returns false'. Refute it at one input. -/
def fnExactChanceApartWrong : ChangeSpec := { name := "fnExactChanceApart", fn := fun _ => fun
  | [d1, d2] => { results := [.lit (.bool false)], args := [d1, d2] }
  | _ => none }
def FnExactChanceApartWrongFalsely : Prop := fnExactChanceApartRow.holds Try.pinned (OpenSpec.ofChange fnExactChanceApartWrong)

/-- 'laws.FnExactMeanCommon': WHATEVER THE INPUT: true; the input reads as it did. -/
def fnExactMeanCommonSpec : ChangeSpec := { name := "fnExactMeanCommon", fn := fun _ => fun
  | [d1, d2] => { results := [.lit (.bool true)], args := [d1, d2] }
  | _ => none }
def fnExactMeanCommonRow : OpenClaim := { program := "ythphkhcppljdlaa", sum := "48f90060f389cd44a39f2b07f50e114184b50a14ef0f86dc939528c9db0f95e9", func := "loop.example/g01220/laws.FnExactMeanCommon", spec := "fnExactMeanCommon", apart := false }
def FnExactMeanCommonSaid : Prop := fnExactMeanCommonRow.holds Try.pinned (OpenSpec.ofChange fnExactMeanCommonSpec)

/-- ITS FALSE NEIGHBOUR: 'it returns false'. Refute it at one input. -/
def fnExactMeanCommonWrong : ChangeSpec := { name := "fnExactMeanCommon", fn := fun _ => fun
  | [d1, d2] => { results := [.lit (.bool false)], args := [d1, d2] }
  | _ => none }
def FnExactMeanCommonWrongFalsely : Prop := fnExactMeanCommonRow.holds Try.pinned (OpenSpec.ofChange fnExactMeanCommonWrong)

/-- 'laws.FnExactCommonTable': WHATEVER THE INPUT: true; the input reads as it did. -/
def fnExactCommonTableSpec : ChangeSpec := { name := "fnExactCommonTable", fn := fun _ => fun
  | [d1, d2] => { results := [.lit (.bool true)], args := [d1, d2] }
  | _ => none }
def fnExactCommonTableRow : OpenClaim := { program := "ythphkhcppljdlaa", sum := "48f90060f389cd44a39f2b07f50e114184b50a14ef0f86dc939528c9db0f95e9", func := "loop.example/g01220/laws.FnExactCommonTable", spec := "fnExactCommonTable", apart := false }
def FnExactCommonTableSaid : Prop := fnExactCommonTableRow.holds Try.pinned (OpenSpec.ofChange fnExactCommonTableSpec)

/-- ITS FALSE NEIGHBOUR: 'it returns false'. Refute it at one input. -/
def fnExactCommonTableWrong : ChangeSpec := { name := "fnExactCommonTable", fn := fun _ => fun
  | [d1, d2] => { results := [.lit (.bool false)], args := [d1, d2] }
  | _ => none }
def FnExactCommonTableWrongFalsely : Prop := fnExactCommonTableRow.holds Try.pinned (OpenSpec.ofChange fnExactCommonTableWrong)

/-- 'laws.FnExactChanceSame': WHATEVER THE INPUT: true; the input reads as it did. -/
def fnExactChanceSameSpec : ChangeSpec := { name := "fnExactChanceSame", fn := fun _ => fun
  | [d1, d2] => { results := [.lit (.bool true)], args := [d1, d2] }
  | _ => none }
def fnExactChanceSameRow : OpenClaim := { program := "ythphkhcppljdlaa", sum := "48f90060f389cd44a39f2b07f50e114184b50a14ef0f86dc939528c9db0f95e9", func := "loop.example/g01220/laws.FnExactChanceSame", spec := "fnExactChanceSame", unfollowed := true, recurses := true, apart := false }
def FnExactChanceSameSaid : Prop := fnExactChanceSameRow.holds Try.pinned (OpenSpec.ofChange fnExactChanceSameSpec)

/-- ITS FALSE NEIGHBOUR: 'it returns false'. Refute it at one input. -/
def fnExactChanceSameWrong : ChangeSpec := { name := "fnExactChanceSame", fn := fun _ => fun
  | [d1, d2] => { results := [.lit (.bool false)], args := [d1, d2] }
  | _ => none }
def FnExactChanceSameWrongFalsely : Prop := fnExactChanceSameRow.holds Try.pinned (OpenSpec.ofChange fnExactChanceSameWrong)

/-- 'laws.FnExactMeanWait': WHATEVER THE INPUT: true; the input reads as it did. -/
def fnExactMeanWaitSpec : ChangeSpec := { name := "fnExactMeanWait", fn := fun _ => fun
  | [d1, d2] => { results := [.lit (.bool true)], args := [d1, d2] }
  | _ => none }
def fnExactMeanWaitRow : OpenClaim := { program := "ythphkhcppljdlaa", sum := "48f90060f389cd44a39f2b07f50e114184b50a14ef0f86dc939528c9db0f95e9", func := "loop.example/g01220/laws.FnExactMeanWait", spec := "fnExactMeanWait", apart := false }
def FnExactMeanWaitSaid : Prop := fnExactMeanWaitRow.holds Try.pinned (OpenSpec.ofChange fnExactMeanWaitSpec)

/-- ITS FALSE NEIGHBOUR: 'it returns false'. Refute it at one input. -/
def fnExactMeanWaitWrong : ChangeSpec := { name := "fnExactMeanWait", fn := fun _ => fun
  | [d1, d2] => { results := [.lit (.bool false)], args := [d1, d2] }
  | _ => none }
def FnExactMeanWaitWrongFalsely : Prop := fnExactMeanWaitRow.holds Try.pinned (OpenSpec.ofChange fnExactMeanWaitWrong)

/-- 'laws.FnExactBestCell': WHATEVER THE INPUT: true; the input reads as it did. -/
def fnExactBestCellSpec : ChangeSpec := { name := "fnExactBestCell", fn := fun _ => fun
  | [d1, d2] => { results := [.lit (.bool true)], args := [d1, d2] }
  | _ => none }
def fnExactBestCellRow : OpenClaim := { program := "ythphkhcppljdlaa", sum := "48f90060f389cd44a39f2b07f50e114184b50a14ef0f86dc939528c9db0f95e9", func := "loop.example/g01220/laws.FnExactBestCell", spec := "fnExactBestCell", apart := false }
def FnExactBestCellSaid : Prop := fnExactBestCellRow.holds Try.pinned (OpenSpec.ofChange fnExactBestCellSpec)

/-- ITS FALSE NEIGHBOUR: 'it returns false'. Refute it at one input. -/
def fnExactBestCellWrong : ChangeSpec := { name := "fnExactBestCell", fn := fun _ => fun
  | [d1, d2] => { results := [.lit (.bool false)], args := [d1, d2] }
  | _ => none }
def FnExactBestCellWrongFalsely : Prop := fnExactBestCellRow.holds Try.pinned (OpenSpec.ofChange fnExactBestCellWrong)

/-- 'laws.FnPressed': WHATEVER THE INPUT: true; the input reads as it did. -/
def fnPressedSpec : ChangeSpec := { name := "fnPressed", fn := fun _ => fun
  | [d] => { results := [.lit (.bool true)], args := [d] }
  | _ => none }
def fnPressedRow : OpenClaim := { program := "ythphkhcppljdlaa", sum := "48f90060f389cd44a39f2b07f50e114184b50a14ef0f86dc939528c9db0f95e9", func := "loop.example/g01220/laws.FnPressed", spec := "fnPressed", unfollowed := true, recurses := true, apart := false }
def FnPressedSaid : Prop := fnPressedRow.holds Try.pinned (OpenSpec.ofChange fnPressedSpec)

/-- ITS FALSE NEIGHBOUR: 'it returns false'. Refute it at one input. -/
def fnPressedWrong : ChangeSpec := { name := "fnPressed", fn := fun _ => fun
  | [d] => { results := [.lit (.bool false)], args := [d] }
  | _ => none }
def FnPressedWrongFalsely : Prop := fnPressedRow.holds Try.pinned (OpenSpec.ofChange fnPressedWrong)

/-- 'laws.FnCommon': WHATEVER THE INPUT: true; the input reads as it did. -/
def fnCommonSpec : ChangeSpec := { name := "fnCommon", fn := fun _ => fun
  | [d] => { results := [.lit (.bool true)], args := [d] }
  | _ => none }
def fnCommonRow : OpenClaim := { program := "ythphkhcppljdlaa", sum := "48f90060f389cd44a39f2b07f50e114184b50a14ef0f86dc939528c9db0f95e9", func := "loop.example/g01220/laws.FnCommon", spec := "fnCommon", unfollowed := true, recurses := true, apart := false }
def FnCommonSaid : Prop := fnCommonRow.holds Try.pinned (OpenSpec.ofChange fnCommonSpec)

/-- ITS FALSE NEIGHBOUR: 'it returns false'. Refute it at one input. -/
def fnCommonWrong : ChangeSpec := { name := "fnCommon", fn := fun _ => fun
  | [d] => { results := [.lit (.bool false)], args := [d] }
  | _ => none }
def FnCommonWrongFalsely : Prop := fnCommonRow.holds Try.pinned (OpenSpec.ofChange fnCommonWrong)

/-- 'laws.FnExactIsRightOrder': WHATEVER THE INPUT: true; the input reads as it did. -/
def fnExactIsRightOrderSpec : ChangeSpec := { name := "fnExactIsRightOrder", fn := fun _ => fun
  | [d1, d2, d3] => { results := [.lit (.bool true)], args := [d1, d2, d3] }
  | _ => none }
def fnExactIsRightOrderRow : OpenClaim := { program := "ythphkhcppljdlaa", sum := "48f90060f389cd44a39f2b07f50e114184b50a14ef0f86dc939528c9db0f95e9", func := "loop.example/g01220/laws.FnExactIsRightOrder", spec := "fnExactIsRightOrder", unfollowed := true, recurses := true, apart := false }
def FnExactIsRightOrderSaid : Prop := fnExactIsRightOrderRow.holds Try.pinned (OpenSpec.ofChange fnExactIsRightOrderSpec)

/-- ITS FALSE NEIGHBOUR: 'it returns false'. Refute it at one input. -/
def fnExactIsRightOrderWrong : ChangeSpec := { name := "fnExactIsRightOrder", fn := fun _ => fun
  | [d1, d2, d3] => { results := [.lit (.bool false)], args := [d1, d2, d3] }
  | _ => none }
def FnExactIsRightOrderWrongFalsely : Prop := fnExactIsRightOrderRow.holds Try.pinned (OpenSpec.ofChange fnExactIsRightOrderWrong)

/-- 'laws.FnExactSwapPrints': WHATEVER THE INPUT: true; the input reads as it did. -/
def fnExactSwapPrintsSpec : ChangeSpec := { name := "fnExactSwapPrints", fn := fun _ => fun
  | [d1, d2] => { results := [.lit (.bool true)], args := [d1, d2] }
  | _ => none }
def fnExactSwapPrintsRow : OpenClaim := { program := "ythphkhcppljdlaa", sum := "48f90060f389cd44a39f2b07f50e114184b50a14ef0f86dc939528c9db0f95e9", func := "loop.example/g01220/laws.FnExactSwapPrints", spec := "fnExactSwapPrints", unfollowed := true, recurses := true, apart := false }
def FnExactSwapPrintsSaid : Prop := fnExactSwapPrintsRow.holds Try.pinned (OpenSpec.ofChange fnExactSwapPrintsSpec)

/-- ITS FALSE NEIGHBOUR: 'it returns false'. Refute it at one input. -/
def fnExactSwapPrintsWrong : ChangeSpec := { name := "fnExactSwapPrints", fn := fun _ => fun
  | [d1, d2] => { results := [.lit (.bool false)], args := [d1, d2] }
  | _ => none }
def FnExactSwapPrintsWrongFalsely : Prop := fnExactSwapPrintsRow.holds Try.pinned (OpenSpec.ofChange fnExactSwapPrintsWrong)

/-- 'laws.FnExactHiddenPrints': WHATEVER THE INPUT: true; the input reads as it did. -/
def fnExactHiddenPrintsSpec : ChangeSpec := { name := "fnExactHiddenPrints", fn := fun _ => fun
  | [d] => { results := [.lit (.bool true)], args := [d] }
  | _ => none }
def fnExactHiddenPrintsRow : OpenClaim := { program := "ythphkhcppljdlaa", sum := "48f90060f389cd44a39f2b07f50e114184b50a14ef0f86dc939528c9db0f95e9", func := "loop.example/g01220/laws.FnExactHiddenPrints", spec := "fnExactHiddenPrints", unfollowed := true, recurses := true, apart := false }
def FnExactHiddenPrintsSaid : Prop := fnExactHiddenPrintsRow.holds Try.pinned (OpenSpec.ofChange fnExactHiddenPrintsSpec)

/-- ITS FALSE NEIGHBOUR: 'it returns false'. Refute it at one input. -/
def fnExactHiddenPrintsWrong : ChangeSpec := { name := "fnExactHiddenPrints", fn := fun _ => fun
  | [d] => { results := [.lit (.bool false)], args := [d] }
  | _ => none }
def FnExactHiddenPrintsWrongFalsely : Prop := fnExactHiddenPrintsRow.holds Try.pinned (OpenSpec.ofChange fnExactHiddenPrintsWrong)

/-- 'laws.FnExactWholePrints': WHATEVER THE INPUT: true; the input reads as it did. -/
def fnExactWholePrintsSpec : ChangeSpec := { name := "fnExactWholePrints", fn := fun _ => fun
  | [d] => { results := [.lit (.bool true)], args := [d] }
  | _ => none }
def fnExactWholePrintsRow : OpenClaim := { program := "ythphkhcppljdlaa", sum := "48f90060f389cd44a39f2b07f50e114184b50a14ef0f86dc939528c9db0f95e9", func := "loop.example/g01220/laws.FnExactWholePrints", spec := "fnExactWholePrints", unfollowed := true, recurses := true, apart := false }
def FnExactWholePrintsSaid : Prop := fnExactWholePrintsRow.holds Try.pinned (OpenSpec.ofChange fnExactWholePrintsSpec)

/-- ITS FALSE NEIGHBOUR: 'it returns false'. Refute it at one input. -/
def fnExactWholePrintsWrong : ChangeSpec := { name := "fnExactWholePrints", fn := fun _ => fun
  | [d] => { results := [.lit (.bool false)], args := [d] }
  | _ => none }
def FnExactWholePrintsWrongFalsely : Prop := fnExactWholePrintsRow.holds Try.pinned (OpenSpec.ofChange fnExactWholePrintsWrong)

/-- 'laws.FnExactGreedyCover': WHATEVER THE INPUT: true; the input reads as it did. -/
def fnExactGreedyCoverSpec : ChangeSpec := { name := "fnExactGreedyCover", fn := fun _ => fun
  | [d1, d2] => { results := [.lit (.bool true)], args := [d1, d2] }
  | _ => none }
def fnExactGreedyCoverRow : OpenClaim := { program := "ythphkhcppljdlaa", sum := "48f90060f389cd44a39f2b07f50e114184b50a14ef0f86dc939528c9db0f95e9", func := "loop.example/g01220/laws.FnExactGreedyCover", spec := "fnExactGreedyCover", unfollowed := true, recurses := true, apart := false }
def FnExactGreedyCoverSaid : Prop := fnExactGreedyCoverRow.holds Try.pinned (OpenSpec.ofChange fnExactGreedyCoverSpec)

/-- ITS FALSE NEIGHBOUR: 'it returns false'. Refute it at one input. -/
def fnExactGreedyCoverWrong : ChangeSpec := { name := "fnExactGreedyCover", fn := fun _ => fun
  | [d1, d2] => { results := [.lit (.bool false)], args := [d1, d2] }
  | _ => none }
def FnExactGreedyCoverWrongFalsely : Prop := fnExactGreedyCoverRow.holds Try.pinned (OpenSpec.ofChange fnExactGreedyCoverWrong)

/-- 'laws.FnExactNeededCells': WHATEVER THE INPUT: true; the input reads as it did. -/
def fnExactNeededCellsSpec : ChangeSpec := { name := "fnExactNeededCells", fn := fun _ => fun
  | [d1, d2] => { results := [.lit (.bool true)], args := [d1, d2] }
  | _ => none }
def fnExactNeededCellsRow : OpenClaim := { program := "ythphkhcppljdlaa", sum := "48f90060f389cd44a39f2b07f50e114184b50a14ef0f86dc939528c9db0f95e9", func := "loop.example/g01220/laws.FnExactNeededCells", spec := "fnExactNeededCells", unfollowed := true, recurses := true, apart := false }
def FnExactNeededCellsSaid : Prop := fnExactNeededCellsRow.holds Try.pinned (OpenSpec.ofChange fnExactNeededCellsSpec)

/-- ITS FALSE NEIGHBOUR: 'it returns false'. Refute it at one input. -/
def fnExactNeededCellsWrong : ChangeSpec := { name := "fnExactNeededCells", fn := fun _ => fun
  | [d1, d2] => { results := [.lit (.bool false)], args := [d1, d2] }
  | _ => none }
def FnExactNeededCellsWrongFalsely : Prop := fnExactNeededCellsRow.holds Try.pinned (OpenSpec.ofChange fnExactNeededCellsWrong)

/- THE SECOND FORM. 'bulk': how many values and letters a reading holds, each counted each time it is reached (what is shared counts as often as it is met; a slice's spare places count too). A statement '..UptoSaid' is the law's where the arguments, and the package variables that the reading takes, are together of bulk at most 1048576: NARROWER than '..Said'. Prove '..Said' where nothing that the law and all that it calls make is longer than what came in: it says more and counts as full. Else prove '..UptoSaid'. A law counts once. -/
mutual
def uptoBulk {H : Type} : DataW H → Nat
  | .lit (.string bytes) => bytes.length + 1
  | .lit _ => 1
  | .nil => 1
  | .ptr d => uptoBulk d + 1
  | .slice elems spare => uptoBulkAll elems + uptoBulkAll spare + 1
  | .agg parts => uptoBulkAll parts + 1
  | .iface _ d => uptoBulk d + 1
  | .map entries => uptoBulkEntries entries + 1
  | .held _ => 1
def uptoBulkAll {H : Type} : List (DataW H) → Nat
  | [] => 0
  | d :: r => uptoBulk d + uptoBulkAll r
def uptoBulkEntries {H : Type} : List (Lit × DataW H) → Nat
  | [] => 0
  | x :: r => uptoBulkEntry x + uptoBulkEntries r
def uptoBulkEntry {H : Type} : Lit × DataW H → Nat
  | (.string bytes, d) => bytes.length + uptoBulk d + 1
  | (_, d) => uptoBulk d + 1
 end
def uptoSmall : (H : Type) → List (DataW H) → Bool := fun _ ds => decide (uptoBulkAll ds ≤ 1048576)
def OpenSpec.upto (s : _root_.Go.ChangeSpec) : _root_.Go.OpenSpec := { _root_.Go.OpenSpec.ofChange s with cond := some uptoSmall }

/-- 'laws.FnExactChanceToggled', WHERE WHAT IT READS IS OF BULK AT MOST 1048576: true; the input reads as it did. -/
def fnExactChanceToggledUptoRow : OpenClaim := { program := "ythphkhcppljdlaa", sum := "48f90060f389cd44a39f2b07f50e114184b50a14ef0f86dc939528c9db0f95e9", func := "loop.example/g01220/laws.FnExactChanceToggled", spec := "fnExactChanceToggled", unfollowed := true, recurses := true, apart := false, narrowed := true }
def FnExactChanceToggledUptoSaid : Prop := fnExactChanceToggledUptoRow.holds Try.pinned (OpenSpec.upto fnExactChanceToggledSpec)

/-- 'laws.FnExactMeanToggled', WHERE WHAT IT READS IS OF BULK AT MOST 1048576: true; the input reads as it did. -/
def fnExactMeanToggledUptoRow : OpenClaim := { program := "ythphkhcppljdlaa", sum := "48f90060f389cd44a39f2b07f50e114184b50a14ef0f86dc939528c9db0f95e9", func := "loop.example/g01220/laws.FnExactMeanToggled", spec := "fnExactMeanToggled", unfollowed := true, recurses := true, apart := false, narrowed := true }
def FnExactMeanToggledUptoSaid : Prop := fnExactMeanToggledUptoRow.holds Try.pinned (OpenSpec.upto fnExactMeanToggledSpec)

/-- 'laws.FnExactChanceInked', WHERE WHAT IT READS IS OF BULK AT MOST 1048576: true; the input reads as it did. -/
def fnExactChanceInkedUptoRow : OpenClaim := { program := "ythphkhcppljdlaa", sum := "48f90060f389cd44a39f2b07f50e114184b50a14ef0f86dc939528c9db0f95e9", func := "loop.example/g01220/laws.FnExactChanceInked", spec := "fnExactChanceInked", unfollowed := true, recurses := true, apart := false, narrowed := true }
def FnExactChanceInkedUptoSaid : Prop := fnExactChanceInkedUptoRow.holds Try.pinned (OpenSpec.upto fnExactChanceInkedSpec)

/-- 'laws.FnExactMeanInked', WHERE WHAT IT READS IS OF BULK AT MOST 1048576: true; the input reads as it did. -/
def fnExactMeanInkedUptoRow : OpenClaim := { program := "ythphkhcppljdlaa", sum := "48f90060f389cd44a39f2b07f50e114184b50a14ef0f86dc939528c9db0f95e9", func := "loop.example/g01220/laws.FnExactMeanInked", spec := "fnExactMeanInked", unfollowed := true, recurses := true, apart := false, narrowed := true }
def FnExactMeanInkedUptoSaid : Prop := fnExactMeanInkedUptoRow.holds Try.pinned (OpenSpec.upto fnExactMeanInkedSpec)

/-- 'laws.FnExactMeanWiped', WHERE WHAT IT READS IS OF BULK AT MOST 1048576: true; the input reads as it did. -/
def fnExactMeanWipedUptoRow : OpenClaim := { program := "ythphkhcppljdlaa", sum := "48f90060f389cd44a39f2b07f50e114184b50a14ef0f86dc939528c9db0f95e9", func := "loop.example/g01220/laws.FnExactMeanWiped", spec := "fnExactMeanWiped", unfollowed := true, recurses := true, apart := false, narrowed := true }
def FnExactMeanWipedUptoSaid : Prop := fnExactMeanWipedUptoRow.holds Try.pinned (OpenSpec.upto fnExactMeanWipedSpec)

/-- 'laws.FnExactChanceFits', WHERE WHAT IT READS IS OF BULK AT MOST 1048576: true; the input reads as it did. -/
def fnExactChanceFitsUptoRow : OpenClaim := { program := "ythphkhcppljdlaa", sum := "48f90060f389cd44a39f2b07f50e114184b50a14ef0f86dc939528c9db0f95e9", func := "loop.example/g01220/laws.FnExactChanceFits", spec := "fnExactChanceFits", apart := false, narrowed := true }
def FnExactChanceFitsUptoSaid : Prop := fnExactChanceFitsUptoRow.holds Try.pinned (OpenSpec.upto fnExactChanceFitsSpec)

/-- 'laws.FnExactChanceApart', WHERE WHAT IT READS IS OF BULK AT MOST 1048576: true; the input reads as it did. -/
def fnExactChanceApartUptoRow : OpenClaim := { program := "ythphkhcppljdlaa", sum := "48f90060f389cd44a39f2b07f50e114184b50a14ef0f86dc939528c9db0f95e9", func := "loop.example/g01220/laws.FnExactChanceApart", spec := "fnExactChanceApart", apart := false, narrowed := true }
def FnExactChanceApartUptoSaid : Prop := fnExactChanceApartUptoRow.holds Try.pinned (OpenSpec.upto fnExactChanceApartSpec)

/-- 'laws.FnExactMeanCommon', WHERE WHAT IT READS IS OF BULK AT MOST 1048576: true; the input reads as it did. -/
def fnExactMeanCommonUptoRow : OpenClaim := { program := "ythphkhcppljdlaa", sum := "48f90060f389cd44a39f2b07f50e114184b50a14ef0f86dc939528c9db0f95e9", func := "loop.example/g01220/laws.FnExactMeanCommon", spec := "fnExactMeanCommon", apart := false, narrowed := true }
def FnExactMeanCommonUptoSaid : Prop := fnExactMeanCommonUptoRow.holds Try.pinned (OpenSpec.upto fnExactMeanCommonSpec)

/-- 'laws.FnExactCommonTable', WHERE WHAT IT READS IS OF BULK AT MOST 1048576: true; the input reads as it did. -/
def fnExactCommonTableUptoRow : OpenClaim := { program := "ythphkhcppljdlaa", sum := "48f90060f389cd44a39f2b07f50e114184b50a14ef0f86dc939528c9db0f95e9", func := "loop.example/g01220/laws.FnExactCommonTable", spec := "fnExactCommonTable", apart := false, narrowed := true }
def FnExactCommonTableUptoSaid : Prop := fnExactCommonTableUptoRow.holds Try.pinned (OpenSpec.upto fnExactCommonTableSpec)

/-- 'laws.FnExactChanceSame', WHERE WHAT IT READS IS OF BULK AT MOST 1048576: true; the input reads as it did. -/
def fnExactChanceSameUptoRow : OpenClaim := { program := "ythphkhcppljdlaa", sum := "48f90060f389cd44a39f2b07f50e114184b50a14ef0f86dc939528c9db0f95e9", func := "loop.example/g01220/laws.FnExactChanceSame", spec := "fnExactChanceSame", unfollowed := true, recurses := true, apart := false, narrowed := true }
def FnExactChanceSameUptoSaid : Prop := fnExactChanceSameUptoRow.holds Try.pinned (OpenSpec.upto fnExactChanceSameSpec)

/-- 'laws.FnExactMeanWait', WHERE WHAT IT READS IS OF BULK AT MOST 1048576: true; the input reads as it did. -/
def fnExactMeanWaitUptoRow : OpenClaim := { program := "ythphkhcppljdlaa", sum := "48f90060f389cd44a39f2b07f50e114184b50a14ef0f86dc939528c9db0f95e9", func := "loop.example/g01220/laws.FnExactMeanWait", spec := "fnExactMeanWait", apart := false, narrowed := true }
def FnExactMeanWaitUptoSaid : Prop := fnExactMeanWaitUptoRow.holds Try.pinned (OpenSpec.upto fnExactMeanWaitSpec)

/-- 'laws.FnExactBestCell', WHERE WHAT IT READS IS OF BULK AT MOST 1048576: true; the input reads as it did. -/
def fnExactBestCellUptoRow : OpenClaim := { program := "ythphkhcppljdlaa", sum := "48f90060f389cd44a39f2b07f50e114184b50a14ef0f86dc939528c9db0f95e9", func := "loop.example/g01220/laws.FnExactBestCell", spec := "fnExactBestCell", apart := false, narrowed := true }
def FnExactBestCellUptoSaid : Prop := fnExactBestCellUptoRow.holds Try.pinned (OpenSpec.upto fnExactBestCellSpec)

/-- 'laws.FnPressed', WHERE WHAT IT READS IS OF BULK AT MOST 1048576: true; the input reads as it did. -/
def fnPressedUptoRow : OpenClaim := { program := "ythphkhcppljdlaa", sum := "48f90060f389cd44a39f2b07f50e114184b50a14ef0f86dc939528c9db0f95e9", func := "loop.example/g01220/laws.FnPressed", spec := "fnPressed", unfollowed := true, recurses := true, apart := false, narrowed := true }
def FnPressedUptoSaid : Prop := fnPressedUptoRow.holds Try.pinned (OpenSpec.upto fnPressedSpec)

/-- 'laws.FnCommon', WHERE WHAT IT READS IS OF BULK AT MOST 1048576: true; the input reads as it did. -/
def fnCommonUptoRow : OpenClaim := { program := "ythphkhcppljdlaa", sum := "48f90060f389cd44a39f2b07f50e114184b50a14ef0f86dc939528c9db0f95e9", func := "loop.example/g01220/laws.FnCommon", spec := "fnCommon", unfollowed := true, recurses := true, apart := false, narrowed := true }
def FnCommonUptoSaid : Prop := fnCommonUptoRow.holds Try.pinned (OpenSpec.upto fnCommonSpec)

/-- 'laws.FnExactIsRightOrder', WHERE WHAT IT READS IS OF BULK AT MOST 1048576: true; the input reads as it did. -/
def fnExactIsRightOrderUptoRow : OpenClaim := { program := "ythphkhcppljdlaa", sum := "48f90060f389cd44a39f2b07f50e114184b50a14ef0f86dc939528c9db0f95e9", func := "loop.example/g01220/laws.FnExactIsRightOrder", spec := "fnExactIsRightOrder", unfollowed := true, recurses := true, apart := false, narrowed := true }
def FnExactIsRightOrderUptoSaid : Prop := fnExactIsRightOrderUptoRow.holds Try.pinned (OpenSpec.upto fnExactIsRightOrderSpec)

/-- 'laws.FnExactSwapPrints', WHERE WHAT IT READS IS OF BULK AT MOST 1048576: true; the input reads as it did. -/
def fnExactSwapPrintsUptoRow : OpenClaim := { program := "ythphkhcppljdlaa", sum := "48f90060f389cd44a39f2b07f50e114184b50a14ef0f86dc939528c9db0f95e9", func := "loop.example/g01220/laws.FnExactSwapPrints", spec := "fnExactSwapPrints", unfollowed := true, recurses := true, apart := false, narrowed := true }
def FnExactSwapPrintsUptoSaid : Prop := fnExactSwapPrintsUptoRow.holds Try.pinned (OpenSpec.upto fnExactSwapPrintsSpec)

/-- 'laws.FnExactHiddenPrints', WHERE WHAT IT READS IS OF BULK AT MOST 1048576: true; the input reads as it did. -/
def fnExactHiddenPrintsUptoRow : OpenClaim := { program := "ythphkhcppljdlaa", sum := "48f90060f389cd44a39f2b07f50e114184b50a14ef0f86dc939528c9db0f95e9", func := "loop.example/g01220/laws.FnExactHiddenPrints", spec := "fnExactHiddenPrints", unfollowed := true, recurses := true, apart := false, narrowed := true }
def FnExactHiddenPrintsUptoSaid : Prop := fnExactHiddenPrintsUptoRow.holds Try.pinned (OpenSpec.upto fnExactHiddenPrintsSpec)

/-- 'laws.FnExactWholePrints', WHERE WHAT IT READS IS OF BULK AT MOST 1048576: true; the input reads as it did. -/
def fnExactWholePrintsUptoRow : OpenClaim := { program := "ythphkhcppljdlaa", sum := "48f90060f389cd44a39f2b07f50e114184b50a14ef0f86dc939528c9db0f95e9", func := "loop.example/g01220/laws.FnExactWholePrints", spec := "fnExactWholePrints", unfollowed := true, recurses := true, apart := false, narrowed := true }
def FnExactWholePrintsUptoSaid : Prop := fnExactWholePrintsUptoRow.holds Try.pinned (OpenSpec.upto fnExactWholePrintsSpec)

/-- 'laws.FnExactGreedyCover', WHERE WHAT IT READS IS OF BULK AT MOST 1048576: true; the input reads as it did. -/
def fnExactGreedyCoverUptoRow : OpenClaim := { program := "ythphkhcppljdlaa", sum := "48f90060f389cd44a39f2b07f50e114184b50a14ef0f86dc939528c9db0f95e9", func := "loop.example/g01220/laws.FnExactGreedyCover", spec := "fnExactGreedyCover", unfollowed := true, recurses := true, apart := false, narrowed := true }
def FnExactGreedyCoverUptoSaid : Prop := fnExactGreedyCoverUptoRow.holds Try.pinned (OpenSpec.upto fnExactGreedyCoverSpec)

/-- 'laws.FnExactNeededCells', WHERE WHAT IT READS IS OF BULK AT MOST 1048576: true; the input reads as it did. -/
def fnExactNeededCellsUptoRow : OpenClaim := { program := "ythphkhcppljdlaa", sum := "48f90060f389cd44a39f2b07f50e114184b50a14ef0f86dc939528c9db0f95e9", func := "loop.example/g01220/laws.FnExactNeededCells", spec := "fnExactNeededCells", unfollowed := true, recurses := true, apart := false, narrowed := true }
def FnExactNeededCellsUptoSaid : Prop := fnExactNeededCellsUptoRow.holds Try.pinned (OpenSpec.upto fnExactNeededCellsSpec)

end Rows
end Go.Proofs.Ythphkhcppljdlaa
