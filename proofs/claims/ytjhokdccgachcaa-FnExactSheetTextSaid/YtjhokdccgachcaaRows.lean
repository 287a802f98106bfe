/-
  No cell of these rows narrows 'for every input' (looked for: loops, veiled, ifaces, maps, wideKeys, modest, calm, conditions, laid).
  DERIVED. THE GIVEN ROWS OF THIS SEAT. 20 by the template 'for every input the law returns true; each argument reads behind the call as it read before'; 0 by the template 'total and deterministic' (their statements: YtjhokdccgachcaaTotals.lean).
  GIVEN WITH THE SEED: the statements are not yours to turn. If you find one false, say at which input.
  Laid BY PROGRAM, IN A SANDBOX (cutbox-rows.mjs): the forced cells as the released guide's own fill.sh prints them over the translation a85e0980bf471caa… (all of the seat's roots in one cut). By AI agents, Wed Nov 11 2026. No macro, syntax, notation, axiom, sorry.
-/
import Derived.Test.YtjhokdccgachcaaChecked
import GoSem.Claim
import GoSem.ClaimJoined
import GoSem.ClaimMapViews
import Derived.JoinedTies
import Derived.KernelRfl
namespace Go.Proofs.Ytjhokdccgachcaa
/- THE CELL 'sum', in the pinned program and in every row, IS THE sha256 OF THE DUMP (.gsa) THAT YtjhokdccgachcaaProg.lean LOADS. Nothing in Lean hashes anything: it is a label: what it is worth is what the hold of that sum in a sandbox is worth. -/
noncomputable def Try.pinned : Pinned := { name := "ytjhokdccgachcaa", sum := "a85e0980bf471caacafe69a471ca6bc332c95a84aaa684c23edf16e3379fc138", checked := Try.checked }
namespace Rows
def none {H : Type} : Left H := { results := [], args := [] }

/-- 'laws.FnExactSpreadSheet': WHATEVER THE INPUT: true; the input reads as it did. -/
def fnExactSpreadSheetSpec : ChangeSpec := { name := "fnExactSpreadSheet", fn := fun _ => fun
  | [d1, d2] => { results := [.lit (.bool true)], args := [d1, d2] }
  | _ => none }
def fnExactSpreadSheetRow : OpenClaim := { program := "ytjhokdccgachcaa", sum := "a85e0980bf471caacafe69a471ca6bc332c95a84aaa684c23edf16e3379fc138", func := "loop.example/g01220/laws.FnExactSpreadSheet", spec := "fnExactSpreadSheet", unfollowed := true, recurses := true, apart := false }
def FnExactSpreadSheetSaid : Prop := fnExactSpreadSheetRow.holds Try.pinned (OpenSpec.ofChange fnExactSpreadSheetSpec)

/-- ITS FALSE NEIGHBOUR: 'it returns false'. Refute it at one input. -/
def fnExactSpreadSheetWrong : ChangeSpec := { name := "fnExactSpreadSheet", fn := fun _ => fun
  | [d1, d2] => { results := [.lit (.bool false)], args := [d1, d2] }
  | _ => none }
def FnExactSpreadSheetWrongFalsely : Prop := fnExactSpreadSheetRow.holds Try.pinned (OpenSpec.ofChange fnExactSpreadSheetWrong)

/-- 'laws.FnExactShrinkSheet': WHATEVER THE INPUT: true; the input reads as it did. -/
def fnExactShrinkSheetSpec : ChangeSpec := { name := "fnExactShrinkSheet", fn := fun _ => fun
  | [d1, d2] => { results := [.lit (.bool true)], args := [d1, d2] }
  | _ => none }
def fnExactShrinkSheetRow : OpenClaim := { program := "ytjhokdccgachcaa", sum := "a85e0980bf471caacafe69a471ca6bc332c95a84aaa684c23edf16e3379fc138", func := "loop.example/g01220/laws.FnExactShrinkSheet", spec := "fnExactShrinkSheet", unfollowed := true, recurses := true, apart := false }
def FnExactShrinkSheetSaid : Prop := fnExactShrinkSheetRow.holds Try.pinned (OpenSpec.ofChange fnExactShrinkSheetSpec)

/-- ITS FALSE NEIGHBOUR: 'it returns false'. Refute it at one input. -/
def fnExactShrinkSheetWrong : ChangeSpec := { name := "fnExactShrinkSheet", fn := fun _ => fun
  | [d1, d2] => { results := [.lit (.bool false)], args := [d1, d2] }
  | _ => none }
def FnExactShrinkSheetWrongFalsely : Prop := fnExactShrinkSheetRow.holds Try.pinned (OpenSpec.ofChange fnExactShrinkSheetWrong)

/-- 'laws.FnExactOpenSheet': WHATEVER THE INPUT: true; the input reads as it did. -/
def fnExactOpenSheetSpec : ChangeSpec := { name := "fnExactOpenSheet", fn := fun _ => fun
  | [d1, d2] => { results := [.lit (.bool true)], args := [d1, d2] }
  | _ => none }
def fnExactOpenSheetRow : OpenClaim := { program := "ytjhokdccgachcaa", sum := "a85e0980bf471caacafe69a471ca6bc332c95a84aaa684c23edf16e3379fc138", func := "loop.example/g01220/laws.FnExactOpenSheet", spec := "fnExactOpenSheet", unfollowed := true, recurses := true, apart := false }
def FnExactOpenSheetSaid : Prop := fnExactOpenSheetRow.holds Try.pinned (OpenSpec.ofChange fnExactOpenSheetSpec)

/-- ITS FALSE NEIGHBOUR: 'it returns false'. Refute it at one input. -/
def fnExactOpenSheetWrong : ChangeSpec := { name := "fnExactOpenSheet", fn := fun _ => fun
  | [d1, d2] => { results := [.lit (.bool false)], args := [d1, d2] }
  | _ => none }
def FnExactOpenSheetWrongFalsely : Prop := fnExactOpenSheetRow.holds Try.pinned (OpenSpec.ofChange fnExactOpenSheetWrong)

/-- 'laws.FnExactCloseSheet': WHATEVER THE INPUT: true; the input reads as it did. -/
def fnExactCloseSheetSpec : ChangeSpec := { name := "fnExactCloseSheet", fn := fun _ => fun
  | [d1, d2] => { results := [.lit (.bool true)], args := [d1, d2] }
  | _ => none }
def fnExactCloseSheetRow : OpenClaim := { program := "ytjhokdccgachcaa", sum := "a85e0980bf471caacafe69a471ca6bc332c95a84aaa684c23edf16e3379fc138", func := "loop.example/g01220/laws.FnExactCloseSheet", spec := "fnExactCloseSheet", unfollowed := true, recurses := true, apart := false }
def FnExactCloseSheetSaid : Prop := fnExactCloseSheetRow.holds Try.pinned (OpenSpec.ofChange fnExactCloseSheetSpec)

/-- ITS FALSE NEIGHBOUR: 'it returns false'. Refute it at one input. -/
def fnExactCloseSheetWrong : ChangeSpec := { name := "fnExactCloseSheet", fn := fun _ => fun
  | [d1, d2] => { results := [.lit (.bool false)], args := [d1, d2] }
  | _ => none }
def FnExactCloseSheetWrongFalsely : Prop := fnExactCloseSheetRow.holds Try.pinned (OpenSpec.ofChange fnExactCloseSheetWrong)

/-- 'laws.FnExactReflectSheet': WHATEVER THE INPUT: true; the input reads as it did. -/
def fnExactReflectSheetSpec : ChangeSpec := { name := "fnExactReflectSheet", fn := fun _ => fun
  | [d] => { results := [.lit (.bool true)], args := [d] }
  | _ => none }
def fnExactReflectSheetRow : OpenClaim := { program := "ytjhokdccgachcaa", sum := "a85e0980bf471caacafe69a471ca6bc332c95a84aaa684c23edf16e3379fc138", func := "loop.example/g01220/laws.FnExactReflectSheet", spec := "fnExactReflectSheet", apart := false }
def FnExactReflectSheetSaid : Prop := fnExactReflectSheetRow.holds Try.pinned (OpenSpec.ofChange fnExactReflectSheetSpec)

/-- ITS FALSE NEIGHBOUR: 'it returns false'. Refute it at one input. -/
def fnExactReflectSheetWrong : ChangeSpec := { name := "fnExactReflectSheet", fn := fun _ => fun
  | [d] => { results := [.lit (.bool false)], args := [d] }
  | _ => none }
def FnExactReflectSheetWrongFalsely : Prop := fnExactReflectSheetRow.holds Try.pinned (OpenSpec.ofChange fnExactReflectSheetWrong)

/-- 'laws.FnExactInnerEdge': WHATEVER THE INPUT: true; the input reads as it did. -/
def fnExactInnerEdgeSpec : ChangeSpec := { name := "fnExactInnerEdge", fn := fun _ => fun
  | [d1, d2] => { results := [.lit (.bool true)], args := [d1, d2] }
  | _ => none }
def fnExactInnerEdgeRow : OpenClaim := { program := "ytjhokdccgachcaa", sum := "a85e0980bf471caacafe69a471ca6bc332c95a84aaa684c23edf16e3379fc138", func := "loop.example/g01220/laws.FnExactInnerEdge", spec := "fnExactInnerEdge", unfollowed := true, recurses := true, apart := false }
def FnExactInnerEdgeSaid : Prop := fnExactInnerEdgeRow.holds Try.pinned (OpenSpec.ofChange fnExactInnerEdgeSpec)

/-- ITS FALSE NEIGHBOUR: 'it returns false'. Refute it at one input. -/
def fnExactInnerEdgeWrong : ChangeSpec := { name := "fnExactInnerEdge", fn := fun _ => fun
  | [d1, d2] => { results := [.lit (.bool false)], args := [d1, d2] }
  | _ => none }
def FnExactInnerEdgeWrongFalsely : Prop := fnExactInnerEdgeRow.holds Try.pinned (OpenSpec.ofChange fnExactInnerEdgeWrong)

/-- 'laws.FnExactOuterEdge': WHATEVER THE INPUT: true; the input reads as it did. -/
def fnExactOuterEdgeSpec : ChangeSpec := { name := "fnExactOuterEdge", fn := fun _ => fun
  | [d1, d2] => { results := [.lit (.bool true)], args := [d1, d2] }
  | _ => none }
def fnExactOuterEdgeRow : OpenClaim := { program := "ytjhokdccgachcaa", sum := "a85e0980bf471caacafe69a471ca6bc332c95a84aaa684c23edf16e3379fc138", func := "loop.example/g01220/laws.FnExactOuterEdge", spec := "fnExactOuterEdge", unfollowed := true, recurses := true, apart := false }
def FnExactOuterEdgeSaid : Prop := fnExactOuterEdgeRow.holds Try.pinned (OpenSpec.ofChange fnExactOuterEdgeSpec)

/-- ITS FALSE NEIGHBOUR: 'it returns false'. Refute it at one input. -/
def fnExactOuterEdgeWrong : ChangeSpec := { name := "fnExactOuterEdge", fn := fun _ => fun
  | [d1, d2] => { results := [.lit (.bool false)], args := [d1, d2] }
  | _ => none }
def FnExactOuterEdgeWrongFalsely : Prop := fnExactOuterEdgeRow.holds Try.pinned (OpenSpec.ofChange fnExactOuterEdgeWrong)

/-- 'laws.FnExactHitSheet': WHATEVER THE INPUT: true; the input reads as it did. -/
def fnExactHitSheetSpec : ChangeSpec := { name := "fnExactHitSheet", fn := fun _ => fun
  | [d1, d2, d3] => { results := [.lit (.bool true)], args := [d1, d2, d3] }
  | _ => none }
def fnExactHitSheetRow : OpenClaim := { program := "ytjhokdccgachcaa", sum := "a85e0980bf471caacafe69a471ca6bc332c95a84aaa684c23edf16e3379fc138", func := "loop.example/g01220/laws.FnExactHitSheet", spec := "fnExactHitSheet", unfollowed := true, recurses := true, apart := false }
def FnExactHitSheetSaid : Prop := fnExactHitSheetRow.holds Try.pinned (OpenSpec.ofChange fnExactHitSheetSpec)

/-- ITS FALSE NEIGHBOUR: 'it returns false'. Refute it at one input. -/
def fnExactHitSheetWrong : ChangeSpec := { name := "fnExactHitSheet", fn := fun _ => fun
  | [d1, d2, d3] => { results := [.lit (.bool false)], args := [d1, d2, d3] }
  | _ => none }
def FnExactHitSheetWrongFalsely : Prop := fnExactHitSheetRow.holds Try.pinned (OpenSpec.ofChange fnExactHitSheetWrong)

/-- 'laws.FnExactSpreadTimes': WHATEVER THE INPUT: true; the input reads as it did. -/
def fnExactSpreadTimesSpec : ChangeSpec := { name := "fnExactSpreadTimes", fn := fun _ => fun
  | [d1, d2, d3] => { results := [.lit (.bool true)], args := [d1, d2, d3] }
  | _ => none }
def fnExactSpreadTimesRow : OpenClaim := { program := "ytjhokdccgachcaa", sum := "a85e0980bf471caacafe69a471ca6bc332c95a84aaa684c23edf16e3379fc138", func := "loop.example/g01220/laws.FnExactSpreadTimes", spec := "fnExactSpreadTimes", unfollowed := true, recurses := true, apart := false }
def FnExactSpreadTimesSaid : Prop := fnExactSpreadTimesRow.holds Try.pinned (OpenSpec.ofChange fnExactSpreadTimesSpec)

/-- ITS FALSE NEIGHBOUR: 'it returns false'. Refute it at one input. -/
def fnExactSpreadTimesWrong : ChangeSpec := { name := "fnExactSpreadTimes", fn := fun _ => fun
  | [d1, d2, d3] => { results := [.lit (.bool false)], args := [d1, d2, d3] }
  | _ => none }
def FnExactSpreadTimesWrongFalsely : Prop := fnExactSpreadTimesRow.holds Try.pinned (OpenSpec.ofChange fnExactSpreadTimesWrong)

/-- 'laws.FnExactTimesToFill': WHATEVER THE INPUT: true; the input reads as it did. -/
def fnExactTimesToFillSpec : ChangeSpec := { name := "fnExactTimesToFill", fn := fun _ => fun
  | [d1, d2] => { results := [.lit (.bool true)], args := [d1, d2] }
  | _ => none }
def fnExactTimesToFillRow : OpenClaim := { program := "ytjhokdccgachcaa", sum := "a85e0980bf471caacafe69a471ca6bc332c95a84aaa684c23edf16e3379fc138", func := "loop.example/g01220/laws.FnExactTimesToFill", spec := "fnExactTimesToFill", unfollowed := true, recurses := true, apart := false }
def FnExactTimesToFillSaid : Prop := fnExactTimesToFillRow.holds Try.pinned (OpenSpec.ofChange fnExactTimesToFillSpec)

/-- ITS FALSE NEIGHBOUR: 'it returns false'. Refute it at one input. -/
def fnExactTimesToFillWrong : ChangeSpec := { name := "fnExactTimesToFill", fn := fun _ => fun
  | [d1, d2] => { results := [.lit (.bool false)], args := [d1, d2] }
  | _ => none }
def FnExactTimesToFillWrongFalsely : Prop := fnExactTimesToFillRow.holds Try.pinned (OpenSpec.ofChange fnExactTimesToFillWrong)

/-- 'laws.FnExactShrinkLeft': WHATEVER THE INPUT: true; the input reads as it did. -/
def fnExactShrinkLeftSpec : ChangeSpec := { name := "fnExactShrinkLeft", fn := fun _ => fun
  | [d1, d2] => { results := [.lit (.bool true)], args := [d1, d2] }
  | _ => none }
def fnExactShrinkLeftRow : OpenClaim := { program := "ytjhokdccgachcaa", sum := "a85e0980bf471caacafe69a471ca6bc332c95a84aaa684c23edf16e3379fc138", func := "loop.example/g01220/laws.FnExactShrinkLeft", spec := "fnExactShrinkLeft", unfollowed := true, recurses := true, apart := false }
def FnExactShrinkLeftSaid : Prop := fnExactShrinkLeftRow.holds Try.pinned (OpenSpec.ofChange fnExactShrinkLeftSpec)

/-- ITS FALSE NEIGHBOUR: 'it returns false'. Refute it at one input. -/
def fnExactShrinkLeftWrong : ChangeSpec := { name := "fnExactShrinkLeft", fn := fun _ => fun
  | [d1, d2] => { results := [.lit (.bool false)], args := [d1, d2] }
  | _ => none }
def FnExactShrinkLeftWrongFalsely : Prop := fnExactShrinkLeftRow.holds Try.pinned (OpenSpec.ofChange fnExactShrinkLeftWrong)

/-- 'laws.FnExactIsOpened': WHATEVER THE INPUT: true; the input reads as it did. -/
def fnExactIsOpenedSpec : ChangeSpec := { name := "fnExactIsOpened", fn := fun _ => fun
  | [d1, d2] => { results := [.lit (.bool true)], args := [d1, d2] }
  | _ => none }
def fnExactIsOpenedRow : OpenClaim := { program := "ytjhokdccgachcaa", sum := "a85e0980bf471caacafe69a471ca6bc332c95a84aaa684c23edf16e3379fc138", func := "loop.example/g01220/laws.FnExactIsOpened", spec := "fnExactIsOpened", unfollowed := true, recurses := true, apart := false }
def FnExactIsOpenedSaid : Prop := fnExactIsOpenedRow.holds Try.pinned (OpenSpec.ofChange fnExactIsOpenedSpec)

/-- ITS FALSE NEIGHBOUR: 'it returns false'. Refute it at one input. -/
def fnExactIsOpenedWrong : ChangeSpec := { name := "fnExactIsOpened", fn := fun _ => fun
  | [d1, d2] => { results := [.lit (.bool false)], args := [d1, d2] }
  | _ => none }
def FnExactIsOpenedWrongFalsely : Prop := fnExactIsOpenedRow.holds Try.pinned (OpenSpec.ofChange fnExactIsOpenedWrong)

/-- 'laws.FnExactIsClosed': WHATEVER THE INPUT: true; the input reads as it did. -/
def fnExactIsClosedSpec : ChangeSpec := { name := "fnExactIsClosed", fn := fun _ => fun
  | [d1, d2] => { results := [.lit (.bool true)], args := [d1, d2] }
  | _ => none }
def fnExactIsClosedRow : OpenClaim := { program := "ytjhokdccgachcaa", sum := "a85e0980bf471caacafe69a471ca6bc332c95a84aaa684c23edf16e3379fc138", func := "loop.example/g01220/laws.FnExactIsClosed", spec := "fnExactIsClosed", unfollowed := true, recurses := true, apart := false }
def FnExactIsClosedSaid : Prop := fnExactIsClosedRow.holds Try.pinned (OpenSpec.ofChange fnExactIsClosedSpec)

/-- ITS FALSE NEIGHBOUR: 'it returns false'. Refute it at one input. -/
def fnExactIsClosedWrong : ChangeSpec := { name := "fnExactIsClosed", fn := fun _ => fun
  | [d1, d2] => { results := [.lit (.bool false)], args := [d1, d2] }
  | _ => none }
def FnExactIsClosedWrongFalsely : Prop := fnExactIsClosedRow.holds Try.pinned (OpenSpec.ofChange fnExactIsClosedWrong)

/-- 'laws.FnExactSumStamp': WHATEVER THE INPUT: true; the input reads as it did. -/
def fnExactSumStampSpec : ChangeSpec := { name := "fnExactSumStamp", fn := fun _ => fun
  | [d1, d2] => { results := [.lit (.bool true)], args := [d1, d2] }
  | _ => none }
def fnExactSumStampRow : OpenClaim := { program := "ytjhokdccgachcaa", sum := "a85e0980bf471caacafe69a471ca6bc332c95a84aaa684c23edf16e3379fc138", func := "loop.example/g01220/laws.FnExactSumStamp", spec := "fnExactSumStamp", unfollowed := true, recurses := true, apart := false }
def FnExactSumStampSaid : Prop := fnExactSumStampRow.holds Try.pinned (OpenSpec.ofChange fnExactSumStampSpec)

/-- ITS FALSE NEIGHBOUR: 'it returns false'. Refute it at one input. -/
def fnExactSumStampWrong : ChangeSpec := { name := "fnExactSumStamp", fn := fun _ => fun
  | [d1, d2] => { results := [.lit (.bool false)], args := [d1, d2] }
  | _ => none }
def FnExactSumStampWrongFalsely : Prop := fnExactSumStampRow.holds Try.pinned (OpenSpec.ofChange fnExactSumStampWrong)

/-- 'laws.FnOpened': WHATEVER THE INPUT: true; the input reads as it did. -/
def fnOpenedSpec : ChangeSpec := { name := "fnOpened", fn := fun _ => fun
  | [d] => { results := [.lit (.bool true)], args := [d] }
  | _ => none }
def fnOpenedRow : OpenClaim := { program := "ytjhokdccgachcaa", sum := "a85e0980bf471caacafe69a471ca6bc332c95a84aaa684c23edf16e3379fc138", func := "loop.example/g01220/laws.FnOpened", spec := "fnOpened", unfollowed := true, recurses := true, apart := false }
def FnOpenedSaid : Prop := fnOpenedRow.holds Try.pinned (OpenSpec.ofChange fnOpenedSpec)

/-- ITS FALSE NEIGHBOUR: 'it returns false'. Refute it at one input. -/
def fnOpenedWrong : ChangeSpec := { name := "fnOpened", fn := fun _ => fun
  | [d] => { results := [.lit (.bool false)], args := [d] }
  | _ => none }
def FnOpenedWrongFalsely : Prop := fnOpenedRow.holds Try.pinned (OpenSpec.ofChange fnOpenedWrong)

/-- 'laws.FnSpreadTimes': WHATEVER THE INPUT: true; the input reads as it did. -/
def fnSpreadTimesSpec : ChangeSpec := { name := "fnSpreadTimes", fn := fun _ => fun
  | [d] => { results := [.lit (.bool true)], args := [d] }
  | _ => none }
def fnSpreadTimesRow : OpenClaim := { program := "ytjhokdccgachcaa", sum := "a85e0980bf471caacafe69a471ca6bc332c95a84aaa684c23edf16e3379fc138", func := "loop.example/g01220/laws.FnSpreadTimes", spec := "fnSpreadTimes", unfollowed := true, recurses := true, apart := false }
def FnSpreadTimesSaid : Prop := fnSpreadTimesRow.holds Try.pinned (OpenSpec.ofChange fnSpreadTimesSpec)

/-- ITS FALSE NEIGHBOUR: 'it returns false'. Refute it at one input. -/
def fnSpreadTimesWrong : ChangeSpec := { name := "fnSpreadTimes", fn := fun _ => fun
  | [d] => { results := [.lit (.bool false)], args := [d] }
  | _ => none }
def FnSpreadTimesWrongFalsely : Prop := fnSpreadTimesRow.holds Try.pinned (OpenSpec.ofChange fnSpreadTimesWrong)

/-- 'laws.FnExactSheetOf': WHATEVER THE INPUT: true; the input reads as it did. -/
def fnExactSheetOfSpec : ChangeSpec := { name := "fnExactSheetOf", fn := fun _ => fun
  | [d] => { results := [.lit (.bool true)], args := [d] }
  | _ => none }
def fnExactSheetOfRow : OpenClaim := { program := "ytjhokdccgachcaa", sum := "a85e0980bf471caacafe69a471ca6bc332c95a84aaa684c23edf16e3379fc138", func := "loop.example/g01220/laws.FnExactSheetOf", spec := "fnExactSheetOf", apart := false }
def FnExactSheetOfSaid : Prop := fnExactSheetOfRow.holds Try.pinned (OpenSpec.ofChange fnExactSheetOfSpec)

/-- ITS FALSE NEIGHBOUR: 'it returns false'. Refute it at one input. -/
def fnExactSheetOfWrong : ChangeSpec := { name := "fnExactSheetOf", fn := fun _ => fun
  | [d] => { results := [.lit (.bool false)], args := [d] }
  | _ => none }
def FnExactSheetOfWrongFalsely : Prop := fnExactSheetOfRow.holds Try.pinned (OpenSpec.ofChange fnExactSheetOfWrong)

/-- 'laws.FnExactSheetText': WHATEVER THE INPUT: true; the input reads as it did. -/
def fnExactSheetTextSpec : ChangeSpec := { name := "fnExactSheetText", fn := fun _ => fun
  | [d] => { results := [.lit (.bool true)], args := [d] }
  | _ => none }
def fnExactSheetTextRow : OpenClaim := { program := "ytjhokdccgachcaa", sum := "a85e0980bf471caacafe69a471ca6bc332c95a84aaa684c23edf16e3379fc138", func := "loop.example/g01220/laws.FnExactSheetText", spec := "fnExactSheetText", inPlace := ["internal/abi.NoEscape", "internal/bytealg.MakeNoZero"], apart := false }
def FnExactSheetTextSaid : Prop := fnExactSheetTextRow.holds Try.pinned (OpenSpec.ofChange fnExactSheetTextSpec)

/-- ITS FALSE NEIGHBOUR: 'it returns false'. Refute it at one input. -/
def fnExactSheetTextWrong : ChangeSpec := { name := "fnExactSheetText", fn := fun _ => fun
  | [d] => { results := [.lit (.bool false)], args := [d] }
  | _ => none }
def FnExactSheetTextWrongFalsely : Prop := fnExactSheetTextRow.holds Try.pinned (OpenSpec.ofChange fnExactSheetTextWrong)

/-- 'laws.FnExactParseSheet': WHATEVER THE INPUT: true; the input reads as it did. -/
def fnExactParseSheetSpec : ChangeSpec := { name := "fnExactParseSheet", fn := fun _ => fun
  | [d] => { results := [.lit (.bool true)], args := [d] }
  | _ => none }
def fnExactParseSheetRow : OpenClaim := { program := "ytjhokdccgachcaa", sum := "a85e0980bf471caacafe69a471ca6bc332c95a84aaa684c23edf16e3379fc138", func := "loop.example/g01220/laws.FnExactParseSheet", spec := "fnExactParseSheet", unfollowed := true, recurses := true, apart := false }
def FnExactParseSheetSaid : Prop := fnExactParseSheetRow.holds Try.pinned (OpenSpec.ofChange fnExactParseSheetSpec)

/-- ITS FALSE NEIGHBOUR: 'it returns false'. Refute it at one input. -/
def fnExactParseSheetWrong : ChangeSpec := { name := "fnExactParseSheet", fn := fun _ => fun
  | [d] => { results := [.lit (.bool false)], args := [d] }
  | _ => none }
def FnExactParseSheetWrongFalsely : Prop := fnExactParseSheetRow.holds Try.pinned (OpenSpec.ofChange fnExactParseSheetWrong)

/-- 'laws.FnMotions': WHATEVER THE INPUT: true; the input reads as it did. -/
def fnMotionsSpec : ChangeSpec := { name := "fnMotions", fn := fun _ => fun
  | [d] => { results := [.lit (.bool true)], args := [d] }
  | _ => none }
def fnMotionsRow : OpenClaim := { program := "ytjhokdccgachcaa", sum := "a85e0980bf471caacafe69a471ca6bc332c95a84aaa684c23edf16e3379fc138", func := "loop.example/g01220/laws.FnMotions", spec := "fnMotions", apart := false }
def FnMotionsSaid : Prop := fnMotionsRow.holds Try.pinned (OpenSpec.ofChange fnMotionsSpec)

/-- ITS FALSE NEIGHBOUR: 'it returns false'. Refute it at one input. -/
def fnMotionsWrong : ChangeSpec := { name := "fnMotions", fn := fun _ => fun
  | [d] => { results := [.lit (.bool false)], args := [d] }
  | _ => none }
def FnMotionsWrongFalsely : Prop := fnMotionsRow.holds Try.pinned (OpenSpec.ofChange fnMotionsWrong)

/- THE SECOND FORM. 'bulk': how many values and letters a reading holds, each counted each time it is reached (what is shared counts as often as it is met; a slice's spare places count too). A statement '..UptoSaid' is the law's where the arguments, and the package variables that the reading takes, are together of bulk at most 1048576: NARROWER than '..Said'. Prove '..Said' where nothing that the law and all that it calls make is longer than what came in: it says more and counts as full. Else prove '..UptoSaid'. A law counts once. -/
mutual
def uptoBulk {H : Type} : DataW H → Nat
  | .lit (.string bytes) => bytes.length + 1
  | .lit _ => 1
  | .nil => 1
  | .ptr d => uptoBulk d + 1
  | .slice elems spare => uptoBulkAll elems + uptoBulkAll spare + 1
  | .agg parts => uptoBulkAll parts + 1
  | .iface _ d => uptoBulk d + 1
  | .map entries => uptoBulkEntries entries + 1
  | .held _ => 1
def uptoBulkAll {H : Type} : List (DataW H) → Nat
  | [] => 0
  | d :: r => uptoBulk d + uptoBulkAll r
def uptoBulkEntries {H : Type} : List (Lit × DataW H) → Nat
  | [] => 0
  | x :: r => uptoBulkEntry x + uptoBulkEntries r
def uptoBulkEntry {H : Type} : Lit × DataW H → Nat
  | (.string bytes, d) => bytes.length + uptoBulk d + 1
  | (_, d) => uptoBulk d + 1
 end
def uptoSmall : (H : Type) → List (DataW H) → Bool := fun _ ds => decide (uptoBulkAll ds ≤ 1048576)
def OpenSpec.upto (s : _root_.Go.ChangeSpec) : _root_.Go.OpenSpec := { _root_.Go.OpenSpec.ofChange s with cond := some uptoSmall }

/-- 'laws.FnExactSpreadSheet', WHERE WHAT IT READS IS OF BULK AT MOST 1048576: true; the input reads as it did. -/
def fnExactSpreadSheetUptoRow : OpenClaim := { program := "ytjhokdccgachcaa", sum := "a85e0980bf471caacafe69a471ca6bc332c95a84aaa684c23edf16e3379fc138", func := "loop.example/g01220/laws.FnExactSpreadSheet", spec := "fnExactSpreadSheet", unfollowed := true, recurses := true, apart := false, narrowed := true }
def FnExactSpreadSheetUptoSaid : Prop := fnExactSpreadSheetUptoRow.holds Try.pinned (OpenSpec.upto fnExactSpreadSheetSpec)

/-- 'laws.FnExactShrinkSheet', WHERE WHAT IT READS IS OF BULK AT MOST 1048576: true; the input reads as it did. -/
def fnExactShrinkSheetUptoRow : OpenClaim := { program := "ytjhokdccgachcaa", sum := "a85e0980bf471caacafe69a471ca6bc332c95a84aaa684c23edf16e3379fc138", func := "loop.example/g01220/laws.FnExactShrinkSheet", spec := "fnExactShrinkSheet", unfollowed := true, recurses := true, apart := false, narrowed := true }
def FnExactShrinkSheetUptoSaid : Prop := fnExactShrinkSheetUptoRow.holds Try.pinned (OpenSpec.upto fnExactShrinkSheetSpec)

/-- 'laws.FnExactOpenSheet', WHERE WHAT IT READS IS OF BULK AT MOST 1048576: true; the input reads as it did. -/
def fnExactOpenSheetUptoRow : OpenClaim := { program := "ytjhokdccgachcaa", sum := "a85e0980bf471caacafe69a471ca6bc332c95a84aaa684c23edf16e3379fc138", func := "loop.example/g01220/laws.FnExactOpenSheet", spec := "fnExactOpenSheet", unfollowed := true, recurses := true, apart := false, narrowed := true }
def FnExactOpenSheetUptoSaid : Prop := fnExactOpenSheetUptoRow.holds Try.pinned (OpenSpec.upto fnExactOpenSheetSpec)

/-- 'laws.FnExactCloseSheet', WHERE WHAT IT READS IS OF BULK AT MOST 1048576: true; the input reads as it did. -/
def fnExactCloseSheetUptoRow : OpenClaim := { program := "ytjhokdccgachcaa", sum := "a85e0980bf471caacafe69a471ca6bc332c95a84aaa684c23edf16e3379fc138", func := "loop.example/g01220/laws.FnExactCloseSheet", spec := "fnExactCloseSheet", unfollowed := true, recurses := true, apart := false, narrowed := true }
def FnExactCloseSheetUptoSaid : Prop := fnExactCloseSheetUptoRow.holds Try.pinned (OpenSpec.upto fnExactCloseSheetSpec)

/-- 'laws.FnExactReflectSheet', WHERE WHAT IT READS IS OF BULK AT MOST 1048576: true; the input reads as it did. -/
def fnExactReflectSheetUptoRow : OpenClaim := { program := "ytjhokdccgachcaa", sum := "a85e0980bf471caacafe69a471ca6bc332c95a84aaa684c23edf16e3379fc138", func := "loop.example/g01220/laws.FnExactReflectSheet", spec := "fnExactReflectSheet", apart := false, narrowed := true }
def FnExactReflectSheetUptoSaid : Prop := fnExactReflectSheetUptoRow.holds Try.pinned (OpenSpec.upto fnExactReflectSheetSpec)

/-- 'laws.FnExactInnerEdge', WHERE WHAT IT READS IS OF BULK AT MOST 1048576: true; the input reads as it did. -/
def fnExactInnerEdgeUptoRow : OpenClaim := { program := "ytjhokdccgachcaa", sum := "a85e0980bf471caacafe69a471ca6bc332c95a84aaa684c23edf16e3379fc138", func := "loop.example/g01220/laws.FnExactInnerEdge", spec := "fnExactInnerEdge", unfollowed := true, recurses := true, apart := false, narrowed := true }
def FnExactInnerEdgeUptoSaid : Prop := fnExactInnerEdgeUptoRow.holds Try.pinned (OpenSpec.upto fnExactInnerEdgeSpec)

/-- 'laws.FnExactOuterEdge', WHERE WHAT IT READS IS OF BULK AT MOST 1048576: true; the input reads as it did. -/
def fnExactOuterEdgeUptoRow : OpenClaim := { program := "ytjhokdccgachcaa", sum := "a85e0980bf471caacafe69a471ca6bc332c95a84aaa684c23edf16e3379fc138", func := "loop.example/g01220/laws.FnExactOuterEdge", spec := "fnExactOuterEdge", unfollowed := true, recurses := true, apart := false, narrowed := true }
def FnExactOuterEdgeUptoSaid : Prop := fnExactOuterEdgeUptoRow.holds Try.pinned (OpenSpec.upto fnExactOuterEdgeSpec)

/-- 'laws.FnExactHitSheet', WHERE WHAT IT READS IS OF BULK AT MOST 1048576: true; the input reads as it did. -/
def fnExactHitSheetUptoRow : OpenClaim := { program := "ytjhokdccgachcaa", sum := "a85e0980bf471caacafe69a471ca6bc332c95a84aaa684c23edf16e3379fc138", func := "loop.example/g01220/laws.FnExactHitSheet", spec := "fnExactHitSheet", unfollowed := true, recurses := true, apart := false, narrowed := true }
def FnExactHitSheetUptoSaid : Prop := fnExactHitSheetUptoRow.holds Try.pinned (OpenSpec.upto fnExactHitSheetSpec)

/-- 'laws.FnExactSpreadTimes', WHERE WHAT IT READS IS OF BULK AT MOST 1048576: true; the input reads as it did. -/
def fnExactSpreadTimesUptoRow : OpenClaim := { program := "ytjhokdccgachcaa", sum := "a85e0980bf471caacafe69a471ca6bc332c95a84aaa684c23edf16e3379fc138", func := "loop.example/g01220/laws.FnExactSpreadTimes", spec := "fnExactSpreadTimes", unfollowed := true, recurses := true, apart := false, narrowed := true }
def FnExactSpreadTimesUptoSaid : Prop := fnExactSpreadTimesUptoRow.holds Try.pinned (OpenSpec.upto fnExactSpreadTimesSpec)

/-- 'laws.FnExactTimesToFill', WHERE WHAT IT READS IS OF BULK AT MOST 1048576: true; the input reads as it did. -/
def fnExactTimesToFillUptoRow : OpenClaim := { program := "ytjhokdccgachcaa", sum := "a85e0980bf471caacafe69a471ca6bc332c95a84aaa684c23edf16e3379fc138", func := "loop.example/g01220/laws.FnExactTimesToFill", spec := "fnExactTimesToFill", unfollowed := true, recurses := true, apart := false, narrowed := true }
def FnExactTimesToFillUptoSaid : Prop := fnExactTimesToFillUptoRow.holds Try.pinned (OpenSpec.upto fnExactTimesToFillSpec)

/-- 'laws.FnExactShrinkLeft', WHERE WHAT IT READS IS OF BULK AT MOST 1048576: true; the input reads as it did. -/
def fnExactShrinkLeftUptoRow : OpenClaim := { program := "ytjhokdccgachcaa", sum := "a85e0980bf471caacafe69a471ca6bc332c95a84aaa684c23edf16e3379fc138", func := "loop.example/g01220/laws.FnExactShrinkLeft", spec := "fnExactShrinkLeft", unfollowed := true, recurses := true, apart := false, narrowed := true }
def FnExactShrinkLeftUptoSaid : Prop := fnExactShrinkLeftUptoRow.holds Try.pinned (OpenSpec.upto fnExactShrinkLeftSpec)

/-- 'laws.FnExactIsOpened', WHERE WHAT IT READS IS OF BULK AT MOST 1048576: true; the input reads as it did. -/
def fnExactIsOpenedUptoRow : OpenClaim := { program := "ytjhokdccgachcaa", sum := "a85e0980bf471caacafe69a471ca6bc332c95a84aaa684c23edf16e3379fc138", func := "loop.example/g01220/laws.FnExactIsOpened", spec := "fnExactIsOpened", unfollowed := true, recurses := true, apart := false, narrowed := true }
def FnExactIsOpenedUptoSaid : Prop := fnExactIsOpenedUptoRow.holds Try.pinned (OpenSpec.upto fnExactIsOpenedSpec)

/-- 'laws.FnExactIsClosed', WHERE WHAT IT READS IS OF BULK AT MOST 1048576: true; the input reads as it did. -/
def fnExactIsClosedUptoRow : OpenClaim := { program := "ytjhokdccgachcaa", sum := "a85e0980bf471caacafe69a471ca6bc332c95a84aaa684c23edf16e3379fc138", func := "loop.example/g01220/laws.FnExactIsClosed", spec := "fnExactIsClosed", unfollowed := true, recurses := true, apart := false, narrowed := true }
def FnExactIsClosedUptoSaid : Prop := fnExactIsClosedUptoRow.holds Try.pinned (OpenSpec.upto fnExactIsClosedSpec)

/-- 'laws.FnExactSumStamp', WHERE WHAT IT READS IS OF BULK AT MOST 1048576: true; the input reads as it did. -/
def fnExactSumStampUptoRow : OpenClaim := { program := "ytjhokdccgachcaa", sum := "a85e0980bf471caacafe69a471ca6bc332c95a84aaa684c23edf16e3379fc138", func := "loop.example/g01220/laws.FnExactSumStamp", spec := "fnExactSumStamp", unfollowed := true, recurses := true, apart := false, narrowed := true }
def FnExactSumStampUptoSaid : Prop := fnExactSumStampUptoRow.holds Try.pinned (OpenSpec.upto fnExactSumStampSpec)

/-- 'laws.FnOpened', WHERE WHAT IT READS IS OF BULK AT MOST 1048576: true; the input reads as it did. -/
def fnOpenedUptoRow : OpenClaim := { program := "ytjhokdccgachcaa", sum := "a85e0980bf471caacafe69a471ca6bc332c95a84aaa684c23edf16e3379fc138", func := "loop.example/g01220/laws.FnOpened", spec := "fnOpened", unfollowed := true, recurses := true, apart := false, narrowed := true }
def FnOpenedUptoSaid : Prop := fnOpenedUptoRow.holds Try.pinned (OpenSpec.upto fnOpenedSpec)

/-- 'laws.FnSpreadTimes', WHERE WHAT IT READS IS OF BULK AT MOST 1048576: true; the input reads as it did. -/
def fnSpreadTimesUptoRow : OpenClaim := { program := "ytjhokdccgachcaa", sum := "a85e0980bf471caacafe69a471ca6bc332c95a84aaa684c23edf16e3379fc138", func := "loop.example/g01220/laws.FnSpreadTimes", spec := "fnSpreadTimes", unfollowed := true, recurses := true, apart := false, narrowed := true }
def FnSpreadTimesUptoSaid : Prop := fnSpreadTimesUptoRow.holds Try.pinned (OpenSpec.upto fnSpreadTimesSpec)

/-- 'laws.FnExactSheetOf', WHERE WHAT IT READS IS OF BULK AT MOST 1048576: true; the input reads as it did. -/
def fnExactSheetOfUptoRow : OpenClaim := { program := "ytjhokdccgachcaa", sum := "a85e0980bf471caacafe69a471ca6bc332c95a84aaa684c23edf16e3379fc138", func := "loop.example/g01220/laws.FnExactSheetOf", spec := "fnExactSheetOf", apart := false, narrowed := true }
def FnExactSheetOfUptoSaid : Prop := fnExactSheetOfUptoRow.holds Try.pinned (OpenSpec.upto fnExactSheetOfSpec)

/-- 'laws.FnExactSheetText', WHERE WHAT IT READS IS OF BULK AT MOST 1048576: true; the input reads as it did. -/
def fnExactSheetTextUptoRow : OpenClaim := { program := "ytjhokdccgachcaa", sum := "a85e0980bf471caacafe69a471ca6bc332c95a84aaa684c23edf16e3379fc138", func := "loop.example/g01220/laws.FnExactSheetText", spec := "fnExactSheetText", inPlace := ["internal/abi.NoEscape", "internal/bytealg.MakeNoZero"], apart := false, narrowed := true }
def FnExactSheetTextUptoSaid : Prop := fnExactSheetTextUptoRow.holds Try.pinned (OpenSpec.upto fnExactSheetTextSpec)

/-- 'laws.FnExactParseSheet', WHERE WHAT IT READS IS OF BULK AT MOST 1048576: true; the input reads as it did. -/
def fnExactParseSheetUptoRow : OpenClaim := { program := "ytjhokdccgachcaa", sum := "a85e0980bf471caacafe69a471ca6bc332c95a84aaa684c23edf16e3379fc138", func := "loop.example/g01220/laws.FnExactParseSheet", spec := "fnExactParseSheet", unfollowed := true, recurses := true, apart := false, narrowed := true }
def FnExactParseSheetUptoSaid : Prop := fnExactParseSheetUptoRow.holds Try.pinned (OpenSpec.upto fnExactParseSheetSpec)

/-- 'laws.FnMotions', WHERE WHAT IT READS IS OF BULK AT MOST 1048576: true; the input reads as it did. -/
def fnMotionsUptoRow : OpenClaim := { program := "ytjhokdccgachcaa", sum := "a85e0980bf471caacafe69a471ca6bc332c95a84aaa684c23edf16e3379fc138", func := "loop.example/g01220/laws.FnMotions", spec := "fnMotions", apart := false, narrowed := true }
def FnMotionsUptoSaid : Prop := fnMotionsUptoRow.holds Try.pinned (OpenSpec.upto fnMotionsSpec)

end Rows
end Go.Proofs.Ytjhokdccgachcaa
