/-
  No cell of these rows narrows 'for every input' (looked for: loops, veiled, ifaces, maps, wideKeys, modest, calm, conditions, laid).
  DERIVED. THE GIVEN ROWS OF THIS SEAT. 19 by the template 'for every input the law returns true; each argument reads behind the call as it read before'; 0 by the template 'total and deterministic' (their statements: YtkjaaaefcmpokaaTotals.lean).
  GIVEN WITH THE SEED: the statements are not yours to turn. If you find one false, say at which input.
  Laid BY PROGRAM, IN A SANDBOX (cutbox-rows.mjs): the forced cells as the released guide's own fill.sh prints them over the translation f3f45a633c56ad3d… (all of the seat's roots in one cut). By AI agents, Wed Nov 11 2026. No macro, syntax, notation, axiom, sorry.
-/
import Derived.Test.YtkjaaaefcmpokaaChecked
import GoSem.Claim
import GoSem.ClaimJoined
import GoSem.ClaimMapViews
import Derived.JoinedTies
import Derived.KernelRfl
namespace Go.Proofs.Ytkjaaaefcmpokaa
/- THE CELL 'sum', in the pinned program and in every row, IS THE sha256 OF THE DUMP (.gsa) THAT YtkjaaaefcmpokaaProg.lean LOADS. Nothing in Lean hashes anything: it is a label: what it is worth is what the hold of that sum in a sandbox is worth. -/
noncomputable def Try.pinned : Pinned := { name := "ytkjaaaefcmpokaa", sum := "f3f45a633c56ad3d1abdea2e0a6e4aeb2fb766a3ece3dfc96896a51cfdfb299e", checked := Try.checked }
namespace Rows
def none {H : Type} : Left H := { results := [], args := [] }

/-- 'laws.FnExactFreeCells': WHATEVER THE INPUT: true; the input reads as it did. -/
def fnExactFreeCellsSpec : ChangeSpec := { name := "fnExactFreeCells", fn := fun _ => fun
  | [d1, d2] => { results := [.lit (.bool true)], args := [d1, d2] }
  | _ => none }
def fnExactFreeCellsRow : OpenClaim := { program := "ytkjaaaefcmpokaa", sum := "f3f45a633c56ad3d1abdea2e0a6e4aeb2fb766a3ece3dfc96896a51cfdfb299e", func := "loop.example/g01220/laws.FnExactFreeCells", spec := "fnExactFreeCells", unfollowed := true, recurses := true, plainKeys := false, apart := false }
def FnExactFreeCellsSaid : Prop := fnExactFreeCellsRow.holds Try.pinned (OpenSpec.ofChange fnExactFreeCellsSpec)

/-- ITS FALSE NEIGHBOUR: 'it returns false'. Refute it at one input. -/
def fnExactFreeCellsWrong : ChangeSpec := { name := "fnExactFreeCells", fn := fun _ => fun
  | [d1, d2] => { results := [.lit (.bool false)], args := [d1, d2] }
  | _ => none }
def FnExactFreeCellsWrongFalsely : Prop := fnExactFreeCellsRow.holds Try.pinned (OpenSpec.ofChange fnExactFreeCellsWrong)

/-- 'laws.FnExactNextsOf': WHATEVER THE INPUT: true; the input reads as it did. -/
def fnExactNextsOfSpec : ChangeSpec := { name := "fnExactNextsOf", fn := fun _ => fun
  | [d1, d2] => { results := [.lit (.bool true)], args := [d1, d2] }
  | _ => none }
def fnExactNextsOfRow : OpenClaim := { program := "ytkjaaaefcmpokaa", sum := "f3f45a633c56ad3d1abdea2e0a6e4aeb2fb766a3ece3dfc96896a51cfdfb299e", func := "loop.example/g01220/laws.FnExactNextsOf", spec := "fnExactNextsOf", unfollowed := true, recurses := true, plainKeys := false, apart := false }
def FnExactNextsOfSaid : Prop := fnExactNextsOfRow.holds Try.pinned (OpenSpec.ofChange fnExactNextsOfSpec)

/-- ITS FALSE NEIGHBOUR: 'it returns false'. Refute it at one input. -/
def fnExactNextsOfWrong : ChangeSpec := { name := "fnExactNextsOf", fn := fun _ => fun
  | [d1, d2] => { results := [.lit (.bool false)], args := [d1, d2] }
  | _ => none }
def FnExactNextsOfWrongFalsely : Prop := fnExactNextsOfRow.holds Try.pinned (OpenSpec.ofChange fnExactNextsOfWrong)

/-- 'laws.FnExactLastWins': WHATEVER THE INPUT: true; the input reads as it did. -/
def fnExactLastWinsSpec : ChangeSpec := { name := "fnExactLastWins", fn := fun _ => fun
  | [d1, d2] => { results := [.lit (.bool true)], args := [d1, d2] }
  | _ => none }
def fnExactLastWinsRow : OpenClaim := { program := "ytkjaaaefcmpokaa", sum := "f3f45a633c56ad3d1abdea2e0a6e4aeb2fb766a3ece3dfc96896a51cfdfb299e", func := "loop.example/g01220/laws.FnExactLastWins", spec := "fnExactLastWins", unfollowed := true, recurses := true, plainKeys := false, apart := false }
def FnExactLastWinsSaid : Prop := fnExactLastWinsRow.holds Try.pinned (OpenSpec.ofChange fnExactLastWinsSpec)

/-- ITS FALSE NEIGHBOUR: 'it returns false'. Refute it at one input. -/
def fnExactLastWinsWrong : ChangeSpec := { name := "fnExactLastWins", fn := fun _ => fun
  | [d1, d2] => { results := [.lit (.bool false)], args := [d1, d2] }
  | _ => none }
def FnExactLastWinsWrongFalsely : Prop := fnExactLastWinsRow.holds Try.pinned (OpenSpec.ofChange fnExactLastWinsWrong)

/-- 'laws.FnExactMissWins': WHATEVER THE INPUT: true; the input reads as it did. -/
def fnExactMissWinsSpec : ChangeSpec := { name := "fnExactMissWins", fn := fun _ => fun
  | [d1, d2] => { results := [.lit (.bool true)], args := [d1, d2] }
  | _ => none }
def fnExactMissWinsRow : OpenClaim := { program := "ytkjaaaefcmpokaa", sum := "f3f45a633c56ad3d1abdea2e0a6e4aeb2fb766a3ece3dfc96896a51cfdfb299e", func := "loop.example/g01220/laws.FnExactMissWins", spec := "fnExactMissWins", unfollowed := true, recurses := true, plainKeys := false, apart := false }
def FnExactMissWinsSaid : Prop := fnExactMissWinsRow.holds Try.pinned (OpenSpec.ofChange fnExactMissWinsSpec)

/-- ITS FALSE NEIGHBOUR: 'it returns false'. Refute it at one input. -/
def fnExactMissWinsWrong : ChangeSpec := { name := "fnExactMissWins", fn := fun _ => fun
  | [d1, d2] => { results := [.lit (.bool false)], args := [d1, d2] }
  | _ => none }
def FnExactMissWinsWrongFalsely : Prop := fnExactMissWinsRow.holds Try.pinned (OpenSpec.ofChange fnExactMissWinsWrong)

/-- 'laws.FnExactNumberOf': WHATEVER THE INPUT: true; the input reads as it did. -/
def fnExactNumberOfSpec : ChangeSpec := { name := "fnExactNumberOf", fn := fun _ => fun
  | [d1, d2] => { results := [.lit (.bool true)], args := [d1, d2] }
  | _ => none }
def fnExactNumberOfRow : OpenClaim := { program := "ytkjaaaefcmpokaa", sum := "f3f45a633c56ad3d1abdea2e0a6e4aeb2fb766a3ece3dfc96896a51cfdfb299e", func := "loop.example/g01220/laws.FnExactNumberOf", spec := "fnExactNumberOf", unfollowed := true, recurses := true, plainKeys := false, apart := false }
def FnExactNumberOfSaid : Prop := fnExactNumberOfRow.holds Try.pinned (OpenSpec.ofChange fnExactNumberOfSpec)

/-- ITS FALSE NEIGHBOUR: 'it returns false'. Refute it at one input. -/
def fnExactNumberOfWrong : ChangeSpec := { name := "fnExactNumberOf", fn := fun _ => fun
  | [d1, d2] => { results := [.lit (.bool false)], args := [d1, d2] }
  | _ => none }
def FnExactNumberOfWrongFalsely : Prop := fnExactNumberOfRow.holds Try.pinned (OpenSpec.ofChange fnExactNumberOfWrong)

/-- 'laws.FnExactWinningCells': WHATEVER THE INPUT: true; the input reads as it did. -/
def fnExactWinningCellsSpec : ChangeSpec := { name := "fnExactWinningCells", fn := fun _ => fun
  | [d1, d2] => { results := [.lit (.bool true)], args := [d1, d2] }
  | _ => none }
def fnExactWinningCellsRow : OpenClaim := { program := "ytkjaaaefcmpokaa", sum := "f3f45a633c56ad3d1abdea2e0a6e4aeb2fb766a3ece3dfc96896a51cfdfb299e", func := "loop.example/g01220/laws.FnExactWinningCells", spec := "fnExactWinningCells", unfollowed := true, recurses := true, plainKeys := false, apart := false }
def FnExactWinningCellsSaid : Prop := fnExactWinningCellsRow.holds Try.pinned (OpenSpec.ofChange fnExactWinningCellsSpec)

/-- ITS FALSE NEIGHBOUR: 'it returns false'. Refute it at one input. -/
def fnExactWinningCellsWrong : ChangeSpec := { name := "fnExactWinningCells", fn := fun _ => fun
  | [d1, d2] => { results := [.lit (.bool false)], args := [d1, d2] }
  | _ => none }
def FnExactWinningCellsWrongFalsely : Prop := fnExactWinningCellsRow.holds Try.pinned (OpenSpec.ofChange fnExactWinningCellsWrong)

/-- 'laws.FnExactLongestGame': WHATEVER THE INPUT: true; the input reads as it did. -/
def fnExactLongestGameSpec : ChangeSpec := { name := "fnExactLongestGame", fn := fun _ => fun
  | [d1, d2] => { results := [.lit (.bool true)], args := [d1, d2] }
  | _ => none }
def fnExactLongestGameRow : OpenClaim := { program := "ytkjaaaefcmpokaa", sum := "f3f45a633c56ad3d1abdea2e0a6e4aeb2fb766a3ece3dfc96896a51cfdfb299e", func := "loop.example/g01220/laws.FnExactLongestGame", spec := "fnExactLongestGame", unfollowed := true, recurses := true, plainKeys := false, apart := false }
def FnExactLongestGameSaid : Prop := fnExactLongestGameRow.holds Try.pinned (OpenSpec.ofChange fnExactLongestGameSpec)

/-- ITS FALSE NEIGHBOUR: 'it returns false'. Refute it at one input. -/
def fnExactLongestGameWrong : ChangeSpec := { name := "fnExactLongestGame", fn := fun _ => fun
  | [d1, d2] => { results := [.lit (.bool false)], args := [d1, d2] }
  | _ => none }
def FnExactLongestGameWrongFalsely : Prop := fnExactLongestGameRow.holds Try.pinned (OpenSpec.ofChange fnExactLongestGameWrong)

/-- 'laws.FnExactShortestGame': WHATEVER THE INPUT: true; the input reads as it did. -/
def fnExactShortestGameSpec : ChangeSpec := { name := "fnExactShortestGame", fn := fun _ => fun
  | [d1, d2] => { results := [.lit (.bool true)], args := [d1, d2] }
  | _ => none }
def fnExactShortestGameRow : OpenClaim := { program := "ytkjaaaefcmpokaa", sum := "f3f45a633c56ad3d1abdea2e0a6e4aeb2fb766a3ece3dfc96896a51cfdfb299e", func := "loop.example/g01220/laws.FnExactShortestGame", spec := "fnExactShortestGame", unfollowed := true, recurses := true, plainKeys := false, apart := false }
def FnExactShortestGameSaid : Prop := fnExactShortestGameRow.holds Try.pinned (OpenSpec.ofChange fnExactShortestGameSpec)

/-- ITS FALSE NEIGHBOUR: 'it returns false'. Refute it at one input. -/
def fnExactShortestGameWrong : ChangeSpec := { name := "fnExactShortestGame", fn := fun _ => fun
  | [d1, d2] => { results := [.lit (.bool false)], args := [d1, d2] }
  | _ => none }
def FnExactShortestGameWrongFalsely : Prop := fnExactShortestGameRow.holds Try.pinned (OpenSpec.ofChange fnExactShortestGameWrong)

/-- 'laws.FnExactPlayParty': WHATEVER THE INPUT: true; the input reads as it did. -/
def fnExactPlayPartySpec : ChangeSpec := { name := "fnExactPlayParty", fn := fun _ => fun
  | [d1, d2, d3] => { results := [.lit (.bool true)], args := [d1, d2, d3] }
  | _ => none }
def fnExactPlayPartyRow : OpenClaim := { program := "ytkjaaaefcmpokaa", sum := "f3f45a633c56ad3d1abdea2e0a6e4aeb2fb766a3ece3dfc96896a51cfdfb299e", func := "loop.example/g01220/laws.FnExactPlayParty", spec := "fnExactPlayParty", unfollowed := true, recurses := true, plainKeys := false, apart := false }
def FnExactPlayPartySaid : Prop := fnExactPlayPartyRow.holds Try.pinned (OpenSpec.ofChange fnExactPlayPartySpec)

/-- ITS FALSE NEIGHBOUR: 'it returns false'. Refute it at one input. -/
def fnExactPlayPartyWrong : ChangeSpec := { name := "fnExactPlayParty", fn := fun _ => fun
  | [d1, d2, d3] => { results := [.lit (.bool false)], args := [d1, d2, d3] }
  | _ => none }
def FnExactPlayPartyWrongFalsely : Prop := fnExactPlayPartyRow.holds Try.pinned (OpenSpec.ofChange fnExactPlayPartyWrong)

/-- 'laws.FnExactMirrorCell': WHATEVER THE INPUT: true; the input reads as it did. -/
def fnExactMirrorCellSpec : ChangeSpec := { name := "fnExactMirrorCell", fn := fun _ => fun
  | [d1, d2] => { results := [.lit (.bool true)], args := [d1, d2] }
  | _ => none }
def fnExactMirrorCellRow : OpenClaim := { program := "ytkjaaaefcmpokaa", sum := "f3f45a633c56ad3d1abdea2e0a6e4aeb2fb766a3ece3dfc96896a51cfdfb299e", func := "loop.example/g01220/laws.FnExactMirrorCell", spec := "fnExactMirrorCell", plainKeys := false, apart := false }
def FnExactMirrorCellSaid : Prop := fnExactMirrorCellRow.holds Try.pinned (OpenSpec.ofChange fnExactMirrorCellSpec)

/-- ITS FALSE NEIGHBOUR: 'it returns false'. Refute it at one input. -/
def fnExactMirrorCellWrong : ChangeSpec := { name := "fnExactMirrorCell", fn := fun _ => fun
  | [d1, d2] => { results := [.lit (.bool false)], args := [d1, d2] }
  | _ => none }
def FnExactMirrorCellWrongFalsely : Prop := fnExactMirrorCellRow.holds Try.pinned (OpenSpec.ofChange fnExactMirrorCellWrong)

/-- 'laws.FnExactMirrorWins': WHATEVER THE INPUT: true; the input reads as it did. -/
def fnExactMirrorWinsSpec : ChangeSpec := { name := "fnExactMirrorWins", fn := fun _ => fun
  | [d1, d2] => { results := [.lit (.bool true)], args := [d1, d2] }
  | _ => none }
def fnExactMirrorWinsRow : OpenClaim := { program := "ytkjaaaefcmpokaa", sum := "f3f45a633c56ad3d1abdea2e0a6e4aeb2fb766a3ece3dfc96896a51cfdfb299e", func := "loop.example/g01220/laws.FnExactMirrorWins", spec := "fnExactMirrorWins", plainKeys := false, apart := false }
def FnExactMirrorWinsSaid : Prop := fnExactMirrorWinsRow.holds Try.pinned (OpenSpec.ofChange fnExactMirrorWinsSpec)

/-- ITS FALSE NEIGHBOUR: 'it returns false'. Refute it at one input. -/
def fnExactMirrorWinsWrong : ChangeSpec := { name := "fnExactMirrorWins", fn := fun _ => fun
  | [d1, d2] => { results := [.lit (.bool false)], args := [d1, d2] }
  | _ => none }
def FnExactMirrorWinsWrongFalsely : Prop := fnExactMirrorWinsRow.holds Try.pinned (OpenSpec.ofChange fnExactMirrorWinsWrong)

/-- 'laws.FnPressParties': WHATEVER THE INPUT: true; the input reads as it did. -/
def fnPressPartiesSpec : ChangeSpec := { name := "fnPressParties", fn := fun _ => fun
  | [d] => { results := [.lit (.bool true)], args := [d] }
  | _ => none }
def fnPressPartiesRow : OpenClaim := { program := "ytkjaaaefcmpokaa", sum := "f3f45a633c56ad3d1abdea2e0a6e4aeb2fb766a3ece3dfc96896a51cfdfb299e", func := "loop.example/g01220/laws.FnPressParties", spec := "fnPressParties", unfollowed := true, recurses := true, plainKeys := false, apart := false }
def FnPressPartiesSaid : Prop := fnPressPartiesRow.holds Try.pinned (OpenSpec.ofChange fnPressPartiesSpec)

/-- ITS FALSE NEIGHBOUR: 'it returns false'. Refute it at one input. -/
def fnPressPartiesWrong : ChangeSpec := { name := "fnPressParties", fn := fun _ => fun
  | [d] => { results := [.lit (.bool false)], args := [d] }
  | _ => none }
def FnPressPartiesWrongFalsely : Prop := fnPressPartiesRow.holds Try.pinned (OpenSpec.ofChange fnPressPartiesWrong)

/-- 'laws.FnCommon': WHATEVER THE INPUT: true; the input reads as it did. -/
def fnCommonSpec : ChangeSpec := { name := "fnCommon", fn := fun _ => fun
  | [d] => { results := [.lit (.bool true)], args := [d] }
  | _ => none }
def fnCommonRow : OpenClaim := { program := "ytkjaaaefcmpokaa", sum := "f3f45a633c56ad3d1abdea2e0a6e4aeb2fb766a3ece3dfc96896a51cfdfb299e", func := "loop.example/g01220/laws.FnCommon", spec := "fnCommon", unfollowed := true, recurses := true, plainKeys := false, apart := false }
def FnCommonSaid : Prop := fnCommonRow.holds Try.pinned (OpenSpec.ofChange fnCommonSpec)

/-- ITS FALSE NEIGHBOUR: 'it returns false'. Refute it at one input. -/
def fnCommonWrong : ChangeSpec := { name := "fnCommon", fn := fun _ => fun
  | [d] => { results := [.lit (.bool false)], args := [d] }
  | _ => none }
def FnCommonWrongFalsely : Prop := fnCommonRow.holds Try.pinned (OpenSpec.ofChange fnCommonWrong)

/-- 'laws.FnPressed': WHATEVER THE INPUT: true; the input reads as it did. -/
def fnPressedSpec : ChangeSpec := { name := "fnPressed", fn := fun _ => fun
  | [d] => { results := [.lit (.bool true)], args := [d] }
  | _ => none }
def fnPressedRow : OpenClaim := { program := "ytkjaaaefcmpokaa", sum := "f3f45a633c56ad3d1abdea2e0a6e4aeb2fb766a3ece3dfc96896a51cfdfb299e", func := "loop.example/g01220/laws.FnPressed", spec := "fnPressed", unfollowed := true, recurses := true, plainKeys := false, apart := false }
def FnPressedSaid : Prop := fnPressedRow.holds Try.pinned (OpenSpec.ofChange fnPressedSpec)

/-- ITS FALSE NEIGHBOUR: 'it returns false'. Refute it at one input. -/
def fnPressedWrong : ChangeSpec := { name := "fnPressed", fn := fun _ => fun
  | [d] => { results := [.lit (.bool false)], args := [d] }
  | _ => none }
def FnPressedWrongFalsely : Prop := fnPressedRow.holds Try.pinned (OpenSpec.ofChange fnPressedWrong)

/-- 'laws.FnExactNeededCells': WHATEVER THE INPUT: true; the input reads as it did. -/
def fnExactNeededCellsSpec : ChangeSpec := { name := "fnExactNeededCells", fn := fun _ => fun
  | [d1, d2] => { results := [.lit (.bool true)], args := [d1, d2] }
  | _ => none }
def fnExactNeededCellsRow : OpenClaim := { program := "ytkjaaaefcmpokaa", sum := "f3f45a633c56ad3d1abdea2e0a6e4aeb2fb766a3ece3dfc96896a51cfdfb299e", func := "loop.example/g01220/laws.FnExactNeededCells", spec := "fnExactNeededCells", unfollowed := true, recurses := true, plainKeys := false, apart := false }
def FnExactNeededCellsSaid : Prop := fnExactNeededCellsRow.holds Try.pinned (OpenSpec.ofChange fnExactNeededCellsSpec)

/-- ITS FALSE NEIGHBOUR: 'it returns false'. Refute it at one input. -/
def fnExactNeededCellsWrong : ChangeSpec := { name := "fnExactNeededCells", fn := fun _ => fun
  | [d1, d2] => { results := [.lit (.bool false)], args := [d1, d2] }
  | _ => none }
def FnExactNeededCellsWrongFalsely : Prop := fnExactNeededCellsRow.holds Try.pinned (OpenSpec.ofChange fnExactNeededCellsWrong)

/-- 'laws.FnExactSwapPrints': WHATEVER THE INPUT: true; the input reads as it did. -/
def fnExactSwapPrintsSpec : ChangeSpec := { name := "fnExactSwapPrints", fn := fun _ => fun
  | [d1, d2] => { results := [.lit (.bool true)], args := [d1, d2] }
  | _ => none }
def fnExactSwapPrintsRow : OpenClaim := { program := "ytkjaaaefcmpokaa", sum := "f3f45a633c56ad3d1abdea2e0a6e4aeb2fb766a3ece3dfc96896a51cfdfb299e", func := "loop.example/g01220/laws.FnExactSwapPrints", spec := "fnExactSwapPrints", unfollowed := true, recurses := true, plainKeys := false, apart := false }
def FnExactSwapPrintsSaid : Prop := fnExactSwapPrintsRow.holds Try.pinned (OpenSpec.ofChange fnExactSwapPrintsSpec)

/-- ITS FALSE NEIGHBOUR: 'it returns false'. Refute it at one input. -/
def fnExactSwapPrintsWrong : ChangeSpec := { name := "fnExactSwapPrints", fn := fun _ => fun
  | [d1, d2] => { results := [.lit (.bool false)], args := [d1, d2] }
  | _ => none }
def FnExactSwapPrintsWrongFalsely : Prop := fnExactSwapPrintsRow.holds Try.pinned (OpenSpec.ofChange fnExactSwapPrintsWrong)

/-- 'laws.FnExactIsRightOrder': WHATEVER THE INPUT: true; the input reads as it did. -/
def fnExactIsRightOrderSpec : ChangeSpec := { name := "fnExactIsRightOrder", fn := fun _ => fun
  | [d1, d2, d3] => { results := [.lit (.bool true)], args := [d1, d2, d3] }
  | _ => none }
def fnExactIsRightOrderRow : OpenClaim := { program := "ytkjaaaefcmpokaa", sum := "f3f45a633c56ad3d1abdea2e0a6e4aeb2fb766a3ece3dfc96896a51cfdfb299e", func := "loop.example/g01220/laws.FnExactIsRightOrder", spec := "fnExactIsRightOrder", unfollowed := true, recurses := true, plainKeys := false, apart := false }
def FnExactIsRightOrderSaid : Prop := fnExactIsRightOrderRow.holds Try.pinned (OpenSpec.ofChange fnExactIsRightOrderSpec)

/-- ITS FALSE NEIGHBOUR: 'it returns false'. Refute it at one input. -/
def fnExactIsRightOrderWrong : ChangeSpec := { name := "fnExactIsRightOrder", fn := fun _ => fun
  | [d1, d2, d3] => { results := [.lit (.bool false)], args := [d1, d2, d3] }
  | _ => none }
def FnExactIsRightOrderWrongFalsely : Prop := fnExactIsRightOrderRow.holds Try.pinned (OpenSpec.ofChange fnExactIsRightOrderWrong)

/-- 'laws.FnExactHiddenPrints': WHATEVER THE INPUT: true; the input reads as it did. -/
def fnExactHiddenPrintsSpec : ChangeSpec := { name := "fnExactHiddenPrints", fn := fun _ => fun
  | [d] => { results := [.lit (.bool true)], args := [d] }
  | _ => none }
def fnExactHiddenPrintsRow : OpenClaim := { program := "ytkjaaaefcmpokaa", sum := "f3f45a633c56ad3d1abdea2e0a6e4aeb2fb766a3ece3dfc96896a51cfdfb299e", func := "loop.example/g01220/laws.FnExactHiddenPrints", spec := "fnExactHiddenPrints", unfollowed := true, recurses := true, plainKeys := false, apart := false }
def FnExactHiddenPrintsSaid : Prop := fnExactHiddenPrintsRow.holds Try.pinned (OpenSpec.ofChange fnExactHiddenPrintsSpec)

/-- ITS FALSE NEIGHBOUR: 'it returns false'. Refute it at one input. -/
def fnExactHiddenPrintsWrong : ChangeSpec := { name := "fnExactHiddenPrints", fn := fun _ => fun
  | [d] => { results := [.lit (.bool false)], args := [d] }
  | _ => none }
def FnExactHiddenPrintsWrongFalsely : Prop := fnExactHiddenPrintsRow.holds Try.pinned (OpenSpec.ofChange fnExactHiddenPrintsWrong)

/-- 'laws.FnMotions': WHATEVER THE INPUT: true; the input reads as it did. -/
def fnMotionsSpec : ChangeSpec := { name := "fnMotions", fn := fun _ => fun
  | [d] => { results := [.lit (.bool true)], args := [d] }
  | _ => none }
def fnMotionsRow : OpenClaim := { program := "ytkjaaaefcmpokaa", sum := "f3f45a633c56ad3d1abdea2e0a6e4aeb2fb766a3ece3dfc96896a51cfdfb299e", func := "loop.example/g01220/laws.FnMotions", spec := "fnMotions", plainKeys := false, apart := false }
def FnMotionsSaid : Prop := fnMotionsRow.holds Try.pinned (OpenSpec.ofChange fnMotionsSpec)

/-- ITS FALSE NEIGHBOUR: 'it returns false'. Refute it at one input. -/
def fnMotionsWrong : ChangeSpec := { name := "fnMotions", fn := fun _ => fun
  | [d] => { results := [.lit (.bool false)], args := [d] }
  | _ => none }
def FnMotionsWrongFalsely : Prop := fnMotionsRow.holds Try.pinned (OpenSpec.ofChange fnMotionsWrong)

/- THE SECOND FORM. 'bulk': how many values and letters a reading holds, each counted each time it is reached (what is shared counts as often as it is met; a slice's spare places count too). A statement '..UptoSaid' is the law's where the arguments, and the package variables that the reading takes, are together of bulk at most 1048576: NARROWER than '..Said'. Prove '..Said' where nothing that the law and all that it calls make is longer than what came in: it says more and counts as full. Else prove '..UptoSaid'. A law counts once. -/
mutual
def uptoBulk {H : Type} : DataW H → Nat
  | .lit (.string bytes) => bytes.length + 1
  | .lit _ => 1
  | .nil => 1
  | .ptr d => uptoBulk d + 1
  | .slice elems spare => uptoBulkAll elems + uptoBulkAll spare + 1
  | .agg parts => uptoBulkAll parts + 1
  | .iface _ d => uptoBulk d + 1
  | .map entries => uptoBulkEntries entries + 1
  | .held _ => 1
def uptoBulkAll {H : Type} : List (DataW H) → Nat
  | [] => 0
  | d :: r => uptoBulk d + uptoBulkAll r
def uptoBulkEntries {H : Type} : List (Lit × DataW H) → Nat
  | [] => 0
  | x :: r => uptoBulkEntry x + uptoBulkEntries r
def uptoBulkEntry {H : Type} : Lit × DataW H → Nat
  | (.string bytes, d) => bytes.length + uptoBulk d + 1
  | (_, d) => uptoBulk d + 1
 end
def uptoSmall : (H : Type) → List (DataW H) → Bool := fun _ ds => decide (uptoBulkAll ds ≤ 1048576)
def OpenSpec.upto (s : _root_.Go.ChangeSpec) : _root_.Go.OpenSpec := { _root_.Go.OpenSpec.ofChange s with cond := some uptoSmall }

/-- 'laws.FnExactFreeCells', WHERE WHAT IT READS IS OF BULK AT MOST 1048576: true; the input reads as it did. -/
def fnExactFreeCellsUptoRow : OpenClaim := { program := "ytkjaaaefcmpokaa", sum := "f3f45a633c56ad3d1abdea2e0a6e4aeb2fb766a3ece3dfc96896a51cfdfb299e", func := "loop.example/g01220/laws.FnExactFreeCells", spec := "fnExactFreeCells", unfollowed := true, recurses := true, plainKeys := false, apart := false, narrowed := true }
def FnExactFreeCellsUptoSaid : Prop := fnExactFreeCellsUptoRow.holds Try.pinned (OpenSpec.upto fnExactFreeCellsSpec)

/-- 'laws.FnExactNextsOf', WHERE WHAT IT READS IS OF BULK AT MOST 1048576: true; the input reads as it did. -/
def fnExactNextsOfUptoRow : OpenClaim := { program := "ytkjaaaefcmpokaa", sum := "f3f45a633c56ad3d1abdea2e0a6e4aeb2fb766a3ece3dfc96896a51cfdfb299e", func := "loop.example/g01220/laws.FnExactNextsOf", spec := "fnExactNextsOf", unfollowed := true, recurses := true, plainKeys := false, apart := false, narrowed := true }
def FnExactNextsOfUptoSaid : Prop := fnExactNextsOfUptoRow.holds Try.pinned (OpenSpec.upto fnExactNextsOfSpec)

/-- 'laws.FnExactLastWins', WHERE WHAT IT READS IS OF BULK AT MOST 1048576: true; the input reads as it did. -/
def fnExactLastWinsUptoRow : OpenClaim := { program := "ytkjaaaefcmpokaa", sum := "f3f45a633c56ad3d1abdea2e0a6e4aeb2fb766a3ece3dfc96896a51cfdfb299e", func := "loop.example/g01220/laws.FnExactLastWins", spec := "fnExactLastWins", unfollowed := true, recurses := true, plainKeys := false, apart := false, narrowed := true }
def FnExactLastWinsUptoSaid : Prop := fnExactLastWinsUptoRow.holds Try.pinned (OpenSpec.upto fnExactLastWinsSpec)

/-- 'laws.FnExactMissWins', WHERE WHAT IT READS IS OF BULK AT MOST 1048576: true; the input reads as it did. -/
def fnExactMissWinsUptoRow : OpenClaim := { program := "ytkjaaaefcmpokaa", sum := "f3f45a633c56ad3d1abdea2e0a6e4aeb2fb766a3ece3dfc96896a51cfdfb299e", func := "loop.example/g01220/laws.FnExactMissWins", spec := "fnExactMissWins", unfollowed := true, recurses := true, plainKeys := false, apart := false, narrowed := true }
def FnExactMissWinsUptoSaid : Prop := fnExactMissWinsUptoRow.holds Try.pinned (OpenSpec.upto fnExactMissWinsSpec)

/-- 'laws.FnExactNumberOf', WHERE WHAT IT READS IS OF BULK AT MOST 1048576: true; the input reads as it did. -/
def fnExactNumberOfUptoRow : OpenClaim := { program := "ytkjaaaefcmpokaa", sum := "f3f45a633c56ad3d1abdea2e0a6e4aeb2fb766a3ece3dfc96896a51cfdfb299e", func := "loop.example/g01220/laws.FnExactNumberOf", spec := "fnExactNumberOf", unfollowed := true, recurses := true, plainKeys := false, apart := false, narrowed := true }
def FnExactNumberOfUptoSaid : Prop := fnExactNumberOfUptoRow.holds Try.pinned (OpenSpec.upto fnExactNumberOfSpec)

/-- 'laws.FnExactWinningCells', WHERE WHAT IT READS IS OF BULK AT MOST 1048576: true; the input reads as it did. -/
def fnExactWinningCellsUptoRow : OpenClaim := { program := "ytkjaaaefcmpokaa", sum := "f3f45a633c56ad3d1abdea2e0a6e4aeb2fb766a3ece3dfc96896a51cfdfb299e", func := "loop.example/g01220/laws.FnExactWinningCells", spec := "fnExactWinningCells", unfollowed := true, recurses := true, plainKeys := false, apart := false, narrowed := true }
def FnExactWinningCellsUptoSaid : Prop := fnExactWinningCellsUptoRow.holds Try.pinned (OpenSpec.upto fnExactWinningCellsSpec)

/-- 'laws.FnExactLongestGame', WHERE WHAT IT READS IS OF BULK AT MOST 1048576: true; the input reads as it did. -/
def fnExactLongestGameUptoRow : OpenClaim := { program := "ytkjaaaefcmpokaa", sum := "f3f45a633c56ad3d1abdea2e0a6e4aeb2fb766a3ece3dfc96896a51cfdfb299e", func := "loop.example/g01220/laws.FnExactLongestGame", spec := "fnExactLongestGame", unfollowed := true, recurses := true, plainKeys := false, apart := false, narrowed := true }
def FnExactLongestGameUptoSaid : Prop := fnExactLongestGameUptoRow.holds Try.pinned (OpenSpec.upto fnExactLongestGameSpec)

/-- 'laws.FnExactShortestGame', WHERE WHAT IT READS IS OF BULK AT MOST 1048576: true; the input reads as it did. -/
def fnExactShortestGameUptoRow : OpenClaim := { program := "ytkjaaaefcmpokaa", sum := "f3f45a633c56ad3d1abdea2e0a6e4aeb2fb766a3ece3dfc96896a51cfdfb299e", func := "loop.example/g01220/laws.FnExactShortestGame", spec := "fnExactShortestGame", unfollowed := true, recurses := true, plainKeys := false, apart := false, narrowed := true }
def FnExactShortestGameUptoSaid : Prop := fnExactShortestGameUptoRow.holds Try.pinned (OpenSpec.upto fnExactShortestGameSpec)

/-- 'laws.FnExactPlayParty', WHERE WHAT IT READS IS OF BULK AT MOST 1048576: true; the input reads as it did. -/
def fnExactPlayPartyUptoRow : OpenClaim := { program := "ytkjaaaefcmpokaa", sum := "f3f45a633c56ad3d1abdea2e0a6e4aeb2fb766a3ece3dfc96896a51cfdfb299e", func := "loop.example/g01220/laws.FnExactPlayParty", spec := "fnExactPlayParty", unfollowed := true, recurses := true, plainKeys := false, apart := false, narrowed := true }
def FnExactPlayPartyUptoSaid : Prop := fnExactPlayPartyUptoRow.holds Try.pinned (OpenSpec.upto fnExactPlayPartySpec)

/-- 'laws.FnExactMirrorCell', WHERE WHAT IT READS IS OF BULK AT MOST 1048576: true; the input reads as it did. -/
def fnExactMirrorCellUptoRow : OpenClaim := { program := "ytkjaaaefcmpokaa", sum := "f3f45a633c56ad3d1abdea2e0a6e4aeb2fb766a3ece3dfc96896a51cfdfb299e", func := "loop.example/g01220/laws.FnExactMirrorCell", spec := "fnExactMirrorCell", plainKeys := false, apart := false, narrowed := true }
def FnExactMirrorCellUptoSaid : Prop := fnExactMirrorCellUptoRow.holds Try.pinned (OpenSpec.upto fnExactMirrorCellSpec)

/-- 'laws.FnExactMirrorWins', WHERE WHAT IT READS IS OF BULK AT MOST 1048576: true; the input reads as it did. -/
def fnExactMirrorWinsUptoRow : OpenClaim := { program := "ytkjaaaefcmpokaa", sum := "f3f45a633c56ad3d1abdea2e0a6e4aeb2fb766a3ece3dfc96896a51cfdfb299e", func := "loop.example/g01220/laws.FnExactMirrorWins", spec := "fnExactMirrorWins", plainKeys := false, apart := false, narrowed := true }
def FnExactMirrorWinsUptoSaid : Prop := fnExactMirrorWinsUptoRow.holds Try.pinned (OpenSpec.upto fnExactMirrorWinsSpec)

/-- 'laws.FnPressParties', WHERE WHAT IT READS IS OF BULK AT MOST 1048576: true; the input reads as it did. -/
def fnPressPartiesUptoRow : OpenClaim := { program := "ytkjaaaefcmpokaa", sum := "f3f45a633c56ad3d1abdea2e0a6e4aeb2fb766a3ece3dfc96896a51cfdfb299e", func := "loop.example/g01220/laws.FnPressParties", spec := "fnPressParties", unfollowed := true, recurses := true, plainKeys := false, apart := false, narrowed := true }
def FnPressPartiesUptoSaid : Prop := fnPressPartiesUptoRow.holds Try.pinned (OpenSpec.upto fnPressPartiesSpec)

/-- 'laws.FnCommon', WHERE WHAT IT READS IS OF BULK AT MOST 1048576: true; the input reads as it did. -/
def fnCommonUptoRow : OpenClaim := { program := "ytkjaaaefcmpokaa", sum := "f3f45a633c56ad3d1abdea2e0a6e4aeb2fb766a3ece3dfc96896a51cfdfb299e", func := "loop.example/g01220/laws.FnCommon", spec := "fnCommon", unfollowed := true, recurses := true, plainKeys := false, apart := false, narrowed := true }
def FnCommonUptoSaid : Prop := fnCommonUptoRow.holds Try.pinned (OpenSpec.upto fnCommonSpec)

/-- 'laws.FnPressed', WHERE WHAT IT READS IS OF BULK AT MOST 1048576: true; the input reads as it did. -/
def fnPressedUptoRow : OpenClaim := { program := "ytkjaaaefcmpokaa", sum := "f3f45a633c56ad3d1abdea2e0a6e4aeb2fb766a3ece3dfc96896a51cfdfb299e", func := "loop.example/g01220/laws.FnPressed", spec := "fnPressed", unfollowed := true, recurses := true, plainKeys := false, apart := false, narrowed := true }
def FnPressedUptoSaid : Prop := fnPressedUptoRow.holds Try.pinned (OpenSpec.upto fnPressedSpec)

/-- 'laws.FnExactNeededCells', WHERE WHAT IT READS IS OF BULK AT MOST 1048576: true; the input reads as it did. -/
def fnExactNeededCellsUptoRow : OpenClaim := { program := "ytkjaaaefcmpokaa", sum := "f3f45a633c56ad3d1abdea2e0a6e4aeb2fb766a3ece3dfc96896a51cfdfb299e", func := "loop.example/g01220/laws.FnExactNeededCells", spec := "fnExactNeededCells", unfollowed := true, recurses := true, plainKeys := false, apart := false, narrowed := true }
def FnExactNeededCellsUptoSaid : Prop := fnExactNeededCellsUptoRow.holds Try.pinned (OpenSpec.upto fnExactNeededCellsSpec)

/-- 'laws.FnExactSwapPrints', WHERE WHAT IT READS IS OF BULK AT MOST 1048576: true; the input reads as it did. -/
def fnExactSwapPrintsUptoRow : OpenClaim := { program := "ytkjaaaefcmpokaa", sum := "f3f45a633c56ad3d1abdea2e0a6e4aeb2fb766a3ece3dfc96896a51cfdfb299e", func := "loop.example/g01220/laws.FnExactSwapPrints", spec := "fnExactSwapPrints", unfollowed := true, recurses := true, plainKeys := false, apart := false, narrowed := true }
def FnExactSwapPrintsUptoSaid : Prop := fnExactSwapPrintsUptoRow.holds Try.pinned (OpenSpec.upto fnExactSwapPrintsSpec)

/-- 'laws.FnExactIsRightOrder', WHERE WHAT IT READS IS OF BULK AT MOST 1048576: true; the input reads as it did. -/
def fnExactIsRightOrderUptoRow : OpenClaim := { program := "ytkjaaaefcmpokaa", sum := "f3f45a633c56ad3d1abdea2e0a6e4aeb2fb766a3ece3dfc96896a51cfdfb299e", func := "loop.example/g01220/laws.FnExactIsRightOrder", spec := "fnExactIsRightOrder", unfollowed := true, recurses := true, plainKeys := false, apart := false, narrowed := true }
def FnExactIsRightOrderUptoSaid : Prop := fnExactIsRightOrderUptoRow.holds Try.pinned (OpenSpec.upto fnExactIsRightOrderSpec)

/-- 'laws.FnExactHiddenPrints', WHERE WHAT IT READS IS OF BULK AT MOST 1048576: true; the input reads as it did. -/
def fnExactHiddenPrintsUptoRow : OpenClaim := { program := "ytkjaaaefcmpokaa", sum := "f3f45a633c56ad3d1abdea2e0a6e4aeb2fb766a3ece3dfc96896a51cfdfb299e", func := "loop.example/g01220/laws.FnExactHiddenPrints", spec := "fnExactHiddenPrints", unfollowed := true, recurses := true, plainKeys := false, apart := false, narrowed := true }
def FnExactHiddenPrintsUptoSaid : Prop := fnExactHiddenPrintsUptoRow.holds Try.pinned (OpenSpec.upto fnExactHiddenPrintsSpec)

/-- 'laws.FnMotions', WHERE WHAT IT READS IS OF BULK AT MOST 1048576: true; the input reads as it did. -/
def fnMotionsUptoRow : OpenClaim := { program := "ytkjaaaefcmpokaa", sum := "f3f45a633c56ad3d1abdea2e0a6e4aeb2fb766a3ece3dfc96896a51cfdfb299e", func := "loop.example/g01220/laws.FnMotions", spec := "fnMotions", plainKeys := false, apart := false, narrowed := true }
def FnMotionsUptoSaid : Prop := fnMotionsUptoRow.holds Try.pinned (OpenSpec.upto fnMotionsSpec)

end Rows
end Go.Proofs.Ytkjaaaefcmpokaa
