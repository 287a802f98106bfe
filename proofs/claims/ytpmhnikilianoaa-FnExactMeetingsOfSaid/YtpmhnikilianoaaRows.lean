/-
  No cell of these rows narrows 'for every input' (looked for: loops, veiled, ifaces, maps, wideKeys, modest, calm, conditions, laid).
  DERIVED. THE GIVEN ROWS OF THIS SEAT. 20 by the template 'for every input the law returns true; each argument reads behind the call as it read before'; 0 by the template 'total and deterministic' (their statements: YtpmhnikilianoaaTotals.lean).
  GIVEN WITH THE SEED: the statements are not yours to turn. If you find one false, say at which input.
  Laid BY PROGRAM, IN A SANDBOX (cutbox-rows.mjs): the forced cells as the released guide's own fill.sh prints them over the translation b4909180176601ef… (all of the seat's roots in one cut). By AI agents, Wed Nov 11 2026. No macro, syntax, notation, axiom, sorry.
-/
import Derived.Test.YtpmhnikilianoaaChecked
import GoSem.Claim
import GoSem.ClaimJoined
import GoSem.ClaimMapViews
import Derived.JoinedTies
import Derived.KernelRfl
namespace Go.Proofs.Ytpmhnikilianoaa
/- THE CELL 'sum', in the pinned program and in every row, IS THE sha256 OF THE DUMP (.gsa) THAT YtpmhnikilianoaaProg.lean LOADS. Nothing in Lean hashes anything: it is a label: what it is worth is what the hold of that sum in a sandbox is worth. -/
noncomputable def Try.pinned : Pinned := { name := "ytpmhnikilianoaa", sum := "b4909180176601ef5050c55e7c86cecbad5850b5f00d12ed34ac02124815a4b2", checked := Try.checked }
namespace Rows
def none {H : Type} : Left H := { results := [], args := [] }

/-- 'laws.FnExactPeriodsOf': WHATEVER THE INPUT: true; the input reads as it did. -/
def fnExactPeriodsOfSpec : ChangeSpec := { name := "fnExactPeriodsOf", fn := fun _ => fun
  | [d] => { results := [.lit (.bool true)], args := [d] }
  | _ => none }
def fnExactPeriodsOfRow : OpenClaim := { program := "ytpmhnikilianoaa", sum := "b4909180176601ef5050c55e7c86cecbad5850b5f00d12ed34ac02124815a4b2", func := "loop.example/g01220/laws.FnExactPeriodsOf", spec := "fnExactPeriodsOf", plainKeys := false, apart := false }
def FnExactPeriodsOfSaid : Prop := fnExactPeriodsOfRow.holds Try.pinned (OpenSpec.ofChange fnExactPeriodsOfSpec)

/-- ITS FALSE NEIGHBOUR: 'it returns false'. Refute it at one input. -/
def fnExactPeriodsOfWrong : ChangeSpec := { name := "fnExactPeriodsOf", fn := fun _ => fun
  | [d] => { results := [.lit (.bool false)], args := [d] }
  | _ => none }
def FnExactPeriodsOfWrongFalsely : Prop := fnExactPeriodsOfRow.holds Try.pinned (OpenSpec.ofChange fnExactPeriodsOfWrong)

/-- 'laws.FnExactShiftsTo': WHATEVER THE INPUT: true; the input reads as it did. -/
def fnExactShiftsToSpec : ChangeSpec := { name := "fnExactShiftsTo", fn := fun _ => fun
  | [d1, d2] => { results := [.lit (.bool true)], args := [d1, d2] }
  | _ => none }
def fnExactShiftsToRow : OpenClaim := { program := "ytpmhnikilianoaa", sum := "b4909180176601ef5050c55e7c86cecbad5850b5f00d12ed34ac02124815a4b2", func := "loop.example/g01220/laws.FnExactShiftsTo", spec := "fnExactShiftsTo", plainKeys := false, apart := false }
def FnExactShiftsToSaid : Prop := fnExactShiftsToRow.holds Try.pinned (OpenSpec.ofChange fnExactShiftsToSpec)

/-- ITS FALSE NEIGHBOUR: 'it returns false'. Refute it at one input. -/
def fnExactShiftsToWrong : ChangeSpec := { name := "fnExactShiftsTo", fn := fun _ => fun
  | [d1, d2] => { results := [.lit (.bool false)], args := [d1, d2] }
  | _ => none }
def FnExactShiftsToWrongFalsely : Prop := fnExactShiftsToRow.holds Try.pinned (OpenSpec.ofChange fnExactShiftsToWrong)

/-- 'laws.FnExactCountShifts': WHATEVER THE INPUT: true; the input reads as it did. -/
def fnExactCountShiftsSpec : ChangeSpec := { name := "fnExactCountShifts", fn := fun _ => fun
  | [d] => { results := [.lit (.bool true)], args := [d] }
  | _ => none }
def fnExactCountShiftsRow : OpenClaim := { program := "ytpmhnikilianoaa", sum := "b4909180176601ef5050c55e7c86cecbad5850b5f00d12ed34ac02124815a4b2", func := "loop.example/g01220/laws.FnExactCountShifts", spec := "fnExactCountShifts", plainKeys := false, apart := false }
def FnExactCountShiftsSaid : Prop := fnExactCountShiftsRow.holds Try.pinned (OpenSpec.ofChange fnExactCountShiftsSpec)

/-- ITS FALSE NEIGHBOUR: 'it returns false'. Refute it at one input. -/
def fnExactCountShiftsWrong : ChangeSpec := { name := "fnExactCountShifts", fn := fun _ => fun
  | [d] => { results := [.lit (.bool false)], args := [d] }
  | _ => none }
def FnExactCountShiftsWrongFalsely : Prop := fnExactCountShiftsRow.holds Try.pinned (OpenSpec.ofChange fnExactCountShiftsWrong)

/-- 'laws.FnExactLeastTile': WHATEVER THE INPUT: true; the input reads as it did. -/
def fnExactLeastTileSpec : ChangeSpec := { name := "fnExactLeastTile", fn := fun _ => fun
  | [d] => { results := [.lit (.bool true)], args := [d] }
  | _ => none }
def fnExactLeastTileRow : OpenClaim := { program := "ytpmhnikilianoaa", sum := "b4909180176601ef5050c55e7c86cecbad5850b5f00d12ed34ac02124815a4b2", func := "loop.example/g01220/laws.FnExactLeastTile", spec := "fnExactLeastTile", plainKeys := false, apart := false }
def FnExactLeastTileSaid : Prop := fnExactLeastTileRow.holds Try.pinned (OpenSpec.ofChange fnExactLeastTileSpec)

/-- ITS FALSE NEIGHBOUR: 'it returns false'. Refute it at one input. -/
def fnExactLeastTileWrong : ChangeSpec := { name := "fnExactLeastTile", fn := fun _ => fun
  | [d] => { results := [.lit (.bool false)], args := [d] }
  | _ => none }
def FnExactLeastTileWrongFalsely : Prop := fnExactLeastTileRow.holds Try.pinned (OpenSpec.ofChange fnExactLeastTileWrong)

/-- 'laws.FnExactIsTileOf': WHATEVER THE INPUT: true; the input reads as it did. -/
def fnExactIsTileOfSpec : ChangeSpec := { name := "fnExactIsTileOf", fn := fun _ => fun
  | [d1, d2, d3] => { results := [.lit (.bool true)], args := [d1, d2, d3] }
  | _ => none }
def fnExactIsTileOfRow : OpenClaim := { program := "ytpmhnikilianoaa", sum := "b4909180176601ef5050c55e7c86cecbad5850b5f00d12ed34ac02124815a4b2", func := "loop.example/g01220/laws.FnExactIsTileOf", spec := "fnExactIsTileOf", plainKeys := false, apart := false }
def FnExactIsTileOfSaid : Prop := fnExactIsTileOfRow.holds Try.pinned (OpenSpec.ofChange fnExactIsTileOfSpec)

/-- ITS FALSE NEIGHBOUR: 'it returns false'. Refute it at one input. -/
def fnExactIsTileOfWrong : ChangeSpec := { name := "fnExactIsTileOf", fn := fun _ => fun
  | [d1, d2, d3] => { results := [.lit (.bool false)], args := [d1, d2, d3] }
  | _ => none }
def FnExactIsTileOfWrongFalsely : Prop := fnExactIsTileOfRow.holds Try.pinned (OpenSpec.ofChange fnExactIsTileOfWrong)

/-- 'laws.FnExactFromTile': WHATEVER THE INPUT: true; the input reads as it did. -/
def fnExactFromTileSpec : ChangeSpec := { name := "fnExactFromTile", fn := fun _ => fun
  | [d1, d2] => { results := [.lit (.bool true)], args := [d1, d2] }
  | _ => none }
def fnExactFromTileRow : OpenClaim := { program := "ytpmhnikilianoaa", sum := "b4909180176601ef5050c55e7c86cecbad5850b5f00d12ed34ac02124815a4b2", func := "loop.example/g01220/laws.FnExactFromTile", spec := "fnExactFromTile", plainKeys := false, apart := false }
def FnExactFromTileSaid : Prop := fnExactFromTileRow.holds Try.pinned (OpenSpec.ofChange fnExactFromTileSpec)

/-- ITS FALSE NEIGHBOUR: 'it returns false'. Refute it at one input. -/
def fnExactFromTileWrong : ChangeSpec := { name := "fnExactFromTile", fn := fun _ => fun
  | [d1, d2] => { results := [.lit (.bool false)], args := [d1, d2] }
  | _ => none }
def FnExactFromTileWrongFalsely : Prop := fnExactFromTileRow.holds Try.pinned (OpenSpec.ofChange fnExactFromTileWrong)

/-- 'laws.FnExactSlantsOf': WHATEVER THE INPUT: true; the input reads as it did. -/
def fnExactSlantsOfSpec : ChangeSpec := { name := "fnExactSlantsOf", fn := fun _ => fun
  | [d] => { results := [.lit (.bool true)], args := [d] }
  | _ => none }
def fnExactSlantsOfRow : OpenClaim := { program := "ytpmhnikilianoaa", sum := "b4909180176601ef5050c55e7c86cecbad5850b5f00d12ed34ac02124815a4b2", func := "loop.example/g01220/laws.FnExactSlantsOf", spec := "fnExactSlantsOf", plainKeys := false, apart := false }
def FnExactSlantsOfSaid : Prop := fnExactSlantsOfRow.holds Try.pinned (OpenSpec.ofChange fnExactSlantsOfSpec)

/-- ITS FALSE NEIGHBOUR: 'it returns false'. Refute it at one input. -/
def fnExactSlantsOfWrong : ChangeSpec := { name := "fnExactSlantsOf", fn := fun _ => fun
  | [d] => { results := [.lit (.bool false)], args := [d] }
  | _ => none }
def FnExactSlantsOfWrongFalsely : Prop := fnExactSlantsOfRow.holds Try.pinned (OpenSpec.ofChange fnExactSlantsOfWrong)

/-- 'laws.FnExactSlantSheet': WHATEVER THE INPUT: true; the input reads as it did. -/
def fnExactSlantSheetSpec : ChangeSpec := { name := "fnExactSlantSheet", fn := fun _ => fun
  | [d1, d2] => { results := [.lit (.bool true)], args := [d1, d2] }
  | _ => none }
def fnExactSlantSheetRow : OpenClaim := { program := "ytpmhnikilianoaa", sum := "b4909180176601ef5050c55e7c86cecbad5850b5f00d12ed34ac02124815a4b2", func := "loop.example/g01220/laws.FnExactSlantSheet", spec := "fnExactSlantSheet", plainKeys := false, apart := false }
def FnExactSlantSheetSaid : Prop := fnExactSlantSheetRow.holds Try.pinned (OpenSpec.ofChange fnExactSlantSheetSpec)

/-- ITS FALSE NEIGHBOUR: 'it returns false'. Refute it at one input. -/
def fnExactSlantSheetWrong : ChangeSpec := { name := "fnExactSlantSheet", fn := fun _ => fun
  | [d1, d2] => { results := [.lit (.bool false)], args := [d1, d2] }
  | _ => none }
def FnExactSlantSheetWrongFalsely : Prop := fnExactSlantSheetRow.holds Try.pinned (OpenSpec.ofChange fnExactSlantSheetWrong)

/-- 'laws.FnExactMeetingsOf': WHATEVER THE INPUT: true; the input reads as it did. -/
def fnExactMeetingsOfSpec : ChangeSpec := { name := "fnExactMeetingsOf", fn := fun _ => fun
  | [d] => { results := [.lit (.bool true)], args := [d] }
  | _ => none }
def fnExactMeetingsOfRow : OpenClaim := { program := "ytpmhnikilianoaa", sum := "b4909180176601ef5050c55e7c86cecbad5850b5f00d12ed34ac02124815a4b2", func := "loop.example/g01220/laws.FnExactMeetingsOf", spec := "fnExactMeetingsOf", plainKeys := false, apart := false }
def FnExactMeetingsOfSaid : Prop := fnExactMeetingsOfRow.holds Try.pinned (OpenSpec.ofChange fnExactMeetingsOfSpec)

/-- ITS FALSE NEIGHBOUR: 'it returns false'. Refute it at one input. -/
def fnExactMeetingsOfWrong : ChangeSpec := { name := "fnExactMeetingsOf", fn := fun _ => fun
  | [d] => { results := [.lit (.bool false)], args := [d] }
  | _ => none }
def FnExactMeetingsOfWrongFalsely : Prop := fnExactMeetingsOfRow.holds Try.pinned (OpenSpec.ofChange fnExactMeetingsOfWrong)

/-- 'laws.FnExactMeetAlike': WHATEVER THE INPUT: true; the input reads as it did. -/
def fnExactMeetAlikeSpec : ChangeSpec := { name := "fnExactMeetAlike", fn := fun _ => fun
  | [d1, d2] => { results := [.lit (.bool true)], args := [d1, d2] }
  | _ => none }
def fnExactMeetAlikeRow : OpenClaim := { program := "ytpmhnikilianoaa", sum := "b4909180176601ef5050c55e7c86cecbad5850b5f00d12ed34ac02124815a4b2", func := "loop.example/g01220/laws.FnExactMeetAlike", spec := "fnExactMeetAlike", plainKeys := false, apart := false }
def FnExactMeetAlikeSaid : Prop := fnExactMeetAlikeRow.holds Try.pinned (OpenSpec.ofChange fnExactMeetAlikeSpec)

/-- ITS FALSE NEIGHBOUR: 'it returns false'. Refute it at one input. -/
def fnExactMeetAlikeWrong : ChangeSpec := { name := "fnExactMeetAlike", fn := fun _ => fun
  | [d1, d2] => { results := [.lit (.bool false)], args := [d1, d2] }
  | _ => none }
def FnExactMeetAlikeWrongFalsely : Prop := fnExactMeetAlikeRow.holds Try.pinned (OpenSpec.ofChange fnExactMeetAlikeWrong)

/-- 'laws.FnExactOrderOf': WHATEVER THE INPUT: true; the input reads as it did. -/
def fnExactOrderOfSpec : ChangeSpec := { name := "fnExactOrderOf", fn := fun _ => fun
  | [d] => { results := [.lit (.bool true)], args := [d] }
  | _ => none }
def fnExactOrderOfRow : OpenClaim := { program := "ytpmhnikilianoaa", sum := "b4909180176601ef5050c55e7c86cecbad5850b5f00d12ed34ac02124815a4b2", func := "loop.example/g01220/laws.FnExactOrderOf", spec := "fnExactOrderOf", plainKeys := false, apart := false }
def FnExactOrderOfSaid : Prop := fnExactOrderOfRow.holds Try.pinned (OpenSpec.ofChange fnExactOrderOfSpec)

/-- ITS FALSE NEIGHBOUR: 'it returns false'. Refute it at one input. -/
def fnExactOrderOfWrong : ChangeSpec := { name := "fnExactOrderOf", fn := fun _ => fun
  | [d] => { results := [.lit (.bool false)], args := [d] }
  | _ => none }
def FnExactOrderOfWrongFalsely : Prop := fnExactOrderOfRow.holds Try.pinned (OpenSpec.ofChange fnExactOrderOfWrong)

/-- 'laws.FnExactCountKept': WHATEVER THE INPUT: true; the input reads as it did. -/
def fnExactCountKeptSpec : ChangeSpec := { name := "fnExactCountKept", fn := fun _ => fun
  | [d1, d2] => { results := [.lit (.bool true)], args := [d1, d2] }
  | _ => none }
def fnExactCountKeptRow : OpenClaim := { program := "ytpmhnikilianoaa", sum := "b4909180176601ef5050c55e7c86cecbad5850b5f00d12ed34ac02124815a4b2", func := "loop.example/g01220/laws.FnExactCountKept", spec := "fnExactCountKept", plainKeys := false, apart := false }
def FnExactCountKeptSaid : Prop := fnExactCountKeptRow.holds Try.pinned (OpenSpec.ofChange fnExactCountKeptSpec)

/-- ITS FALSE NEIGHBOUR: 'it returns false'. Refute it at one input. -/
def fnExactCountKeptWrong : ChangeSpec := { name := "fnExactCountKept", fn := fun _ => fun
  | [d1, d2] => { results := [.lit (.bool false)], args := [d1, d2] }
  | _ => none }
def FnExactCountKeptWrongFalsely : Prop := fnExactCountKeptRow.holds Try.pinned (OpenSpec.ofChange fnExactCountKeptWrong)

/-- 'laws.FnExactCountClasses': WHATEVER THE INPUT: true; the input reads as it did. -/
def fnExactCountClassesSpec : ChangeSpec := { name := "fnExactCountClasses", fn := fun _ => fun
  | [d] => { results := [.lit (.bool true)], args := [d] }
  | _ => none }
def fnExactCountClassesRow : OpenClaim := { program := "ytpmhnikilianoaa", sum := "b4909180176601ef5050c55e7c86cecbad5850b5f00d12ed34ac02124815a4b2", func := "loop.example/g01220/laws.FnExactCountClasses", spec := "fnExactCountClasses", plainKeys := false, apart := false }
def FnExactCountClassesSaid : Prop := fnExactCountClassesRow.holds Try.pinned (OpenSpec.ofChange fnExactCountClassesSpec)

/-- ITS FALSE NEIGHBOUR: 'it returns false'. Refute it at one input. -/
def fnExactCountClassesWrong : ChangeSpec := { name := "fnExactCountClasses", fn := fun _ => fun
  | [d] => { results := [.lit (.bool false)], args := [d] }
  | _ => none }
def FnExactCountClassesWrongFalsely : Prop := fnExactCountClassesRow.holds Try.pinned (OpenSpec.ofChange fnExactCountClassesWrong)

/-- 'laws.FnPeriods': WHATEVER THE INPUT: true; the input reads as it did. -/
def fnPeriodsSpec : ChangeSpec := { name := "fnPeriods", fn := fun _ => fun
  | [d] => { results := [.lit (.bool true)], args := [d] }
  | _ => none }
def fnPeriodsRow : OpenClaim := { program := "ytpmhnikilianoaa", sum := "b4909180176601ef5050c55e7c86cecbad5850b5f00d12ed34ac02124815a4b2", func := "loop.example/g01220/laws.FnPeriods", spec := "fnPeriods", plainKeys := false, apart := false }
def FnPeriodsSaid : Prop := fnPeriodsRow.holds Try.pinned (OpenSpec.ofChange fnPeriodsSpec)

/-- ITS FALSE NEIGHBOUR: 'it returns false'. Refute it at one input. -/
def fnPeriodsWrong : ChangeSpec := { name := "fnPeriods", fn := fun _ => fun
  | [d] => { results := [.lit (.bool false)], args := [d] }
  | _ => none }
def FnPeriodsWrongFalsely : Prop := fnPeriodsRow.holds Try.pinned (OpenSpec.ofChange fnPeriodsWrong)

/-- 'laws.FnSlants': WHATEVER THE INPUT: true; the input reads as it did. -/
def fnSlantsSpec : ChangeSpec := { name := "fnSlants", fn := fun _ => fun
  | [d] => { results := [.lit (.bool true)], args := [d] }
  | _ => none }
def fnSlantsRow : OpenClaim := { program := "ytpmhnikilianoaa", sum := "b4909180176601ef5050c55e7c86cecbad5850b5f00d12ed34ac02124815a4b2", func := "loop.example/g01220/laws.FnSlants", spec := "fnSlants", plainKeys := false, apart := false }
def FnSlantsSaid : Prop := fnSlantsRow.holds Try.pinned (OpenSpec.ofChange fnSlantsSpec)

/-- ITS FALSE NEIGHBOUR: 'it returns false'. Refute it at one input. -/
def fnSlantsWrong : ChangeSpec := { name := "fnSlants", fn := fun _ => fun
  | [d] => { results := [.lit (.bool false)], args := [d] }
  | _ => none }
def FnSlantsWrongFalsely : Prop := fnSlantsRow.holds Try.pinned (OpenSpec.ofChange fnSlantsWrong)

/-- 'laws.FnClasses': WHATEVER THE INPUT: true; the input reads as it did. -/
def fnClassesSpec : ChangeSpec := { name := "fnClasses", fn := fun _ => fun
  | [d] => { results := [.lit (.bool true)], args := [d] }
  | _ => none }
def fnClassesRow : OpenClaim := { program := "ytpmhnikilianoaa", sum := "b4909180176601ef5050c55e7c86cecbad5850b5f00d12ed34ac02124815a4b2", func := "loop.example/g01220/laws.FnClasses", spec := "fnClasses", plainKeys := false, apart := false }
def FnClassesSaid : Prop := fnClassesRow.holds Try.pinned (OpenSpec.ofChange fnClassesSpec)

/-- ITS FALSE NEIGHBOUR: 'it returns false'. Refute it at one input. -/
def fnClassesWrong : ChangeSpec := { name := "fnClasses", fn := fun _ => fun
  | [d] => { results := [.lit (.bool false)], args := [d] }
  | _ => none }
def FnClassesWrongFalsely : Prop := fnClassesRow.holds Try.pinned (OpenSpec.ofChange fnClassesWrong)

/-- 'laws.FnMotions': WHATEVER THE INPUT: true; the input reads as it did. -/
def fnMotionsSpec : ChangeSpec := { name := "fnMotions", fn := fun _ => fun
  | [d] => { results := [.lit (.bool true)], args := [d] }
  | _ => none }
def fnMotionsRow : OpenClaim := { program := "ytpmhnikilianoaa", sum := "b4909180176601ef5050c55e7c86cecbad5850b5f00d12ed34ac02124815a4b2", func := "loop.example/g01220/laws.FnMotions", spec := "fnMotions", plainKeys := false, apart := false }
def FnMotionsSaid : Prop := fnMotionsRow.holds Try.pinned (OpenSpec.ofChange fnMotionsSpec)

/-- ITS FALSE NEIGHBOUR: 'it returns false'. Refute it at one input. -/
def fnMotionsWrong : ChangeSpec := { name := "fnMotions", fn := fun _ => fun
  | [d] => { results := [.lit (.bool false)], args := [d] }
  | _ => none }
def FnMotionsWrongFalsely : Prop := fnMotionsRow.holds Try.pinned (OpenSpec.ofChange fnMotionsWrong)

/-- 'laws.FnForms': WHATEVER THE INPUT: true; the input reads as it did. -/
def fnFormsSpec : ChangeSpec := { name := "fnForms", fn := fun _ => fun
  | [d] => { results := [.lit (.bool true)], args := [d] }
  | _ => none }
def fnFormsRow : OpenClaim := { program := "ytpmhnikilianoaa", sum := "b4909180176601ef5050c55e7c86cecbad5850b5f00d12ed34ac02124815a4b2", func := "loop.example/g01220/laws.FnForms", spec := "fnForms", plainKeys := false, apart := false }
def FnFormsSaid : Prop := fnFormsRow.holds Try.pinned (OpenSpec.ofChange fnFormsSpec)

/-- ITS FALSE NEIGHBOUR: 'it returns false'. Refute it at one input. -/
def fnFormsWrong : ChangeSpec := { name := "fnForms", fn := fun _ => fun
  | [d] => { results := [.lit (.bool false)], args := [d] }
  | _ => none }
def FnFormsWrongFalsely : Prop := fnFormsRow.holds Try.pinned (OpenSpec.ofChange fnFormsWrong)

/-- 'laws.FnExactGreedyCover': WHATEVER THE INPUT: true; the input reads as it did. -/
def fnExactGreedyCoverSpec : ChangeSpec := { name := "fnExactGreedyCover", fn := fun _ => fun
  | [d1, d2] => { results := [.lit (.bool true)], args := [d1, d2] }
  | _ => none }
def fnExactGreedyCoverRow : OpenClaim := { program := "ytpmhnikilianoaa", sum := "b4909180176601ef5050c55e7c86cecbad5850b5f00d12ed34ac02124815a4b2", func := "loop.example/g01220/laws.FnExactGreedyCover", spec := "fnExactGreedyCover", unfollowed := true, recurses := true, plainKeys := false, apart := false }
def FnExactGreedyCoverSaid : Prop := fnExactGreedyCoverRow.holds Try.pinned (OpenSpec.ofChange fnExactGreedyCoverSpec)

/-- ITS FALSE NEIGHBOUR: 'it returns false'. Refute it at one input. -/
def fnExactGreedyCoverWrong : ChangeSpec := { name := "fnExactGreedyCover", fn := fun _ => fun
  | [d1, d2] => { results := [.lit (.bool false)], args := [d1, d2] }
  | _ => none }
def FnExactGreedyCoverWrongFalsely : Prop := fnExactGreedyCoverRow.holds Try.pinned (OpenSpec.ofChange fnExactGreedyCoverWrong)

/-- 'laws.FnExactNeededCells': WHATEVER THE INPUT: true; the input reads as it did. -/
def fnExactNeededCellsSpec : ChangeSpec := { name := "fnExactNeededCells", fn := fun _ => fun
  | [d1, d2] => { results := [.lit (.bool true)], args := [d1, d2] }
  | _ => none }
def fnExactNeededCellsRow : OpenClaim := { program := "ytpmhnikilianoaa", sum := "b4909180176601ef5050c55e7c86cecbad5850b5f00d12ed34ac02124815a4b2", func := "loop.example/g01220/laws.FnExactNeededCells", spec := "fnExactNeededCells", unfollowed := true, recurses := true, plainKeys := false, apart := false }
def FnExactNeededCellsSaid : Prop := fnExactNeededCellsRow.holds Try.pinned (OpenSpec.ofChange fnExactNeededCellsSpec)

/-- ITS FALSE NEIGHBOUR: 'it returns false'. Refute it at one input. -/
def fnExactNeededCellsWrong : ChangeSpec := { name := "fnExactNeededCells", fn := fun _ => fun
  | [d1, d2] => { results := [.lit (.bool false)], args := [d1, d2] }
  | _ => none }
def FnExactNeededCellsWrongFalsely : Prop := fnExactNeededCellsRow.holds Try.pinned (OpenSpec.ofChange fnExactNeededCellsWrong)

/- THE SECOND FORM. 'bulk': how many values and letters a reading holds, each counted each time it is reached (what is shared counts as often as it is met; a slice's spare places count too). A statement '..UptoSaid' is the law's where the arguments, and the package variables that the reading takes, are together of bulk at most 1048576: NARROWER than '..Said'. Prove '..Said' where nothing that the law and all that it calls make is longer than what came in: it says more and counts as full. Else prove '..UptoSaid'. A law counts once. -/
mutual
def uptoBulk {H : Type} : DataW H → Nat
  | .lit (.string bytes) => bytes.length + 1
  | .lit _ => 1
  | .nil => 1
  | .ptr d => uptoBulk d + 1
  | .slice elems spare => uptoBulkAll elems + uptoBulkAll spare + 1
  | .agg parts => uptoBulkAll parts + 1
  | .iface _ d => uptoBulk d + 1
  | .map entries => uptoBulkEntries entries + 1
  | .held _ => 1
def uptoBulkAll {H : Type} : List (DataW H) → Nat
  | [] => 0
  | d :: r => uptoBulk d + uptoBulkAll r
def uptoBulkEntries {H : Type} : List (Lit × DataW H) → Nat
  | [] => 0
  | x :: r => uptoBulkEntry x + uptoBulkEntries r
def uptoBulkEntry {H : Type} : Lit × DataW H → Nat
  | (.string bytes, d) => bytes.length + uptoBulk d + 1
  | (_, d) => uptoBulk d + 1
 end
def uptoSmall : (H : Type) → List (DataW H) → Bool := fun _ ds => decide (uptoBulkAll ds ≤ 1048576)
def OpenSpec.upto (s : _root_.Go.ChangeSpec) : _root_.Go.OpenSpec := { _root_.Go.OpenSpec.ofChange s with cond := some uptoSmall }

/-- 'laws.FnExactPeriodsOf', WHERE WHAT IT READS IS OF BULK AT MOST 1048576: true; the input reads as it did. -/
def fnExactPeriodsOfUptoRow : OpenClaim := { program := "ytpmhnikilianoaa", sum := "b4909180176601ef5050c55e7c86cecbad5850b5f00d12ed34ac02124815a4b2", func := "loop.example/g01220/laws.FnExactPeriodsOf", spec := "fnExactPeriodsOf", plainKeys := false, apart := false, narrowed := true }
def FnExactPeriodsOfUptoSaid : Prop := fnExactPeriodsOfUptoRow.holds Try.pinned (OpenSpec.upto fnExactPeriodsOfSpec)

/-- 'laws.FnExactShiftsTo', WHERE WHAT IT READS IS OF BULK AT MOST 1048576: true; the input reads as it did. -/
def fnExactShiftsToUptoRow : OpenClaim := { program := "ytpmhnikilianoaa", sum := "b4909180176601ef5050c55e7c86cecbad5850b5f00d12ed34ac02124815a4b2", func := "loop.example/g01220/laws.FnExactShiftsTo", spec := "fnExactShiftsTo", plainKeys := false, apart := false, narrowed := true }
def FnExactShiftsToUptoSaid : Prop := fnExactShiftsToUptoRow.holds Try.pinned (OpenSpec.upto fnExactShiftsToSpec)

/-- 'laws.FnExactCountShifts', WHERE WHAT IT READS IS OF BULK AT MOST 1048576: true; the input reads as it did. -/
def fnExactCountShiftsUptoRow : OpenClaim := { program := "ytpmhnikilianoaa", sum := "b4909180176601ef5050c55e7c86cecbad5850b5f00d12ed34ac02124815a4b2", func := "loop.example/g01220/laws.FnExactCountShifts", spec := "fnExactCountShifts", plainKeys := false, apart := false, narrowed := true }
def FnExactCountShiftsUptoSaid : Prop := fnExactCountShiftsUptoRow.holds Try.pinned (OpenSpec.upto fnExactCountShiftsSpec)

/-- 'laws.FnExactLeastTile', WHERE WHAT IT READS IS OF BULK AT MOST 1048576: true; the input reads as it did. -/
def fnExactLeastTileUptoRow : OpenClaim := { program := "ytpmhnikilianoaa", sum := "b4909180176601ef5050c55e7c86cecbad5850b5f00d12ed34ac02124815a4b2", func := "loop.example/g01220/laws.FnExactLeastTile", spec := "fnExactLeastTile", plainKeys := false, apart := false, narrowed := true }
def FnExactLeastTileUptoSaid : Prop := fnExactLeastTileUptoRow.holds Try.pinned (OpenSpec.upto fnExactLeastTileSpec)

/-- 'laws.FnExactIsTileOf', WHERE WHAT IT READS IS OF BULK AT MOST 1048576: true; the input reads as it did. -/
def fnExactIsTileOfUptoRow : OpenClaim := { program := "ytpmhnikilianoaa", sum := "b4909180176601ef5050c55e7c86cecbad5850b5f00d12ed34ac02124815a4b2", func := "loop.example/g01220/laws.FnExactIsTileOf", spec := "fnExactIsTileOf", plainKeys := false, apart := false, narrowed := true }
def FnExactIsTileOfUptoSaid : Prop := fnExactIsTileOfUptoRow.holds Try.pinned (OpenSpec.upto fnExactIsTileOfSpec)

/-- 'laws.FnExactFromTile', WHERE WHAT IT READS IS OF BULK AT MOST 1048576: true; the input reads as it did. -/
def fnExactFromTileUptoRow : OpenClaim := { program := "ytpmhnikilianoaa", sum := "b4909180176601ef5050c55e7c86cecbad5850b5f00d12ed34ac02124815a4b2", func := "loop.example/g01220/laws.FnExactFromTile", spec := "fnExactFromTile", plainKeys := false, apart := false, narrowed := true }
def FnExactFromTileUptoSaid : Prop := fnExactFromTileUptoRow.holds Try.pinned (OpenSpec.upto fnExactFromTileSpec)

/-- 'laws.FnExactSlantsOf', WHERE WHAT IT READS IS OF BULK AT MOST 1048576: true; the input reads as it did. -/
def fnExactSlantsOfUptoRow : OpenClaim := { program := "ytpmhnikilianoaa", sum := "b4909180176601ef5050c55e7c86cecbad5850b5f00d12ed34ac02124815a4b2", func := "loop.example/g01220/laws.FnExactSlantsOf", spec := "fnExactSlantsOf", plainKeys := false, apart := false, narrowed := true }
def FnExactSlantsOfUptoSaid : Prop := fnExactSlantsOfUptoRow.holds Try.pinned (OpenSpec.upto fnExactSlantsOfSpec)

/-- 'laws.FnExactSlantSheet', WHERE WHAT IT READS IS OF BULK AT MOST 1048576: true; the input reads as it did. -/
def fnExactSlantSheetUptoRow : OpenClaim := { program := "ytpmhnikilianoaa", sum := "b4909180176601ef5050c55e7c86cecbad5850b5f00d12ed34ac02124815a4b2", func := "loop.example/g01220/laws.FnExactSlantSheet", spec := "fnExactSlantSheet", plainKeys := false, apart := false, narrowed := true }
def FnExactSlantSheetUptoSaid : Prop := fnExactSlantSheetUptoRow.holds Try.pinned (OpenSpec.upto fnExactSlantSheetSpec)

/-- 'laws.FnExactMeetingsOf', WHERE WHAT IT READS IS OF BULK AT MOST 1048576: true; the input reads as it did. -/
def fnExactMeetingsOfUptoRow : OpenClaim := { program := "ytpmhnikilianoaa", sum := "b4909180176601ef5050c55e7c86cecbad5850b5f00d12ed34ac02124815a4b2", func := "loop.example/g01220/laws.FnExactMeetingsOf", spec := "fnExactMeetingsOf", plainKeys := false, apart := false, narrowed := true }
def FnExactMeetingsOfUptoSaid : Prop := fnExactMeetingsOfUptoRow.holds Try.pinned (OpenSpec.upto fnExactMeetingsOfSpec)

/-- 'laws.FnExactMeetAlike', WHERE WHAT IT READS IS OF BULK AT MOST 1048576: true; the input reads as it did. -/
def fnExactMeetAlikeUptoRow : OpenClaim := { program := "ytpmhnikilianoaa", sum := "b4909180176601ef5050c55e7c86cecbad5850b5f00d12ed34ac02124815a4b2", func := "loop.example/g01220/laws.FnExactMeetAlike", spec := "fnExactMeetAlike", plainKeys := false, apart := false, narrowed := true }
def FnExactMeetAlikeUptoSaid : Prop := fnExactMeetAlikeUptoRow.holds Try.pinned (OpenSpec.upto fnExactMeetAlikeSpec)

/-- 'laws.FnExactOrderOf', WHERE WHAT IT READS IS OF BULK AT MOST 1048576: true; the input reads as it did. -/
def fnExactOrderOfUptoRow : OpenClaim := { program := "ytpmhnikilianoaa", sum := "b4909180176601ef5050c55e7c86cecbad5850b5f00d12ed34ac02124815a4b2", func := "loop.example/g01220/laws.FnExactOrderOf", spec := "fnExactOrderOf", plainKeys := false, apart := false, narrowed := true }
def FnExactOrderOfUptoSaid : Prop := fnExactOrderOfUptoRow.holds Try.pinned (OpenSpec.upto fnExactOrderOfSpec)

/-- 'laws.FnExactCountKept', WHERE WHAT IT READS IS OF BULK AT MOST 1048576: true; the input reads as it did. -/
def fnExactCountKeptUptoRow : OpenClaim := { program := "ytpmhnikilianoaa", sum := "b4909180176601ef5050c55e7c86cecbad5850b5f00d12ed34ac02124815a4b2", func := "loop.example/g01220/laws.FnExactCountKept", spec := "fnExactCountKept", plainKeys := false, apart := false, narrowed := true }
def FnExactCountKeptUptoSaid : Prop := fnExactCountKeptUptoRow.holds Try.pinned (OpenSpec.upto fnExactCountKeptSpec)

/-- 'laws.FnExactCountClasses', WHERE WHAT IT READS IS OF BULK AT MOST 1048576: true; the input reads as it did. -/
def fnExactCountClassesUptoRow : OpenClaim := { program := "ytpmhnikilianoaa", sum := "b4909180176601ef5050c55e7c86cecbad5850b5f00d12ed34ac02124815a4b2", func := "loop.example/g01220/laws.FnExactCountClasses", spec := "fnExactCountClasses", plainKeys := false, apart := false, narrowed := true }
def FnExactCountClassesUptoSaid : Prop := fnExactCountClassesUptoRow.holds Try.pinned (OpenSpec.upto fnExactCountClassesSpec)

/-- 'laws.FnPeriods', WHERE WHAT IT READS IS OF BULK AT MOST 1048576: true; the input reads as it did. -/
def fnPeriodsUptoRow : OpenClaim := { program := "ytpmhnikilianoaa", sum := "b4909180176601ef5050c55e7c86cecbad5850b5f00d12ed34ac02124815a4b2", func := "loop.example/g01220/laws.FnPeriods", spec := "fnPeriods", plainKeys := false, apart := false, narrowed := true }
def FnPeriodsUptoSaid : Prop := fnPeriodsUptoRow.holds Try.pinned (OpenSpec.upto fnPeriodsSpec)

/-- 'laws.FnSlants', WHERE WHAT IT READS IS OF BULK AT MOST 1048576: true; the input reads as it did. -/
def fnSlantsUptoRow : OpenClaim := { program := "ytpmhnikilianoaa", sum := "b4909180176601ef5050c55e7c86cecbad5850b5f00d12ed34ac02124815a4b2", func := "loop.example/g01220/laws.FnSlants", spec := "fnSlants", plainKeys := false, apart := false, narrowed := true }
def FnSlantsUptoSaid : Prop := fnSlantsUptoRow.holds Try.pinned (OpenSpec.upto fnSlantsSpec)

/-- 'laws.FnClasses', WHERE WHAT IT READS IS OF BULK AT MOST 1048576: true; the input reads as it did. -/
def fnClassesUptoRow : OpenClaim := { program := "ytpmhnikilianoaa", sum := "b4909180176601ef5050c55e7c86cecbad5850b5f00d12ed34ac02124815a4b2", func := "loop.example/g01220/laws.FnClasses", spec := "fnClasses", plainKeys := false, apart := false, narrowed := true }
def FnClassesUptoSaid : Prop := fnClassesUptoRow.holds Try.pinned (OpenSpec.upto fnClassesSpec)

/-- 'laws.FnMotions', WHERE WHAT IT READS IS OF BULK AT MOST 1048576: true; the input reads as it did. -/
def fnMotionsUptoRow : OpenClaim := { program := "ytpmhnikilianoaa", sum := "b4909180176601ef5050c55e7c86cecbad5850b5f00d12ed34ac02124815a4b2", func := "loop.example/g01220/laws.FnMotions", spec := "fnMotions", plainKeys := false, apart := false, narrowed := true }
def FnMotionsUptoSaid : Prop := fnMotionsUptoRow.holds Try.pinned (OpenSpec.upto fnMotionsSpec)

/-- 'laws.FnForms', WHERE WHAT IT READS IS OF BULK AT MOST 1048576: true; the input reads as it did. -/
def fnFormsUptoRow : OpenClaim := { program := "ytpmhnikilianoaa", sum := "b4909180176601ef5050c55e7c86cecbad5850b5f00d12ed34ac02124815a4b2", func := "loop.example/g01220/laws.FnForms", spec := "fnForms", plainKeys := false, apart := false, narrowed := true }
def FnFormsUptoSaid : Prop := fnFormsUptoRow.holds Try.pinned (OpenSpec.upto fnFormsSpec)

/-- 'laws.FnExactGreedyCover', WHERE WHAT IT READS IS OF BULK AT MOST 1048576: true; the input reads as it did. -/
def fnExactGreedyCoverUptoRow : OpenClaim := { program := "ytpmhnikilianoaa", sum := "b4909180176601ef5050c55e7c86cecbad5850b5f00d12ed34ac02124815a4b2", func := "loop.example/g01220/laws.FnExactGreedyCover", spec := "fnExactGreedyCover", unfollowed := true, recurses := true, plainKeys := false, apart := false, narrowed := true }
def FnExactGreedyCoverUptoSaid : Prop := fnExactGreedyCoverUptoRow.holds Try.pinned (OpenSpec.upto fnExactGreedyCoverSpec)

/-- 'laws.FnExactNeededCells', WHERE WHAT IT READS IS OF BULK AT MOST 1048576: true; the input reads as it did. -/
def fnExactNeededCellsUptoRow : OpenClaim := { program := "ytpmhnikilianoaa", sum := "b4909180176601ef5050c55e7c86cecbad5850b5f00d12ed34ac02124815a4b2", func := "loop.example/g01220/laws.FnExactNeededCells", spec := "fnExactNeededCells", unfollowed := true, recurses := true, plainKeys := false, apart := false, narrowed := true }
def FnExactNeededCellsUptoSaid : Prop := fnExactNeededCellsUptoRow.holds Try.pinned (OpenSpec.upto fnExactNeededCellsSpec)

end Rows
end Go.Proofs.Ytpmhnikilianoaa
