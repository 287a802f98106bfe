/-
  No cell of these rows narrows 'for every input' (looked for: loops, veiled, ifaces, maps, wideKeys, modest, calm, conditions, laid).
  DERIVED. THE GIVEN ROWS OF THIS SEAT. 23 by the template 'for every input the law returns true; each argument reads behind the call as it read before'; 0 by the template 'total and deterministic' (their statements: YtkobgklpcpoglaaTotals.lean).
  GIVEN WITH THE SEED: the statements are not yours to turn. If you find one false, say at which input.
  Laid BY PROGRAM, IN A SANDBOX (cutbox-rows.mjs): the forced cells as the released guide's own fill.sh prints them over the translation 4dbd5ef05054a30b… (all of the seat's roots in one cut). By AI agents, Wed Nov 11 2026. No macro, syntax, notation, axiom, sorry.
-/
import Derived.Test.YtkobgklpcpoglaaChecked
import GoSem.Claim
import GoSem.ClaimJoined
import GoSem.ClaimMapViews
import Derived.JoinedTies
import Derived.KernelRfl
namespace Go.Proofs.Ytkobgklpcpoglaa
/- THE CELL 'sum', in the pinned program and in every row, IS THE sha256 OF THE DUMP (.gsa) THAT YtkobgklpcpoglaaProg.lean LOADS. Nothing in Lean hashes anything: it is a label: what it is worth is what the hold of that sum in a sandbox is worth. -/
noncomputable def Try.pinned : Pinned := { name := "ytkobgklpcpoglaa", sum := "4dbd5ef05054a30b05e6100e2a960d978e0c6584920cceb95dc3ec7f0b3deea2", checked := Try.checked }
namespace Rows
def none {H : Type} : Left H := { results := [], args := [] }

/-- 'laws.FnExactPrintOf': WHATEVER THE INPUT: true; the input reads as it did. -/
def fnExactPrintOfSpec : ChangeSpec := { name := "fnExactPrintOf", fn := fun _ => fun
  | [d1, d2] => { results := [.lit (.bool true)], args := [d1, d2] }
  | _ => none }
def fnExactPrintOfRow : OpenClaim := { program := "ytkobgklpcpoglaa", sum := "4dbd5ef05054a30b05e6100e2a960d978e0c6584920cceb95dc3ec7f0b3deea2", func := "loop.example/g01220/laws.FnExactPrintOf", spec := "fnExactPrintOf", plainKeys := false, apart := false }
def FnExactPrintOfSaid : Prop := fnExactPrintOfRow.holds Try.pinned (OpenSpec.ofChange fnExactPrintOfSpec)

/-- ITS FALSE NEIGHBOUR: 'it returns false'. Refute it at one input. -/
def fnExactPrintOfWrong : ChangeSpec := { name := "fnExactPrintOf", fn := fun _ => fun
  | [d1, d2] => { results := [.lit (.bool false)], args := [d1, d2] }
  | _ => none }
def FnExactPrintOfWrongFalsely : Prop := fnExactPrintOfRow.holds Try.pinned (OpenSpec.ofChange fnExactPrintOfWrong)

/-- 'laws.FnExactKernelOf': WHATEVER THE INPUT: true; the input reads as it did. -/
def fnExactKernelOfSpec : ChangeSpec := { name := "fnExactKernelOf", fn := fun _ => fun
  | [d] => { results := [.lit (.bool true)], args := [d] }
  | _ => none }
def fnExactKernelOfRow : OpenClaim := { program := "ytkobgklpcpoglaa", sum := "4dbd5ef05054a30b05e6100e2a960d978e0c6584920cceb95dc3ec7f0b3deea2", func := "loop.example/g01220/laws.FnExactKernelOf", spec := "fnExactKernelOf", plainKeys := false, apart := false }
def FnExactKernelOfSaid : Prop := fnExactKernelOfRow.holds Try.pinned (OpenSpec.ofChange fnExactKernelOfSpec)

/-- ITS FALSE NEIGHBOUR: 'it returns false'. Refute it at one input. -/
def fnExactKernelOfWrong : ChangeSpec := { name := "fnExactKernelOf", fn := fun _ => fun
  | [d] => { results := [.lit (.bool false)], args := [d] }
  | _ => none }
def FnExactKernelOfWrongFalsely : Prop := fnExactKernelOfRow.holds Try.pinned (OpenSpec.ofChange fnExactKernelOfWrong)

/-- 'laws.FnExactRankOf': WHATEVER THE INPUT: true; the input reads as it did. -/
def fnExactRankOfSpec : ChangeSpec := { name := "fnExactRankOf", fn := fun _ => fun
  | [d] => { results := [.lit (.bool true)], args := [d] }
  | _ => none }
def fnExactRankOfRow : OpenClaim := { program := "ytkobgklpcpoglaa", sum := "4dbd5ef05054a30b05e6100e2a960d978e0c6584920cceb95dc3ec7f0b3deea2", func := "loop.example/g01220/laws.FnExactRankOf", spec := "fnExactRankOf", plainKeys := false, apart := false }
def FnExactRankOfSaid : Prop := fnExactRankOfRow.holds Try.pinned (OpenSpec.ofChange fnExactRankOfSpec)

/-- ITS FALSE NEIGHBOUR: 'it returns false'. Refute it at one input. -/
def fnExactRankOfWrong : ChangeSpec := { name := "fnExactRankOf", fn := fun _ => fun
  | [d] => { results := [.lit (.bool false)], args := [d] }
  | _ => none }
def FnExactRankOfWrongFalsely : Prop := fnExactRankOfRow.holds Try.pinned (OpenSpec.ofChange fnExactRankOfWrong)

/-- 'laws.FnExactCanToggle': WHATEVER THE INPUT: true; the input reads as it did. -/
def fnExactCanToggleSpec : ChangeSpec := { name := "fnExactCanToggle", fn := fun _ => fun
  | [d1, d2] => { results := [.lit (.bool true)], args := [d1, d2] }
  | _ => none }
def fnExactCanToggleRow : OpenClaim := { program := "ytkobgklpcpoglaa", sum := "4dbd5ef05054a30b05e6100e2a960d978e0c6584920cceb95dc3ec7f0b3deea2", func := "loop.example/g01220/laws.FnExactCanToggle", spec := "fnExactCanToggle", plainKeys := false, apart := false }
def FnExactCanToggleSaid : Prop := fnExactCanToggleRow.holds Try.pinned (OpenSpec.ofChange fnExactCanToggleSpec)

/-- ITS FALSE NEIGHBOUR: 'it returns false'. Refute it at one input. -/
def fnExactCanToggleWrong : ChangeSpec := { name := "fnExactCanToggle", fn := fun _ => fun
  | [d1, d2] => { results := [.lit (.bool false)], args := [d1, d2] }
  | _ => none }
def FnExactCanToggleWrongFalsely : Prop := fnExactCanToggleRow.holds Try.pinned (OpenSpec.ofChange fnExactCanToggleWrong)

/-- 'laws.FnExactLeastPresses': WHATEVER THE INPUT: true; the input reads as it did. -/
def fnExactLeastPressesSpec : ChangeSpec := { name := "fnExactLeastPresses", fn := fun _ => fun
  | [d1, d2] => { results := [.lit (.bool true)], args := [d1, d2] }
  | _ => none }
def fnExactLeastPressesRow : OpenClaim := { program := "ytkobgklpcpoglaa", sum := "4dbd5ef05054a30b05e6100e2a960d978e0c6584920cceb95dc3ec7f0b3deea2", func := "loop.example/g01220/laws.FnExactLeastPresses", spec := "fnExactLeastPresses", plainKeys := false, apart := false }
def FnExactLeastPressesSaid : Prop := fnExactLeastPressesRow.holds Try.pinned (OpenSpec.ofChange fnExactLeastPressesSpec)

/-- ITS FALSE NEIGHBOUR: 'it returns false'. Refute it at one input. -/
def fnExactLeastPressesWrong : ChangeSpec := { name := "fnExactLeastPresses", fn := fun _ => fun
  | [d1, d2] => { results := [.lit (.bool false)], args := [d1, d2] }
  | _ => none }
def FnExactLeastPressesWrongFalsely : Prop := fnExactLeastPressesRow.holds Try.pinned (OpenSpec.ofChange fnExactLeastPressesWrong)

/-- 'laws.FnExactFewestPresses': WHATEVER THE INPUT: true; the input reads as it did. -/
def fnExactFewestPressesSpec : ChangeSpec := { name := "fnExactFewestPresses", fn := fun _ => fun
  | [d1, d2] => { results := [.lit (.bool true)], args := [d1, d2] }
  | _ => none }
def fnExactFewestPressesRow : OpenClaim := { program := "ytkobgklpcpoglaa", sum := "4dbd5ef05054a30b05e6100e2a960d978e0c6584920cceb95dc3ec7f0b3deea2", func := "loop.example/g01220/laws.FnExactFewestPresses", spec := "fnExactFewestPresses", unfollowed := true, recurses := true, plainKeys := false, apart := false }
def FnExactFewestPressesSaid : Prop := fnExactFewestPressesRow.holds Try.pinned (OpenSpec.ofChange fnExactFewestPressesSpec)

/-- ITS FALSE NEIGHBOUR: 'it returns false'. Refute it at one input. -/
def fnExactFewestPressesWrong : ChangeSpec := { name := "fnExactFewestPresses", fn := fun _ => fun
  | [d1, d2] => { results := [.lit (.bool false)], args := [d1, d2] }
  | _ => none }
def FnExactFewestPressesWrongFalsely : Prop := fnExactFewestPressesRow.holds Try.pinned (OpenSpec.ofChange fnExactFewestPressesWrong)

/-- 'laws.FnExactIsUndoable': WHATEVER THE INPUT: true; the input reads as it did. -/
def fnExactIsUndoableSpec : ChangeSpec := { name := "fnExactIsUndoable", fn := fun _ => fun
  | [d] => { results := [.lit (.bool true)], args := [d] }
  | _ => none }
def fnExactIsUndoableRow : OpenClaim := { program := "ytkobgklpcpoglaa", sum := "4dbd5ef05054a30b05e6100e2a960d978e0c6584920cceb95dc3ec7f0b3deea2", func := "loop.example/g01220/laws.FnExactIsUndoable", spec := "fnExactIsUndoable", plainKeys := false, apart := false }
def FnExactIsUndoableSaid : Prop := fnExactIsUndoableRow.holds Try.pinned (OpenSpec.ofChange fnExactIsUndoableSpec)

/-- ITS FALSE NEIGHBOUR: 'it returns false'. Refute it at one input. -/
def fnExactIsUndoableWrong : ChangeSpec := { name := "fnExactIsUndoable", fn := fun _ => fun
  | [d] => { results := [.lit (.bool false)], args := [d] }
  | _ => none }
def FnExactIsUndoableWrongFalsely : Prop := fnExactIsUndoableRow.holds Try.pinned (OpenSpec.ofChange fnExactIsUndoableWrong)

/-- 'laws.FnExactUndoStamp': WHATEVER THE INPUT: true; the input reads as it did. -/
def fnExactUndoStampSpec : ChangeSpec := { name := "fnExactUndoStamp", fn := fun _ => fun
  | [d] => { results := [.lit (.bool true)], args := [d] }
  | _ => none }
def fnExactUndoStampRow : OpenClaim := { program := "ytkobgklpcpoglaa", sum := "4dbd5ef05054a30b05e6100e2a960d978e0c6584920cceb95dc3ec7f0b3deea2", func := "loop.example/g01220/laws.FnExactUndoStamp", spec := "fnExactUndoStamp", plainKeys := false, apart := false }
def FnExactUndoStampSaid : Prop := fnExactUndoStampRow.holds Try.pinned (OpenSpec.ofChange fnExactUndoStampSpec)

/-- ITS FALSE NEIGHBOUR: 'it returns false'. Refute it at one input. -/
def fnExactUndoStampWrong : ChangeSpec := { name := "fnExactUndoStamp", fn := fun _ => fun
  | [d] => { results := [.lit (.bool false)], args := [d] }
  | _ => none }
def FnExactUndoStampWrongFalsely : Prop := fnExactUndoStampRow.holds Try.pinned (OpenSpec.ofChange fnExactUndoStampWrong)

/-- 'laws.FnExactPowerOf': WHATEVER THE INPUT: true; the input reads as it did. -/
def fnExactPowerOfSpec : ChangeSpec := { name := "fnExactPowerOf", fn := fun _ => fun
  | [d1, d2] => { results := [.lit (.bool true)], args := [d1, d2] }
  | _ => none }
def fnExactPowerOfRow : OpenClaim := { program := "ytkobgklpcpoglaa", sum := "4dbd5ef05054a30b05e6100e2a960d978e0c6584920cceb95dc3ec7f0b3deea2", func := "loop.example/g01220/laws.FnExactPowerOf", spec := "fnExactPowerOf", plainKeys := false, apart := false }
def FnExactPowerOfSaid : Prop := fnExactPowerOfRow.holds Try.pinned (OpenSpec.ofChange fnExactPowerOfSpec)

/-- ITS FALSE NEIGHBOUR: 'it returns false'. Refute it at one input. -/
def fnExactPowerOfWrong : ChangeSpec := { name := "fnExactPowerOf", fn := fun _ => fun
  | [d1, d2] => { results := [.lit (.bool false)], args := [d1, d2] }
  | _ => none }
def FnExactPowerOfWrongFalsely : Prop := fnExactPowerOfRow.holds Try.pinned (OpenSpec.ofChange fnExactPowerOfWrong)

/-- 'laws.FnExactStampOrder': WHATEVER THE INPUT: true; the input reads as it did. -/
def fnExactStampOrderSpec : ChangeSpec := { name := "fnExactStampOrder", fn := fun _ => fun
  | [d] => { results := [.lit (.bool true)], args := [d] }
  | _ => none }
def fnExactStampOrderRow : OpenClaim := { program := "ytkobgklpcpoglaa", sum := "4dbd5ef05054a30b05e6100e2a960d978e0c6584920cceb95dc3ec7f0b3deea2", func := "loop.example/g01220/laws.FnExactStampOrder", spec := "fnExactStampOrder", plainKeys := false, apart := false }
def FnExactStampOrderSaid : Prop := fnExactStampOrderRow.holds Try.pinned (OpenSpec.ofChange fnExactStampOrderSpec)

/-- ITS FALSE NEIGHBOUR: 'it returns false'. Refute it at one input. -/
def fnExactStampOrderWrong : ChangeSpec := { name := "fnExactStampOrder", fn := fun _ => fun
  | [d] => { results := [.lit (.bool false)], args := [d] }
  | _ => none }
def FnExactStampOrderWrongFalsely : Prop := fnExactStampOrderRow.holds Try.pinned (OpenSpec.ofChange fnExactStampOrderWrong)

/-- 'laws.FnExactIsQuiet': WHATEVER THE INPUT: true; the input reads as it did. -/
def fnExactIsQuietSpec : ChangeSpec := { name := "fnExactIsQuiet", fn := fun _ => fun
  | [d1, d2] => { results := [.lit (.bool true)], args := [d1, d2] }
  | _ => none }
def fnExactIsQuietRow : OpenClaim := { program := "ytkobgklpcpoglaa", sum := "4dbd5ef05054a30b05e6100e2a960d978e0c6584920cceb95dc3ec7f0b3deea2", func := "loop.example/g01220/laws.FnExactIsQuiet", spec := "fnExactIsQuiet", plainKeys := false, apart := false }
def FnExactIsQuietSaid : Prop := fnExactIsQuietRow.holds Try.pinned (OpenSpec.ofChange fnExactIsQuietSpec)

/-- ITS FALSE NEIGHBOUR: 'it returns false'. Refute it at one input. -/
def fnExactIsQuietWrong : ChangeSpec := { name := "fnExactIsQuiet", fn := fun _ => fun
  | [d1, d2] => { results := [.lit (.bool false)], args := [d1, d2] }
  | _ => none }
def FnExactIsQuietWrongFalsely : Prop := fnExactIsQuietRow.holds Try.pinned (OpenSpec.ofChange fnExactIsQuietWrong)

/-- 'laws.FnExactQuietStamps': WHATEVER THE INPUT: true; the input reads as it did. -/
def fnExactQuietStampsSpec : ChangeSpec := { name := "fnExactQuietStamps", fn := fun _ => fun
  | [d] => { results := [.lit (.bool true)], args := [d] }
  | _ => none }
def fnExactQuietStampsRow : OpenClaim := { program := "ytkobgklpcpoglaa", sum := "4dbd5ef05054a30b05e6100e2a960d978e0c6584920cceb95dc3ec7f0b3deea2", func := "loop.example/g01220/laws.FnExactQuietStamps", spec := "fnExactQuietStamps", plainKeys := false, apart := false }
def FnExactQuietStampsSaid : Prop := fnExactQuietStampsRow.holds Try.pinned (OpenSpec.ofChange fnExactQuietStampsSpec)

/-- ITS FALSE NEIGHBOUR: 'it returns false'. Refute it at one input. -/
def fnExactQuietStampsWrong : ChangeSpec := { name := "fnExactQuietStamps", fn := fun _ => fun
  | [d] => { results := [.lit (.bool false)], args := [d] }
  | _ => none }
def FnExactQuietStampsWrongFalsely : Prop := fnExactQuietStampsRow.holds Try.pinned (OpenSpec.ofChange fnExactQuietStampsWrong)

/-- 'laws.FnToggles': WHATEVER THE INPUT: true; the input reads as it did. -/
def fnTogglesSpec : ChangeSpec := { name := "fnToggles", fn := fun _ => fun
  | [d] => { results := [.lit (.bool true)], args := [d] }
  | _ => none }
def fnTogglesRow : OpenClaim := { program := "ytkobgklpcpoglaa", sum := "4dbd5ef05054a30b05e6100e2a960d978e0c6584920cceb95dc3ec7f0b3deea2", func := "loop.example/g01220/laws.FnToggles", spec := "fnToggles", unfollowed := true, recurses := true, plainKeys := false, apart := false }
def FnTogglesSaid : Prop := fnTogglesRow.holds Try.pinned (OpenSpec.ofChange fnTogglesSpec)

/-- ITS FALSE NEIGHBOUR: 'it returns false'. Refute it at one input. -/
def fnTogglesWrong : ChangeSpec := { name := "fnToggles", fn := fun _ => fun
  | [d] => { results := [.lit (.bool false)], args := [d] }
  | _ => none }
def FnTogglesWrongFalsely : Prop := fnTogglesRow.holds Try.pinned (OpenSpec.ofChange fnTogglesWrong)

/-- 'laws.FnKernels': WHATEVER THE INPUT: true; the input reads as it did. -/
def fnKernelsSpec : ChangeSpec := { name := "fnKernels", fn := fun _ => fun
  | [d] => { results := [.lit (.bool true)], args := [d] }
  | _ => none }
def fnKernelsRow : OpenClaim := { program := "ytkobgklpcpoglaa", sum := "4dbd5ef05054a30b05e6100e2a960d978e0c6584920cceb95dc3ec7f0b3deea2", func := "loop.example/g01220/laws.FnKernels", spec := "fnKernels", plainKeys := false, apart := false }
def FnKernelsSaid : Prop := fnKernelsRow.holds Try.pinned (OpenSpec.ofChange fnKernelsSpec)

/-- ITS FALSE NEIGHBOUR: 'it returns false'. Refute it at one input. -/
def fnKernelsWrong : ChangeSpec := { name := "fnKernels", fn := fun _ => fun
  | [d] => { results := [.lit (.bool false)], args := [d] }
  | _ => none }
def FnKernelsWrongFalsely : Prop := fnKernelsRow.holds Try.pinned (OpenSpec.ofChange fnKernelsWrong)

/-- 'laws.FnExactFirstPlace': WHATEVER THE INPUT: true; the input reads as it did. -/
def fnExactFirstPlaceSpec : ChangeSpec := { name := "fnExactFirstPlace", fn := fun _ => fun
  | [d] => { results := [.lit (.bool true)], args := [d] }
  | _ => none }
def fnExactFirstPlaceRow : OpenClaim := { program := "ytkobgklpcpoglaa", sum := "4dbd5ef05054a30b05e6100e2a960d978e0c6584920cceb95dc3ec7f0b3deea2", func := "loop.example/g01220/laws.FnExactFirstPlace", spec := "fnExactFirstPlace", plainKeys := false, apart := false }
def FnExactFirstPlaceSaid : Prop := fnExactFirstPlaceRow.holds Try.pinned (OpenSpec.ofChange fnExactFirstPlaceSpec)

/-- ITS FALSE NEIGHBOUR: 'it returns false'. Refute it at one input. -/
def fnExactFirstPlaceWrong : ChangeSpec := { name := "fnExactFirstPlace", fn := fun _ => fun
  | [d] => { results := [.lit (.bool false)], args := [d] }
  | _ => none }
def FnExactFirstPlaceWrongFalsely : Prop := fnExactFirstPlaceRow.holds Try.pinned (OpenSpec.ofChange fnExactFirstPlaceWrong)

/-- 'laws.FnExactFirstTurn': WHATEVER THE INPUT: true; the input reads as it did. -/
def fnExactFirstTurnSpec : ChangeSpec := { name := "fnExactFirstTurn", fn := fun _ => fun
  | [d] => { results := [.lit (.bool true)], args := [d] }
  | _ => none }
def fnExactFirstTurnRow : OpenClaim := { program := "ytkobgklpcpoglaa", sum := "4dbd5ef05054a30b05e6100e2a960d978e0c6584920cceb95dc3ec7f0b3deea2", func := "loop.example/g01220/laws.FnExactFirstTurn", spec := "fnExactFirstTurn", plainKeys := false, apart := false }
def FnExactFirstTurnSaid : Prop := fnExactFirstTurnRow.holds Try.pinned (OpenSpec.ofChange fnExactFirstTurnSpec)

/-- ITS FALSE NEIGHBOUR: 'it returns false'. Refute it at one input. -/
def fnExactFirstTurnWrong : ChangeSpec := { name := "fnExactFirstTurn", fn := fun _ => fun
  | [d] => { results := [.lit (.bool false)], args := [d] }
  | _ => none }
def FnExactFirstTurnWrongFalsely : Prop := fnExactFirstTurnRow.holds Try.pinned (OpenSpec.ofChange fnExactFirstTurnWrong)

/-- 'laws.FnExactFirstForm': WHATEVER THE INPUT: true; the input reads as it did. -/
def fnExactFirstFormSpec : ChangeSpec := { name := "fnExactFirstForm", fn := fun _ => fun
  | [d] => { results := [.lit (.bool true)], args := [d] }
  | _ => none }
def fnExactFirstFormRow : OpenClaim := { program := "ytkobgklpcpoglaa", sum := "4dbd5ef05054a30b05e6100e2a960d978e0c6584920cceb95dc3ec7f0b3deea2", func := "loop.example/g01220/laws.FnExactFirstForm", spec := "fnExactFirstForm", plainKeys := false, apart := false }
def FnExactFirstFormSaid : Prop := fnExactFirstFormRow.holds Try.pinned (OpenSpec.ofChange fnExactFirstFormSpec)

/-- ITS FALSE NEIGHBOUR: 'it returns false'. Refute it at one input. -/
def fnExactFirstFormWrong : ChangeSpec := { name := "fnExactFirstForm", fn := fun _ => fun
  | [d] => { results := [.lit (.bool false)], args := [d] }
  | _ => none }
def FnExactFirstFormWrongFalsely : Prop := fnExactFirstFormRow.holds Try.pinned (OpenSpec.ofChange fnExactFirstFormWrong)

/-- 'laws.FnExactAreAlike': WHATEVER THE INPUT: true; the input reads as it did. -/
def fnExactAreAlikeSpec : ChangeSpec := { name := "fnExactAreAlike", fn := fun _ => fun
  | [d1, d2] => { results := [.lit (.bool true)], args := [d1, d2] }
  | _ => none }
def fnExactAreAlikeRow : OpenClaim := { program := "ytkobgklpcpoglaa", sum := "4dbd5ef05054a30b05e6100e2a960d978e0c6584920cceb95dc3ec7f0b3deea2", func := "loop.example/g01220/laws.FnExactAreAlike", spec := "fnExactAreAlike", plainKeys := false, apart := false }
def FnExactAreAlikeSaid : Prop := fnExactAreAlikeRow.holds Try.pinned (OpenSpec.ofChange fnExactAreAlikeSpec)

/-- ITS FALSE NEIGHBOUR: 'it returns false'. Refute it at one input. -/
def fnExactAreAlikeWrong : ChangeSpec := { name := "fnExactAreAlike", fn := fun _ => fun
  | [d1, d2] => { results := [.lit (.bool false)], args := [d1, d2] }
  | _ => none }
def FnExactAreAlikeWrongFalsely : Prop := fnExactAreAlikeRow.holds Try.pinned (OpenSpec.ofChange fnExactAreAlikeWrong)

/-- 'laws.FnMotions': WHATEVER THE INPUT: true; the input reads as it did. -/
def fnMotionsSpec : ChangeSpec := { name := "fnMotions", fn := fun _ => fun
  | [d] => { results := [.lit (.bool true)], args := [d] }
  | _ => none }
def fnMotionsRow : OpenClaim := { program := "ytkobgklpcpoglaa", sum := "4dbd5ef05054a30b05e6100e2a960d978e0c6584920cceb95dc3ec7f0b3deea2", func := "loop.example/g01220/laws.FnMotions", spec := "fnMotions", plainKeys := false, apart := false }
def FnMotionsSaid : Prop := fnMotionsRow.holds Try.pinned (OpenSpec.ofChange fnMotionsSpec)

/-- ITS FALSE NEIGHBOUR: 'it returns false'. Refute it at one input. -/
def fnMotionsWrong : ChangeSpec := { name := "fnMotions", fn := fun _ => fun
  | [d] => { results := [.lit (.bool false)], args := [d] }
  | _ => none }
def FnMotionsWrongFalsely : Prop := fnMotionsRow.holds Try.pinned (OpenSpec.ofChange fnMotionsWrong)

/-- 'laws.FnForms': WHATEVER THE INPUT: true; the input reads as it did. -/
def fnFormsSpec : ChangeSpec := { name := "fnForms", fn := fun _ => fun
  | [d] => { results := [.lit (.bool true)], args := [d] }
  | _ => none }
def fnFormsRow : OpenClaim := { program := "ytkobgklpcpoglaa", sum := "4dbd5ef05054a30b05e6100e2a960d978e0c6584920cceb95dc3ec7f0b3deea2", func := "loop.example/g01220/laws.FnForms", spec := "fnForms", plainKeys := false, apart := false }
def FnFormsSaid : Prop := fnFormsRow.holds Try.pinned (OpenSpec.ofChange fnFormsSpec)

/-- ITS FALSE NEIGHBOUR: 'it returns false'. Refute it at one input. -/
def fnFormsWrong : ChangeSpec := { name := "fnForms", fn := fun _ => fun
  | [d] => { results := [.lit (.bool false)], args := [d] }
  | _ => none }
def FnFormsWrongFalsely : Prop := fnFormsRow.holds Try.pinned (OpenSpec.ofChange fnFormsWrong)

/-- 'laws.FnExactSheetOf': WHATEVER THE INPUT: true; the input reads as it did. -/
def fnExactSheetOfSpec : ChangeSpec := { name := "fnExactSheetOf", fn := fun _ => fun
  | [d] => { results := [.lit (.bool true)], args := [d] }
  | _ => none }
def fnExactSheetOfRow : OpenClaim := { program := "ytkobgklpcpoglaa", sum := "4dbd5ef05054a30b05e6100e2a960d978e0c6584920cceb95dc3ec7f0b3deea2", func := "loop.example/g01220/laws.FnExactSheetOf", spec := "fnExactSheetOf", plainKeys := false, apart := false }
def FnExactSheetOfSaid : Prop := fnExactSheetOfRow.holds Try.pinned (OpenSpec.ofChange fnExactSheetOfSpec)

/-- ITS FALSE NEIGHBOUR: 'it returns false'. Refute it at one input. -/
def fnExactSheetOfWrong : ChangeSpec := { name := "fnExactSheetOf", fn := fun _ => fun
  | [d] => { results := [.lit (.bool false)], args := [d] }
  | _ => none }
def FnExactSheetOfWrongFalsely : Prop := fnExactSheetOfRow.holds Try.pinned (OpenSpec.ofChange fnExactSheetOfWrong)

/-- 'laws.FnExactSheetText': WHATEVER THE INPUT: true; the input reads as it did. -/
def fnExactSheetTextSpec : ChangeSpec := { name := "fnExactSheetText", fn := fun _ => fun
  | [d] => { results := [.lit (.bool true)], args := [d] }
  | _ => none }
def fnExactSheetTextRow : OpenClaim := { program := "ytkobgklpcpoglaa", sum := "4dbd5ef05054a30b05e6100e2a960d978e0c6584920cceb95dc3ec7f0b3deea2", func := "loop.example/g01220/laws.FnExactSheetText", spec := "fnExactSheetText", inPlace := ["internal/abi.NoEscape", "internal/bytealg.MakeNoZero"], plainKeys := false, apart := false }
def FnExactSheetTextSaid : Prop := fnExactSheetTextRow.holds Try.pinned (OpenSpec.ofChange fnExactSheetTextSpec)

/-- ITS FALSE NEIGHBOUR: 'it returns false'. Refute it at one input. -/
def fnExactSheetTextWrong : ChangeSpec := { name := "fnExactSheetText", fn := fun _ => fun
  | [d] => { results := [.lit (.bool false)], args := [d] }
  | _ => none }
def FnExactSheetTextWrongFalsely : Prop := fnExactSheetTextRow.holds Try.pinned (OpenSpec.ofChange fnExactSheetTextWrong)

/-- 'laws.FnExactParseSheet': WHATEVER THE INPUT: true; the input reads as it did. -/
def fnExactParseSheetSpec : ChangeSpec := { name := "fnExactParseSheet", fn := fun _ => fun
  | [d] => { results := [.lit (.bool true)], args := [d] }
  | _ => none }
def fnExactParseSheetRow : OpenClaim := { program := "ytkobgklpcpoglaa", sum := "4dbd5ef05054a30b05e6100e2a960d978e0c6584920cceb95dc3ec7f0b3deea2", func := "loop.example/g01220/laws.FnExactParseSheet", spec := "fnExactParseSheet", unfollowed := true, recurses := true, plainKeys := false, apart := false }
def FnExactParseSheetSaid : Prop := fnExactParseSheetRow.holds Try.pinned (OpenSpec.ofChange fnExactParseSheetSpec)

/-- ITS FALSE NEIGHBOUR: 'it returns false'. Refute it at one input. -/
def fnExactParseSheetWrong : ChangeSpec := { name := "fnExactParseSheet", fn := fun _ => fun
  | [d] => { results := [.lit (.bool false)], args := [d] }
  | _ => none }
def FnExactParseSheetWrongFalsely : Prop := fnExactParseSheetRow.holds Try.pinned (OpenSpec.ofChange fnExactParseSheetWrong)

/- THE SECOND FORM. 'bulk': how many values and letters a reading holds, each counted each time it is reached (what is shared counts as often as it is met; a slice's spare places count too). A statement '..UptoSaid' is the law's where the arguments, and the package variables that the reading takes, are together of bulk at most 1048576: NARROWER than '..Said'. Prove '..Said' where nothing that the law and all that it calls make is longer than what came in: it says more and counts as full. Else prove '..UptoSaid'. A law counts once. -/
mutual
def uptoBulk {H : Type} : DataW H → Nat
  | .lit (.string bytes) => bytes.length + 1
  | .lit _ => 1
  | .nil => 1
  | .ptr d => uptoBulk d + 1
  | .slice elems spare => uptoBulkAll elems + uptoBulkAll spare + 1
  | .agg parts => uptoBulkAll parts + 1
  | .iface _ d => uptoBulk d + 1
  | .map entries => uptoBulkEntries entries + 1
  | .held _ => 1
def uptoBulkAll {H : Type} : List (DataW H) → Nat
  | [] => 0
  | d :: r => uptoBulk d + uptoBulkAll r
def uptoBulkEntries {H : Type} : List (Lit × DataW H) → Nat
  | [] => 0
  | x :: r => uptoBulkEntry x + uptoBulkEntries r
def uptoBulkEntry {H : Type} : Lit × DataW H → Nat
  | (.string bytes, d) => bytes.length + uptoBulk d + 1
  | (_, d) => uptoBulk d + 1
 end
def uptoSmall : (H : Type) → List (DataW H) → Bool := fun _ ds => decide (uptoBulkAll ds ≤ 1048576)
def OpenSpec.upto (s : _root_.Go.ChangeSpec) : _root_.Go.OpenSpec := { _root_.Go.OpenSpec.ofChange s with cond := some uptoSmall }

/-- 'laws.FnExactPrintOf', WHERE WHAT IT READS IS OF BULK AT MOST 1048576: true; the input reads as it did. -/
def fnExactPrintOfUptoRow : OpenClaim := { program := "ytkobgklpcpoglaa", sum := "4dbd5ef05054a30b05e6100e2a960d978e0c6584920cceb95dc3ec7f0b3deea2", func := "loop.example/g01220/laws.FnExactPrintOf", spec := "fnExactPrintOf", plainKeys := false, apart := false, narrowed := true }
def FnExactPrintOfUptoSaid : Prop := fnExactPrintOfUptoRow.holds Try.pinned (OpenSpec.upto fnExactPrintOfSpec)

/-- 'laws.FnExactKernelOf', WHERE WHAT IT READS IS OF BULK AT MOST 1048576: true; the input reads as it did. -/
def fnExactKernelOfUptoRow : OpenClaim := { program := "ytkobgklpcpoglaa", sum := "4dbd5ef05054a30b05e6100e2a960d978e0c6584920cceb95dc3ec7f0b3deea2", func := "loop.example/g01220/laws.FnExactKernelOf", spec := "fnExactKernelOf", plainKeys := false, apart := false, narrowed := true }
def FnExactKernelOfUptoSaid : Prop := fnExactKernelOfUptoRow.holds Try.pinned (OpenSpec.upto fnExactKernelOfSpec)

/-- 'laws.FnExactRankOf', WHERE WHAT IT READS IS OF BULK AT MOST 1048576: true; the input reads as it did. -/
def fnExactRankOfUptoRow : OpenClaim := { program := "ytkobgklpcpoglaa", sum := "4dbd5ef05054a30b05e6100e2a960d978e0c6584920cceb95dc3ec7f0b3deea2", func := "loop.example/g01220/laws.FnExactRankOf", spec := "fnExactRankOf", plainKeys := false, apart := false, narrowed := true }
def FnExactRankOfUptoSaid : Prop := fnExactRankOfUptoRow.holds Try.pinned (OpenSpec.upto fnExactRankOfSpec)

/-- 'laws.FnExactCanToggle', WHERE WHAT IT READS IS OF BULK AT MOST 1048576: true; the input reads as it did. -/
def fnExactCanToggleUptoRow : OpenClaim := { program := "ytkobgklpcpoglaa", sum := "4dbd5ef05054a30b05e6100e2a960d978e0c6584920cceb95dc3ec7f0b3deea2", func := "loop.example/g01220/laws.FnExactCanToggle", spec := "fnExactCanToggle", plainKeys := false, apart := false, narrowed := true }
def FnExactCanToggleUptoSaid : Prop := fnExactCanToggleUptoRow.holds Try.pinned (OpenSpec.upto fnExactCanToggleSpec)

/-- 'laws.FnExactLeastPresses', WHERE WHAT IT READS IS OF BULK AT MOST 1048576: true; the input reads as it did. -/
def fnExactLeastPressesUptoRow : OpenClaim := { program := "ytkobgklpcpoglaa", sum := "4dbd5ef05054a30b05e6100e2a960d978e0c6584920cceb95dc3ec7f0b3deea2", func := "loop.example/g01220/laws.FnExactLeastPresses", spec := "fnExactLeastPresses", plainKeys := false, apart := false, narrowed := true }
def FnExactLeastPressesUptoSaid : Prop := fnExactLeastPressesUptoRow.holds Try.pinned (OpenSpec.upto fnExactLeastPressesSpec)

/-- 'laws.FnExactFewestPresses', WHERE WHAT IT READS IS OF BULK AT MOST 1048576: true; the input reads as it did. -/
def fnExactFewestPressesUptoRow : OpenClaim := { program := "ytkobgklpcpoglaa", sum := "4dbd5ef05054a30b05e6100e2a960d978e0c6584920cceb95dc3ec7f0b3deea2", func := "loop.example/g01220/laws.FnExactFewestPresses", spec := "fnExactFewestPresses", unfollowed := true, recurses := true, plainKeys := false, apart := false, narrowed := true }
def FnExactFewestPressesUptoSaid : Prop := fnExactFewestPressesUptoRow.holds Try.pinned (OpenSpec.upto fnExactFewestPressesSpec)

/-- 'laws.FnExactIsUndoable', WHERE WHAT IT READS IS OF BULK AT MOST 1048576: true; the input reads as it did. -/
def fnExactIsUndoableUptoRow : OpenClaim := { program := "ytkobgklpcpoglaa", sum := "4dbd5ef05054a30b05e6100e2a960d978e0c6584920cceb95dc3ec7f0b3deea2", func := "loop.example/g01220/laws.FnExactIsUndoable", spec := "fnExactIsUndoable", plainKeys := false, apart := false, narrowed := true }
def FnExactIsUndoableUptoSaid : Prop := fnExactIsUndoableUptoRow.holds Try.pinned (OpenSpec.upto fnExactIsUndoableSpec)

/-- 'laws.FnExactUndoStamp', WHERE WHAT IT READS IS OF BULK AT MOST 1048576: true; the input reads as it did. -/
def fnExactUndoStampUptoRow : OpenClaim := { program := "ytkobgklpcpoglaa", sum := "4dbd5ef05054a30b05e6100e2a960d978e0c6584920cceb95dc3ec7f0b3deea2", func := "loop.example/g01220/laws.FnExactUndoStamp", spec := "fnExactUndoStamp", plainKeys := false, apart := false, narrowed := true }
def FnExactUndoStampUptoSaid : Prop := fnExactUndoStampUptoRow.holds Try.pinned (OpenSpec.upto fnExactUndoStampSpec)

/-- 'laws.FnExactPowerOf', WHERE WHAT IT READS IS OF BULK AT MOST 1048576: true; the input reads as it did. -/
def fnExactPowerOfUptoRow : OpenClaim := { program := "ytkobgklpcpoglaa", sum := "4dbd5ef05054a30b05e6100e2a960d978e0c6584920cceb95dc3ec7f0b3deea2", func := "loop.example/g01220/laws.FnExactPowerOf", spec := "fnExactPowerOf", plainKeys := false, apart := false, narrowed := true }
def FnExactPowerOfUptoSaid : Prop := fnExactPowerOfUptoRow.holds Try.pinned (OpenSpec.upto fnExactPowerOfSpec)

/-- 'laws.FnExactStampOrder', WHERE WHAT IT READS IS OF BULK AT MOST 1048576: true; the input reads as it did. -/
def fnExactStampOrderUptoRow : OpenClaim := { program := "ytkobgklpcpoglaa", sum := "4dbd5ef05054a30b05e6100e2a960d978e0c6584920cceb95dc3ec7f0b3deea2", func := "loop.example/g01220/laws.FnExactStampOrder", spec := "fnExactStampOrder", plainKeys := false, apart := false, narrowed := true }
def FnExactStampOrderUptoSaid : Prop := fnExactStampOrderUptoRow.holds Try.pinned (OpenSpec.upto fnExactStampOrderSpec)

/-- 'laws.FnExactIsQuiet', WHERE WHAT IT READS IS OF BULK AT MOST 1048576: true; the input reads as it did. -/
def fnExactIsQuietUptoRow : OpenClaim := { program := "ytkobgklpcpoglaa", sum := "4dbd5ef05054a30b05e6100e2a960d978e0c6584920cceb95dc3ec7f0b3deea2", func := "loop.example/g01220/laws.FnExactIsQuiet", spec := "fnExactIsQuiet", plainKeys := false, apart := false, narrowed := true }
def FnExactIsQuietUptoSaid : Prop := fnExactIsQuietUptoRow.holds Try.pinned (OpenSpec.upto fnExactIsQuietSpec)

/-- 'laws.FnExactQuietStamps', WHERE WHAT IT READS IS OF BULK AT MOST 1048576: true; the input reads as it did. -/
def fnExactQuietStampsUptoRow : OpenClaim := { program := "ytkobgklpcpoglaa", sum := "4dbd5ef05054a30b05e6100e2a960d978e0c6584920cceb95dc3ec7f0b3deea2", func := "loop.example/g01220/laws.FnExactQuietStamps", spec := "fnExactQuietStamps", plainKeys := false, apart := false, narrowed := true }
def FnExactQuietStampsUptoSaid : Prop := fnExactQuietStampsUptoRow.holds Try.pinned (OpenSpec.upto fnExactQuietStampsSpec)

/-- 'laws.FnToggles', WHERE WHAT IT READS IS OF BULK AT MOST 1048576: true; the input reads as it did. -/
def fnTogglesUptoRow : OpenClaim := { program := "ytkobgklpcpoglaa", sum := "4dbd5ef05054a30b05e6100e2a960d978e0c6584920cceb95dc3ec7f0b3deea2", func := "loop.example/g01220/laws.FnToggles", spec := "fnToggles", unfollowed := true, recurses := true, plainKeys := false, apart := false, narrowed := true }
def FnTogglesUptoSaid : Prop := fnTogglesUptoRow.holds Try.pinned (OpenSpec.upto fnTogglesSpec)

/-- 'laws.FnKernels', WHERE WHAT IT READS IS OF BULK AT MOST 1048576: true; the input reads as it did. -/
def fnKernelsUptoRow : OpenClaim := { program := "ytkobgklpcpoglaa", sum := "4dbd5ef05054a30b05e6100e2a960d978e0c6584920cceb95dc3ec7f0b3deea2", func := "loop.example/g01220/laws.FnKernels", spec := "fnKernels", plainKeys := false, apart := false, narrowed := true }
def FnKernelsUptoSaid : Prop := fnKernelsUptoRow.holds Try.pinned (OpenSpec.upto fnKernelsSpec)

/-- 'laws.FnExactFirstPlace', WHERE WHAT IT READS IS OF BULK AT MOST 1048576: true; the input reads as it did. -/
def fnExactFirstPlaceUptoRow : OpenClaim := { program := "ytkobgklpcpoglaa", sum := "4dbd5ef05054a30b05e6100e2a960d978e0c6584920cceb95dc3ec7f0b3deea2", func := "loop.example/g01220/laws.FnExactFirstPlace", spec := "fnExactFirstPlace", plainKeys := false, apart := false, narrowed := true }
def FnExactFirstPlaceUptoSaid : Prop := fnExactFirstPlaceUptoRow.holds Try.pinned (OpenSpec.upto fnExactFirstPlaceSpec)

/-- 'laws.FnExactFirstTurn', WHERE WHAT IT READS IS OF BULK AT MOST 1048576: true; the input reads as it did. -/
def fnExactFirstTurnUptoRow : OpenClaim := { program := "ytkobgklpcpoglaa", sum := "4dbd5ef05054a30b05e6100e2a960d978e0c6584920cceb95dc3ec7f0b3deea2", func := "loop.example/g01220/laws.FnExactFirstTurn", spec := "fnExactFirstTurn", plainKeys := false, apart := false, narrowed := true }
def FnExactFirstTurnUptoSaid : Prop := fnExactFirstTurnUptoRow.holds Try.pinned (OpenSpec.upto fnExactFirstTurnSpec)

/-- 'laws.FnExactFirstForm', WHERE WHAT IT READS IS OF BULK AT MOST 1048576: true; the input reads as it did. -/
def fnExactFirstFormUptoRow : OpenClaim := { program := "ytkobgklpcpoglaa", sum := "4dbd5ef05054a30b05e6100e2a960d978e0c6584920cceb95dc3ec7f0b3deea2", func := "loop.example/g01220/laws.FnExactFirstForm", spec := "fnExactFirstForm", plainKeys := false, apart := false, narrowed := true }
def FnExactFirstFormUptoSaid : Prop := fnExactFirstFormUptoRow.holds Try.pinned (OpenSpec.upto fnExactFirstFormSpec)

/-- 'laws.FnExactAreAlike', WHERE WHAT IT READS IS OF BULK AT MOST 1048576: true; the input reads as it did. -/
def fnExactAreAlikeUptoRow : OpenClaim := { program := "ytkobgklpcpoglaa", sum := "4dbd5ef05054a30b05e6100e2a960d978e0c6584920cceb95dc3ec7f0b3deea2", func := "loop.example/g01220/laws.FnExactAreAlike", spec := "fnExactAreAlike", plainKeys := false, apart := false, narrowed := true }
def FnExactAreAlikeUptoSaid : Prop := fnExactAreAlikeUptoRow.holds Try.pinned (OpenSpec.upto fnExactAreAlikeSpec)

/-- 'laws.FnMotions', WHERE WHAT IT READS IS OF BULK AT MOST 1048576: true; the input reads as it did. -/
def fnMotionsUptoRow : OpenClaim := { program := "ytkobgklpcpoglaa", sum := "4dbd5ef05054a30b05e6100e2a960d978e0c6584920cceb95dc3ec7f0b3deea2", func := "loop.example/g01220/laws.FnMotions", spec := "fnMotions", plainKeys := false, apart := false, narrowed := true }
def FnMotionsUptoSaid : Prop := fnMotionsUptoRow.holds Try.pinned (OpenSpec.upto fnMotionsSpec)

/-- 'laws.FnForms', WHERE WHAT IT READS IS OF BULK AT MOST 1048576: true; the input reads as it did. -/
def fnFormsUptoRow : OpenClaim := { program := "ytkobgklpcpoglaa", sum := "4dbd5ef05054a30b05e6100e2a960d978e0c6584920cceb95dc3ec7f0b3deea2", func := "loop.example/g01220/laws.FnForms", spec := "fnForms", plainKeys := false, apart := false, narrowed := true }
def FnFormsUptoSaid : Prop := fnFormsUptoRow.holds Try.pinned (OpenSpec.upto fnFormsSpec)

/-- 'laws.FnExactSheetOf', WHERE WHAT IT READS IS OF BULK AT MOST 1048576: true; the input reads as it did. -/
def fnExactSheetOfUptoRow : OpenClaim := { program := "ytkobgklpcpoglaa", sum := "4dbd5ef05054a30b05e6100e2a960d978e0c6584920cceb95dc3ec7f0b3deea2", func := "loop.example/g01220/laws.FnExactSheetOf", spec := "fnExactSheetOf", plainKeys := false, apart := false, narrowed := true }
def FnExactSheetOfUptoSaid : Prop := fnExactSheetOfUptoRow.holds Try.pinned (OpenSpec.upto fnExactSheetOfSpec)

/-- 'laws.FnExactSheetText', WHERE WHAT IT READS IS OF BULK AT MOST 1048576: true; the input reads as it did. -/
def fnExactSheetTextUptoRow : OpenClaim := { program := "ytkobgklpcpoglaa", sum := "4dbd5ef05054a30b05e6100e2a960d978e0c6584920cceb95dc3ec7f0b3deea2", func := "loop.example/g01220/laws.FnExactSheetText", spec := "fnExactSheetText", inPlace := ["internal/abi.NoEscape", "internal/bytealg.MakeNoZero"], plainKeys := false, apart := false, narrowed := true }
def FnExactSheetTextUptoSaid : Prop := fnExactSheetTextUptoRow.holds Try.pinned (OpenSpec.upto fnExactSheetTextSpec)

/-- 'laws.FnExactParseSheet', WHERE WHAT IT READS IS OF BULK AT MOST 1048576: true; the input reads as it did. -/
def fnExactParseSheetUptoRow : OpenClaim := { program := "ytkobgklpcpoglaa", sum := "4dbd5ef05054a30b05e6100e2a960d978e0c6584920cceb95dc3ec7f0b3deea2", func := "loop.example/g01220/laws.FnExactParseSheet", spec := "fnExactParseSheet", unfollowed := true, recurses := true, plainKeys := false, apart := false, narrowed := true }
def FnExactParseSheetUptoSaid : Prop := fnExactParseSheetUptoRow.holds Try.pinned (OpenSpec.upto fnExactParseSheetSpec)

end Rows
end Go.Proofs.Ytkobgklpcpoglaa
