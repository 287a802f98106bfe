/-
  No cell of these rows narrows 'for every input' (looked for: loops, veiled, ifaces, maps, wideKeys, modest, calm, conditions, laid).
  DERIVED. THE GIVEN ROWS OF THIS SEAT. 17 by the template 'for every input the law returns true; each argument reads behind the call as it read before'; 0 by the template 'total and deterministic' (their statements: YtbmfjcmlgndofaaTotals.lean).
  GIVEN WITH THE SEED: the statements are not yours to turn. If you find one false, say at which input.
  Laid BY PROGRAM, IN A SANDBOX (cutbox-rows.mjs): the forced cells as the released guide's own fill.sh prints them over the translation ddc189e20405a195… (all of the seat's roots in one cut). By AI agents, Wed Nov 11 2026. No macro, syntax, notation, axiom, sorry.
-/
import Derived.Test.YtbmfjcmlgndofaaChecked
import GoSem.Claim
import GoSem.ClaimJoined
import GoSem.ClaimMapViews
import Derived.JoinedTies
import Derived.KernelRfl
namespace Go.Proofs.Ytbmfjcmlgndofaa
/- THE CELL 'sum', in the pinned program and in every row, IS THE sha256 OF THE DUMP (.gsa) THAT YtbmfjcmlgndofaaProg.lean LOADS. Nothing in Lean hashes anything: it is a label: what it is worth is what the hold of that sum in a sandbox is worth. -/
noncomputable def Try.pinned : Pinned := { name := "ytbmfjcmlgndofaa", sum := "ddc189e20405a1954a6fbb3eaafcd8e321c9337f20b1afaa785cb9c31640d6d2", checked := Try.checked }
namespace Rows
def none {H : Type} : Left H := { results := [], args := [] }

/-- 'laws.FnExactOpenCells': WHATEVER THE INPUT: true; the input reads as it did. -/
def fnExactOpenCellsSpec : ChangeSpec := { name := "fnExactOpenCells", fn := fun _ => fun
  | [d1, d2] => { results := [.lit (.bool true)], args := [d1, d2] }
  | _ => none }
def fnExactOpenCellsRow : OpenClaim := { program := "ytbmfjcmlgndofaa", sum := "ddc189e20405a1954a6fbb3eaafcd8e321c9337f20b1afaa785cb9c31640d6d2", func := "loop.example/g01220/laws.FnExactOpenCells", spec := "fnExactOpenCells", unfollowed := true, recurses := true, plainKeys := false, apart := false }
def FnExactOpenCellsSaid : Prop := fnExactOpenCellsRow.holds Try.pinned (OpenSpec.ofChange fnExactOpenCellsSpec)

/-- ITS FALSE NEIGHBOUR: 'it returns false'. Refute it at one input. -/
def fnExactOpenCellsWrong : ChangeSpec := { name := "fnExactOpenCells", fn := fun _ => fun
  | [d1, d2] => { results := [.lit (.bool false)], args := [d1, d2] }
  | _ => none }
def FnExactOpenCellsWrongFalsely : Prop := fnExactOpenCellsRow.holds Try.pinned (OpenSpec.ofChange fnExactOpenCellsWrong)

/-- 'laws.FnExactCanInk': WHATEVER THE INPUT: true; the input reads as it did. -/
def fnExactCanInkSpec : ChangeSpec := { name := "fnExactCanInk", fn := fun _ => fun
  | [d1, d2] => { results := [.lit (.bool true)], args := [d1, d2] }
  | _ => none }
def fnExactCanInkRow : OpenClaim := { program := "ytbmfjcmlgndofaa", sum := "ddc189e20405a1954a6fbb3eaafcd8e321c9337f20b1afaa785cb9c31640d6d2", func := "loop.example/g01220/laws.FnExactCanInk", spec := "fnExactCanInk", unfollowed := true, recurses := true, plainKeys := false, apart := false }
def FnExactCanInkSaid : Prop := fnExactCanInkRow.holds Try.pinned (OpenSpec.ofChange fnExactCanInkSpec)

/-- ITS FALSE NEIGHBOUR: 'it returns false'. Refute it at one input. -/
def fnExactCanInkWrong : ChangeSpec := { name := "fnExactCanInk", fn := fun _ => fun
  | [d1, d2] => { results := [.lit (.bool false)], args := [d1, d2] }
  | _ => none }
def FnExactCanInkWrongFalsely : Prop := fnExactCanInkRow.holds Try.pinned (OpenSpec.ofChange fnExactCanInkWrong)

/-- 'laws.FnExactInkAll': WHATEVER THE INPUT: true; the input reads as it did. -/
def fnExactInkAllSpec : ChangeSpec := { name := "fnExactInkAll", fn := fun _ => fun
  | [d1, d2] => { results := [.lit (.bool true)], args := [d1, d2] }
  | _ => none }
def fnExactInkAllRow : OpenClaim := { program := "ytbmfjcmlgndofaa", sum := "ddc189e20405a1954a6fbb3eaafcd8e321c9337f20b1afaa785cb9c31640d6d2", func := "loop.example/g01220/laws.FnExactInkAll", spec := "fnExactInkAll", unfollowed := true, recurses := true, plainKeys := false, apart := false }
def FnExactInkAllSaid : Prop := fnExactInkAllRow.holds Try.pinned (OpenSpec.ofChange fnExactInkAllSpec)

/-- ITS FALSE NEIGHBOUR: 'it returns false'. Refute it at one input. -/
def fnExactInkAllWrong : ChangeSpec := { name := "fnExactInkAll", fn := fun _ => fun
  | [d1, d2] => { results := [.lit (.bool false)], args := [d1, d2] }
  | _ => none }
def FnExactInkAllWrongFalsely : Prop := fnExactInkAllRow.holds Try.pinned (OpenSpec.ofChange fnExactInkAllWrong)

/-- 'laws.FnExactFirstCover': WHATEVER THE INPUT: true; the input reads as it did. -/
def fnExactFirstCoverSpec : ChangeSpec := { name := "fnExactFirstCover", fn := fun _ => fun
  | [d1, d2] => { results := [.lit (.bool true)], args := [d1, d2] }
  | _ => none }
def fnExactFirstCoverRow : OpenClaim := { program := "ytbmfjcmlgndofaa", sum := "ddc189e20405a1954a6fbb3eaafcd8e321c9337f20b1afaa785cb9c31640d6d2", func := "loop.example/g01220/laws.FnExactFirstCover", spec := "fnExactFirstCover", unfollowed := true, recurses := true, plainKeys := false, apart := false }
def FnExactFirstCoverSaid : Prop := fnExactFirstCoverRow.holds Try.pinned (OpenSpec.ofChange fnExactFirstCoverSpec)

/-- ITS FALSE NEIGHBOUR: 'it returns false'. Refute it at one input. -/
def fnExactFirstCoverWrong : ChangeSpec := { name := "fnExactFirstCover", fn := fun _ => fun
  | [d1, d2] => { results := [.lit (.bool false)], args := [d1, d2] }
  | _ => none }
def FnExactFirstCoverWrongFalsely : Prop := fnExactFirstCoverRow.holds Try.pinned (OpenSpec.ofChange fnExactFirstCoverWrong)

/-- 'laws.FnExactCountCovers': WHATEVER THE INPUT: true; the input reads as it did. -/
def fnExactCountCoversSpec : ChangeSpec := { name := "fnExactCountCovers", fn := fun _ => fun
  | [d1, d2] => { results := [.lit (.bool true)], args := [d1, d2] }
  | _ => none }
def fnExactCountCoversRow : OpenClaim := { program := "ytbmfjcmlgndofaa", sum := "ddc189e20405a1954a6fbb3eaafcd8e321c9337f20b1afaa785cb9c31640d6d2", func := "loop.example/g01220/laws.FnExactCountCovers", spec := "fnExactCountCovers", unfollowed := true, recurses := true, plainKeys := false, apart := false }
def FnExactCountCoversSaid : Prop := fnExactCountCoversRow.holds Try.pinned (OpenSpec.ofChange fnExactCountCoversSpec)

/-- ITS FALSE NEIGHBOUR: 'it returns false'. Refute it at one input. -/
def fnExactCountCoversWrong : ChangeSpec := { name := "fnExactCountCovers", fn := fun _ => fun
  | [d1, d2] => { results := [.lit (.bool false)], args := [d1, d2] }
  | _ => none }
def FnExactCountCoversWrongFalsely : Prop := fnExactCountCoversRow.holds Try.pinned (OpenSpec.ofChange fnExactCountCoversWrong)

/-- 'laws.FnExactGreedyCover': WHATEVER THE INPUT: true; the input reads as it did. -/
def fnExactGreedyCoverSpec : ChangeSpec := { name := "fnExactGreedyCover", fn := fun _ => fun
  | [d1, d2] => { results := [.lit (.bool true)], args := [d1, d2] }
  | _ => none }
def fnExactGreedyCoverRow : OpenClaim := { program := "ytbmfjcmlgndofaa", sum := "ddc189e20405a1954a6fbb3eaafcd8e321c9337f20b1afaa785cb9c31640d6d2", func := "loop.example/g01220/laws.FnExactGreedyCover", spec := "fnExactGreedyCover", unfollowed := true, recurses := true, plainKeys := false, apart := false }
def FnExactGreedyCoverSaid : Prop := fnExactGreedyCoverRow.holds Try.pinned (OpenSpec.ofChange fnExactGreedyCoverSpec)

/-- ITS FALSE NEIGHBOUR: 'it returns false'. Refute it at one input. -/
def fnExactGreedyCoverWrong : ChangeSpec := { name := "fnExactGreedyCover", fn := fun _ => fun
  | [d1, d2] => { results := [.lit (.bool false)], args := [d1, d2] }
  | _ => none }
def FnExactGreedyCoverWrongFalsely : Prop := fnExactGreedyCoverRow.holds Try.pinned (OpenSpec.ofChange fnExactGreedyCoverWrong)

/-- 'laws.FnExactNeededCells': WHATEVER THE INPUT: true; the input reads as it did. -/
def fnExactNeededCellsSpec : ChangeSpec := { name := "fnExactNeededCells", fn := fun _ => fun
  | [d1, d2] => { results := [.lit (.bool true)], args := [d1, d2] }
  | _ => none }
def fnExactNeededCellsRow : OpenClaim := { program := "ytbmfjcmlgndofaa", sum := "ddc189e20405a1954a6fbb3eaafcd8e321c9337f20b1afaa785cb9c31640d6d2", func := "loop.example/g01220/laws.FnExactNeededCells", spec := "fnExactNeededCells", unfollowed := true, recurses := true, plainKeys := false, apart := false }
def FnExactNeededCellsSaid : Prop := fnExactNeededCellsRow.holds Try.pinned (OpenSpec.ofChange fnExactNeededCellsSpec)

/-- ITS FALSE NEIGHBOUR: 'it returns false'. Refute it at one input. -/
def fnExactNeededCellsWrong : ChangeSpec := { name := "fnExactNeededCells", fn := fun _ => fun
  | [d1, d2] => { results := [.lit (.bool false)], args := [d1, d2] }
  | _ => none }
def FnExactNeededCellsWrongFalsely : Prop := fnExactNeededCellsRow.holds Try.pinned (OpenSpec.ofChange fnExactNeededCellsWrong)

/-- 'laws.FnExactIsCover': WHATEVER THE INPUT: true; the input reads as it did. -/
def fnExactIsCoverSpec : ChangeSpec := { name := "fnExactIsCover", fn := fun _ => fun
  | [d1, d2, d3] => { results := [.lit (.bool true)], args := [d1, d2, d3] }
  | _ => none }
def fnExactIsCoverRow : OpenClaim := { program := "ytbmfjcmlgndofaa", sum := "ddc189e20405a1954a6fbb3eaafcd8e321c9337f20b1afaa785cb9c31640d6d2", func := "loop.example/g01220/laws.FnExactIsCover", spec := "fnExactIsCover", unfollowed := true, recurses := true, plainKeys := false, apart := false }
def FnExactIsCoverSaid : Prop := fnExactIsCoverRow.holds Try.pinned (OpenSpec.ofChange fnExactIsCoverSpec)

/-- ITS FALSE NEIGHBOUR: 'it returns false'. Refute it at one input. -/
def fnExactIsCoverWrong : ChangeSpec := { name := "fnExactIsCover", fn := fun _ => fun
  | [d1, d2, d3] => { results := [.lit (.bool false)], args := [d1, d2, d3] }
  | _ => none }
def FnExactIsCoverWrongFalsely : Prop := fnExactIsCoverRow.holds Try.pinned (OpenSpec.ofChange fnExactIsCoverWrong)

/-- 'laws.FnExactCountTilings': WHATEVER THE INPUT: true; the input reads as it did. -/
def fnExactCountTilingsSpec : ChangeSpec := { name := "fnExactCountTilings", fn := fun _ => fun
  | [d1, d2] => { results := [.lit (.bool true)], args := [d1, d2] }
  | _ => none }
def fnExactCountTilingsRow : OpenClaim := { program := "ytbmfjcmlgndofaa", sum := "ddc189e20405a1954a6fbb3eaafcd8e321c9337f20b1afaa785cb9c31640d6d2", func := "loop.example/g01220/laws.FnExactCountTilings", spec := "fnExactCountTilings", unfollowed := true, recurses := true, plainKeys := false, apart := false }
def FnExactCountTilingsSaid : Prop := fnExactCountTilingsRow.holds Try.pinned (OpenSpec.ofChange fnExactCountTilingsSpec)

/-- ITS FALSE NEIGHBOUR: 'it returns false'. Refute it at one input. -/
def fnExactCountTilingsWrong : ChangeSpec := { name := "fnExactCountTilings", fn := fun _ => fun
  | [d1, d2] => { results := [.lit (.bool false)], args := [d1, d2] }
  | _ => none }
def FnExactCountTilingsWrongFalsely : Prop := fnExactCountTilingsRow.holds Try.pinned (OpenSpec.ofChange fnExactCountTilingsWrong)

/-- 'laws.FnExactFirstTiling': WHATEVER THE INPUT: true; the input reads as it did. -/
def fnExactFirstTilingSpec : ChangeSpec := { name := "fnExactFirstTiling", fn := fun _ => fun
  | [d1, d2] => { results := [.lit (.bool true)], args := [d1, d2] }
  | _ => none }
def fnExactFirstTilingRow : OpenClaim := { program := "ytbmfjcmlgndofaa", sum := "ddc189e20405a1954a6fbb3eaafcd8e321c9337f20b1afaa785cb9c31640d6d2", func := "loop.example/g01220/laws.FnExactFirstTiling", spec := "fnExactFirstTiling", unfollowed := true, recurses := true, plainKeys := false, apart := false }
def FnExactFirstTilingSaid : Prop := fnExactFirstTilingRow.holds Try.pinned (OpenSpec.ofChange fnExactFirstTilingSpec)

/-- ITS FALSE NEIGHBOUR: 'it returns false'. Refute it at one input. -/
def fnExactFirstTilingWrong : ChangeSpec := { name := "fnExactFirstTiling", fn := fun _ => fun
  | [d1, d2] => { results := [.lit (.bool false)], args := [d1, d2] }
  | _ => none }
def FnExactFirstTilingWrongFalsely : Prop := fnExactFirstTilingRow.holds Try.pinned (OpenSpec.ofChange fnExactFirstTilingWrong)

/-- 'laws.FnExactMostApart': WHATEVER THE INPUT: true; the input reads as it did. -/
def fnExactMostApartSpec : ChangeSpec := { name := "fnExactMostApart", fn := fun _ => fun
  | [d1, d2] => { results := [.lit (.bool true)], args := [d1, d2] }
  | _ => none }
def fnExactMostApartRow : OpenClaim := { program := "ytbmfjcmlgndofaa", sum := "ddc189e20405a1954a6fbb3eaafcd8e321c9337f20b1afaa785cb9c31640d6d2", func := "loop.example/g01220/laws.FnExactMostApart", spec := "fnExactMostApart", unfollowed := true, recurses := true, plainKeys := false, apart := false }
def FnExactMostApartSaid : Prop := fnExactMostApartRow.holds Try.pinned (OpenSpec.ofChange fnExactMostApartSpec)

/-- ITS FALSE NEIGHBOUR: 'it returns false'. Refute it at one input. -/
def fnExactMostApartWrong : ChangeSpec := { name := "fnExactMostApart", fn := fun _ => fun
  | [d1, d2] => { results := [.lit (.bool false)], args := [d1, d2] }
  | _ => none }
def FnExactMostApartWrongFalsely : Prop := fnExactMostApartRow.holds Try.pinned (OpenSpec.ofChange fnExactMostApartWrong)

/-- 'laws.FnCoverings': WHATEVER THE INPUT: true; the input reads as it did. -/
def fnCoveringsSpec : ChangeSpec := { name := "fnCoverings", fn := fun _ => fun
  | [d] => { results := [.lit (.bool true)], args := [d] }
  | _ => none }
def fnCoveringsRow : OpenClaim := { program := "ytbmfjcmlgndofaa", sum := "ddc189e20405a1954a6fbb3eaafcd8e321c9337f20b1afaa785cb9c31640d6d2", func := "loop.example/g01220/laws.FnCoverings", spec := "fnCoverings", unfollowed := true, recurses := true, plainKeys := false, apart := false }
def FnCoveringsSaid : Prop := fnCoveringsRow.holds Try.pinned (OpenSpec.ofChange fnCoveringsSpec)

/-- ITS FALSE NEIGHBOUR: 'it returns false'. Refute it at one input. -/
def fnCoveringsWrong : ChangeSpec := { name := "fnCoverings", fn := fun _ => fun
  | [d] => { results := [.lit (.bool false)], args := [d] }
  | _ => none }
def FnCoveringsWrongFalsely : Prop := fnCoveringsRow.holds Try.pinned (OpenSpec.ofChange fnCoveringsWrong)

/-- 'laws.FnTiled': WHATEVER THE INPUT: true; the input reads as it did. -/
def fnTiledSpec : ChangeSpec := { name := "fnTiled", fn := fun _ => fun
  | [d] => { results := [.lit (.bool true)], args := [d] }
  | _ => none }
def fnTiledRow : OpenClaim := { program := "ytbmfjcmlgndofaa", sum := "ddc189e20405a1954a6fbb3eaafcd8e321c9337f20b1afaa785cb9c31640d6d2", func := "loop.example/g01220/laws.FnTiled", spec := "fnTiled", unfollowed := true, recurses := true, plainKeys := false, apart := false }
def FnTiledSaid : Prop := fnTiledRow.holds Try.pinned (OpenSpec.ofChange fnTiledSpec)

/-- ITS FALSE NEIGHBOUR: 'it returns false'. Refute it at one input. -/
def fnTiledWrong : ChangeSpec := { name := "fnTiled", fn := fun _ => fun
  | [d] => { results := [.lit (.bool false)], args := [d] }
  | _ => none }
def FnTiledWrongFalsely : Prop := fnTiledRow.holds Try.pinned (OpenSpec.ofChange fnTiledWrong)

/-- 'laws.FnOpened': WHATEVER THE INPUT: true; the input reads as it did. -/
def fnOpenedSpec : ChangeSpec := { name := "fnOpened", fn := fun _ => fun
  | [d] => { results := [.lit (.bool true)], args := [d] }
  | _ => none }
def fnOpenedRow : OpenClaim := { program := "ytbmfjcmlgndofaa", sum := "ddc189e20405a1954a6fbb3eaafcd8e321c9337f20b1afaa785cb9c31640d6d2", func := "loop.example/g01220/laws.FnOpened", spec := "fnOpened", unfollowed := true, recurses := true, plainKeys := false, apart := false }
def FnOpenedSaid : Prop := fnOpenedRow.holds Try.pinned (OpenSpec.ofChange fnOpenedSpec)

/-- ITS FALSE NEIGHBOUR: 'it returns false'. Refute it at one input. -/
def fnOpenedWrong : ChangeSpec := { name := "fnOpened", fn := fun _ => fun
  | [d] => { results := [.lit (.bool false)], args := [d] }
  | _ => none }
def FnOpenedWrongFalsely : Prop := fnOpenedRow.holds Try.pinned (OpenSpec.ofChange fnOpenedWrong)

/-- 'laws.FnSpreadTimes': WHATEVER THE INPUT: true; the input reads as it did. -/
def fnSpreadTimesSpec : ChangeSpec := { name := "fnSpreadTimes", fn := fun _ => fun
  | [d] => { results := [.lit (.bool true)], args := [d] }
  | _ => none }
def fnSpreadTimesRow : OpenClaim := { program := "ytbmfjcmlgndofaa", sum := "ddc189e20405a1954a6fbb3eaafcd8e321c9337f20b1afaa785cb9c31640d6d2", func := "loop.example/g01220/laws.FnSpreadTimes", spec := "fnSpreadTimes", unfollowed := true, recurses := true, plainKeys := false, apart := false }
def FnSpreadTimesSaid : Prop := fnSpreadTimesRow.holds Try.pinned (OpenSpec.ofChange fnSpreadTimesSpec)

/-- ITS FALSE NEIGHBOUR: 'it returns false'. Refute it at one input. -/
def fnSpreadTimesWrong : ChangeSpec := { name := "fnSpreadTimes", fn := fun _ => fun
  | [d] => { results := [.lit (.bool false)], args := [d] }
  | _ => none }
def FnSpreadTimesWrongFalsely : Prop := fnSpreadTimesRow.holds Try.pinned (OpenSpec.ofChange fnSpreadTimesWrong)

/-- 'laws.FnMotions': WHATEVER THE INPUT: true; the input reads as it did. -/
def fnMotionsSpec : ChangeSpec := { name := "fnMotions", fn := fun _ => fun
  | [d] => { results := [.lit (.bool true)], args := [d] }
  | _ => none }
def fnMotionsRow : OpenClaim := { program := "ytbmfjcmlgndofaa", sum := "ddc189e20405a1954a6fbb3eaafcd8e321c9337f20b1afaa785cb9c31640d6d2", func := "loop.example/g01220/laws.FnMotions", spec := "fnMotions", plainKeys := false, apart := false }
def FnMotionsSaid : Prop := fnMotionsRow.holds Try.pinned (OpenSpec.ofChange fnMotionsSpec)

/-- ITS FALSE NEIGHBOUR: 'it returns false'. Refute it at one input. -/
def fnMotionsWrong : ChangeSpec := { name := "fnMotions", fn := fun _ => fun
  | [d] => { results := [.lit (.bool false)], args := [d] }
  | _ => none }
def FnMotionsWrongFalsely : Prop := fnMotionsRow.holds Try.pinned (OpenSpec.ofChange fnMotionsWrong)

/-- 'laws.FnForms': WHATEVER THE INPUT: true; the input reads as it did. -/
def fnFormsSpec : ChangeSpec := { name := "fnForms", fn := fun _ => fun
  | [d] => { results := [.lit (.bool true)], args := [d] }
  | _ => none }
def fnFormsRow : OpenClaim := { program := "ytbmfjcmlgndofaa", sum := "ddc189e20405a1954a6fbb3eaafcd8e321c9337f20b1afaa785cb9c31640d6d2", func := "loop.example/g01220/laws.FnForms", spec := "fnForms", plainKeys := false, apart := false }
def FnFormsSaid : Prop := fnFormsRow.holds Try.pinned (OpenSpec.ofChange fnFormsSpec)

/-- ITS FALSE NEIGHBOUR: 'it returns false'. Refute it at one input. -/
def fnFormsWrong : ChangeSpec := { name := "fnForms", fn := fun _ => fun
  | [d] => { results := [.lit (.bool false)], args := [d] }
  | _ => none }
def FnFormsWrongFalsely : Prop := fnFormsRow.holds Try.pinned (OpenSpec.ofChange fnFormsWrong)

/- THE SECOND FORM. 'bulk': how many values and letters a reading holds, each counted each time it is reached (what is shared counts as often as it is met; a slice's spare places count too). A statement '..UptoSaid' is the law's where the arguments, and the package variables that the reading takes, are together of bulk at most 1048576: NARROWER than '..Said'. Prove '..Said' where nothing that the law and all that it calls make is longer than what came in: it says more and counts as full. Else prove '..UptoSaid'. A law counts once. -/
mutual
def uptoBulk {H : Type} : DataW H → Nat
  | .lit (.string bytes) => bytes.length + 1
  | .lit _ => 1
  | .nil => 1
  | .ptr d => uptoBulk d + 1
  | .slice elems spare => uptoBulkAll elems + uptoBulkAll spare + 1
  | .agg parts => uptoBulkAll parts + 1
  | .iface _ d => uptoBulk d + 1
  | .map entries => uptoBulkEntries entries + 1
  | .held _ => 1
def uptoBulkAll {H : Type} : List (DataW H) → Nat
  | [] => 0
  | d :: r => uptoBulk d + uptoBulkAll r
def uptoBulkEntries {H : Type} : List (Lit × DataW H) → Nat
  | [] => 0
  | x :: r => uptoBulkEntry x + uptoBulkEntries r
def uptoBulkEntry {H : Type} : Lit × DataW H → Nat
  | (.string bytes, d) => bytes.length + uptoBulk d + 1
  | (_, d) => uptoBulk d + 1
 end
def uptoSmall : (H : Type) → List (DataW H) → Bool := fun _ ds => decide (uptoBulkAll ds ≤ 1048576)
def OpenSpec.upto (s : _root_.Go.ChangeSpec) : _root_.Go.OpenSpec := { _root_.Go.OpenSpec.ofChange s with cond := some uptoSmall }

/-- 'laws.FnExactOpenCells', WHERE WHAT IT READS IS OF BULK AT MOST 1048576: true; the input reads as it did. -/
def fnExactOpenCellsUptoRow : OpenClaim := { program := "ytbmfjcmlgndofaa", sum := "ddc189e20405a1954a6fbb3eaafcd8e321c9337f20b1afaa785cb9c31640d6d2", func := "loop.example/g01220/laws.FnExactOpenCells", spec := "fnExactOpenCells", unfollowed := true, recurses := true, plainKeys := false, apart := false, narrowed := true }
def FnExactOpenCellsUptoSaid : Prop := fnExactOpenCellsUptoRow.holds Try.pinned (OpenSpec.upto fnExactOpenCellsSpec)

/-- 'laws.FnExactCanInk', WHERE WHAT IT READS IS OF BULK AT MOST 1048576: true; the input reads as it did. -/
def fnExactCanInkUptoRow : OpenClaim := { program := "ytbmfjcmlgndofaa", sum := "ddc189e20405a1954a6fbb3eaafcd8e321c9337f20b1afaa785cb9c31640d6d2", func := "loop.example/g01220/laws.FnExactCanInk", spec := "fnExactCanInk", unfollowed := true, recurses := true, plainKeys := false, apart := false, narrowed := true }
def FnExactCanInkUptoSaid : Prop := fnExactCanInkUptoRow.holds Try.pinned (OpenSpec.upto fnExactCanInkSpec)

/-- 'laws.FnExactInkAll', WHERE WHAT IT READS IS OF BULK AT MOST 1048576: true; the input reads as it did. -/
def fnExactInkAllUptoRow : OpenClaim := { program := "ytbmfjcmlgndofaa", sum := "ddc189e20405a1954a6fbb3eaafcd8e321c9337f20b1afaa785cb9c31640d6d2", func := "loop.example/g01220/laws.FnExactInkAll", spec := "fnExactInkAll", unfollowed := true, recurses := true, plainKeys := false, apart := false, narrowed := true }
def FnExactInkAllUptoSaid : Prop := fnExactInkAllUptoRow.holds Try.pinned (OpenSpec.upto fnExactInkAllSpec)

/-- 'laws.FnExactFirstCover', WHERE WHAT IT READS IS OF BULK AT MOST 1048576: true; the input reads as it did. -/
def fnExactFirstCoverUptoRow : OpenClaim := { program := "ytbmfjcmlgndofaa", sum := "ddc189e20405a1954a6fbb3eaafcd8e321c9337f20b1afaa785cb9c31640d6d2", func := "loop.example/g01220/laws.FnExactFirstCover", spec := "fnExactFirstCover", unfollowed := true, recurses := true, plainKeys := false, apart := false, narrowed := true }
def FnExactFirstCoverUptoSaid : Prop := fnExactFirstCoverUptoRow.holds Try.pinned (OpenSpec.upto fnExactFirstCoverSpec)

/-- 'laws.FnExactCountCovers', WHERE WHAT IT READS IS OF BULK AT MOST 1048576: true; the input reads as it did. -/
def fnExactCountCoversUptoRow : OpenClaim := { program := "ytbmfjcmlgndofaa", sum := "ddc189e20405a1954a6fbb3eaafcd8e321c9337f20b1afaa785cb9c31640d6d2", func := "loop.example/g01220/laws.FnExactCountCovers", spec := "fnExactCountCovers", unfollowed := true, recurses := true, plainKeys := false, apart := false, narrowed := true }
def FnExactCountCoversUptoSaid : Prop := fnExactCountCoversUptoRow.holds Try.pinned (OpenSpec.upto fnExactCountCoversSpec)

/-- 'laws.FnExactGreedyCover', WHERE WHAT IT READS IS OF BULK AT MOST 1048576: true; the input reads as it did. -/
def fnExactGreedyCoverUptoRow : OpenClaim := { program := "ytbmfjcmlgndofaa", sum := "ddc189e20405a1954a6fbb3eaafcd8e321c9337f20b1afaa785cb9c31640d6d2", func := "loop.example/g01220/laws.FnExactGreedyCover", spec := "fnExactGreedyCover", unfollowed := true, recurses := true, plainKeys := false, apart := false, narrowed := true }
def FnExactGreedyCoverUptoSaid : Prop := fnExactGreedyCoverUptoRow.holds Try.pinned (OpenSpec.upto fnExactGreedyCoverSpec)

/-- 'laws.FnExactNeededCells', WHERE WHAT IT READS IS OF BULK AT MOST 1048576: true; the input reads as it did. -/
def fnExactNeededCellsUptoRow : OpenClaim := { program := "ytbmfjcmlgndofaa", sum := "ddc189e20405a1954a6fbb3eaafcd8e321c9337f20b1afaa785cb9c31640d6d2", func := "loop.example/g01220/laws.FnExactNeededCells", spec := "fnExactNeededCells", unfollowed := true, recurses := true, plainKeys := false, apart := false, narrowed := true }
def FnExactNeededCellsUptoSaid : Prop := fnExactNeededCellsUptoRow.holds Try.pinned (OpenSpec.upto fnExactNeededCellsSpec)

/-- 'laws.FnExactIsCover', WHERE WHAT IT READS IS OF BULK AT MOST 1048576: true; the input reads as it did. -/
def fnExactIsCoverUptoRow : OpenClaim := { program := "ytbmfjcmlgndofaa", sum := "ddc189e20405a1954a6fbb3eaafcd8e321c9337f20b1afaa785cb9c31640d6d2", func := "loop.example/g01220/laws.FnExactIsCover", spec := "fnExactIsCover", unfollowed := true, recurses := true, plainKeys := false, apart := false, narrowed := true }
def FnExactIsCoverUptoSaid : Prop := fnExactIsCoverUptoRow.holds Try.pinned (OpenSpec.upto fnExactIsCoverSpec)

/-- 'laws.FnExactCountTilings', WHERE WHAT IT READS IS OF BULK AT MOST 1048576: true; the input reads as it did. -/
def fnExactCountTilingsUptoRow : OpenClaim := { program := "ytbmfjcmlgndofaa", sum := "ddc189e20405a1954a6fbb3eaafcd8e321c9337f20b1afaa785cb9c31640d6d2", func := "loop.example/g01220/laws.FnExactCountTilings", spec := "fnExactCountTilings", unfollowed := true, recurses := true, plainKeys := false, apart := false, narrowed := true }
def FnExactCountTilingsUptoSaid : Prop := fnExactCountTilingsUptoRow.holds Try.pinned (OpenSpec.upto fnExactCountTilingsSpec)

/-- 'laws.FnExactFirstTiling', WHERE WHAT IT READS IS OF BULK AT MOST 1048576: true; the input reads as it did. -/
def fnExactFirstTilingUptoRow : OpenClaim := { program := "ytbmfjcmlgndofaa", sum := "ddc189e20405a1954a6fbb3eaafcd8e321c9337f20b1afaa785cb9c31640d6d2", func := "loop.example/g01220/laws.FnExactFirstTiling", spec := "fnExactFirstTiling", unfollowed := true, recurses := true, plainKeys := false, apart := false, narrowed := true }
def FnExactFirstTilingUptoSaid : Prop := fnExactFirstTilingUptoRow.holds Try.pinned (OpenSpec.upto fnExactFirstTilingSpec)

/-- 'laws.FnExactMostApart', WHERE WHAT IT READS IS OF BULK AT MOST 1048576: true; the input reads as it did. -/
def fnExactMostApartUptoRow : OpenClaim := { program := "ytbmfjcmlgndofaa", sum := "ddc189e20405a1954a6fbb3eaafcd8e321c9337f20b1afaa785cb9c31640d6d2", func := "loop.example/g01220/laws.FnExactMostApart", spec := "fnExactMostApart", unfollowed := true, recurses := true, plainKeys := false, apart := false, narrowed := true }
def FnExactMostApartUptoSaid : Prop := fnExactMostApartUptoRow.holds Try.pinned (OpenSpec.upto fnExactMostApartSpec)

/-- 'laws.FnCoverings', WHERE WHAT IT READS IS OF BULK AT MOST 1048576: true; the input reads as it did. -/
def fnCoveringsUptoRow : OpenClaim := { program := "ytbmfjcmlgndofaa", sum := "ddc189e20405a1954a6fbb3eaafcd8e321c9337f20b1afaa785cb9c31640d6d2", func := "loop.example/g01220/laws.FnCoverings", spec := "fnCoverings", unfollowed := true, recurses := true, plainKeys := false, apart := false, narrowed := true }
def FnCoveringsUptoSaid : Prop := fnCoveringsUptoRow.holds Try.pinned (OpenSpec.upto fnCoveringsSpec)

/-- 'laws.FnTiled', WHERE WHAT IT READS IS OF BULK AT MOST 1048576: true; the input reads as it did. -/
def fnTiledUptoRow : OpenClaim := { program := "ytbmfjcmlgndofaa", sum := "ddc189e20405a1954a6fbb3eaafcd8e321c9337f20b1afaa785cb9c31640d6d2", func := "loop.example/g01220/laws.FnTiled", spec := "fnTiled", unfollowed := true, recurses := true, plainKeys := false, apart := false, narrowed := true }
def FnTiledUptoSaid : Prop := fnTiledUptoRow.holds Try.pinned (OpenSpec.upto fnTiledSpec)

/-- 'laws.FnOpened', WHERE WHAT IT READS IS OF BULK AT MOST 1048576: true; the input reads as it did. -/
def fnOpenedUptoRow : OpenClaim := { program := "ytbmfjcmlgndofaa", sum := "ddc189e20405a1954a6fbb3eaafcd8e321c9337f20b1afaa785cb9c31640d6d2", func := "loop.example/g01220/laws.FnOpened", spec := "fnOpened", unfollowed := true, recurses := true, plainKeys := false, apart := false, narrowed := true }
def FnOpenedUptoSaid : Prop := fnOpenedUptoRow.holds Try.pinned (OpenSpec.upto fnOpenedSpec)

/-- 'laws.FnSpreadTimes', WHERE WHAT IT READS IS OF BULK AT MOST 1048576: true; the input reads as it did. -/
def fnSpreadTimesUptoRow : OpenClaim := { program := "ytbmfjcmlgndofaa", sum := "ddc189e20405a1954a6fbb3eaafcd8e321c9337f20b1afaa785cb9c31640d6d2", func := "loop.example/g01220/laws.FnSpreadTimes", spec := "fnSpreadTimes", unfollowed := true, recurses := true, plainKeys := false, apart := false, narrowed := true }
def FnSpreadTimesUptoSaid : Prop := fnSpreadTimesUptoRow.holds Try.pinned (OpenSpec.upto fnSpreadTimesSpec)

/-- 'laws.FnMotions', WHERE WHAT IT READS IS OF BULK AT MOST 1048576: true; the input reads as it did. -/
def fnMotionsUptoRow : OpenClaim := { program := "ytbmfjcmlgndofaa", sum := "ddc189e20405a1954a6fbb3eaafcd8e321c9337f20b1afaa785cb9c31640d6d2", func := "loop.example/g01220/laws.FnMotions", spec := "fnMotions", plainKeys := false, apart := false, narrowed := true }
def FnMotionsUptoSaid : Prop := fnMotionsUptoRow.holds Try.pinned (OpenSpec.upto fnMotionsSpec)

/-- 'laws.FnForms', WHERE WHAT IT READS IS OF BULK AT MOST 1048576: true; the input reads as it did. -/
def fnFormsUptoRow : OpenClaim := { program := "ytbmfjcmlgndofaa", sum := "ddc189e20405a1954a6fbb3eaafcd8e321c9337f20b1afaa785cb9c31640d6d2", func := "loop.example/g01220/laws.FnForms", spec := "fnForms", plainKeys := false, apart := false, narrowed := true }
def FnFormsUptoSaid : Prop := fnFormsUptoRow.holds Try.pinned (OpenSpec.upto fnFormsSpec)

end Rows
end Go.Proofs.Ytbmfjcmlgndofaa
