/-
  No cell of these rows narrows 'for every input' (looked for: loops, veiled, ifaces, maps, wideKeys, modest, calm, conditions, laid).
  DERIVED. THE GIVEN ROWS OF THIS SEAT. 15 by the template 'for every input the law returns true; each argument reads behind the call as it read before'; 0 by the template 'total and deterministic' (their statements: YtnkjamdpafpcpaaTotals.lean).
  GIVEN WITH THE SEED: the statements are not yours to turn. If you find one false, say at which input.
  Laid BY PROGRAM, IN A SANDBOX (cutbox-rows.mjs): the forced cells as the released guide's own fill.sh prints them over the translation a93ab5cdf58f2651… (all of the seat's roots in one cut). By AI agents, Wed Nov 11 2026. No macro, syntax, notation, axiom, sorry.
-/
import Derived.Test.YtnkjamdpafpcpaaChecked
import GoSem.Claim
import GoSem.ClaimJoined
import GoSem.ClaimMapViews
import Derived.JoinedTies
import Derived.KernelRfl
namespace Go.Proofs.Ytnkjamdpafpcpaa
/- THE CELL 'sum', in the pinned program and in every row, IS THE sha256 OF THE DUMP (.gsa) THAT YtnkjamdpafpcpaaProg.lean LOADS. Nothing in Lean hashes anything: it is a label: what it is worth is what the hold of that sum in a sandbox is worth. -/
noncomputable def Try.pinned : Pinned := { name := "ytnkjamdpafpcpaa", sum := "a93ab5cdf58f2651eef4ec75335bebc9bda919e743e51e55f109d639f8e9b8a2", checked := Try.checked }
namespace Rows
def none {H : Type} : Left H := { results := [], args := [] }

/-- 'laws.FnExactIsShop': WHATEVER THE INPUT: true; the input reads as it did. -/
def fnExactIsShopSpec : ChangeSpec := { name := "fnExactIsShop", fn := fun _ => fun
  | [d] => { results := [.lit (.bool true)], args := [d] }
  | _ => none }
def fnExactIsShopRow : OpenClaim := { program := "ytnkjamdpafpcpaa", sum := "a93ab5cdf58f2651eef4ec75335bebc9bda919e743e51e55f109d639f8e9b8a2", func := "loop.example/g01220/laws.FnExactIsShop", spec := "fnExactIsShop", apart := false }
def FnExactIsShopSaid : Prop := fnExactIsShopRow.holds Try.pinned (OpenSpec.ofChange fnExactIsShopSpec)

/-- ITS FALSE NEIGHBOUR: 'it returns false'. Refute it at one input. -/
def fnExactIsShopWrong : ChangeSpec := { name := "fnExactIsShop", fn := fun _ => fun
  | [d] => { results := [.lit (.bool false)], args := [d] }
  | _ => none }
def FnExactIsShopWrongFalsely : Prop := fnExactIsShopRow.holds Try.pinned (OpenSpec.ofChange fnExactIsShopWrong)

/-- 'laws.FnExactNewShop': WHATEVER THE INPUT: true; the input reads as it did. -/
def fnExactNewShopSpec : ChangeSpec := { name := "fnExactNewShop", fn := fun _ => fun
  | [d1, d2] => { results := [.lit (.bool true)], args := [d1, d2] }
  | _ => none }
def fnExactNewShopRow : OpenClaim := { program := "ytnkjamdpafpcpaa", sum := "a93ab5cdf58f2651eef4ec75335bebc9bda919e743e51e55f109d639f8e9b8a2", func := "loop.example/g01220/laws.FnExactNewShop", spec := "fnExactNewShop", apart := false }
def FnExactNewShopSaid : Prop := fnExactNewShopRow.holds Try.pinned (OpenSpec.ofChange fnExactNewShopSpec)

/-- ITS FALSE NEIGHBOUR: 'it returns false'. Refute it at one input. -/
def fnExactNewShopWrong : ChangeSpec := { name := "fnExactNewShop", fn := fun _ => fun
  | [d1, d2] => { results := [.lit (.bool false)], args := [d1, d2] }
  | _ => none }
def FnExactNewShopWrongFalsely : Prop := fnExactNewShopRow.holds Try.pinned (OpenSpec.ofChange fnExactNewShopWrong)

/-- 'laws.FnExactCommonCells': WHATEVER THE INPUT: true; the input reads as it did. -/
def fnExactCommonCellsSpec : ChangeSpec := { name := "fnExactCommonCells", fn := fun _ => fun
  | [d] => { results := [.lit (.bool true)], args := [d] }
  | _ => none }
def fnExactCommonCellsRow : OpenClaim := { program := "ytnkjamdpafpcpaa", sum := "a93ab5cdf58f2651eef4ec75335bebc9bda919e743e51e55f109d639f8e9b8a2", func := "loop.example/g01220/laws.FnExactCommonCells", spec := "fnExactCommonCells", apart := false }
def FnExactCommonCellsSaid : Prop := fnExactCommonCellsRow.holds Try.pinned (OpenSpec.ofChange fnExactCommonCellsSpec)

/-- ITS FALSE NEIGHBOUR: 'it returns false'. Refute it at one input. -/
def fnExactCommonCellsWrong : ChangeSpec := { name := "fnExactCommonCells", fn := fun _ => fun
  | [d] => { results := [.lit (.bool false)], args := [d] }
  | _ => none }
def FnExactCommonCellsWrongFalsely : Prop := fnExactCommonCellsRow.holds Try.pinned (OpenSpec.ofChange fnExactCommonCellsWrong)

/-- 'laws.FnExactNewConsole': WHATEVER THE INPUT: true; the input reads as it did. -/
def fnExactNewConsoleSpec : ChangeSpec := { name := "fnExactNewConsole", fn := fun _ => fun
  | [d] => { results := [.lit (.bool true)], args := [d] }
  | _ => none }
def fnExactNewConsoleRow : OpenClaim := { program := "ytnkjamdpafpcpaa", sum := "a93ab5cdf58f2651eef4ec75335bebc9bda919e743e51e55f109d639f8e9b8a2", func := "loop.example/g01220/laws.FnExactNewConsole", spec := "fnExactNewConsole", apart := false }
def FnExactNewConsoleSaid : Prop := fnExactNewConsoleRow.holds Try.pinned (OpenSpec.ofChange fnExactNewConsoleSpec)

/-- ITS FALSE NEIGHBOUR: 'it returns false'. Refute it at one input. -/
def fnExactNewConsoleWrong : ChangeSpec := { name := "fnExactNewConsole", fn := fun _ => fun
  | [d] => { results := [.lit (.bool false)], args := [d] }
  | _ => none }
def FnExactNewConsoleWrongFalsely : Prop := fnExactNewConsoleRow.holds Try.pinned (OpenSpec.ofChange fnExactNewConsoleWrong)

/-- 'laws.FnExactIsValidRecord': WHATEVER THE INPUT: true; the input reads as it did. -/
def fnExactIsValidRecordSpec : ChangeSpec := { name := "fnExactIsValidRecord", fn := fun _ => fun
  | [d] => { results := [.lit (.bool true)], args := [d] }
  | _ => none }
def fnExactIsValidRecordRow : OpenClaim := { program := "ytnkjamdpafpcpaa", sum := "a93ab5cdf58f2651eef4ec75335bebc9bda919e743e51e55f109d639f8e9b8a2", func := "loop.example/g01220/laws.FnExactIsValidRecord", spec := "fnExactIsValidRecord", inPlace := ["internal/bytealg.IndexByteString", "internal/bytealg.IndexString"], named := ["internal/bytealg.MaxLen"], apart := false }
def FnExactIsValidRecordSaid : Prop := fnExactIsValidRecordRow.holds Try.pinned (OpenSpec.ofChange fnExactIsValidRecordSpec)

/-- ITS FALSE NEIGHBOUR: 'it returns false'. Refute it at one input. -/
def fnExactIsValidRecordWrong : ChangeSpec := { name := "fnExactIsValidRecord", fn := fun _ => fun
  | [d] => { results := [.lit (.bool false)], args := [d] }
  | _ => none }
def FnExactIsValidRecordWrongFalsely : Prop := fnExactIsValidRecordRow.holds Try.pinned (OpenSpec.ofChange fnExactIsValidRecordWrong)

/-- 'laws.FnExactDropVain': WHATEVER THE INPUT: true; the input reads as it did. -/
def fnExactDropVainSpec : ChangeSpec := { name := "fnExactDropVain", fn := fun _ => fun
  | [d] => { results := [.lit (.bool true)], args := [d] }
  | _ => none }
def fnExactDropVainRow : OpenClaim := { program := "ytnkjamdpafpcpaa", sum := "a93ab5cdf58f2651eef4ec75335bebc9bda919e743e51e55f109d639f8e9b8a2", func := "loop.example/g01220/laws.FnExactDropVain", spec := "fnExactDropVain", unfollowed := true, recurses := true, apart := false }
def FnExactDropVainSaid : Prop := fnExactDropVainRow.holds Try.pinned (OpenSpec.ofChange fnExactDropVainSpec)

/-- ITS FALSE NEIGHBOUR: 'it returns false'. Refute it at one input. -/
def fnExactDropVainWrong : ChangeSpec := { name := "fnExactDropVain", fn := fun _ => fun
  | [d] => { results := [.lit (.bool false)], args := [d] }
  | _ => none }
def FnExactDropVainWrongFalsely : Prop := fnExactDropVainRow.holds Try.pinned (OpenSpec.ofChange fnExactDropVainWrong)

/-- 'laws.FnExactBackPlan': WHATEVER THE INPUT: true; the input reads as it did. -/
def fnExactBackPlanSpec : ChangeSpec := { name := "fnExactBackPlan", fn := fun _ => fun
  | [d] => { results := [.lit (.bool true)], args := [d] }
  | _ => none }
def fnExactBackPlanRow : OpenClaim := { program := "ytnkjamdpafpcpaa", sum := "a93ab5cdf58f2651eef4ec75335bebc9bda919e743e51e55f109d639f8e9b8a2", func := "loop.example/g01220/laws.FnExactBackPlan", spec := "fnExactBackPlan", unfollowed := true, recurses := true, apart := false }
def FnExactBackPlanSaid : Prop := fnExactBackPlanRow.holds Try.pinned (OpenSpec.ofChange fnExactBackPlanSpec)

/-- ITS FALSE NEIGHBOUR: 'it returns false'. Refute it at one input. -/
def fnExactBackPlanWrong : ChangeSpec := { name := "fnExactBackPlan", fn := fun _ => fun
  | [d] => { results := [.lit (.bool false)], args := [d] }
  | _ => none }
def FnExactBackPlanWrongFalsely : Prop := fnExactBackPlanRow.holds Try.pinned (OpenSpec.ofChange fnExactBackPlanWrong)

/-- 'laws.FnExactAddStep': WHATEVER THE INPUT: true; the input reads as it did. -/
def fnExactAddStepSpec : ChangeSpec := { name := "fnExactAddStep", fn := fun _ => fun
  | [d1, d2] => { results := [.lit (.bool true)], args := [d1, d2] }
  | _ => none }
def fnExactAddStepRow : OpenClaim := { program := "ytnkjamdpafpcpaa", sum := "a93ab5cdf58f2651eef4ec75335bebc9bda919e743e51e55f109d639f8e9b8a2", func := "loop.example/g01220/laws.FnExactAddStep", spec := "fnExactAddStep", apart := false }
def FnExactAddStepSaid : Prop := fnExactAddStepRow.holds Try.pinned (OpenSpec.ofChange fnExactAddStepSpec)

/-- ITS FALSE NEIGHBOUR: 'it returns false'. Refute it at one input. -/
def fnExactAddStepWrong : ChangeSpec := { name := "fnExactAddStep", fn := fun _ => fun
  | [d1, d2] => { results := [.lit (.bool false)], args := [d1, d2] }
  | _ => none }
def FnExactAddStepWrongFalsely : Prop := fnExactAddStepRow.holds Try.pinned (OpenSpec.ofChange fnExactAddStepWrong)

/-- 'laws.FnExactJoinPlans': WHATEVER THE INPUT: true; the input reads as it did. -/
def fnExactJoinPlansSpec : ChangeSpec := { name := "fnExactJoinPlans", fn := fun _ => fun
  | [d1, d2] => { results := [.lit (.bool true)], args := [d1, d2] }
  | _ => none }
def fnExactJoinPlansRow : OpenClaim := { program := "ytnkjamdpafpcpaa", sum := "a93ab5cdf58f2651eef4ec75335bebc9bda919e743e51e55f109d639f8e9b8a2", func := "loop.example/g01220/laws.FnExactJoinPlans", spec := "fnExactJoinPlans", apart := false }
def FnExactJoinPlansSaid : Prop := fnExactJoinPlansRow.holds Try.pinned (OpenSpec.ofChange fnExactJoinPlansSpec)

/-- ITS FALSE NEIGHBOUR: 'it returns false'. Refute it at one input. -/
def fnExactJoinPlansWrong : ChangeSpec := { name := "fnExactJoinPlans", fn := fun _ => fun
  | [d1, d2] => { results := [.lit (.bool false)], args := [d1, d2] }
  | _ => none }
def FnExactJoinPlansWrongFalsely : Prop := fnExactJoinPlansRow.holds Try.pinned (OpenSpec.ofChange fnExactJoinPlansWrong)

/-- 'laws.FnExactEffectsOf': WHATEVER THE INPUT: true; the input reads as it did. -/
def fnExactEffectsOfSpec : ChangeSpec := { name := "fnExactEffectsOf", fn := fun _ => fun
  | [d] => { results := [.lit (.bool true)], args := [d] }
  | _ => none }
def fnExactEffectsOfRow : OpenClaim := { program := "ytnkjamdpafpcpaa", sum := "a93ab5cdf58f2651eef4ec75335bebc9bda919e743e51e55f109d639f8e9b8a2", func := "loop.example/g01220/laws.FnExactEffectsOf", spec := "fnExactEffectsOf", unfollowed := true, recurses := true, apart := false }
def FnExactEffectsOfSaid : Prop := fnExactEffectsOfRow.holds Try.pinned (OpenSpec.ofChange fnExactEffectsOfSpec)

/-- ITS FALSE NEIGHBOUR: 'it returns false'. Refute it at one input. -/
def fnExactEffectsOfWrong : ChangeSpec := { name := "fnExactEffectsOf", fn := fun _ => fun
  | [d] => { results := [.lit (.bool false)], args := [d] }
  | _ => none }
def FnExactEffectsOfWrongFalsely : Prop := fnExactEffectsOfRow.holds Try.pinned (OpenSpec.ofChange fnExactEffectsOfWrong)

/-- 'laws.FnExactSameEffects': WHATEVER THE INPUT: true; the input reads as it did. -/
def fnExactSameEffectsSpec : ChangeSpec := { name := "fnExactSameEffects", fn := fun _ => fun
  | [d1, d2] => { results := [.lit (.bool true)], args := [d1, d2] }
  | _ => none }
def fnExactSameEffectsRow : OpenClaim := { program := "ytnkjamdpafpcpaa", sum := "a93ab5cdf58f2651eef4ec75335bebc9bda919e743e51e55f109d639f8e9b8a2", func := "loop.example/g01220/laws.FnExactSameEffects", spec := "fnExactSameEffects", unfollowed := true, recurses := true, apart := false }
def FnExactSameEffectsSaid : Prop := fnExactSameEffectsRow.holds Try.pinned (OpenSpec.ofChange fnExactSameEffectsSpec)

/-- ITS FALSE NEIGHBOUR: 'it returns false'. Refute it at one input. -/
def fnExactSameEffectsWrong : ChangeSpec := { name := "fnExactSameEffects", fn := fun _ => fun
  | [d1, d2] => { results := [.lit (.bool false)], args := [d1, d2] }
  | _ => none }
def FnExactSameEffectsWrongFalsely : Prop := fnExactSameEffectsRow.holds Try.pinned (OpenSpec.ofChange fnExactSameEffectsWrong)

/-- 'laws.FnExactCanSwap': WHATEVER THE INPUT: true; the input reads as it did. -/
def fnExactCanSwapSpec : ChangeSpec := { name := "fnExactCanSwap", fn := fun _ => fun
  | [d1, d2] => { results := [.lit (.bool true)], args := [d1, d2] }
  | _ => none }
def fnExactCanSwapRow : OpenClaim := { program := "ytnkjamdpafpcpaa", sum := "a93ab5cdf58f2651eef4ec75335bebc9bda919e743e51e55f109d639f8e9b8a2", func := "loop.example/g01220/laws.FnExactCanSwap", spec := "fnExactCanSwap", unfollowed := true, recurses := true, apart := false }
def FnExactCanSwapSaid : Prop := fnExactCanSwapRow.holds Try.pinned (OpenSpec.ofChange fnExactCanSwapSpec)

/-- ITS FALSE NEIGHBOUR: 'it returns false'. Refute it at one input. -/
def fnExactCanSwapWrong : ChangeSpec := { name := "fnExactCanSwap", fn := fun _ => fun
  | [d1, d2] => { results := [.lit (.bool false)], args := [d1, d2] }
  | _ => none }
def FnExactCanSwapWrongFalsely : Prop := fnExactCanSwapRow.holds Try.pinned (OpenSpec.ofChange fnExactCanSwapWrong)

/-- 'laws.FnExactPlayParty': WHATEVER THE INPUT: true; the input reads as it did. -/
def fnExactPlayPartySpec : ChangeSpec := { name := "fnExactPlayParty", fn := fun _ => fun
  | [d1, d2, d3] => { results := [.lit (.bool true)], args := [d1, d2, d3] }
  | _ => none }
def fnExactPlayPartyRow : OpenClaim := { program := "ytnkjamdpafpcpaa", sum := "a93ab5cdf58f2651eef4ec75335bebc9bda919e743e51e55f109d639f8e9b8a2", func := "loop.example/g01220/laws.FnExactPlayParty", spec := "fnExactPlayParty", unfollowed := true, recurses := true, apart := false }
def FnExactPlayPartySaid : Prop := fnExactPlayPartyRow.holds Try.pinned (OpenSpec.ofChange fnExactPlayPartySpec)

/-- ITS FALSE NEIGHBOUR: 'it returns false'. Refute it at one input. -/
def fnExactPlayPartyWrong : ChangeSpec := { name := "fnExactPlayParty", fn := fun _ => fun
  | [d1, d2, d3] => { results := [.lit (.bool false)], args := [d1, d2, d3] }
  | _ => none }
def FnExactPlayPartyWrongFalsely : Prop := fnExactPlayPartyRow.holds Try.pinned (OpenSpec.ofChange fnExactPlayPartyWrong)

/-- 'laws.FnSheets': WHATEVER THE INPUT: true; the input reads as it did. -/
def fnSheetsSpec : ChangeSpec := { name := "fnSheets", fn := fun _ => fun
  | [d] => { results := [.lit (.bool true)], args := [d] }
  | _ => none }
def fnSheetsRow : OpenClaim := { program := "ytnkjamdpafpcpaa", sum := "a93ab5cdf58f2651eef4ec75335bebc9bda919e743e51e55f109d639f8e9b8a2", func := "loop.example/g01220/laws.FnSheets", spec := "fnSheets", inPlace := ["internal/abi.NoEscape", "internal/bytealg.MakeNoZero"], unfollowed := true, recurses := true, apart := false }
def FnSheetsSaid : Prop := fnSheetsRow.holds Try.pinned (OpenSpec.ofChange fnSheetsSpec)

/-- ITS FALSE NEIGHBOUR: 'it returns false'. Refute it at one input. -/
def fnSheetsWrong : ChangeSpec := { name := "fnSheets", fn := fun _ => fun
  | [d] => { results := [.lit (.bool false)], args := [d] }
  | _ => none }
def FnSheetsWrongFalsely : Prop := fnSheetsRow.holds Try.pinned (OpenSpec.ofChange fnSheetsWrong)

/-- 'laws.FnSpreading': WHATEVER THE INPUT: true; the input reads as it did. -/
def fnSpreadingSpec : ChangeSpec := { name := "fnSpreading", fn := fun _ => fun
  | [d] => { results := [.lit (.bool true)], args := [d] }
  | _ => none }
def fnSpreadingRow : OpenClaim := { program := "ytnkjamdpafpcpaa", sum := "a93ab5cdf58f2651eef4ec75335bebc9bda919e743e51e55f109d639f8e9b8a2", func := "loop.example/g01220/laws.FnSpreading", spec := "fnSpreading", unfollowed := true, recurses := true, apart := false }
def FnSpreadingSaid : Prop := fnSpreadingRow.holds Try.pinned (OpenSpec.ofChange fnSpreadingSpec)

/-- ITS FALSE NEIGHBOUR: 'it returns false'. Refute it at one input. -/
def fnSpreadingWrong : ChangeSpec := { name := "fnSpreading", fn := fun _ => fun
  | [d] => { results := [.lit (.bool false)], args := [d] }
  | _ => none }
def FnSpreadingWrongFalsely : Prop := fnSpreadingRow.holds Try.pinned (OpenSpec.ofChange fnSpreadingWrong)

/- THE SECOND FORM. 'bulk': how many values and letters a reading holds, each counted each time it is reached (what is shared counts as often as it is met; a slice's spare places count too). A statement '..UptoSaid' is the law's where the arguments, and the package variables that the reading takes, are together of bulk at most 1048576: NARROWER than '..Said'. Prove '..Said' where nothing that the law and all that it calls make is longer than what came in: it says more and counts as full. Else prove '..UptoSaid'. A law counts once. -/
mutual
def uptoBulk {H : Type} : DataW H → Nat
  | .lit (.string bytes) => bytes.length + 1
  | .lit _ => 1
  | .nil => 1
  | .ptr d => uptoBulk d + 1
  | .slice elems spare => uptoBulkAll elems + uptoBulkAll spare + 1
  | .agg parts => uptoBulkAll parts + 1
  | .iface _ d => uptoBulk d + 1
  | .map entries => uptoBulkEntries entries + 1
  | .held _ => 1
def uptoBulkAll {H : Type} : List (DataW H) → Nat
  | [] => 0
  | d :: r => uptoBulk d + uptoBulkAll r
def uptoBulkEntries {H : Type} : List (Lit × DataW H) → Nat
  | [] => 0
  | x :: r => uptoBulkEntry x + uptoBulkEntries r
def uptoBulkEntry {H : Type} : Lit × DataW H → Nat
  | (.string bytes, d) => bytes.length + uptoBulk d + 1
  | (_, d) => uptoBulk d + 1
 end
def uptoSmall : (H : Type) → List (DataW H) → Bool := fun _ ds => decide (uptoBulkAll ds ≤ 1048576)
def OpenSpec.upto (s : _root_.Go.ChangeSpec) : _root_.Go.OpenSpec := { _root_.Go.OpenSpec.ofChange s with cond := some uptoSmall }

/-- 'laws.FnExactIsShop', WHERE WHAT IT READS IS OF BULK AT MOST 1048576: true; the input reads as it did. -/
def fnExactIsShopUptoRow : OpenClaim := { program := "ytnkjamdpafpcpaa", sum := "a93ab5cdf58f2651eef4ec75335bebc9bda919e743e51e55f109d639f8e9b8a2", func := "loop.example/g01220/laws.FnExactIsShop", spec := "fnExactIsShop", apart := false, narrowed := true }
def FnExactIsShopUptoSaid : Prop := fnExactIsShopUptoRow.holds Try.pinned (OpenSpec.upto fnExactIsShopSpec)

/-- 'laws.FnExactNewShop', WHERE WHAT IT READS IS OF BULK AT MOST 1048576: true; the input reads as it did. -/
def fnExactNewShopUptoRow : OpenClaim := { program := "ytnkjamdpafpcpaa", sum := "a93ab5cdf58f2651eef4ec75335bebc9bda919e743e51e55f109d639f8e9b8a2", func := "loop.example/g01220/laws.FnExactNewShop", spec := "fnExactNewShop", apart := false, narrowed := true }
def FnExactNewShopUptoSaid : Prop := fnExactNewShopUptoRow.holds Try.pinned (OpenSpec.upto fnExactNewShopSpec)

/-- 'laws.FnExactCommonCells', WHERE WHAT IT READS IS OF BULK AT MOST 1048576: true; the input reads as it did. -/
def fnExactCommonCellsUptoRow : OpenClaim := { program := "ytnkjamdpafpcpaa", sum := "a93ab5cdf58f2651eef4ec75335bebc9bda919e743e51e55f109d639f8e9b8a2", func := "loop.example/g01220/laws.FnExactCommonCells", spec := "fnExactCommonCells", apart := false, narrowed := true }
def FnExactCommonCellsUptoSaid : Prop := fnExactCommonCellsUptoRow.holds Try.pinned (OpenSpec.upto fnExactCommonCellsSpec)

/-- 'laws.FnExactNewConsole', WHERE WHAT IT READS IS OF BULK AT MOST 1048576: true; the input reads as it did. -/
def fnExactNewConsoleUptoRow : OpenClaim := { program := "ytnkjamdpafpcpaa", sum := "a93ab5cdf58f2651eef4ec75335bebc9bda919e743e51e55f109d639f8e9b8a2", func := "loop.example/g01220/laws.FnExactNewConsole", spec := "fnExactNewConsole", apart := false, narrowed := true }
def FnExactNewConsoleUptoSaid : Prop := fnExactNewConsoleUptoRow.holds Try.pinned (OpenSpec.upto fnExactNewConsoleSpec)

/-- 'laws.FnExactIsValidRecord', WHERE WHAT IT READS IS OF BULK AT MOST 1048576: true; the input reads as it did. -/
def fnExactIsValidRecordUptoRow : OpenClaim := { program := "ytnkjamdpafpcpaa", sum := "a93ab5cdf58f2651eef4ec75335bebc9bda919e743e51e55f109d639f8e9b8a2", func := "loop.example/g01220/laws.FnExactIsValidRecord", spec := "fnExactIsValidRecord", inPlace := ["internal/bytealg.IndexByteString", "internal/bytealg.IndexString"], named := ["internal/bytealg.MaxLen"], apart := false, narrowed := true }
def FnExactIsValidRecordUptoSaid : Prop := fnExactIsValidRecordUptoRow.holds Try.pinned (OpenSpec.upto fnExactIsValidRecordSpec)

/-- 'laws.FnExactDropVain', WHERE WHAT IT READS IS OF BULK AT MOST 1048576: true; the input reads as it did. -/
def fnExactDropVainUptoRow : OpenClaim := { program := "ytnkjamdpafpcpaa", sum := "a93ab5cdf58f2651eef4ec75335bebc9bda919e743e51e55f109d639f8e9b8a2", func := "loop.example/g01220/laws.FnExactDropVain", spec := "fnExactDropVain", unfollowed := true, recurses := true, apart := false, narrowed := true }
def FnExactDropVainUptoSaid : Prop := fnExactDropVainUptoRow.holds Try.pinned (OpenSpec.upto fnExactDropVainSpec)

/-- 'laws.FnExactBackPlan', WHERE WHAT IT READS IS OF BULK AT MOST 1048576: true; the input reads as it did. -/
def fnExactBackPlanUptoRow : OpenClaim := { program := "ytnkjamdpafpcpaa", sum := "a93ab5cdf58f2651eef4ec75335bebc9bda919e743e51e55f109d639f8e9b8a2", func := "loop.example/g01220/laws.FnExactBackPlan", spec := "fnExactBackPlan", unfollowed := true, recurses := true, apart := false, narrowed := true }
def FnExactBackPlanUptoSaid : Prop := fnExactBackPlanUptoRow.holds Try.pinned (OpenSpec.upto fnExactBackPlanSpec)

/-- 'laws.FnExactAddStep', WHERE WHAT IT READS IS OF BULK AT MOST 1048576: true; the input reads as it did. -/
def fnExactAddStepUptoRow : OpenClaim := { program := "ytnkjamdpafpcpaa", sum := "a93ab5cdf58f2651eef4ec75335bebc9bda919e743e51e55f109d639f8e9b8a2", func := "loop.example/g01220/laws.FnExactAddStep", spec := "fnExactAddStep", apart := false, narrowed := true }
def FnExactAddStepUptoSaid : Prop := fnExactAddStepUptoRow.holds Try.pinned (OpenSpec.upto fnExactAddStepSpec)

/-- 'laws.FnExactJoinPlans', WHERE WHAT IT READS IS OF BULK AT MOST 1048576: true; the input reads as it did. -/
def fnExactJoinPlansUptoRow : OpenClaim := { program := "ytnkjamdpafpcpaa", sum := "a93ab5cdf58f2651eef4ec75335bebc9bda919e743e51e55f109d639f8e9b8a2", func := "loop.example/g01220/laws.FnExactJoinPlans", spec := "fnExactJoinPlans", apart := false, narrowed := true }
def FnExactJoinPlansUptoSaid : Prop := fnExactJoinPlansUptoRow.holds Try.pinned (OpenSpec.upto fnExactJoinPlansSpec)

/-- 'laws.FnExactEffectsOf', WHERE WHAT IT READS IS OF BULK AT MOST 1048576: true; the input reads as it did. -/
def fnExactEffectsOfUptoRow : OpenClaim := { program := "ytnkjamdpafpcpaa", sum := "a93ab5cdf58f2651eef4ec75335bebc9bda919e743e51e55f109d639f8e9b8a2", func := "loop.example/g01220/laws.FnExactEffectsOf", spec := "fnExactEffectsOf", unfollowed := true, recurses := true, apart := false, narrowed := true }
def FnExactEffectsOfUptoSaid : Prop := fnExactEffectsOfUptoRow.holds Try.pinned (OpenSpec.upto fnExactEffectsOfSpec)

/-- 'laws.FnExactSameEffects', WHERE WHAT IT READS IS OF BULK AT MOST 1048576: true; the input reads as it did. -/
def fnExactSameEffectsUptoRow : OpenClaim := { program := "ytnkjamdpafpcpaa", sum := "a93ab5cdf58f2651eef4ec75335bebc9bda919e743e51e55f109d639f8e9b8a2", func := "loop.example/g01220/laws.FnExactSameEffects", spec := "fnExactSameEffects", unfollowed := true, recurses := true, apart := false, narrowed := true }
def FnExactSameEffectsUptoSaid : Prop := fnExactSameEffectsUptoRow.holds Try.pinned (OpenSpec.upto fnExactSameEffectsSpec)

/-- 'laws.FnExactCanSwap', WHERE WHAT IT READS IS OF BULK AT MOST 1048576: true; the input reads as it did. -/
def fnExactCanSwapUptoRow : OpenClaim := { program := "ytnkjamdpafpcpaa", sum := "a93ab5cdf58f2651eef4ec75335bebc9bda919e743e51e55f109d639f8e9b8a2", func := "loop.example/g01220/laws.FnExactCanSwap", spec := "fnExactCanSwap", unfollowed := true, recurses := true, apart := false, narrowed := true }
def FnExactCanSwapUptoSaid : Prop := fnExactCanSwapUptoRow.holds Try.pinned (OpenSpec.upto fnExactCanSwapSpec)

/-- 'laws.FnExactPlayParty', WHERE WHAT IT READS IS OF BULK AT MOST 1048576: true; the input reads as it did. -/
def fnExactPlayPartyUptoRow : OpenClaim := { program := "ytnkjamdpafpcpaa", sum := "a93ab5cdf58f2651eef4ec75335bebc9bda919e743e51e55f109d639f8e9b8a2", func := "loop.example/g01220/laws.FnExactPlayParty", spec := "fnExactPlayParty", unfollowed := true, recurses := true, apart := false, narrowed := true }
def FnExactPlayPartyUptoSaid : Prop := fnExactPlayPartyUptoRow.holds Try.pinned (OpenSpec.upto fnExactPlayPartySpec)

/-- 'laws.FnSheets', WHERE WHAT IT READS IS OF BULK AT MOST 1048576: true; the input reads as it did. -/
def fnSheetsUptoRow : OpenClaim := { program := "ytnkjamdpafpcpaa", sum := "a93ab5cdf58f2651eef4ec75335bebc9bda919e743e51e55f109d639f8e9b8a2", func := "loop.example/g01220/laws.FnSheets", spec := "fnSheets", inPlace := ["internal/abi.NoEscape", "internal/bytealg.MakeNoZero"], unfollowed := true, recurses := true, apart := false, narrowed := true }
def FnSheetsUptoSaid : Prop := fnSheetsUptoRow.holds Try.pinned (OpenSpec.upto fnSheetsSpec)

/-- 'laws.FnSpreading', WHERE WHAT IT READS IS OF BULK AT MOST 1048576: true; the input reads as it did. -/
def fnSpreadingUptoRow : OpenClaim := { program := "ytnkjamdpafpcpaa", sum := "a93ab5cdf58f2651eef4ec75335bebc9bda919e743e51e55f109d639f8e9b8a2", func := "loop.example/g01220/laws.FnSpreading", spec := "fnSpreading", unfollowed := true, recurses := true, apart := false, narrowed := true }
def FnSpreadingUptoSaid : Prop := fnSpreadingUptoRow.holds Try.pinned (OpenSpec.upto fnSpreadingSpec)

end Rows
end Go.Proofs.Ytnkjamdpafpcpaa
