/-
  No cell of these rows narrows 'for every input' (looked for: loops, veiled, ifaces, maps, wideKeys, modest, calm, conditions, laid).
  DERIVED. THE GIVEN ROWS OF THIS SEAT. 15 by the template 'for every input the law returns true; each argument reads behind the call as it read before'; 0 by the template 'total and deterministic' (their statements: YtkbpfdmmjpmbmaaTotals.lean).
  GIVEN WITH THE SEED: the statements are not yours to turn. If you find one false, say at which input.
  Laid BY PROGRAM, IN A SANDBOX (cutbox-rows.mjs): the forced cells as the released guide's own fill.sh prints them over the translation d9e60b757a037199… (all of the seat's roots in one cut). By AI agents, Wed Nov 11 2026. No macro, syntax, notation, axiom, sorry.
-/
import Derived.Test.YtkbpfdmmjpmbmaaChecked
import GoSem.Claim
import GoSem.ClaimJoined
import GoSem.ClaimMapViews
import Derived.JoinedTies
import Derived.KernelRfl
namespace Go.Proofs.Ytkbpfdmmjpmbmaa
/- THE CELL 'sum', in the pinned program and in every row, IS THE sha256 OF THE DUMP (.gsa) THAT YtkbpfdmmjpmbmaaProg.lean LOADS. Nothing in Lean hashes anything: it is a label: what it is worth is what the hold of that sum in a sandbox is worth. -/
noncomputable def Try.pinned : Pinned := { name := "ytkbpfdmmjpmbmaa", sum := "d9e60b757a037199d59d7f2a50837f6d915a0939cab49fe421b91f54b85e51c5", checked := Try.checked }
namespace Rows
def none {H : Type} : Left H := { results := [], args := [] }

/-- 'laws.FnExactIsPlan': WHATEVER THE INPUT: true; the input reads as it did. -/
def fnExactIsPlanSpec : ChangeSpec := { name := "fnExactIsPlan", fn := fun _ => fun
  | [d] => { results := [.lit (.bool true)], args := [d] }
  | _ => none }
def fnExactIsPlanRow : OpenClaim := { program := "ytkbpfdmmjpmbmaa", sum := "d9e60b757a037199d59d7f2a50837f6d915a0939cab49fe421b91f54b85e51c5", func := "loop.example/g01220/laws.FnExactIsPlan", spec := "fnExactIsPlan", plainKeys := false, apart := false }
def FnExactIsPlanSaid : Prop := fnExactIsPlanRow.holds Try.pinned (OpenSpec.ofChange fnExactIsPlanSpec)

/-- ITS FALSE NEIGHBOUR: 'it returns false'. Refute it at one input. -/
def fnExactIsPlanWrong : ChangeSpec := { name := "fnExactIsPlan", fn := fun _ => fun
  | [d] => { results := [.lit (.bool false)], args := [d] }
  | _ => none }
def FnExactIsPlanWrongFalsely : Prop := fnExactIsPlanRow.holds Try.pinned (OpenSpec.ofChange fnExactIsPlanWrong)

/-- 'laws.FnExactSheetAt': WHATEVER THE INPUT: true; the input reads as it did. -/
def fnExactSheetAtSpec : ChangeSpec := { name := "fnExactSheetAt", fn := fun _ => fun
  | [d1, d2] => { results := [.lit (.bool true)], args := [d1, d2] }
  | _ => none }
def fnExactSheetAtRow : OpenClaim := { program := "ytkbpfdmmjpmbmaa", sum := "d9e60b757a037199d59d7f2a50837f6d915a0939cab49fe421b91f54b85e51c5", func := "loop.example/g01220/laws.FnExactSheetAt", spec := "fnExactSheetAt", unfollowed := true, recurses := true, plainKeys := false, apart := false }
def FnExactSheetAtSaid : Prop := fnExactSheetAtRow.holds Try.pinned (OpenSpec.ofChange fnExactSheetAtSpec)

/-- ITS FALSE NEIGHBOUR: 'it returns false'. Refute it at one input. -/
def fnExactSheetAtWrong : ChangeSpec := { name := "fnExactSheetAt", fn := fun _ => fun
  | [d1, d2] => { results := [.lit (.bool false)], args := [d1, d2] }
  | _ => none }
def FnExactSheetAtWrongFalsely : Prop := fnExactSheetAtRow.holds Try.pinned (OpenSpec.ofChange fnExactSheetAtWrong)

/-- 'laws.FnExactEndOf': WHATEVER THE INPUT: true; the input reads as it did. -/
def fnExactEndOfSpec : ChangeSpec := { name := "fnExactEndOf", fn := fun _ => fun
  | [d] => { results := [.lit (.bool true)], args := [d] }
  | _ => none }
def fnExactEndOfRow : OpenClaim := { program := "ytkbpfdmmjpmbmaa", sum := "d9e60b757a037199d59d7f2a50837f6d915a0939cab49fe421b91f54b85e51c5", func := "loop.example/g01220/laws.FnExactEndOf", spec := "fnExactEndOf", unfollowed := true, recurses := true, plainKeys := false, apart := false }
def FnExactEndOfSaid : Prop := fnExactEndOfRow.holds Try.pinned (OpenSpec.ofChange fnExactEndOfSpec)

/-- ITS FALSE NEIGHBOUR: 'it returns false'. Refute it at one input. -/
def fnExactEndOfWrong : ChangeSpec := { name := "fnExactEndOf", fn := fun _ => fun
  | [d] => { results := [.lit (.bool false)], args := [d] }
  | _ => none }
def FnExactEndOfWrongFalsely : Prop := fnExactEndOfRow.holds Try.pinned (OpenSpec.ofChange fnExactEndOfWrong)

/-- 'laws.FnExactAddStep': WHATEVER THE INPUT: true; the input reads as it did. -/
def fnExactAddStepSpec : ChangeSpec := { name := "fnExactAddStep", fn := fun _ => fun
  | [d1, d2] => { results := [.lit (.bool true)], args := [d1, d2] }
  | _ => none }
def fnExactAddStepRow : OpenClaim := { program := "ytkbpfdmmjpmbmaa", sum := "d9e60b757a037199d59d7f2a50837f6d915a0939cab49fe421b91f54b85e51c5", func := "loop.example/g01220/laws.FnExactAddStep", spec := "fnExactAddStep", plainKeys := false, apart := false }
def FnExactAddStepSaid : Prop := fnExactAddStepRow.holds Try.pinned (OpenSpec.ofChange fnExactAddStepSpec)

/-- ITS FALSE NEIGHBOUR: 'it returns false'. Refute it at one input. -/
def fnExactAddStepWrong : ChangeSpec := { name := "fnExactAddStep", fn := fun _ => fun
  | [d1, d2] => { results := [.lit (.bool false)], args := [d1, d2] }
  | _ => none }
def FnExactAddStepWrongFalsely : Prop := fnExactAddStepRow.holds Try.pinned (OpenSpec.ofChange fnExactAddStepWrong)

/-- 'laws.FnExactUndoSteps': WHATEVER THE INPUT: true; the input reads as it did. -/
def fnExactUndoStepsSpec : ChangeSpec := { name := "fnExactUndoSteps", fn := fun _ => fun
  | [d1, d2] => { results := [.lit (.bool true)], args := [d1, d2] }
  | _ => none }
def fnExactUndoStepsRow : OpenClaim := { program := "ytkbpfdmmjpmbmaa", sum := "d9e60b757a037199d59d7f2a50837f6d915a0939cab49fe421b91f54b85e51c5", func := "loop.example/g01220/laws.FnExactUndoSteps", spec := "fnExactUndoSteps", plainKeys := false, apart := false }
def FnExactUndoStepsSaid : Prop := fnExactUndoStepsRow.holds Try.pinned (OpenSpec.ofChange fnExactUndoStepsSpec)

/-- ITS FALSE NEIGHBOUR: 'it returns false'. Refute it at one input. -/
def fnExactUndoStepsWrong : ChangeSpec := { name := "fnExactUndoSteps", fn := fun _ => fun
  | [d1, d2] => { results := [.lit (.bool false)], args := [d1, d2] }
  | _ => none }
def FnExactUndoStepsWrongFalsely : Prop := fnExactUndoStepsRow.holds Try.pinned (OpenSpec.ofChange fnExactUndoStepsWrong)

/-- 'laws.FnExactVainSteps': WHATEVER THE INPUT: true; the input reads as it did. -/
def fnExactVainStepsSpec : ChangeSpec := { name := "fnExactVainSteps", fn := fun _ => fun
  | [d] => { results := [.lit (.bool true)], args := [d] }
  | _ => none }
def fnExactVainStepsRow : OpenClaim := { program := "ytkbpfdmmjpmbmaa", sum := "d9e60b757a037199d59d7f2a50837f6d915a0939cab49fe421b91f54b85e51c5", func := "loop.example/g01220/laws.FnExactVainSteps", spec := "fnExactVainSteps", unfollowed := true, recurses := true, plainKeys := false, apart := false }
def FnExactVainStepsSaid : Prop := fnExactVainStepsRow.holds Try.pinned (OpenSpec.ofChange fnExactVainStepsSpec)

/-- ITS FALSE NEIGHBOUR: 'it returns false'. Refute it at one input. -/
def fnExactVainStepsWrong : ChangeSpec := { name := "fnExactVainSteps", fn := fun _ => fun
  | [d] => { results := [.lit (.bool false)], args := [d] }
  | _ => none }
def FnExactVainStepsWrongFalsely : Prop := fnExactVainStepsRow.holds Try.pinned (OpenSpec.ofChange fnExactVainStepsWrong)

/-- 'laws.FnExactDropVain': WHATEVER THE INPUT: true; the input reads as it did. -/
def fnExactDropVainSpec : ChangeSpec := { name := "fnExactDropVain", fn := fun _ => fun
  | [d] => { results := [.lit (.bool true)], args := [d] }
  | _ => none }
def fnExactDropVainRow : OpenClaim := { program := "ytkbpfdmmjpmbmaa", sum := "d9e60b757a037199d59d7f2a50837f6d915a0939cab49fe421b91f54b85e51c5", func := "loop.example/g01220/laws.FnExactDropVain", spec := "fnExactDropVain", unfollowed := true, recurses := true, plainKeys := false, apart := false }
def FnExactDropVainSaid : Prop := fnExactDropVainRow.holds Try.pinned (OpenSpec.ofChange fnExactDropVainSpec)

/-- ITS FALSE NEIGHBOUR: 'it returns false'. Refute it at one input. -/
def fnExactDropVainWrong : ChangeSpec := { name := "fnExactDropVain", fn := fun _ => fun
  | [d] => { results := [.lit (.bool false)], args := [d] }
  | _ => none }
def FnExactDropVainWrongFalsely : Prop := fnExactDropVainRow.holds Try.pinned (OpenSpec.ofChange fnExactDropVainWrong)

/-- 'laws.FnExactEffectsOf': WHATEVER THE INPUT: true; the input reads as it did. -/
def fnExactEffectsOfSpec : ChangeSpec := { name := "fnExactEffectsOf", fn := fun _ => fun
  | [d] => { results := [.lit (.bool true)], args := [d] }
  | _ => none }
def fnExactEffectsOfRow : OpenClaim := { program := "ytkbpfdmmjpmbmaa", sum := "d9e60b757a037199d59d7f2a50837f6d915a0939cab49fe421b91f54b85e51c5", func := "loop.example/g01220/laws.FnExactEffectsOf", spec := "fnExactEffectsOf", unfollowed := true, recurses := true, plainKeys := false, apart := false }
def FnExactEffectsOfSaid : Prop := fnExactEffectsOfRow.holds Try.pinned (OpenSpec.ofChange fnExactEffectsOfSpec)

/-- ITS FALSE NEIGHBOUR: 'it returns false'. Refute it at one input. -/
def fnExactEffectsOfWrong : ChangeSpec := { name := "fnExactEffectsOf", fn := fun _ => fun
  | [d] => { results := [.lit (.bool false)], args := [d] }
  | _ => none }
def FnExactEffectsOfWrongFalsely : Prop := fnExactEffectsOfRow.holds Try.pinned (OpenSpec.ofChange fnExactEffectsOfWrong)

/-- 'laws.FnExactSameEffects': WHATEVER THE INPUT: true; the input reads as it did. -/
def fnExactSameEffectsSpec : ChangeSpec := { name := "fnExactSameEffects", fn := fun _ => fun
  | [d1, d2] => { results := [.lit (.bool true)], args := [d1, d2] }
  | _ => none }
def fnExactSameEffectsRow : OpenClaim := { program := "ytkbpfdmmjpmbmaa", sum := "d9e60b757a037199d59d7f2a50837f6d915a0939cab49fe421b91f54b85e51c5", func := "loop.example/g01220/laws.FnExactSameEffects", spec := "fnExactSameEffects", unfollowed := true, recurses := true, plainKeys := false, apart := false }
def FnExactSameEffectsSaid : Prop := fnExactSameEffectsRow.holds Try.pinned (OpenSpec.ofChange fnExactSameEffectsSpec)

/-- ITS FALSE NEIGHBOUR: 'it returns false'. Refute it at one input. -/
def fnExactSameEffectsWrong : ChangeSpec := { name := "fnExactSameEffects", fn := fun _ => fun
  | [d1, d2] => { results := [.lit (.bool false)], args := [d1, d2] }
  | _ => none }
def FnExactSameEffectsWrongFalsely : Prop := fnExactSameEffectsRow.holds Try.pinned (OpenSpec.ofChange fnExactSameEffectsWrong)

/-- 'laws.FnExactCanSwap': WHATEVER THE INPUT: true; the input reads as it did. -/
def fnExactCanSwapSpec : ChangeSpec := { name := "fnExactCanSwap", fn := fun _ => fun
  | [d1, d2] => { results := [.lit (.bool true)], args := [d1, d2] }
  | _ => none }
def fnExactCanSwapRow : OpenClaim := { program := "ytkbpfdmmjpmbmaa", sum := "d9e60b757a037199d59d7f2a50837f6d915a0939cab49fe421b91f54b85e51c5", func := "loop.example/g01220/laws.FnExactCanSwap", spec := "fnExactCanSwap", unfollowed := true, recurses := true, plainKeys := false, apart := false }
def FnExactCanSwapSaid : Prop := fnExactCanSwapRow.holds Try.pinned (OpenSpec.ofChange fnExactCanSwapSpec)

/-- ITS FALSE NEIGHBOUR: 'it returns false'. Refute it at one input. -/
def fnExactCanSwapWrong : ChangeSpec := { name := "fnExactCanSwap", fn := fun _ => fun
  | [d1, d2] => { results := [.lit (.bool false)], args := [d1, d2] }
  | _ => none }
def FnExactCanSwapWrongFalsely : Prop := fnExactCanSwapRow.holds Try.pinned (OpenSpec.ofChange fnExactCanSwapWrong)

/-- 'laws.FnExactBackPlan': WHATEVER THE INPUT: true; the input reads as it did. -/
def fnExactBackPlanSpec : ChangeSpec := { name := "fnExactBackPlan", fn := fun _ => fun
  | [d] => { results := [.lit (.bool true)], args := [d] }
  | _ => none }
def fnExactBackPlanRow : OpenClaim := { program := "ytkbpfdmmjpmbmaa", sum := "d9e60b757a037199d59d7f2a50837f6d915a0939cab49fe421b91f54b85e51c5", func := "loop.example/g01220/laws.FnExactBackPlan", spec := "fnExactBackPlan", unfollowed := true, recurses := true, plainKeys := false, apart := false }
def FnExactBackPlanSaid : Prop := fnExactBackPlanRow.holds Try.pinned (OpenSpec.ofChange fnExactBackPlanSpec)

/-- ITS FALSE NEIGHBOUR: 'it returns false'. Refute it at one input. -/
def fnExactBackPlanWrong : ChangeSpec := { name := "fnExactBackPlan", fn := fun _ => fun
  | [d] => { results := [.lit (.bool false)], args := [d] }
  | _ => none }
def FnExactBackPlanWrongFalsely : Prop := fnExactBackPlanRow.holds Try.pinned (OpenSpec.ofChange fnExactBackPlanWrong)

/-- 'laws.FnExactJoinPlans': WHATEVER THE INPUT: true; the input reads as it did. -/
def fnExactJoinPlansSpec : ChangeSpec := { name := "fnExactJoinPlans", fn := fun _ => fun
  | [d1, d2] => { results := [.lit (.bool true)], args := [d1, d2] }
  | _ => none }
def fnExactJoinPlansRow : OpenClaim := { program := "ytkbpfdmmjpmbmaa", sum := "d9e60b757a037199d59d7f2a50837f6d915a0939cab49fe421b91f54b85e51c5", func := "loop.example/g01220/laws.FnExactJoinPlans", spec := "fnExactJoinPlans", plainKeys := false, apart := false }
def FnExactJoinPlansSaid : Prop := fnExactJoinPlansRow.holds Try.pinned (OpenSpec.ofChange fnExactJoinPlansSpec)

/-- ITS FALSE NEIGHBOUR: 'it returns false'. Refute it at one input. -/
def fnExactJoinPlansWrong : ChangeSpec := { name := "fnExactJoinPlans", fn := fun _ => fun
  | [d1, d2] => { results := [.lit (.bool false)], args := [d1, d2] }
  | _ => none }
def FnExactJoinPlansWrongFalsely : Prop := fnExactJoinPlansRow.holds Try.pinned (OpenSpec.ofChange fnExactJoinPlansWrong)

/-- 'laws.FnEffects': WHATEVER THE INPUT: true; the input reads as it did. -/
def fnEffectsSpec : ChangeSpec := { name := "fnEffects", fn := fun _ => fun
  | [d] => { results := [.lit (.bool true)], args := [d] }
  | _ => none }
def fnEffectsRow : OpenClaim := { program := "ytkbpfdmmjpmbmaa", sum := "d9e60b757a037199d59d7f2a50837f6d915a0939cab49fe421b91f54b85e51c5", func := "loop.example/g01220/laws.FnEffects", spec := "fnEffects", unfollowed := true, recurses := true, plainKeys := false, apart := false }
def FnEffectsSaid : Prop := fnEffectsRow.holds Try.pinned (OpenSpec.ofChange fnEffectsSpec)

/-- ITS FALSE NEIGHBOUR: 'it returns false'. Refute it at one input. -/
def fnEffectsWrong : ChangeSpec := { name := "fnEffects", fn := fun _ => fun
  | [d] => { results := [.lit (.bool false)], args := [d] }
  | _ => none }
def FnEffectsWrongFalsely : Prop := fnEffectsRow.holds Try.pinned (OpenSpec.ofChange fnEffectsWrong)

/-- 'laws.FnExactNumberOf': WHATEVER THE INPUT: true; the input reads as it did. -/
def fnExactNumberOfSpec : ChangeSpec := { name := "fnExactNumberOf", fn := fun _ => fun
  | [d1, d2] => { results := [.lit (.bool true)], args := [d1, d2] }
  | _ => none }
def fnExactNumberOfRow : OpenClaim := { program := "ytkbpfdmmjpmbmaa", sum := "d9e60b757a037199d59d7f2a50837f6d915a0939cab49fe421b91f54b85e51c5", func := "loop.example/g01220/laws.FnExactNumberOf", spec := "fnExactNumberOf", unfollowed := true, recurses := true, plainKeys := false, apart := false }
def FnExactNumberOfSaid : Prop := fnExactNumberOfRow.holds Try.pinned (OpenSpec.ofChange fnExactNumberOfSpec)

/-- ITS FALSE NEIGHBOUR: 'it returns false'. Refute it at one input. -/
def fnExactNumberOfWrong : ChangeSpec := { name := "fnExactNumberOf", fn := fun _ => fun
  | [d1, d2] => { results := [.lit (.bool false)], args := [d1, d2] }
  | _ => none }
def FnExactNumberOfWrongFalsely : Prop := fnExactNumberOfRow.holds Try.pinned (OpenSpec.ofChange fnExactNumberOfWrong)

/-- 'laws.FnExactPlayParty': WHATEVER THE INPUT: true; the input reads as it did. -/
def fnExactPlayPartySpec : ChangeSpec := { name := "fnExactPlayParty", fn := fun _ => fun
  | [d1, d2, d3] => { results := [.lit (.bool true)], args := [d1, d2, d3] }
  | _ => none }
def fnExactPlayPartyRow : OpenClaim := { program := "ytkbpfdmmjpmbmaa", sum := "d9e60b757a037199d59d7f2a50837f6d915a0939cab49fe421b91f54b85e51c5", func := "loop.example/g01220/laws.FnExactPlayParty", spec := "fnExactPlayParty", unfollowed := true, recurses := true, plainKeys := false, apart := false }
def FnExactPlayPartySaid : Prop := fnExactPlayPartyRow.holds Try.pinned (OpenSpec.ofChange fnExactPlayPartySpec)

/-- ITS FALSE NEIGHBOUR: 'it returns false'. Refute it at one input. -/
def fnExactPlayPartyWrong : ChangeSpec := { name := "fnExactPlayParty", fn := fun _ => fun
  | [d1, d2, d3] => { results := [.lit (.bool false)], args := [d1, d2, d3] }
  | _ => none }
def FnExactPlayPartyWrongFalsely : Prop := fnExactPlayPartyRow.holds Try.pinned (OpenSpec.ofChange fnExactPlayPartyWrong)

/- THE SECOND FORM. 'bulk': how many values and letters a reading holds, each counted each time it is reached (what is shared counts as often as it is met; a slice's spare places count too). A statement '..UptoSaid' is the law's where the arguments, and the package variables that the reading takes, are together of bulk at most 1048576: NARROWER than '..Said'. Prove '..Said' where nothing that the law and all that it calls make is longer than what came in: it says more and counts as full. Else prove '..UptoSaid'. A law counts once. -/
mutual
def uptoBulk {H : Type} : DataW H → Nat
  | .lit (.string bytes) => bytes.length + 1
  | .lit _ => 1
  | .nil => 1
  | .ptr d => uptoBulk d + 1
  | .slice elems spare => uptoBulkAll elems + uptoBulkAll spare + 1
  | .agg parts => uptoBulkAll parts + 1
  | .iface _ d => uptoBulk d + 1
  | .map entries => uptoBulkEntries entries + 1
  | .held _ => 1
def uptoBulkAll {H : Type} : List (DataW H) → Nat
  | [] => 0
  | d :: r => uptoBulk d + uptoBulkAll r
def uptoBulkEntries {H : Type} : List (Lit × DataW H) → Nat
  | [] => 0
  | x :: r => uptoBulkEntry x + uptoBulkEntries r
def uptoBulkEntry {H : Type} : Lit × DataW H → Nat
  | (.string bytes, d) => bytes.length + uptoBulk d + 1
  | (_, d) => uptoBulk d + 1
 end
def uptoSmall : (H : Type) → List (DataW H) → Bool := fun _ ds => decide (uptoBulkAll ds ≤ 1048576)
def OpenSpec.upto (s : _root_.Go.ChangeSpec) : _root_.Go.OpenSpec := { _root_.Go.OpenSpec.ofChange s with cond := some uptoSmall }

/-- 'laws.FnExactIsPlan', WHERE WHAT IT READS IS OF BULK AT MOST 1048576: true; the input reads as it did. -/
def fnExactIsPlanUptoRow : OpenClaim := { program := "ytkbpfdmmjpmbmaa", sum := "d9e60b757a037199d59d7f2a50837f6d915a0939cab49fe421b91f54b85e51c5", func := "loop.example/g01220/laws.FnExactIsPlan", spec := "fnExactIsPlan", plainKeys := false, apart := false, narrowed := true }
def FnExactIsPlanUptoSaid : Prop := fnExactIsPlanUptoRow.holds Try.pinned (OpenSpec.upto fnExactIsPlanSpec)

/-- 'laws.FnExactSheetAt', WHERE WHAT IT READS IS OF BULK AT MOST 1048576: true; the input reads as it did. -/
def fnExactSheetAtUptoRow : OpenClaim := { program := "ytkbpfdmmjpmbmaa", sum := "d9e60b757a037199d59d7f2a50837f6d915a0939cab49fe421b91f54b85e51c5", func := "loop.example/g01220/laws.FnExactSheetAt", spec := "fnExactSheetAt", unfollowed := true, recurses := true, plainKeys := false, apart := false, narrowed := true }
def FnExactSheetAtUptoSaid : Prop := fnExactSheetAtUptoRow.holds Try.pinned (OpenSpec.upto fnExactSheetAtSpec)

/-- 'laws.FnExactEndOf', WHERE WHAT IT READS IS OF BULK AT MOST 1048576: true; the input reads as it did. -/
def fnExactEndOfUptoRow : OpenClaim := { program := "ytkbpfdmmjpmbmaa", sum := "d9e60b757a037199d59d7f2a50837f6d915a0939cab49fe421b91f54b85e51c5", func := "loop.example/g01220/laws.FnExactEndOf", spec := "fnExactEndOf", unfollowed := true, recurses := true, plainKeys := false, apart := false, narrowed := true }
def FnExactEndOfUptoSaid : Prop := fnExactEndOfUptoRow.holds Try.pinned (OpenSpec.upto fnExactEndOfSpec)

/-- 'laws.FnExactAddStep', WHERE WHAT IT READS IS OF BULK AT MOST 1048576: true; the input reads as it did. -/
def fnExactAddStepUptoRow : OpenClaim := { program := "ytkbpfdmmjpmbmaa", sum := "d9e60b757a037199d59d7f2a50837f6d915a0939cab49fe421b91f54b85e51c5", func := "loop.example/g01220/laws.FnExactAddStep", spec := "fnExactAddStep", plainKeys := false, apart := false, narrowed := true }
def FnExactAddStepUptoSaid : Prop := fnExactAddStepUptoRow.holds Try.pinned (OpenSpec.upto fnExactAddStepSpec)

/-- 'laws.FnExactUndoSteps', WHERE WHAT IT READS IS OF BULK AT MOST 1048576: true; the input reads as it did. -/
def fnExactUndoStepsUptoRow : OpenClaim := { program := "ytkbpfdmmjpmbmaa", sum := "d9e60b757a037199d59d7f2a50837f6d915a0939cab49fe421b91f54b85e51c5", func := "loop.example/g01220/laws.FnExactUndoSteps", spec := "fnExactUndoSteps", plainKeys := false, apart := false, narrowed := true }
def FnExactUndoStepsUptoSaid : Prop := fnExactUndoStepsUptoRow.holds Try.pinned (OpenSpec.upto fnExactUndoStepsSpec)

/-- 'laws.FnExactVainSteps', WHERE WHAT IT READS IS OF BULK AT MOST 1048576: true; the input reads as it did. -/
def fnExactVainStepsUptoRow : OpenClaim := { program := "ytkbpfdmmjpmbmaa", sum := "d9e60b757a037199d59d7f2a50837f6d915a0939cab49fe421b91f54b85e51c5", func := "loop.example/g01220/laws.FnExactVainSteps", spec := "fnExactVainSteps", unfollowed := true, recurses := true, plainKeys := false, apart := false, narrowed := true }
def FnExactVainStepsUptoSaid : Prop := fnExactVainStepsUptoRow.holds Try.pinned (OpenSpec.upto fnExactVainStepsSpec)

/-- 'laws.FnExactDropVain', WHERE WHAT IT READS IS OF BULK AT MOST 1048576: true; the input reads as it did. -/
def fnExactDropVainUptoRow : OpenClaim := { program := "ytkbpfdmmjpmbmaa", sum := "d9e60b757a037199d59d7f2a50837f6d915a0939cab49fe421b91f54b85e51c5", func := "loop.example/g01220/laws.FnExactDropVain", spec := "fnExactDropVain", unfollowed := true, recurses := true, plainKeys := false, apart := false, narrowed := true }
def FnExactDropVainUptoSaid : Prop := fnExactDropVainUptoRow.holds Try.pinned (OpenSpec.upto fnExactDropVainSpec)

/-- 'laws.FnExactEffectsOf', WHERE WHAT IT READS IS OF BULK AT MOST 1048576: true; the input reads as it did. -/
def fnExactEffectsOfUptoRow : OpenClaim := { program := "ytkbpfdmmjpmbmaa", sum := "d9e60b757a037199d59d7f2a50837f6d915a0939cab49fe421b91f54b85e51c5", func := "loop.example/g01220/laws.FnExactEffectsOf", spec := "fnExactEffectsOf", unfollowed := true, recurses := true, plainKeys := false, apart := false, narrowed := true }
def FnExactEffectsOfUptoSaid : Prop := fnExactEffectsOfUptoRow.holds Try.pinned (OpenSpec.upto fnExactEffectsOfSpec)

/-- 'laws.FnExactSameEffects', WHERE WHAT IT READS IS OF BULK AT MOST 1048576: true; the input reads as it did. -/
def fnExactSameEffectsUptoRow : OpenClaim := { program := "ytkbpfdmmjpmbmaa", sum := "d9e60b757a037199d59d7f2a50837f6d915a0939cab49fe421b91f54b85e51c5", func := "loop.example/g01220/laws.FnExactSameEffects", spec := "fnExactSameEffects", unfollowed := true, recurses := true, plainKeys := false, apart := false, narrowed := true }
def FnExactSameEffectsUptoSaid : Prop := fnExactSameEffectsUptoRow.holds Try.pinned (OpenSpec.upto fnExactSameEffectsSpec)

/-- 'laws.FnExactCanSwap', WHERE WHAT IT READS IS OF BULK AT MOST 1048576: true; the input reads as it did. -/
def fnExactCanSwapUptoRow : OpenClaim := { program := "ytkbpfdmmjpmbmaa", sum := "d9e60b757a037199d59d7f2a50837f6d915a0939cab49fe421b91f54b85e51c5", func := "loop.example/g01220/laws.FnExactCanSwap", spec := "fnExactCanSwap", unfollowed := true, recurses := true, plainKeys := false, apart := false, narrowed := true }
def FnExactCanSwapUptoSaid : Prop := fnExactCanSwapUptoRow.holds Try.pinned (OpenSpec.upto fnExactCanSwapSpec)

/-- 'laws.FnExactBackPlan', WHERE WHAT IT READS IS OF BULK AT MOST 1048576: true; the input reads as it did. -/
def fnExactBackPlanUptoRow : OpenClaim := { program := "ytkbpfdmmjpmbmaa", sum := "d9e60b757a037199d59d7f2a50837f6d915a0939cab49fe421b91f54b85e51c5", func := "loop.example/g01220/laws.FnExactBackPlan", spec := "fnExactBackPlan", unfollowed := true, recurses := true, plainKeys := false, apart := false, narrowed := true }
def FnExactBackPlanUptoSaid : Prop := fnExactBackPlanUptoRow.holds Try.pinned (OpenSpec.upto fnExactBackPlanSpec)

/-- 'laws.FnExactJoinPlans', WHERE WHAT IT READS IS OF BULK AT MOST 1048576: true; the input reads as it did. -/
def fnExactJoinPlansUptoRow : OpenClaim := { program := "ytkbpfdmmjpmbmaa", sum := "d9e60b757a037199d59d7f2a50837f6d915a0939cab49fe421b91f54b85e51c5", func := "loop.example/g01220/laws.FnExactJoinPlans", spec := "fnExactJoinPlans", plainKeys := false, apart := false, narrowed := true }
def FnExactJoinPlansUptoSaid : Prop := fnExactJoinPlansUptoRow.holds Try.pinned (OpenSpec.upto fnExactJoinPlansSpec)

/-- 'laws.FnEffects', WHERE WHAT IT READS IS OF BULK AT MOST 1048576: true; the input reads as it did. -/
def fnEffectsUptoRow : OpenClaim := { program := "ytkbpfdmmjpmbmaa", sum := "d9e60b757a037199d59d7f2a50837f6d915a0939cab49fe421b91f54b85e51c5", func := "loop.example/g01220/laws.FnEffects", spec := "fnEffects", unfollowed := true, recurses := true, plainKeys := false, apart := false, narrowed := true }
def FnEffectsUptoSaid : Prop := fnEffectsUptoRow.holds Try.pinned (OpenSpec.upto fnEffectsSpec)

/-- 'laws.FnExactNumberOf', WHERE WHAT IT READS IS OF BULK AT MOST 1048576: true; the input reads as it did. -/
def fnExactNumberOfUptoRow : OpenClaim := { program := "ytkbpfdmmjpmbmaa", sum := "d9e60b757a037199d59d7f2a50837f6d915a0939cab49fe421b91f54b85e51c5", func := "loop.example/g01220/laws.FnExactNumberOf", spec := "fnExactNumberOf", unfollowed := true, recurses := true, plainKeys := false, apart := false, narrowed := true }
def FnExactNumberOfUptoSaid : Prop := fnExactNumberOfUptoRow.holds Try.pinned (OpenSpec.upto fnExactNumberOfSpec)

/-- 'laws.FnExactPlayParty', WHERE WHAT IT READS IS OF BULK AT MOST 1048576: true; the input reads as it did. -/
def fnExactPlayPartyUptoRow : OpenClaim := { program := "ytkbpfdmmjpmbmaa", sum := "d9e60b757a037199d59d7f2a50837f6d915a0939cab49fe421b91f54b85e51c5", func := "loop.example/g01220/laws.FnExactPlayParty", spec := "fnExactPlayParty", unfollowed := true, recurses := true, plainKeys := false, apart := false, narrowed := true }
def FnExactPlayPartyUptoSaid : Prop := fnExactPlayPartyUptoRow.holds Try.pinned (OpenSpec.upto fnExactPlayPartySpec)

end Rows
end Go.Proofs.Ytkbpfdmmjpmbmaa
