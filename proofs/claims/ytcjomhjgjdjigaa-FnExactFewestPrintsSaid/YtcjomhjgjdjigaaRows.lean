/-
  No cell of these rows narrows 'for every input' (looked for: loops, veiled, ifaces, maps, wideKeys, modest, calm, conditions, laid).
  DERIVED. THE GIVEN ROWS OF THIS SEAT. 15 by the template 'for every input the law returns true; each argument reads behind the call as it read before'; 0 by the template 'total and deterministic' (their statements: YtcjomhjgjdjigaaTotals.lean).
  GIVEN WITH THE SEED: the statements are not yours to turn. If you find one false, say at which input.
  Laid BY PROGRAM, IN A SANDBOX (cutbox-rows.mjs): the forced cells as the released guide's own fill.sh prints them over the translation 78748a975c5db6ae… (all of the seat's roots in one cut). By AI agents, Wed Nov 11 2026. No macro, syntax, notation, axiom, sorry.
-/
import Derived.Test.YtcjomhjgjdjigaaChecked
import GoSem.Claim
import GoSem.ClaimJoined
import GoSem.ClaimMapViews
import Derived.JoinedTies
import Derived.KernelRfl
namespace Go.Proofs.Ytcjomhjgjdjigaa
/- THE CELL 'sum', in the pinned program and in every row, IS THE sha256 OF THE DUMP (.gsa) THAT YtcjomhjgjdjigaaProg.lean LOADS. Nothing in Lean hashes anything: it is a label: what it is worth is what the hold of that sum in a sandbox is worth. -/
noncomputable def Try.pinned : Pinned := { name := "ytcjomhjgjdjigaa", sum := "78748a975c5db6aece17a674b5d2d17dfdcf49a5157006d72ecdbea9c0427d1c", checked := Try.checked }
namespace Rows
def none {H : Type} : Left H := { results := [], args := [] }

/-- 'laws.FnExactIsPicture': WHATEVER THE INPUT: true; the input reads as it did. -/
def fnExactIsPictureSpec : ChangeSpec := { name := "fnExactIsPicture", fn := fun _ => fun
  | [d] => { results := [.lit (.bool true)], args := [d] }
  | _ => none }
def fnExactIsPictureRow : OpenClaim := { program := "ytcjomhjgjdjigaa", sum := "78748a975c5db6aece17a674b5d2d17dfdcf49a5157006d72ecdbea9c0427d1c", func := "loop.example/g01220/laws.FnExactIsPicture", spec := "fnExactIsPicture", apart := false }
def FnExactIsPictureSaid : Prop := fnExactIsPictureRow.holds Try.pinned (OpenSpec.ofChange fnExactIsPictureSpec)

/-- ITS FALSE NEIGHBOUR: 'it returns false'. Refute it at one input. -/
def fnExactIsPictureWrong : ChangeSpec := { name := "fnExactIsPicture", fn := fun _ => fun
  | [d] => { results := [.lit (.bool false)], args := [d] }
  | _ => none }
def FnExactIsPictureWrongFalsely : Prop := fnExactIsPictureRow.holds Try.pinned (OpenSpec.ofChange fnExactIsPictureWrong)

/-- 'laws.FnExactIsPrint': WHATEVER THE INPUT: true; the input reads as it did. -/
def fnExactIsPrintSpec : ChangeSpec := { name := "fnExactIsPrint", fn := fun _ => fun
  | [d] => { results := [.lit (.bool true)], args := [d] }
  | _ => none }
def fnExactIsPrintRow : OpenClaim := { program := "ytcjomhjgjdjigaa", sum := "78748a975c5db6aece17a674b5d2d17dfdcf49a5157006d72ecdbea9c0427d1c", func := "loop.example/g01220/laws.FnExactIsPrint", spec := "fnExactIsPrint", apart := false }
def FnExactIsPrintSaid : Prop := fnExactIsPrintRow.holds Try.pinned (OpenSpec.ofChange fnExactIsPrintSpec)

/-- ITS FALSE NEIGHBOUR: 'it returns false'. Refute it at one input. -/
def fnExactIsPrintWrong : ChangeSpec := { name := "fnExactIsPrint", fn := fun _ => fun
  | [d] => { results := [.lit (.bool false)], args := [d] }
  | _ => none }
def FnExactIsPrintWrongFalsely : Prop := fnExactIsPrintRow.holds Try.pinned (OpenSpec.ofChange fnExactIsPrintWrong)

/-- 'laws.FnExactPictureOf': WHATEVER THE INPUT: true; the input reads as it did. -/
def fnExactPictureOfSpec : ChangeSpec := { name := "fnExactPictureOf", fn := fun _ => fun
  | [d] => { results := [.lit (.bool true)], args := [d] }
  | _ => none }
def fnExactPictureOfRow : OpenClaim := { program := "ytcjomhjgjdjigaa", sum := "78748a975c5db6aece17a674b5d2d17dfdcf49a5157006d72ecdbea9c0427d1c", func := "loop.example/g01220/laws.FnExactPictureOf", spec := "fnExactPictureOf", apart := false }
def FnExactPictureOfSaid : Prop := fnExactPictureOfRow.holds Try.pinned (OpenSpec.ofChange fnExactPictureOfSpec)

/-- ITS FALSE NEIGHBOUR: 'it returns false'. Refute it at one input. -/
def fnExactPictureOfWrong : ChangeSpec := { name := "fnExactPictureOf", fn := fun _ => fun
  | [d] => { results := [.lit (.bool false)], args := [d] }
  | _ => none }
def FnExactPictureOfWrongFalsely : Prop := fnExactPictureOfRow.holds Try.pinned (OpenSpec.ofChange fnExactPictureOfWrong)

/-- 'laws.FnExactInkSheet': WHATEVER THE INPUT: true; the input reads as it did. -/
def fnExactInkSheetSpec : ChangeSpec := { name := "fnExactInkSheet", fn := fun _ => fun
  | [d1, d2] => { results := [.lit (.bool true)], args := [d1, d2] }
  | _ => none }
def fnExactInkSheetRow : OpenClaim := { program := "ytcjomhjgjdjigaa", sum := "78748a975c5db6aece17a674b5d2d17dfdcf49a5157006d72ecdbea9c0427d1c", func := "loop.example/g01220/laws.FnExactInkSheet", spec := "fnExactInkSheet", apart := false }
def FnExactInkSheetSaid : Prop := fnExactInkSheetRow.holds Try.pinned (OpenSpec.ofChange fnExactInkSheetSpec)

/-- ITS FALSE NEIGHBOUR: 'it returns false'. Refute it at one input. -/
def fnExactInkSheetWrong : ChangeSpec := { name := "fnExactInkSheet", fn := fun _ => fun
  | [d1, d2] => { results := [.lit (.bool false)], args := [d1, d2] }
  | _ => none }
def FnExactInkSheetWrongFalsely : Prop := fnExactInkSheetRow.holds Try.pinned (OpenSpec.ofChange fnExactInkSheetWrong)

/-- 'laws.FnExactHiddenPrints': WHATEVER THE INPUT: true; the input reads as it did. -/
def fnExactHiddenPrintsSpec : ChangeSpec := { name := "fnExactHiddenPrints", fn := fun _ => fun
  | [d] => { results := [.lit (.bool true)], args := [d] }
  | _ => none }
def fnExactHiddenPrintsRow : OpenClaim := { program := "ytcjomhjgjdjigaa", sum := "78748a975c5db6aece17a674b5d2d17dfdcf49a5157006d72ecdbea9c0427d1c", func := "loop.example/g01220/laws.FnExactHiddenPrints", spec := "fnExactHiddenPrints", unfollowed := true, recurses := true, apart := false }
def FnExactHiddenPrintsSaid : Prop := fnExactHiddenPrintsRow.holds Try.pinned (OpenSpec.ofChange fnExactHiddenPrintsSpec)

/-- ITS FALSE NEIGHBOUR: 'it returns false'. Refute it at one input. -/
def fnExactHiddenPrintsWrong : ChangeSpec := { name := "fnExactHiddenPrints", fn := fun _ => fun
  | [d] => { results := [.lit (.bool false)], args := [d] }
  | _ => none }
def FnExactHiddenPrintsWrongFalsely : Prop := fnExactHiddenPrintsRow.holds Try.pinned (OpenSpec.ofChange fnExactHiddenPrintsWrong)

/-- 'laws.FnExactWholePrints': WHATEVER THE INPUT: true; the input reads as it did. -/
def fnExactWholePrintsSpec : ChangeSpec := { name := "fnExactWholePrints", fn := fun _ => fun
  | [d] => { results := [.lit (.bool true)], args := [d] }
  | _ => none }
def fnExactWholePrintsRow : OpenClaim := { program := "ytcjomhjgjdjigaa", sum := "78748a975c5db6aece17a674b5d2d17dfdcf49a5157006d72ecdbea9c0427d1c", func := "loop.example/g01220/laws.FnExactWholePrints", spec := "fnExactWholePrints", unfollowed := true, recurses := true, apart := false }
def FnExactWholePrintsSaid : Prop := fnExactWholePrintsRow.holds Try.pinned (OpenSpec.ofChange fnExactWholePrintsSpec)

/-- ITS FALSE NEIGHBOUR: 'it returns false'. Refute it at one input. -/
def fnExactWholePrintsWrong : ChangeSpec := { name := "fnExactWholePrints", fn := fun _ => fun
  | [d] => { results := [.lit (.bool false)], args := [d] }
  | _ => none }
def FnExactWholePrintsWrongFalsely : Prop := fnExactWholePrintsRow.holds Try.pinned (OpenSpec.ofChange fnExactWholePrintsWrong)

/-- 'laws.FnExactIsRightOrder': WHATEVER THE INPUT: true; the input reads as it did. -/
def fnExactIsRightOrderSpec : ChangeSpec := { name := "fnExactIsRightOrder", fn := fun _ => fun
  | [d1, d2, d3] => { results := [.lit (.bool true)], args := [d1, d2, d3] }
  | _ => none }
def fnExactIsRightOrderRow : OpenClaim := { program := "ytcjomhjgjdjigaa", sum := "78748a975c5db6aece17a674b5d2d17dfdcf49a5157006d72ecdbea9c0427d1c", func := "loop.example/g01220/laws.FnExactIsRightOrder", spec := "fnExactIsRightOrder", unfollowed := true, recurses := true, apart := false }
def FnExactIsRightOrderSaid : Prop := fnExactIsRightOrderRow.holds Try.pinned (OpenSpec.ofChange fnExactIsRightOrderSpec)

/-- ITS FALSE NEIGHBOUR: 'it returns false'. Refute it at one input. -/
def fnExactIsRightOrderWrong : ChangeSpec := { name := "fnExactIsRightOrder", fn := fun _ => fun
  | [d1, d2, d3] => { results := [.lit (.bool false)], args := [d1, d2, d3] }
  | _ => none }
def FnExactIsRightOrderWrongFalsely : Prop := fnExactIsRightOrderRow.holds Try.pinned (OpenSpec.ofChange fnExactIsRightOrderWrong)

/-- 'laws.FnExactFirstOrder': WHATEVER THE INPUT: true; the input reads as it did. -/
def fnExactFirstOrderSpec : ChangeSpec := { name := "fnExactFirstOrder", fn := fun _ => fun
  | [d1, d2] => { results := [.lit (.bool true)], args := [d1, d2] }
  | _ => none }
def fnExactFirstOrderRow : OpenClaim := { program := "ytcjomhjgjdjigaa", sum := "78748a975c5db6aece17a674b5d2d17dfdcf49a5157006d72ecdbea9c0427d1c", func := "loop.example/g01220/laws.FnExactFirstOrder", spec := "fnExactFirstOrder", unfollowed := true, recurses := true, apart := false }
def FnExactFirstOrderSaid : Prop := fnExactFirstOrderRow.holds Try.pinned (OpenSpec.ofChange fnExactFirstOrderSpec)

/-- ITS FALSE NEIGHBOUR: 'it returns false'. Refute it at one input. -/
def fnExactFirstOrderWrong : ChangeSpec := { name := "fnExactFirstOrder", fn := fun _ => fun
  | [d1, d2] => { results := [.lit (.bool false)], args := [d1, d2] }
  | _ => none }
def FnExactFirstOrderWrongFalsely : Prop := fnExactFirstOrderRow.holds Try.pinned (OpenSpec.ofChange fnExactFirstOrderWrong)

/-- 'laws.FnExactCountOrders': WHATEVER THE INPUT: true; the input reads as it did. -/
def fnExactCountOrdersSpec : ChangeSpec := { name := "fnExactCountOrders", fn := fun _ => fun
  | [d1, d2] => { results := [.lit (.bool true)], args := [d1, d2] }
  | _ => none }
def fnExactCountOrdersRow : OpenClaim := { program := "ytcjomhjgjdjigaa", sum := "78748a975c5db6aece17a674b5d2d17dfdcf49a5157006d72ecdbea9c0427d1c", func := "loop.example/g01220/laws.FnExactCountOrders", spec := "fnExactCountOrders", unfollowed := true, recurses := true, apart := false }
def FnExactCountOrdersSaid : Prop := fnExactCountOrdersRow.holds Try.pinned (OpenSpec.ofChange fnExactCountOrdersSpec)

/-- ITS FALSE NEIGHBOUR: 'it returns false'. Refute it at one input. -/
def fnExactCountOrdersWrong : ChangeSpec := { name := "fnExactCountOrders", fn := fun _ => fun
  | [d1, d2] => { results := [.lit (.bool false)], args := [d1, d2] }
  | _ => none }
def FnExactCountOrdersWrongFalsely : Prop := fnExactCountOrdersRow.holds Try.pinned (OpenSpec.ofChange fnExactCountOrdersWrong)

/-- 'laws.FnExactLastPrints': WHATEVER THE INPUT: true; the input reads as it did. -/
def fnExactLastPrintsSpec : ChangeSpec := { name := "fnExactLastPrints", fn := fun _ => fun
  | [d1, d2] => { results := [.lit (.bool true)], args := [d1, d2] }
  | _ => none }
def fnExactLastPrintsRow : OpenClaim := { program := "ytcjomhjgjdjigaa", sum := "78748a975c5db6aece17a674b5d2d17dfdcf49a5157006d72ecdbea9c0427d1c", func := "loop.example/g01220/laws.FnExactLastPrints", spec := "fnExactLastPrints", apart := false }
def FnExactLastPrintsSaid : Prop := fnExactLastPrintsRow.holds Try.pinned (OpenSpec.ofChange fnExactLastPrintsSpec)

/-- ITS FALSE NEIGHBOUR: 'it returns false'. Refute it at one input. -/
def fnExactLastPrintsWrong : ChangeSpec := { name := "fnExactLastPrints", fn := fun _ => fun
  | [d1, d2] => { results := [.lit (.bool false)], args := [d1, d2] }
  | _ => none }
def FnExactLastPrintsWrongFalsely : Prop := fnExactLastPrintsRow.holds Try.pinned (OpenSpec.ofChange fnExactLastPrintsWrong)

/-- 'laws.FnExactOverlaps': WHATEVER THE INPUT: true; the input reads as it did. -/
def fnExactOverlapsSpec : ChangeSpec := { name := "fnExactOverlaps", fn := fun _ => fun
  | [d] => { results := [.lit (.bool true)], args := [d] }
  | _ => none }
def fnExactOverlapsRow : OpenClaim := { program := "ytcjomhjgjdjigaa", sum := "78748a975c5db6aece17a674b5d2d17dfdcf49a5157006d72ecdbea9c0427d1c", func := "loop.example/g01220/laws.FnExactOverlaps", spec := "fnExactOverlaps", apart := false }
def FnExactOverlapsSaid : Prop := fnExactOverlapsRow.holds Try.pinned (OpenSpec.ofChange fnExactOverlapsSpec)

/-- ITS FALSE NEIGHBOUR: 'it returns false'. Refute it at one input. -/
def fnExactOverlapsWrong : ChangeSpec := { name := "fnExactOverlaps", fn := fun _ => fun
  | [d] => { results := [.lit (.bool false)], args := [d] }
  | _ => none }
def FnExactOverlapsWrongFalsely : Prop := fnExactOverlapsRow.holds Try.pinned (OpenSpec.ofChange fnExactOverlapsWrong)

/-- 'laws.FnExactFewestPrints': WHATEVER THE INPUT: true; the input reads as it did. -/
def fnExactFewestPrintsSpec : ChangeSpec := { name := "fnExactFewestPrints", fn := fun _ => fun
  | [d] => { results := [.lit (.bool true)], args := [d] }
  | _ => none }
def fnExactFewestPrintsRow : OpenClaim := { program := "ytcjomhjgjdjigaa", sum := "78748a975c5db6aece17a674b5d2d17dfdcf49a5157006d72ecdbea9c0427d1c", func := "loop.example/g01220/laws.FnExactFewestPrints", spec := "fnExactFewestPrints", apart := false }
def FnExactFewestPrintsSaid : Prop := fnExactFewestPrintsRow.holds Try.pinned (OpenSpec.ofChange fnExactFewestPrintsSpec)

/-- ITS FALSE NEIGHBOUR: 'it returns false'. Refute it at one input. -/
def fnExactFewestPrintsWrong : ChangeSpec := { name := "fnExactFewestPrints", fn := fun _ => fun
  | [d] => { results := [.lit (.bool false)], args := [d] }
  | _ => none }
def FnExactFewestPrintsWrongFalsely : Prop := fnExactFewestPrintsRow.holds Try.pinned (OpenSpec.ofChange fnExactFewestPrintsWrong)

/-- 'laws.FnExactSwapPrints': WHATEVER THE INPUT: true; the input reads as it did. -/
def fnExactSwapPrintsSpec : ChangeSpec := { name := "fnExactSwapPrints", fn := fun _ => fun
  | [d1, d2] => { results := [.lit (.bool true)], args := [d1, d2] }
  | _ => none }
def fnExactSwapPrintsRow : OpenClaim := { program := "ytcjomhjgjdjigaa", sum := "78748a975c5db6aece17a674b5d2d17dfdcf49a5157006d72ecdbea9c0427d1c", func := "loop.example/g01220/laws.FnExactSwapPrints", spec := "fnExactSwapPrints", unfollowed := true, recurses := true, apart := false }
def FnExactSwapPrintsSaid : Prop := fnExactSwapPrintsRow.holds Try.pinned (OpenSpec.ofChange fnExactSwapPrintsSpec)

/-- ITS FALSE NEIGHBOUR: 'it returns false'. Refute it at one input. -/
def fnExactSwapPrintsWrong : ChangeSpec := { name := "fnExactSwapPrints", fn := fun _ => fun
  | [d1, d2] => { results := [.lit (.bool false)], args := [d1, d2] }
  | _ => none }
def FnExactSwapPrintsWrongFalsely : Prop := fnExactSwapPrintsRow.holds Try.pinned (OpenSpec.ofChange fnExactSwapPrintsWrong)

/-- 'laws.FnExactPictureText': WHATEVER THE INPUT: true; the input reads as it did. -/
def fnExactPictureTextSpec : ChangeSpec := { name := "fnExactPictureText", fn := fun _ => fun
  | [d] => { results := [.lit (.bool true)], args := [d] }
  | _ => none }
def fnExactPictureTextRow : OpenClaim := { program := "ytcjomhjgjdjigaa", sum := "78748a975c5db6aece17a674b5d2d17dfdcf49a5157006d72ecdbea9c0427d1c", func := "loop.example/g01220/laws.FnExactPictureText", spec := "fnExactPictureText", inPlace := ["internal/abi.NoEscape", "internal/bytealg.MakeNoZero"], apart := false }
def FnExactPictureTextSaid : Prop := fnExactPictureTextRow.holds Try.pinned (OpenSpec.ofChange fnExactPictureTextSpec)

/-- ITS FALSE NEIGHBOUR: 'it returns false'. Refute it at one input. -/
def fnExactPictureTextWrong : ChangeSpec := { name := "fnExactPictureText", fn := fun _ => fun
  | [d] => { results := [.lit (.bool false)], args := [d] }
  | _ => none }
def FnExactPictureTextWrongFalsely : Prop := fnExactPictureTextRow.holds Try.pinned (OpenSpec.ofChange fnExactPictureTextWrong)

/-- 'laws.FnExactMeetAlike': WHATEVER THE INPUT: true; the input reads as it did. -/
def fnExactMeetAlikeSpec : ChangeSpec := { name := "fnExactMeetAlike", fn := fun _ => fun
  | [d1, d2] => { results := [.lit (.bool true)], args := [d1, d2] }
  | _ => none }
def fnExactMeetAlikeRow : OpenClaim := { program := "ytcjomhjgjdjigaa", sum := "78748a975c5db6aece17a674b5d2d17dfdcf49a5157006d72ecdbea9c0427d1c", func := "loop.example/g01220/laws.FnExactMeetAlike", spec := "fnExactMeetAlike", apart := false }
def FnExactMeetAlikeSaid : Prop := fnExactMeetAlikeRow.holds Try.pinned (OpenSpec.ofChange fnExactMeetAlikeSpec)

/-- ITS FALSE NEIGHBOUR: 'it returns false'. Refute it at one input. -/
def fnExactMeetAlikeWrong : ChangeSpec := { name := "fnExactMeetAlike", fn := fun _ => fun
  | [d1, d2] => { results := [.lit (.bool false)], args := [d1, d2] }
  | _ => none }
def FnExactMeetAlikeWrongFalsely : Prop := fnExactMeetAlikeRow.holds Try.pinned (OpenSpec.ofChange fnExactMeetAlikeWrong)

/- THE SECOND FORM. 'bulk': how many values and letters a reading holds, each counted each time it is reached (what is shared counts as often as it is met; a slice's spare places count too). A statement '..UptoSaid' is the law's where the arguments, and the package variables that the reading takes, are together of bulk at most 1048576: NARROWER than '..Said'. Prove '..Said' where nothing that the law and all that it calls make is longer than what came in: it says more and counts as full. Else prove '..UptoSaid'. A law counts once. -/
mutual
def uptoBulk {H : Type} : DataW H → Nat
  | .lit (.string bytes) => bytes.length + 1
  | .lit _ => 1
  | .nil => 1
  | .ptr d => uptoBulk d + 1
  | .slice elems spare => uptoBulkAll elems + uptoBulkAll spare + 1
  | .agg parts => uptoBulkAll parts + 1
  | .iface _ d => uptoBulk d + 1
  | .map entries => uptoBulkEntries entries + 1
  | .held _ => 1
def uptoBulkAll {H : Type} : List (DataW H) → Nat
  | [] => 0
  | d :: r => uptoBulk d + uptoBulkAll r
def uptoBulkEntries {H : Type} : List (Lit × DataW H) → Nat
  | [] => 0
  | x :: r => uptoBulkEntry x + uptoBulkEntries r
def uptoBulkEntry {H : Type} : Lit × DataW H → Nat
  | (.string bytes, d) => bytes.length + uptoBulk d + 1
  | (_, d) => uptoBulk d + 1
 end
def uptoSmall : (H : Type) → List (DataW H) → Bool := fun _ ds => decide (uptoBulkAll ds ≤ 1048576)
def OpenSpec.upto (s : _root_.Go.ChangeSpec) : _root_.Go.OpenSpec := { _root_.Go.OpenSpec.ofChange s with cond := some uptoSmall }

/-- 'laws.FnExactIsPicture', WHERE WHAT IT READS IS OF BULK AT MOST 1048576: true; the input reads as it did. -/
def fnExactIsPictureUptoRow : OpenClaim := { program := "ytcjomhjgjdjigaa", sum := "78748a975c5db6aece17a674b5d2d17dfdcf49a5157006d72ecdbea9c0427d1c", func := "loop.example/g01220/laws.FnExactIsPicture", spec := "fnExactIsPicture", apart := false, narrowed := true }
def FnExactIsPictureUptoSaid : Prop := fnExactIsPictureUptoRow.holds Try.pinned (OpenSpec.upto fnExactIsPictureSpec)

/-- 'laws.FnExactIsPrint', WHERE WHAT IT READS IS OF BULK AT MOST 1048576: true; the input reads as it did. -/
def fnExactIsPrintUptoRow : OpenClaim := { program := "ytcjomhjgjdjigaa", sum := "78748a975c5db6aece17a674b5d2d17dfdcf49a5157006d72ecdbea9c0427d1c", func := "loop.example/g01220/laws.FnExactIsPrint", spec := "fnExactIsPrint", apart := false, narrowed := true }
def FnExactIsPrintUptoSaid : Prop := fnExactIsPrintUptoRow.holds Try.pinned (OpenSpec.upto fnExactIsPrintSpec)

/-- 'laws.FnExactPictureOf', WHERE WHAT IT READS IS OF BULK AT MOST 1048576: true; the input reads as it did. -/
def fnExactPictureOfUptoRow : OpenClaim := { program := "ytcjomhjgjdjigaa", sum := "78748a975c5db6aece17a674b5d2d17dfdcf49a5157006d72ecdbea9c0427d1c", func := "loop.example/g01220/laws.FnExactPictureOf", spec := "fnExactPictureOf", apart := false, narrowed := true }
def FnExactPictureOfUptoSaid : Prop := fnExactPictureOfUptoRow.holds Try.pinned (OpenSpec.upto fnExactPictureOfSpec)

/-- 'laws.FnExactInkSheet', WHERE WHAT IT READS IS OF BULK AT MOST 1048576: true; the input reads as it did. -/
def fnExactInkSheetUptoRow : OpenClaim := { program := "ytcjomhjgjdjigaa", sum := "78748a975c5db6aece17a674b5d2d17dfdcf49a5157006d72ecdbea9c0427d1c", func := "loop.example/g01220/laws.FnExactInkSheet", spec := "fnExactInkSheet", apart := false, narrowed := true }
def FnExactInkSheetUptoSaid : Prop := fnExactInkSheetUptoRow.holds Try.pinned (OpenSpec.upto fnExactInkSheetSpec)

/-- 'laws.FnExactHiddenPrints', WHERE WHAT IT READS IS OF BULK AT MOST 1048576: true; the input reads as it did. -/
def fnExactHiddenPrintsUptoRow : OpenClaim := { program := "ytcjomhjgjdjigaa", sum := "78748a975c5db6aece17a674b5d2d17dfdcf49a5157006d72ecdbea9c0427d1c", func := "loop.example/g01220/laws.FnExactHiddenPrints", spec := "fnExactHiddenPrints", unfollowed := true, recurses := true, apart := false, narrowed := true }
def FnExactHiddenPrintsUptoSaid : Prop := fnExactHiddenPrintsUptoRow.holds Try.pinned (OpenSpec.upto fnExactHiddenPrintsSpec)

/-- 'laws.FnExactWholePrints', WHERE WHAT IT READS IS OF BULK AT MOST 1048576: true; the input reads as it did. -/
def fnExactWholePrintsUptoRow : OpenClaim := { program := "ytcjomhjgjdjigaa", sum := "78748a975c5db6aece17a674b5d2d17dfdcf49a5157006d72ecdbea9c0427d1c", func := "loop.example/g01220/laws.FnExactWholePrints", spec := "fnExactWholePrints", unfollowed := true, recurses := true, apart := false, narrowed := true }
def FnExactWholePrintsUptoSaid : Prop := fnExactWholePrintsUptoRow.holds Try.pinned (OpenSpec.upto fnExactWholePrintsSpec)

/-- 'laws.FnExactIsRightOrder', WHERE WHAT IT READS IS OF BULK AT MOST 1048576: true; the input reads as it did. -/
def fnExactIsRightOrderUptoRow : OpenClaim := { program := "ytcjomhjgjdjigaa", sum := "78748a975c5db6aece17a674b5d2d17dfdcf49a5157006d72ecdbea9c0427d1c", func := "loop.example/g01220/laws.FnExactIsRightOrder", spec := "fnExactIsRightOrder", unfollowed := true, recurses := true, apart := false, narrowed := true }
def FnExactIsRightOrderUptoSaid : Prop := fnExactIsRightOrderUptoRow.holds Try.pinned (OpenSpec.upto fnExactIsRightOrderSpec)

/-- 'laws.FnExactFirstOrder', WHERE WHAT IT READS IS OF BULK AT MOST 1048576: true; the input reads as it did. -/
def fnExactFirstOrderUptoRow : OpenClaim := { program := "ytcjomhjgjdjigaa", sum := "78748a975c5db6aece17a674b5d2d17dfdcf49a5157006d72ecdbea9c0427d1c", func := "loop.example/g01220/laws.FnExactFirstOrder", spec := "fnExactFirstOrder", unfollowed := true, recurses := true, apart := false, narrowed := true }
def FnExactFirstOrderUptoSaid : Prop := fnExactFirstOrderUptoRow.holds Try.pinned (OpenSpec.upto fnExactFirstOrderSpec)

/-- 'laws.FnExactCountOrders', WHERE WHAT IT READS IS OF BULK AT MOST 1048576: true; the input reads as it did. -/
def fnExactCountOrdersUptoRow : OpenClaim := { program := "ytcjomhjgjdjigaa", sum := "78748a975c5db6aece17a674b5d2d17dfdcf49a5157006d72ecdbea9c0427d1c", func := "loop.example/g01220/laws.FnExactCountOrders", spec := "fnExactCountOrders", unfollowed := true, recurses := true, apart := false, narrowed := true }
def FnExactCountOrdersUptoSaid : Prop := fnExactCountOrdersUptoRow.holds Try.pinned (OpenSpec.upto fnExactCountOrdersSpec)

/-- 'laws.FnExactLastPrints', WHERE WHAT IT READS IS OF BULK AT MOST 1048576: true; the input reads as it did. -/
def fnExactLastPrintsUptoRow : OpenClaim := { program := "ytcjomhjgjdjigaa", sum := "78748a975c5db6aece17a674b5d2d17dfdcf49a5157006d72ecdbea9c0427d1c", func := "loop.example/g01220/laws.FnExactLastPrints", spec := "fnExactLastPrints", apart := false, narrowed := true }
def FnExactLastPrintsUptoSaid : Prop := fnExactLastPrintsUptoRow.holds Try.pinned (OpenSpec.upto fnExactLastPrintsSpec)

/-- 'laws.FnExactOverlaps', WHERE WHAT IT READS IS OF BULK AT MOST 1048576: true; the input reads as it did. -/
def fnExactOverlapsUptoRow : OpenClaim := { program := "ytcjomhjgjdjigaa", sum := "78748a975c5db6aece17a674b5d2d17dfdcf49a5157006d72ecdbea9c0427d1c", func := "loop.example/g01220/laws.FnExactOverlaps", spec := "fnExactOverlaps", apart := false, narrowed := true }
def FnExactOverlapsUptoSaid : Prop := fnExactOverlapsUptoRow.holds Try.pinned (OpenSpec.upto fnExactOverlapsSpec)

/-- 'laws.FnExactFewestPrints', WHERE WHAT IT READS IS OF BULK AT MOST 1048576: true; the input reads as it did. -/
def fnExactFewestPrintsUptoRow : OpenClaim := { program := "ytcjomhjgjdjigaa", sum := "78748a975c5db6aece17a674b5d2d17dfdcf49a5157006d72ecdbea9c0427d1c", func := "loop.example/g01220/laws.FnExactFewestPrints", spec := "fnExactFewestPrints", apart := false, narrowed := true }
def FnExactFewestPrintsUptoSaid : Prop := fnExactFewestPrintsUptoRow.holds Try.pinned (OpenSpec.upto fnExactFewestPrintsSpec)

/-- 'laws.FnExactSwapPrints', WHERE WHAT IT READS IS OF BULK AT MOST 1048576: true; the input reads as it did. -/
def fnExactSwapPrintsUptoRow : OpenClaim := { program := "ytcjomhjgjdjigaa", sum := "78748a975c5db6aece17a674b5d2d17dfdcf49a5157006d72ecdbea9c0427d1c", func := "loop.example/g01220/laws.FnExactSwapPrints", spec := "fnExactSwapPrints", unfollowed := true, recurses := true, apart := false, narrowed := true }
def FnExactSwapPrintsUptoSaid : Prop := fnExactSwapPrintsUptoRow.holds Try.pinned (OpenSpec.upto fnExactSwapPrintsSpec)

/-- 'laws.FnExactPictureText', WHERE WHAT IT READS IS OF BULK AT MOST 1048576: true; the input reads as it did. -/
def fnExactPictureTextUptoRow : OpenClaim := { program := "ytcjomhjgjdjigaa", sum := "78748a975c5db6aece17a674b5d2d17dfdcf49a5157006d72ecdbea9c0427d1c", func := "loop.example/g01220/laws.FnExactPictureText", spec := "fnExactPictureText", inPlace := ["internal/abi.NoEscape", "internal/bytealg.MakeNoZero"], apart := false, narrowed := true }
def FnExactPictureTextUptoSaid : Prop := fnExactPictureTextUptoRow.holds Try.pinned (OpenSpec.upto fnExactPictureTextSpec)

/-- 'laws.FnExactMeetAlike', WHERE WHAT IT READS IS OF BULK AT MOST 1048576: true; the input reads as it did. -/
def fnExactMeetAlikeUptoRow : OpenClaim := { program := "ytcjomhjgjdjigaa", sum := "78748a975c5db6aece17a674b5d2d17dfdcf49a5157006d72ecdbea9c0427d1c", func := "loop.example/g01220/laws.FnExactMeetAlike", spec := "fnExactMeetAlike", apart := false, narrowed := true }
def FnExactMeetAlikeUptoSaid : Prop := fnExactMeetAlikeUptoRow.holds Try.pinned (OpenSpec.upto fnExactMeetAlikeSpec)

end Rows
end Go.Proofs.Ytcjomhjgjdjigaa
