/-
  PROVED HERE: for every list of prints the law FnExactFewestPrints returns true and leaves its arguments as they were. No condition.
  The frame around the walk is laid by a small program of the prover's own, after the guide's template.
-/
import Derived.Test.YtcjomhjgjdjigaaRows
import Derived.WalkKit
import Derived.ProofKit
import Derived.OpenShut
import Derived.ShutString
import Derived.ChangeOld
import Derived.Below
import Derived.Lib.Hide
import Derived.WalkSpells
import Derived.Test.YtcjomhjgjdjigaaShp
import Derived.Test.YtcjomhjgjdjigaaHd
import Derived.Test.YtcjomhjgjdjigaaLf9
namespace Go.Proofs.Ytcjomhjgjdjigaa.fnExactFewestPrints
open Go.ChangeShapes Go.WideShapes Go.ChangeAt Go.RowKit
open Go.ChangeMaps (open_string shut_string)
set_option linter.unusedVariables false
theorem own : ownKnob Try.prog.godebug = none := by kernel_rfl
theorem laidOut : laidOutB Try.prog = true := by kernel_rfl
theorem walk (w : World) (a0 : Option Addr) (cap0 : Nat) (z0 : List Pn) (m0 : z0.length ≤ maxLen) (w0 : IsPrints w a0 z0) (f0 : ∀ p ∈ z0, (Lit.int .i64 p.x).wf = true ∧ (Lit.int .i64 p.y).wf = true)  :
    Calls Try.prog 14 #[.slice a0 z0.length cap0] w fun e w' => e = .returned (.bool true) ∧ Below w.heap.size w w' := by
  exact few_law z0 a0 cap0 m0 f0 w w0
set_option maxRecDepth 100000 in
theorem lifted (os : Os) (started : os.Started) (H : Type) (enc : TypeId × Value → H) :
    ReturnsInHanded {} Try.checked os 14 .any (Rows.fnExactFewestPrintsSpec.pre6 enc Try.prog Try.f14 Rows.fnExactFewestPrintsRow.domain false) (Rows.fnExactFewestPrintsSpec.post enc Try.prog Try.f14 false true false false) := by
  refine returnsInHanded_of_change (C := Try.checked) own started (by kernel_rfl) Try.func14
    (ChangeSpec.witness6 (enc := enc) (C := Try.checked) false ⟨#[], #[.slice none 0 0], []⟩ 8 (by kernel_rfl) (by kernel_rfl) (by kernel_rfl) (by kernel_rfl)) ?_
  intro W base args ds gs before hval0 hW hcnd _
  have hval : ∀ (j : Nat) t v, Try.f14.params[j]? = some t → args[j]? = some v → Value.okWide Try.prog W .any base t v := hval0
  have hW' := hW
  obtain ⟨p, q, hA0, hV, rfl, hfz, hnd⟩ := hW
  have hA : DataW.TrodAll enc Try.prog W 0 (fun _ => true) true Try.f14.params.toList args.toList ds p := hA0
  rw [Try.params14] at hA hval
  obtain ⟨v0, vs0, d0, ds0, p0, q0, hargs, rfl, rfl, h0, r0⟩ := trodAll_cons hA
  obtain ⟨rfl, rfl, rfl⟩ := trodAll_nil r0
  obtain rfl : args = #[v0] := by cases args; simp_all
  obtain ⟨rfl, rfl⟩ := trodVars_none hV
  have k0 := h0
  have lt0 : ∀ x ∈ p0, x.block < W.heap.size := by obtain ⟨m, hm⟩ := k0; exact DataW.trod_lt m _ _ _ hm
  obtain ⟨a0, len0, cap0, rfl⟩ := okWide_slice Try.underlying41 (hval 0 41 v0 rfl rfl)
  obtain ⟨z0, e0, m0, w0, f0⟩ : ∃ z : List Pn, z.length = len0 ∧ len0 ≤ maxLen ∧ IsPrints W a0 z ∧ ∀ p ∈ z, (Lit.int .i64 p.x).wf = true ∧ (Lit.int .i64 p.y).wf = true := by
    obtain ⟨fuel, hf⟩ := h0
    exact open_prints Try.underlying41 Try.underlying34 (by kernel_rfl) rfl rfl rfl Try.underlying3 (by kernel_rfl) Try.underlying31 (by kernel_rfl) rfl Try.underlying22 (by kernel_rfl) Try.underlying32 (by kernel_rfl) Try.underlying3 (by kernel_rfl) hf
  subst e0
  clear hA0 hval0
  refine (walk W a0 cap0 z0 m0 w0 f0 ).mono fun e W' ⟨he, bel⟩ => ?_
  subst he
  exact ⟨_, rfl, _, _, _, [], _, [], hW', trodAll_mk1 (shut_bool Try.underlying4 _), (trodAll_cons_mk (Below.trod laidOut (by kernel_rfl) (of_decide_eq_true (by kernel_rfl)) k0 bel lt0) (trodAll_mk0)), rfl, bel.frame _, fun h => by cases h⟩
theorem closed : joinedFacts Try.prog 14 Try.f14 Rows.fnExactFewestPrintsSpec Rows.fnExactFewestPrintsRow = true := by
  unfold joinedFacts
  rw [head_enter, head_final, head_make]
  kernel_rfl
theorem over : Rows.fnExactFewestPrintsRow.holds Try.pinned (OpenSpec.ofChange Rows.fnExactFewestPrintsSpec) :=
  OpenClaim.holds_of_wide 14 Try.f14 rfl rfl rfl rfl rfl rfl rfl ⟨rfl, rfl, rfl, rfl, rfl⟩ rfl rfl rfl rfl rfl (by kernel_rfl) Try.func14 closed
    (of_decide_eq_true (by kernel_rfl)) (by unfold Func.isWrapper; first | (rw [if_pos (by decide +kernel)]; kernel_rfl) | (rw [if_neg (by decide +kernel)]; exact ⟨rfl, rfl⟩))
    (fun os started H enc _ => lifted os started H enc)
theorem proved : Rows.FnExactFewestPrintsSaid := over
#print axioms proved
end Go.Proofs.Ytcjomhjgjdjigaa.fnExactFewestPrints
