/-
  PROVED HERE: for every pair of plans the law FnExactJoinPlans returns true and leaves its arguments as they were. No condition.
  The frame around the walk is laid by a small program of the prover's own, after the guide's template.
-/
import Derived.Test.YtnkjamdpafpcpaaRows
import Derived.WalkKit
import Derived.ProofKit
import Derived.OpenShut
import Derived.ShutString
import Derived.ChangeOld
import Derived.Below
import Derived.Lib.Hide
import Derived.WalkSpells
import Derived.Test.YtnkjamdpafpcpaaShp
import Derived.Test.YtnkjamdpafpcpaaHd
import Derived.Test.YtnkjamdpafpcpaaPo11
import Derived.Test.YtnkjamdpafpcpaaLij11
namespace Go.Proofs.Ytnkjamdpafpcpaa.fnExactJoinPlans
open Go.ChangeShapes Go.WideShapes Go.ChangeAt Go.RowKit
open Go.ChangeMaps (open_string shut_string)
set_option linter.unusedVariables false
theorem own : ownKnob Try.prog.godebug = none := by kernel_rfl
theorem laidOut : laidOutB Try.prog = true := by kernel_rfl
theorem walk (w : World) (m00 m01 m02 m03 m04 m05 : Int) (a01 a02 : Option Addr) (c01 c02 : Nat) (z01 : List H11) (z02 : List S11) (l01 : z01.length ≤ maxLen) (l02 : z02.length ≤ maxLen) (i01 : Is11 ch11 6 w a01 z01) (i02 : Is11 cs11 4 w a02 z02) (w0 : ∀ p ∈ z02, (Lit.int .i64 p.x).wf = true ∧ (Lit.int .i64 p.y).wf = true) (m10 m11 m12 m13 m14 m15 : Int) (a11 a12 : Option Addr) (c11 c12 : Nat) (z11 : List H11) (z12 : List S11) (l11 : z11.length ≤ maxLen) (l12 : z12.length ≤ maxLen) (i11 : Is11 ch11 6 w a11 z11) (i12 : Is11 cs11 4 w a12 z12) (w1 : ∀ p ∈ z12, (Lit.int .i64 p.x).wf = true ∧ (Lit.int .i64 p.y).wf = true)  :
    Calls Try.prog 11 #[.agg #[.int .i64 m00, .int .i64 m01, .int .i64 m02, .int .i64 m03, .int .i64 m04, .int .i64 m05, .slice a01 z01.length c01, .slice a02 z02.length c02], .agg #[.int .i64 m10, .int .i64 m11, .int .i64 m12, .int .i64 m13, .int .i64 m14, .int .i64 m15, .slice a11 z11.length c11, .slice a12 z12.length c12]] w fun e w' => e = .returned (.bool true) ∧ Below w.heap.size w w' := by
  exact join_law m00 m01 m02 m03 m04 m05 a01 c01 z01 a02 c02 z02 m10 m11 m12 m13 m14 m15 a11 c11 z11 a12 c12 z12 l01 l02 l11 l12 w0 w1 w i01 i02 i11 i12
set_option maxRecDepth 100000 in
theorem lifted (os : Os) (started : os.Started) (H : Type) (enc : TypeId × Value → H) :
    ReturnsInHanded {} Try.checked os 11 .any (Rows.fnExactJoinPlansSpec.pre6 enc Try.prog Try.f11 Rows.fnExactJoinPlansRow.domain false) (Rows.fnExactJoinPlansSpec.post enc Try.prog Try.f11 false true false false) := by
  refine returnsInHanded_of_change (C := Try.checked) own started (by kernel_rfl) Try.func11
    (ChangeSpec.witness6 (enc := enc) (C := Try.checked) false ⟨#[], #[.agg #[.int .i64 0, .int .i64 0, .int .i64 0, .int .i64 0, .int .i64 0, .int .i64 0, .slice none 0 0, .slice none 0 0], .agg #[.int .i64 0, .int .i64 0, .int .i64 0, .int .i64 0, .int .i64 0, .int .i64 0, .slice none 0 0, .slice none 0 0]], []⟩ 8 (by kernel_rfl) (by kernel_rfl) (by kernel_rfl) (by kernel_rfl)) ?_
  intro W base args ds gs before hval0 hW hcnd _
  have hval : ∀ (j : Nat) t v, Try.f11.params[j]? = some t → args[j]? = some v → Value.okWide Try.prog W .any base t v := hval0
  have hW' := hW
  obtain ⟨p, q, hA0, hV, rfl, hfz, hnd⟩ := hW
  have hA : DataW.TrodAll enc Try.prog W 0 (fun _ => true) true Try.f11.params.toList args.toList ds p := hA0
  rw [Try.params11] at hA hval
  obtain ⟨v0, vs0, d0, ds0, p0, q0, hargs, rfl, rfl, h0, r0⟩ := trodAll_cons hA
  obtain ⟨v1, vs1, d1, ds1, p1, q1, rfl, rfl, rfl, h1, r1⟩ := trodAll_cons r0
  obtain ⟨rfl, rfl, rfl⟩ := trodAll_nil r1
  obtain rfl : args = #[v0, v1] := by cases args; simp_all
  obtain ⟨rfl, rfl⟩ := trodVars_none hV
  have k0 := h0
  have lt0 : ∀ x ∈ p0, x.block < W.heap.size := by obtain ⟨m, hm⟩ := k0; exact DataW.trod_lt m _ _ _ hm
  obtain ⟨m00, m01, m02, m03, m04, m05, a01, a02, c01, c02, z01, z02, rfl, l01, l02, i01, i02, w0⟩ := open_plan11 Try.underlying57 (by kernel_rfl) rfl rfl rfl (by kernel_rfl) (by kernel_rfl) (by kernel_rfl) Try.underlying24 rfl Try.underlying22 (by kernel_rfl) Try.underlying3 (by kernel_rfl) Try.underlying54 Try.underlying24 (by kernel_rfl) Try.underlying55 Try.underlying71 (by kernel_rfl) rfl rfl rfl Try.underlying3 (by kernel_rfl) Try.underlying3 (by kernel_rfl) Try.underlying69 (by kernel_rfl) (hval 0 57 v0 rfl rfl) h0
  have k1 := h1
  have lt1 : ∀ x ∈ p1, x.block < W.heap.size := by obtain ⟨m, hm⟩ := k1; exact DataW.trod_lt m _ _ _ hm
  obtain ⟨m10, m11, m12, m13, m14, m15, a11, a12, c11, c12, z11, z12, rfl, l11, l12, i11, i12, w1⟩ := open_plan11 Try.underlying57 (by kernel_rfl) rfl rfl rfl (by kernel_rfl) (by kernel_rfl) (by kernel_rfl) Try.underlying24 rfl Try.underlying22 (by kernel_rfl) Try.underlying3 (by kernel_rfl) Try.underlying54 Try.underlying24 (by kernel_rfl) Try.underlying55 Try.underlying71 (by kernel_rfl) rfl rfl rfl Try.underlying3 (by kernel_rfl) Try.underlying3 (by kernel_rfl) Try.underlying69 (by kernel_rfl) (hval 1 57 v1 rfl rfl) h1
  clear hA0 hval0
  refine (walk W m00 m01 m02 m03 m04 m05 a01 a02 c01 c02 z01 z02 l01 l02 i01 i02 w0 m10 m11 m12 m13 m14 m15 a11 a12 c11 c12 z11 z12 l11 l12 i11 i12 w1 ).mono fun e W' ⟨he, bel⟩ => ?_
  subst he
  exact ⟨_, rfl, _, _, _, [], _, [], hW', trodAll_mk1 (shut_bool Try.underlying4 _), (trodAll_cons_mk (Below.trod laidOut (by kernel_rfl) (of_decide_eq_true (by kernel_rfl)) k0 bel lt0) (trodAll_cons_mk (Below.trod laidOut (by kernel_rfl) (of_decide_eq_true (by kernel_rfl)) k1 bel lt1) (trodAll_mk0))), rfl, bel.frame _, fun h => by cases h⟩
theorem closed : joinedFacts Try.prog 11 Try.f11 Rows.fnExactJoinPlansSpec Rows.fnExactJoinPlansRow = true := by
  unfold joinedFacts
  rw [head_enter, head_final, head_make]
  kernel_rfl
theorem over : Rows.fnExactJoinPlansRow.holds Try.pinned (OpenSpec.ofChange Rows.fnExactJoinPlansSpec) :=
  OpenClaim.holds_of_wide 11 Try.f11 rfl rfl rfl rfl rfl rfl rfl ⟨rfl, rfl, rfl, rfl, rfl⟩ rfl rfl rfl rfl rfl (by kernel_rfl) Try.func11 closed
    (of_decide_eq_true (by kernel_rfl)) (by unfold Func.isWrapper; first | (rw [if_pos (by decide +kernel)]; kernel_rfl) | (rw [if_neg (by decide +kernel)]; exact ⟨rfl, rfl⟩))
    (fun os started H enc _ => lifted os started H enc)
theorem proved : Rows.FnExactJoinPlansSaid := over
#print axioms proved
end Go.Proofs.Ytnkjamdpafpcpaa.fnExactJoinPlans
