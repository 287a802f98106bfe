/- CONTRACTS: SheetAt and EndOf, of the model and of the code. -/
import Derived.Test.YtnkjamdpafpcpaaPj11
import Derived.Test.YtnkjamdpafpcpaaPg11
import Derived.WalkKit
import Derived.ProofKit
import Derived.OpenShut
import Derived.Lib.Hide
import Derived.WalkSpells
import Derived.Below
import Derived.BigQuiet
import Derived.LoopN
namespace Go.Proofs.Ytnkjamdpafpcpaa
open Go.ChangeShapes Go.WideShapes Go.ChangeAt Go.RowKit
set_option linter.unusedVariables false
abbrev pv11 (m0 m1 m2 m3 m4 m5 : Int) (g1 n1 c1 g2 n2 c2 : Nat) : Value := .agg #[.int .i64 m0, .int .i64 m1, .int .i64 m2, .int .i64 m3, .int .i64 m4, .int .i64 m5, .slice (some ⟨g1, 0, none⟩) n1 c1, .slice (some ⟨g2, 0, none⟩) n2 c2]
theorem wfs_of {n : Nat} {st : List S11} (h : ∀ p ∈ st, okS n p = true) : ∀ p ∈ st, (Lit.int .i64 p.x).wf = true ∧ (Lit.int .i64 p.y).wf = true := by
  intro p hp
  obtain ⟨_, _, s, x, y, _, e2, e3, _, hx, hy⟩ := okS_get (h p hp)
  rw [e2, e3]
  exact ⟨WalkArith.wf_i64 (by omega), WalkArith.wf_i64 (by omega)⟩
end Go.Proofs.Ytnkjamdpafpcpaa
