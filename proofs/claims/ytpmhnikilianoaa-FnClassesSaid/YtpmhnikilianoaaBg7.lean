/- vBig. -/
import Derived.Test.YtpmhnikilianoaaDv
import Derived.WalkKit
import Derived.ProofKit
import Derived.OpenShut
import Derived.Lib.Hide
import Derived.WalkSpells
import Derived.Below
import Derived.BigQuiet
import Derived.LoopN
namespace Go.Proofs.Ytpmhnikilianoaa
open Go.ChangeShapes Go.WideShapes Go.ChangeAt Go.RowKit
set_option linter.unusedVariables false
theorem big_no (A : Option Addr) (len cap : Nat) (hl : len ≤ 65536) (w : World) : Calls Try.prog 61 #[.slice A len cap] w fun e w' => e = .returned (.bool false) ∧ w' = w := by
  go_enter Try.func61, Try.ntmps61
  go_wp2_with fail
  go_ret
  exact ⟨by simp <;> omega, rfl⟩
theorem big_yes (A : Option Addr) (len cap : Nat) (hl : 65536 < len) (w : World) : Calls Try.prog 61 #[.slice A len cap] w fun e w' => e = .returned (.bool true) ∧ w' = w := by
  go_enter Try.func61, Try.ntmps61
  go_wp2_with fail
  go_ret
  exact ⟨by simp <;> omega, rfl⟩
end Go.Proofs.Ytpmhnikilianoaa
