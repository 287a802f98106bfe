/- THE PAIRS: OtherOf. -/
import Derived.Test.YtgbcgepkkgodpaaPb
import Derived.Test.YtgbcgepkkgodpaaSf
import Derived.WalkKit
import Derived.ProofKit
import Derived.OpenShut
import Derived.Lib.Hide
import Derived.WalkSpells
import Derived.Below
import Derived.BigQuiet
import Derived.LoopN
namespace Go.Proofs.Ytgbcgepkkgodpaa
open Go.ChangeShapes Go.WideShapes Go.ChangeAt Go.RowKit
set_option linter.unusedVariables false
theorem not_fin : ∀ r : Fin 64, wrap64 (63 - ((r.val : Nat) : Int)) = bits .andNot .i64 63 ((r.val : Nat) : Int) := by decide +kernel
theorem not_eq {r : Int} (h : 0 ≤ r ∧ r ≤ 63) : wrap64 (63 - r) = bits .andNot .i64 63 r := by
  obtain ⟨n, rfl⟩ := Int.eq_ofNat_of_zero_le h.1
  exact not_fin ⟨n, by omega⟩
theorem other_pair (a0 a1 a2 a3 a4 a5 : Int) : ∃ (r0 r1 r2 r3 r4 r5 : Int) (t : Bool), (∀ w, Calls Try.prog 47 #[.agg #[.int .i64 a0, .int .i64 a1, .int .i64 a2, .int .i64 a3, .int .i64 a4, .int .i64 a5]] w fun e w' => e = .returned (.tuple #[.agg #[.int .i64 r0, .int .i64 r1, .int .i64 r2, .int .i64 r3, .int .i64 r4, .int .i64 r5], .bool t]) ∧ Below w.heap.size w w') ∧ (∀ w, Calls Try.prog 48 #[.agg #[.int .i64 a0, .int .i64 a1, .int .i64 a2, .int .i64 a3, .int .i64 a4, .int .i64 a5]] w fun e w' => e = .returned (.tuple #[.agg #[.int .i64 r0, .int .i64 r1, .int .i64 r2, .int .i64 r3, .int .i64 r4, .int .i64 r5], .bool t]) ∧ Below w.heap.size w w') := by
  cases hv : (ok a0 && ok a1 && ok a2 && ok a3 && ok a4 && ok a5)
  · exact ⟨0, 0, 0, 0, 0, 0, false, fun w => sother_no0 a0 a1 a2 a3 a4 a5 (sh_as a0 a1 a2 a3 a4 a5 hv) w, fun w => iother_no0 a0 a1 a2 a3 a4 a5 (sh_ai a0 a1 a2 a3 a4 a5 hv) w⟩
  · obtain ⟨h0, h1, h2, h3, h4, h5⟩ := ok_all a0 a1 a2 a3 a4 a5 hv
    have hs := Lib.hid (l2not_any a0 a1 a2 a3 a4 a5)
    rw [not_eq h0, not_eq h1, not_eq h2, not_eq h3, not_eq h4, not_eq h5] at hs
    exact ⟨_, _, _, _, _, _, true, fun w => sother_yes a0 a1 a2 a3 a4 a5 _ _ _ _ _ _ (sh_as a0 a1 a2 a3 a4 a5 hv) hs w, fun w => iother_yes a0 a1 a2 a3 a4 a5 _ _ _ _ _ _ (sh_ai a0 a1 a2 a3 a4 a5 hv) (Lib.hid (without_any 63 63 63 63 63 63 a0 a1 a2 a3 a4 a5)) w⟩
end Go.Proofs.Ytgbcgepkkgodpaa
