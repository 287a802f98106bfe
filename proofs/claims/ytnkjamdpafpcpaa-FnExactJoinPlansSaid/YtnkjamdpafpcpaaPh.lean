/- THE PAIR: ShiftSheet. -/
import Derived.Test.YtnkjamdpafpcpaaPb
import Derived.Test.YtnkjamdpafpcpaaWa
import Derived.Test.YtnkjamdpafpcpaaSg
import Derived.Test.YtnkjamdpafpcpaaSh
import Derived.WalkKit
import Derived.ProofKit
import Derived.OpenShut
import Derived.Lib.Hide
import Derived.WalkSpells
import Derived.Below
import Derived.BigQuiet
import Derived.LoopN
namespace Go.Proofs.Ytnkjamdpafpcpaa
open Go.ChangeShapes Go.WideShapes Go.ChangeAt Go.RowKit
set_option linter.unusedVariables false
def rot (r x : Int) : Int := bits .or .i64 (bits .and .i64 (wrap64 (r * 2 ^ x.toNat)) 63) (r / 2 ^ (6 - x).toNat)
theorem rot_fin : ∀ (r : Fin 64) (x : Fin 6), rot ((r.val : Nat) : Int) ((x.val : Nat) : Int) = (fun (r x : Int) => bits .and .i64 (bits .or .i64 (wrap64 (r * 2 ^ x.toNat)) (r / 2 ^ (6 - x).toNat)) 63) ((r.val : Nat) : Int) ((x.val : Nat) : Int) := by decide +kernel
theorem rot_eq {r x : Int} (hr : 0 ≤ r ∧ r ≤ 63) (hx : 0 ≤ x ∧ x ≤ 5) : rot r x = bits .and .i64 (bits .or .i64 (wrap64 (r * 2 ^ x.toNat)) (r / 2 ^ (6 - x).toNat)) 63 := by
  obtain ⟨m, rfl⟩ := Int.eq_ofNat_of_zero_le hr.1
  obtain ⟨n, rfl⟩ := Int.eq_ofNat_of_zero_le hx.1
  exact rot_fin ⟨m, by omega⟩ ⟨n, by omega⟩
theorem shift_both (a0 a1 a2 a3 a4 a5 : Int) (dx dy : Int) (hx : (Lit.int .i64 dx).wf = true) (hy : (Lit.int .i64 dy).wf = true) (hv : (ok a0 && ok a1 && ok a2 && ok a3 && ok a4 && ok a5) = true) : ∃ (r0 r1 r2 r3 r4 r5 : Int),
    (∀ w, Calls Try.prog 209 #[.agg #[.int .i64 a0, .int .i64 a1, .int .i64 a2, .int .i64 a3, .int .i64 a4, .int .i64 a5], .int .i64 dx, .int .i64 dy] w fun e w' => e = .returned (.agg #[.int .i64 r0, .int .i64 r1, .int .i64 r2, .int .i64 r3, .int .i64 r4, .int .i64 r5]) ∧ Below w.heap.size w w') ∧
    (∀ w, Calls Try.prog 212 #[.agg #[.int .i64 a0, .int .i64 a1, .int .i64 a2, .int .i64 a3, .int .i64 a4, .int .i64 a5], .int .i64 dx, .int .i64 dy] w fun e w' => e = .returned (.agg #[.int .i64 r0, .int .i64 r1, .int .i64 r2, .int .i64 r3, .int .i64 r4, .int .i64 r5]) ∧ Below w.heap.size w w') := by
  obtain ⟨h0, h1, h2, h3, h4, h5⟩ := ok_all a0 a1 a2 a3 a4 a5 hv
  obtain ⟨x, ex⟩ : ∃ x, x = dx % 6 := ⟨_, rfl⟩
  obtain ⟨y, ey⟩ : ∃ y, y = dy % 6 := ⟨_, rfl⟩
  have hx' : 0 ≤ x ∧ x ≤ 5 := by omega
  have hy' : 0 ≤ y ∧ y ≤ 5 := by omega
  have HX : ∀ w, Calls Try.prog 192 #[.int .i64 dx] w fun e w' => e = .returned (.int .i64 x) ∧ w' = w := by rw [ex]; exact l2mod_any dx hx
  have HY : ∀ w, Calls Try.prog 192 #[.int .i64 dy] w fun e w' => e = .returned (.int .i64 y) ∧ w' = w := by rw [ey]; exact l2mod_any dy hy
  have HA : ∀ w, Calls Try.prog 217 #[.int .i64 dx, .int .i64 dy] w fun e w' => e = .returned (.agg #[.int .i64 x, .int .i64 y]) ∧ w' = w.alloc (.cells #[.int .i64 x, .int .i64 y] 69) := by rw [ex, ey]; exact around_c dx dy hx hy
  have e0 := rot_eq h0 hx'; have e1 := rot_eq h1 hx'; have e2 := rot_eq h2 hx'; have e3 := rot_eq h3 hx'; have e4 := rot_eq h4 hx'; have e5 := rot_eq h5 hx'
  clear ex ey
  rcases six hy' with rfl | rfl | rfl | rfl | rfl | rfl
  · refine ⟨_, _, _, _, _, _, fun w => l2shift_0 a0 a1 a2 a3 a4 a5 dx dy x hx' (Lib.hid HX) (Lib.hid HY) w, fun w => ?_⟩
    have h := shifted_0 a0 a1 a2 a3 a4 a5 dx dy x hx' (Lib.hid HA) w
    rw [← e0, ← e1, ← e2, ← e3, ← e4, ← e5] at h
    exact h
  · refine ⟨_, _, _, _, _, _, fun w => l2shift_1 a0 a1 a2 a3 a4 a5 dx dy x hx' (Lib.hid HX) (Lib.hid HY) w, fun w => ?_⟩
    have h := shifted_1 a0 a1 a2 a3 a4 a5 dx dy x hx' (Lib.hid HA) w
    rw [← e0, ← e1, ← e2, ← e3, ← e4, ← e5] at h
    exact h
  · refine ⟨_, _, _, _, _, _, fun w => l2shift_2 a0 a1 a2 a3 a4 a5 dx dy x hx' (Lib.hid HX) (Lib.hid HY) w, fun w => ?_⟩
    have h := shifted_2 a0 a1 a2 a3 a4 a5 dx dy x hx' (Lib.hid HA) w
    rw [← e0, ← e1, ← e2, ← e3, ← e4, ← e5] at h
    exact h
  · refine ⟨_, _, _, _, _, _, fun w => l2shift_3 a0 a1 a2 a3 a4 a5 dx dy x hx' (Lib.hid HX) (Lib.hid HY) w, fun w => ?_⟩
    have h := shifted_3 a0 a1 a2 a3 a4 a5 dx dy x hx' (Lib.hid HA) w
    rw [← e0, ← e1, ← e2, ← e3, ← e4, ← e5] at h
    exact h
  · refine ⟨_, _, _, _, _, _, fun w => l2shift_4 a0 a1 a2 a3 a4 a5 dx dy x hx' (Lib.hid HX) (Lib.hid HY) w, fun w => ?_⟩
    have h := shifted_4 a0 a1 a2 a3 a4 a5 dx dy x hx' (Lib.hid HA) w
    rw [← e0, ← e1, ← e2, ← e3, ← e4, ← e5] at h
    exact h
  · refine ⟨_, _, _, _, _, _, fun w => l2shift_5 a0 a1 a2 a3 a4 a5 dx dy x hx' (Lib.hid HX) (Lib.hid HY) w, fun w => ?_⟩
    have h := shifted_5 a0 a1 a2 a3 a4 a5 dx dy x hx' (Lib.hid HA) w
    rw [← e0, ← e1, ← e2, ← e3, ← e4, ← e5] at h
    exact h
end Go.Proofs.Ytnkjamdpafpcpaa
