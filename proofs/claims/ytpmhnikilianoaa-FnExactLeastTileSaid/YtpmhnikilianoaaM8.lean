/- CONTRACTS: countShifts of the code, the walk; CountShifts of both. -/
import Derived.Test.YtpmhnikilianoaaM7
import Derived.Test.YtpmhnikilianoaaR7
import Derived.WalkKit
import Derived.ProofKit
import Derived.OpenShut
import Derived.Lib.Hide
import Derived.WalkSpells
import Derived.Below
import Derived.BigQuiet
import Derived.LoopN
namespace Go.Proofs.Ytpmhnikilianoaa
open Go.ChangeShapes Go.WideShapes Go.ChangeAt Go.RowKit
set_option linter.unusedVariables false
open Go.Maps Go.ChangeMaps Go.MapKept
theorem shifted_r (a : Fn6) {r x y : Nat} (hr : r = 6 ∨ r = 1) (hx : x < 6) (hy : y < r) (w : World) : Calls Try.prog 130 #[.agg #[.int .i64 (rowv (a 0)), .int .i64 (rowv (a 1)), .int .i64 (rowv (a 2)), .int .i64 (rowv (a 3)), .int .i64 (rowv (a 4)), .int .i64 (rowv (a 5))], .int .i64 (x : Int), .int .i64 (y : Int)] w fun e w' => e = .returned (kv a r (r * x + y)) ∧ Below w.heap.size w w' := by
  have e1 : (r * x + y) / r = x := by
    rw [Nat.mul_add_div (by omega), Nat.div_eq_of_lt hy, Nat.add_zero]
  have e2 : (r * x + y) % r = y := by
    rw [Nat.mul_add_mod, Nat.mod_eq_of_lt hy]
  unfold kv
  rw [e1, e2]
  exact shifted_v a hx (by omega) w
set_option maxHeartbeats 4000000 in
theorem counts_f (a : Fn6) (r c : Nat) (hr : r = 6 ∨ r = 1) (hc : c = 6 ∨ c = 1) (b n : Nat) (D : DataW Value) (w : World) (hm : w.ownsMap Try.prog 28 RV7 b n D) : Calls Try.prog 125 #[.map (some b), .agg #[.int .i64 (rowv (a 0)), .int .i64 (rowv (a 1)), .int .i64 (rowv (a 2)), .int .i64 (rowv (a 3)), .int .i64 (rowv (a 4)), .int .i64 (rowv (a 5))], .int .i64 (c : Int), .int .i64 (r : Int)] w fun e w' => e = .returned (.int .i64 ((nd (ek a r) (c * r) : Nat) : Int)) ∧ (∃ D2, w'.ownsMap Try.prog 28 RV7 b 36 D2) ∧ w.grownBy w' (some b) := by
  have hm1 := hm.alloc (.cells #[.int .i64 (rowv (a 0)), .int .i64 (rowv (a 1)), .int .i64 (rowv (a 2)), .int .i64 (rowv (a 3)), .int .i64 (rowv (a 4)), .int .i64 (rowv (a 5))] 28)
  have hlt := hm.lt
  obtain ⟨w1, hclr0, hm2, ht⟩ := clear_own hm1 0
  have hclr : ∀ ty, (Builtin.clear_ #[118] ty #[.map (some b)]).run Try.prog (w.alloc (.cells #[.int .i64 (rowv (a 0)), .int .i64 (rowv (a 1)), .int .i64 (rowv (a 2)), .int .i64 (rowv (a 3)), .int .i64 (rowv (a 4)), .int .i64 (rowv (a 5))] 28)) = .ok (.tuple #[]) w1 := fun _ => hclr0
  have S0 : Hid (Sm7 w a r b 0 w1) := by
    have hg := ht.grown
    refine Lib.hid ⟨?_, hlt, ?_, ?_, .map [], 0, Nat.le_refl _, hm2, Mk7.start a r⟩
    · rw [hg.block _ (by simp) (by simp; omega)]
      exact alloc_at rfl
    · have := hg.size
      simp at this
      omega
    · exact gtr (World.grownBy_alloc w _ _) hg
  have HR := Lib.hid hr
  have HC := Lib.hid hc
  have hr6 : r ≤ 6 := by omega
  have hc6 : c ≤ 6 := by omega
  have hr1 : 1 ≤ r := by omega
  clear hclr0 hm2 ht hm1 hm hr hc
  go_enter Try.func125, Try.ntmps125
  go_wp2_with fail
  clear hclr
  go_loopw [13] (fun v wr => ∃ x : Nat, x ≤ c ∧ v = .int .i64 x ∧ Hid (Sm7 w a r b (r * x) wr)) (fun v _ => c - (intOf v).toNat)
  case atStart => exact ⟨0, by omega, rfl, S0⟩
  case round =>
    obtain ⟨x, hx, rfl, HX⟩ := hrel
    by_cases hlx : x < c
    · have hlx' : (x : Int) < c := by omega
      have hlx2 : decide ((x : Int) < (c : Int)) = true := decide_eq_true hlx'
      go_wp2_with fail
      try rw [hlx2]
      clear hlx2
      go_loopw [17] (fun v wr => ∃ y : Nat, y ≤ r ∧ v = .int .i64 y ∧ Hid (Sm7 w a r b (r * x + y) wr)) (fun v _ => r - (intOf v).toNat)
      case atStart => exact ⟨0, by omega, rfl, HX⟩
      case round =>
        obtain ⟨y, hy, rfl, HY⟩ := hrel
        by_cases hly : y < r
        · have hly' : (y : Int) < r := by omega
          have h36 : r * x + y < 100 := by
            have := Nat.mul_le_mul hr6 (show x ≤ 5 by omega)
            omega
          have HF := Lib.hid (shifted_r a HR.out (show x < 6 by omega) hly)
          have HP := Lib.hid (fun (W : World) (h : Sm7 w a r b (r * x + y) W) => h.upd h36)
          have s_c := fun j => cell_of_row wr _ j _ _ _ HY.out.1
          go_wp2_with fail
          refine (HF.out _).mono ?_
          rintro e W1 ⟨rfl, hb⟩
          obtain ⟨w2, hrun, h2⟩ := HP.out _ (HY.out.below hb rfl)
          have H2 := Lib.hid h2
          clear h2 hb HY s_c HP HF
          go_wp2_with fail
          clear hrun
          go_roundw
          case rel => exact ⟨y + 1, by omega, by go_num, H2⟩
          case measure => simp [intOf]; omega
        · obtain rfl : y = r := by omega
          go_wp2_with fail
          go_roundw
          case rel => exact ⟨x + 1, by omega, by go_num, HY⟩
          case measure => simp [intOf]; omega
    · obtain rfl : x = c := by omega
      obtain ⟨_, _, _, h4, D2, n2, hn2, h5, h6⟩ := HX.out
      have hlen := fun ty => h5.len map_u ty
      have h7 := h6.2.1
      rw [Nat.mul_comm r x] at h7
      rw [h7] at hlen
      have hn36 : r * x ≤ 36 := Nat.mul_le_mul hr6 hc6
      have H5 := Lib.hid (h5.mono (show n2 ≤ 36 by omega))
      have H4 := Lib.hid h4
      clear h4 h5 h6 h7 HX
      go_wp2_with fail
      go_ret
      exact ⟨rfl, ⟨D2, H5.out⟩, H4.out⟩
end Go.Proofs.Ytpmhnikilianoaa
