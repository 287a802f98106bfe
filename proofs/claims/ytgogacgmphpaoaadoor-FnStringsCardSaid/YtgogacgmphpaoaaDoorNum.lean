/- PLAIN LEMMAS AND CONTRACTS: the model's decimal numeral (l1Num) is strconv's. -/
import Derived.Test.YtgogacgmphpaoaaDoorRows
import Derived.WalkKit
import Derived.ProofKit
import Derived.OpenShut
import Derived.ShutString
import Derived.Lib.Hide
import Derived.Deep.QuietTactic
import Derived.BigQuiet
import Derived.WalkSpells
import Derived.Lib.ItoaLen
namespace Go.Proofs.YtgogacgmphpaoaaDoor
open Go.ChangeShapes Go.WideShapes Go.ChangeAt Go.RowKit
set_option linter.unusedVariables false
theorem ret_str {a b : ByteArray} (h : a = b) : Ending.returned (.string a) = .returned (.string b) := by rw [h]
theorem digit_at (d : Nat) (h : d < 10) : (⟨#[48, 49, 50, 51, 52, 53, 54, 55, 56, 57]⟩ : ByteArray).extract d (d + 1) = ⟨#[UInt8.ofNat (48 + d)]⟩ := by
  have : d = 0 ∨ d = 1 ∨ d = 2 ∨ d = 3 ∨ d = 4 ∨ d = 5 ∨ d = 6 ∨ d = 7 ∨ d = 8 ∨ d = 9 := by omega
  rcases this with rfl | rfl | rfl | rfl | rfl | rfl | rfl | rfl | rfl | rfl <;> rfl
theorem dec_small (u : Nat) (h : u < 10) : Lib.decDigits u = [UInt8.ofNat (48 + u)] := by rw [Lib.decDigits, dif_pos h]
theorem dec_big (u : Nat) (h : ¬ u < 10) : Lib.decDigits u = Lib.decDigits (u / 10) ++ [UInt8.ofNat (48 + u % 10)] := by rw [Lib.decDigits, dif_neg h]
set_option maxHeartbeats 400000 in
theorem num_small (u : Nat) (h : u < 10) (w : World) :
    Calls Tryd.prog 25 #[.int .i64 (u : Int)] w fun e w' => e = .returned (.string ⟨(Lib.decDigits u).toArray⟩) ∧ w = w' := by
  go_enter Tryd.func25, Tryd.ntmps25
  go_wp2_with fail
  go_ret
  exact ⟨ret_str (by rw [dec_small u h]; exact digit_at u h), rfl⟩
set_option maxHeartbeats 400000 in
theorem num_nat (k : Nat) : ∀ (u : Nat) (w : World), u < 10 ^ (k + 1) → k ≤ 7 →
    Calls Tryd.prog 25 #[.int .i64 (u : Int)] w fun e w' => e = .returned (.string ⟨(Lib.decDigits u).toArray⟩) ∧ ∃ n, w' = w.drewN n := by
  induction k with
  | zero => intro u w hu _; exact (num_small u (by omega) w).mono fun _ _ ⟨a, b⟩ => ⟨a, 0, by rw [← b, World.drewN_zero]⟩
  | succ k ih =>
    intro u w hu hk
    have hu18 : u < 1000000000 := by
      have : 10 ^ (k + 1 + 1) ≤ 10 ^ 9 := Nat.pow_le_pow_right (by decide) (by omega)
      omega
    have hq : u / 10 < 10 ^ (k + 1) := by rw [Nat.pow_succ] at hu; omega
    clear hu
    by_cases h : u < 10
    · exact (num_small u (by omega) w).mono fun _ _ ⟨a, b⟩ => ⟨a, 0, by rw [← b, World.drewN_zero]⟩
    · have hr0 : 0 ≤ (u : Int) % 10 := by omega
      have hr1 : (u : Int) % 10 ≤ 9 := by omega
      have hw1 : IntKind.i64.wrap ((u : Int) % 10 + 1) = (u : Int) % 10 + 1 := IntWalk.i64_in _ (by omega)
      have ht : ((u : Int) % 10).toNat = u % 10 := by omega
      have hcall := Lib.hid (fun n => ih (u / 10) (w.drewN n) hq (by omega))
      have hu18' : (u : Int) ≤ 1000000000 := by omega
      clear ih hq
      have hl20 : (Lib.decDigits (u / 10)).length ≤ 20 := by rw [Lib.decDigits_length]; exact Lib.nDigits_le20 _ (by omega)
      have hmn : min (u % 10 + 1) 10 - u % 10 ≤ 1 := by omega
      clear hu18
      go_enter Tryd.func25, Tryd.ntmps25
      go_wp2_with fail
      go_quiet ((go_at_call 25; exact Calls.quiet_of (hcall.out _)))
      go_wp2_with fail
      go_ret
      refine ⟨ret_str ?_, _, rfl⟩
      rw [dec_big u h, digit_at (u % 10) (by omega)]
      rfl
theorem mk_app (a b : List UInt8) : (⟨a.toArray⟩ : ByteArray) ++ ⟨b.toArray⟩ = ⟨(a ++ b).toArray⟩ := by
  apply ByteArray.ext; simp [ByteArray.data_append]
theorem dec_len (u : Nat) (h : u < 1000000000000) : (Lib.decDigits u).length ≤ 20 := by rw [Lib.decDigits_length]; exact Lib.nDigits_le20 _ (by omega)
set_option maxHeartbeats 400000 in
theorem num_neg1 (u : Nat) (h1 : 1 ≤ u) (h : u < 10) (w : World) :
    Calls Tryd.prog 25 #[.int .i64 (-(u : Int))] w fun e w' => e = .returned (.string ⟨(45 :: Lib.decDigits u).toArray⟩) ∧ w = w' := by
  have hl := dec_len u (by omega)
  go_enter Tryd.func25, Tryd.ntmps25
  go_wp2_with (go_at_call 25; refine (num_small u h _).mono ?_; rintro e w' ⟨rfl, rfl⟩)
  go_ret
  exact ⟨ret_str (mk_app [45] _), rfl⟩
set_option maxHeartbeats 400000 in
theorem num_neg (k : Nat) : ∀ (u : Nat) (w : World), 1 ≤ u → u < 10 ^ (k + 1) → k ≤ 7 →
    Calls Tryd.prog 25 #[.int .i64 (-(u : Int))] w fun e w' => e = .returned (.string ⟨(45 :: Lib.decDigits u).toArray⟩) ∧ w = w' := by
  induction k with
  | zero => intro u w h1 hu _; exact num_neg1 u h1 (by omega) w
  | succ k ih =>
    intro u w h1 hu hk
    have hu18 : u < 1000000000 := by
      have : 10 ^ (k + 1 + 1) ≤ 10 ^ 9 := Nat.pow_le_pow_right (by decide) (by omega)
      omega
    have hq : u / 10 < 10 ^ (k + 1) := by rw [Nat.pow_succ] at hu; omega
    clear hu
    by_cases h : u < 10
    · exact num_neg1 u h1 (by omega) w
    · have hcall := Lib.hid (fun w => ih (u / 10) w (by omega) hq (by omega))
      have hsm := Lib.hid (fun w => num_small (u % 10) (by omega) w)
      have e1 : ((u / 10 : Nat) : Int) = (u : Int) / 10 := by omega
      have e2 : ((u % 10 : Nat) : Int) = (u : Int) % 10 := by omega
      rw [e1] at hcall
      rw [e2] at hsm
      have hu18' : (u : Int) ≤ 1000000000 := by omega
      have hl1 := dec_len (u / 10) (by omega)
      have hl2 := dec_len (u % 10) (by omega)
      clear ih hq hu18 e1 e2
      go_enter Tryd.func25, Tryd.ntmps25
      go_wp2_with fail
      refine (hcall.out _).mono ?_
      rintro e w' ⟨rfl, rfl⟩
      go_wp2_with fail
      refine (hsm.out _).mono ?_
      rintro e w' ⟨rfl, rfl⟩
      go_wp2_with fail
      go_ret
      refine ⟨ret_str ?_, rfl⟩
      rw [mk_app, dec_big u h, dec_small (u % 10) (by omega)]
      rfl
end Go.Proofs.YtgogacgmphpaoaaDoor
