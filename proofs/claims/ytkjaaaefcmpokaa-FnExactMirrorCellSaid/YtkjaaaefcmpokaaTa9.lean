/- PLAIN LEMMAS: tallies of cells behind presses; powers; fractions. -/
import Derived.Test.YtkjaaaefcmpokaaSa
import Derived.WalkKit
import Derived.ProofKit
import Derived.OpenShut
import Derived.Lib.Hide
import Derived.WalkSpells
import Derived.Below
import Derived.BigQuiet
import Derived.LoopN
namespace Go.Proofs.Ytkjaaaefcmpokaa
open Go.ChangeShapes Go.WideShapes Go.ChangeAt Go.RowKit
set_option linter.unusedVariables false
def tk9 (k h : Nat) (p : Nat × Nat) : Nat × Nat :=
  if k = 0 then (p.1 * (36 - h) + p.2 * h, p.2 * (36 - h) + p.1 * h)
  else if k = 1 then (p.1 * (36 - h), p.2 * (36 - h) + (p.1 + p.2) * h)
  else (p.1 * (36 - h) + (p.1 + p.2) * h, p.2 * (36 - h))
def tn9 (k h : Nat) (p : Nat × Nat) : Nat → Nat × Nat
  | 0 => p
  | n + 1 => tk9 k h (tn9 k h p n)
theorem tk9_sum (k h : Nat) (hh : h ≤ 36) (p : Nat × Nat) : (tk9 k h p).1 + (tk9 k h p).2 = (p.1 + p.2) * 36 := by
  obtain ⟨a, b⟩ := p
  obtain ⟨d, hd⟩ : ∃ d, d = 36 - h := ⟨_, rfl⟩
  have e36 : 36 = d + h := by omega
  have e : (a + b) * 36 = a * d + a * h + (b * d + b * h) := by
    rw [e36, Nat.add_mul, Nat.mul_add, Nat.mul_add]
  have e2 : (a + b) * h = a * h + b * h := Nat.add_mul _ _ _
  unfold tk9
  rw [← hd]
  split
  · dsimp only; omega
  · split
    · dsimp only; omega
    · dsimp only; omega
theorem tn9_sum (k h : Nat) (hh : h ≤ 36) (p : Nat × Nat) : ∀ n, (tn9 k h p n).1 + (tn9 k h p n).2 = (p.1 + p.2) * 36 ^ n
  | 0 => by simp [tn9]
  | n + 1 => by
    show (tk9 k h (tn9 k h p n)).1 + (tk9 k h (tn9 k h p n)).2 = _
    rw [tk9_sum k h hh, tn9_sum k h hh p n, Nat.pow_succ, Nat.mul_assoc]
theorem tn9_tog (h : Nat) (a b : Nat) : ∀ n, tn9 0 h (a, b) n = (a * (tn9 0 h (1, 0) n).1 + b * (tn9 0 h (1, 0) n).2, b * (tn9 0 h (1, 0) n).1 + a * (tn9 0 h (1, 0) n).2)
  | 0 => by simp [tn9]
  | n + 1 => by
    show tk9 0 h (tn9 0 h (a, b) n) = (a * (tk9 0 h (tn9 0 h (1, 0) n)).1 + b * (tk9 0 h (tn9 0 h (1, 0) n)).2, b * (tk9 0 h (tn9 0 h (1, 0) n)).1 + a * (tk9 0 h (tn9 0 h (1, 0) n)).2)
    rw [tn9_tog h a b n]
    generalize tn9 0 h (1, 0) n = p
    obtain ⟨e, o⟩ := p
    simp only [tk9, if_true, Nat.add_mul, Nat.mul_add, Nat.mul_assoc]
    refine Prod.ext ?_ ?_
    · dsimp only; omega
    · dsimp only; omega
theorem tn9_ink (h a b : Nat) : ∀ n, (tn9 1 h (a, b) n).1 = a * (36 - h) ^ n
  | 0 => by simp [tn9]
  | n + 1 => by
    show (tk9 1 h (tn9 1 h (a, b) n)).1 = _
    have e : ∀ p, (tk9 1 h p).1 = p.1 * (36 - h) := fun p => rfl
    rw [e, tn9_ink h a b n, Nat.pow_succ, Nat.mul_assoc]
theorem tn9_wipe (h a b : Nat) : ∀ n, (tn9 2 h (a, b) n).2 = b * (36 - h) ^ n
  | 0 => by simp [tn9]
  | n + 1 => by
    show (tk9 2 h (tn9 2 h (a, b) n)).2 = _
    have e : ∀ p, (tk9 2 h p).2 = p.2 * (36 - h) := fun p => rfl
    rw [e, tn9_wipe h a b n, Nat.pow_succ, Nat.mul_assoc]
/-- A fraction without a common divisor. -/
def cut9 (a b : Nat) : Int × Int := (((a / Nat.gcd a b : Nat) : Int), ((b / Nat.gcd a b : Nat) : Int))
theorem pow36 {n : Nat} (h : n ≤ 6) : 36 ^ n ≤ 2176782336 := by
  have := Nat.pow_le_pow_right (n := 36) (by decide) h
  exact Nat.le_trans this (by decide)
theorem pow36_pos (n : Nat) : 0 < 36 ^ n := Nat.pow_pos (by decide)
theorem gcd_step9 (x y : Nat) : Nat.gcd y (x % y) = Nat.gcd x y := by
  rw [Nat.gcd_comm y (x % y), ← Nat.gcd_rec, Nat.gcd_comm]
theorem num_tb {h n : Nat} (hh : h ≤ 36) : (tn9 0 h (0, 1) n).2 = 36 ^ n - (tn9 0 h (1, 0) n).2 := by
  rw [tn9_tog h 0 1 n]
  have := tn9_sum 0 h hh (1, 0) n
  simp only [Nat.add_zero, Nat.one_mul, Nat.zero_mul] at this ⊢
  omega
theorem odd_le {h n : Nat} (hh : h ≤ 36) : (tn9 0 h (1, 0) n).2 ≤ 36 ^ n := by
  have := tn9_sum 0 h hh (1, 0) n
  simp only [Nat.add_zero, Nat.one_mul] at this
  omega
theorem num_tm {h n s : Nat} (hh : h ≤ 36) : (tn9 0 h (36 - s, s) n).2 = s * (36 ^ n - (tn9 0 h (1, 0) n).2) + (36 - s) * (tn9 0 h (1, 0) n).2 := by
  rw [tn9_tog h (36 - s) s n]
  have := tn9_sum 0 h hh (1, 0) n
  simp only [Nat.add_zero, Nat.one_mul] at this
  rw [show 36 ^ n - (tn9 0 h (1, 0) n).2 = (tn9 0 h (1, 0) n).1 by omega]
theorem num_iw {h n : Nat} (hh : h ≤ 36) : (tn9 1 h (1, 0) n).2 = 36 ^ n - (36 - h) ^ n := by
  have h1 := tn9_ink h 1 0 n
  have h2 := tn9_sum 1 h hh (1, 0) n
  simp only [Nat.add_zero, Nat.one_mul] at h1 h2
  omega
theorem num_ib {h n : Nat} (hh : h ≤ 36) : (tn9 1 h (0, 1) n).2 = 36 ^ n := by
  have h1 := tn9_ink h 0 1 n
  have h2 := tn9_sum 1 h hh (0, 1) n
  simp only [Nat.zero_add, Nat.one_mul, Nat.zero_mul] at h1 h2
  omega
theorem num_im {h n s : Nat} (hh : h ≤ 36) (hs : s ≤ 36) : (tn9 1 h (36 - s, s) n).2 = 36 * 36 ^ n - (36 - s) * (36 - h) ^ n := by
  have h1 := tn9_ink h (36 - s) s n
  have h2 := tn9_sum 1 h hh (36 - s, s) n
  rw [show (36 - s, s).1 + (36 - s, s).2 = 36 by dsimp only; omega] at h2
  omega
theorem cut_one {a : Nat} (h : 0 < a) : cut9 a a = (1, 1) := by
  unfold cut9
  rw [Nat.gcd_self, Nat.div_self h]
  rfl
theorem tn9_le {k h a b n : Nat} (hh : h ≤ 36) (hab : a + b ≤ 36) (hn : n ≤ 6) : (tn9 k h (a, b) n).1 ≤ 78364164096 ∧ (tn9 k h (a, b) n).2 ≤ 78364164096 ∧ (tn9 k h (a, b) n).1 + (tn9 k h (a, b) n).2 ≤ 78364164096 := by
  have h1 := tn9_sum k h hh (a, b) n
  have h2 := pow36 hn
  have h3 : (a + b) * 36 ^ n ≤ 36 * 2176782336 := Nat.mul_le_mul hab h2
  simp only at h1
  omega
theorem wr9 {z : Int} (h0 : -4611686018427387904 ≤ z) (h1 : z ≤ 4611686018427387904) : wrap64 z = z := by unfold wrap64; omega
theorem iw9 {z : Int} (h0 : -4611686018427387904 ≤ z) (h1 : z ≤ 4611686018427387904) : IntKind.i64.wrap z = z := by rw [IntKind.wrap_i64]; omega
theorem w_nat9 {a : Nat} (h : a ≤ 4611686018427387904) : wrap64 (a : Int) = (a : Int) := wr9 (by omega) (by omega)
theorem i_nat9 {a : Nat} (h : a ≤ 4611686018427387904) : IntKind.i64.wrap (a : Int) = (a : Int) := iw9 (by omega) (by omega)
theorem pow_le9 {x n : Nat} (hx : x ≤ 36) (hn : n ≤ 6) : x ^ n ≤ 2176782336 := Nat.le_trans (Nat.pow_le_pow_left hx n) (pow36 hn)
theorem mul_le9 {a b A B : Nat} (h : a ≤ A) (k : b ≤ B) : a * b ≤ A * B := Nat.mul_le_mul h k
end Go.Proofs.Ytkjaaaefcmpokaa
