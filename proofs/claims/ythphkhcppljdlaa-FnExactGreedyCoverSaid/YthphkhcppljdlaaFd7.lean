/- CONTRACTS: a sheet's field of 36 bits and its size. -/
import Derived.Test.YthphkhcppljdlaaOc7
import Derived.Test.YthphkhcppljdlaaSa
import Derived.WalkKit
import Derived.ProofKit
import Derived.OpenShut
import Derived.Lib.Hide
import Derived.WalkSpells
import Derived.Below
import Derived.BigQuiet
import Derived.LoopN
namespace Go.Proofs.Ythphkhcppljdlaa
open Go.ChangeShapes Go.WideShapes Go.ChangeAt Go.RowKit
set_option linter.unusedVariables false
/-- The first n rows in one number. -/
def ac7 (r : Nat → Nat) : Nat → Nat
  | 0 => 0
  | n + 1 => ac7 r n * 64 + r n
theorem ac7_six (r : Nat → Nat) : ac7 r 6 = six7 (r 0) (r 1) (r 2) (r 3) (r 4) (r 5) := by
  simp only [ac7, six7]
  omega
theorem ac7_lt (r : Nat → Nat) (hr : ∀ y, r y < 64) : ∀ n, n ≤ 6 → ac7 r n < 64 ^ n
  | 0, _ => by simp [ac7]
  | n + 1, h => by
    have ih := ac7_lt r hr n (by omega)
    have := hr n
    rw [Nat.pow_succ]
    show ac7 r n * 64 + r n < _
    omega
theorem u64_or_nat7 (a b : Nat) (ha : a < 18446744073709551616) (hb : b < 18446744073709551616) : bits .or .u64 (a : Int) (b : Int) = ((a ||| b : Nat) : Int) := by
  have := bits_nat .u64 64 (by decide) (fun n h0 h1 => by rw [IntKind.wrap_u64]; omega) a b (by simpa using ha) (by simpa using hb)
  exact this.2
theorem or_step7 (a r : Nat) (hr : r < 64) : a * 64 ||| r = a * 64 + r := by
  have := Nat.shiftLeft_add_eq_or_of_lt (i := 6) (b := r) hr a
  rw [Nat.shiftLeft_eq] at this
  exact this.symm
theorem fo_eq (a r : Nat) (ha : a < 1073741824) (hr : r < 64) : bits .or .u64 ((a : Int) * 64) (r : Int) = ((a * 64 + r : Nat) : Int) := by
  rw [show ((a : Int) * 64) = ((a * 64 : Nat) : Int) by omega]
  rw [u64_or_nat7 _ _ (by omega) (by omega), or_step7 a r hr]
set_option maxRecDepth 20000 in
set_option maxHeartbeats 2000000 in
theorem fieldof_any (r0 r1 r2 r3 r4 r5 : Nat) (h0 : r0 < 64) (h1 : r1 < 64) (h2 : r2 < 64) (h3 : r3 < 64) (h4 : r4 < 64) (h5 : r5 < 64) (w : World) : Calls Try.prog 103 #[.agg #[.int .i64 (r0 : Int), .int .i64 (r1 : Int), .int .i64 (r2 : Int), .int .i64 (r3 : Int), .int .i64 (r4 : Int), .int .i64 (r5 : Int)]] w fun e w' => e = .returned (.int .u64 ((six7 r0 r1 r2 r3 r4 r5 : Nat) : Int)) ∧ Below w.heap.size w w' := by
  have i0 := fun W => ix0 (r0 : Int) r1 r2 r3 r4 r5 W
  have i1 := fun W => ix1 (r0 : Int) r1 r2 r3 r4 r5 W
  have i2 := fun W => ix2 (r0 : Int) r1 r2 r3 r4 r5 W
  have i3 := fun W => ix3 (r0 : Int) r1 r2 r3 r4 r5 W
  have i4 := fun W => ix4 (r0 : Int) r1 r2 r3 r4 r5 W
  have i5 := fun W => ix5 (r0 : Int) r1 r2 r3 r4 r5 W
  go_enter Try.func103, Try.ntmps103
  go_wp2_with fail
  refine wp_loop_rounds 7 ?_
  rw [rounds_succ]
  go_wp2_with fail
  have e0 : bits .or .u64 0 (r0 : Int) = ((r0 : Nat) : Int) := by
    have := u64_or_nat7 0 r0 (by omega) (by omega)
    rw [show ((0 : Nat) ||| r0) = r0 by simp] at this
    exact this
  rw [e0]
  rw [rounds_succ]
  go_wp2_with fail
  rw [fo_eq r0 r1 (by omega) h1]
  obtain ⟨a1, g1⟩ : ∃ a, Hid (a = r0 * 64 + r1) := ⟨_, Lib.hid rfl⟩
  rw [← g1.out]
  have b1 : a1 < 4096 := by have := g1.out; omega
  rw [rounds_succ]
  go_wp2_with fail
  rw [fo_eq a1 r2 (by omega) h2]
  obtain ⟨a2, g2⟩ : ∃ a, Hid (a = a1 * 64 + r2) := ⟨_, Lib.hid rfl⟩
  rw [← g2.out]
  have b2 : a2 < 262144 := by have := g2.out; omega
  rw [rounds_succ]
  go_wp2_with fail
  rw [fo_eq a2 r3 (by omega) h3]
  obtain ⟨a3, g3⟩ : ∃ a, Hid (a = a2 * 64 + r3) := ⟨_, Lib.hid rfl⟩
  rw [← g3.out]
  have b3 : a3 < 16777216 := by have := g3.out; omega
  rw [rounds_succ]
  go_wp2_with fail
  rw [fo_eq a3 r4 (by omega) h4]
  obtain ⟨a4, g4⟩ : ∃ a, Hid (a = a3 * 64 + r4) := ⟨_, Lib.hid rfl⟩
  rw [← g4.out]
  have b4 : a4 < 1073741824 := by have := g4.out; omega
  rw [rounds_succ]
  go_wp2_with fail
  rw [fo_eq a4 r5 (by omega) h5]
  obtain ⟨a5, g5⟩ : ∃ a, Hid (a = a4 * 64 + r5) := ⟨_, Lib.hid rfl⟩
  rw [← g5.out]
  have b5 : a5 < 68719476736 := by have := g5.out; omega
  rw [rounds_succ]
  go_wp2_with fail
  go_ret
  refine ⟨?_, by (repeat (first | exact Below.refl _ _ | assumption | refine Below.setCell ?_ (by first | (simp; done) | (simp; omega)) _ | refine Below.alloc ?_ (by first | (simp; done) | (simp; omega)) _ | refine Below.drew ?_))⟩
  have q1 := g1.out; have q2 := g2.out; have q3 := g3.out; have q4 := g4.out; have q5 := g5.out
  rw [show six7 r0 r1 r2 r3 r4 r5 = a5 by simp only [six7]; omega]
  rfl
end Go.Proofs.Ythphkhcppljdlaa
