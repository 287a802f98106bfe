/- CONTRACTS: the code's own test of a sheet. -/
import Derived.Test.YtnkjamdpafpcpaaEq
import Derived.Deep.RegionHeld3
import Derived.WalkKit
import Derived.ProofKit
import Derived.OpenShut
import Derived.Lib.Hide
import Derived.WalkSpells
import Derived.Below
import Derived.BigQuiet
import Derived.LoopN
namespace Go.Proofs.Ytnkjamdpafpcpaa
open Go.ChangeShapes Go.WideShapes Go.ChangeAt Go.RowKit
set_option linter.unusedVariables false
theorem and63 (x : Int) : bits .and .i64 x 63 = x % 64 := by
  show IntKind.i64.wrap ((BitVec.ofInt 64 x &&& BitVec.ofInt 64 63).toNat : Int) = _
  have h2 : (BitVec.ofInt 64 63).toNat = 63 := by decide
  have h3 : (BitVec.ofInt 64 x).toNat = (x % 18446744073709551616).toNat := by rw [BitVec.toNat_ofInt]; rfl
  rw [BitVec.toNat_and, h2, h3, show (63 : Nat) = 2 ^ 6 - 1 from rfl, Nat.and_two_pow_sub_one_eq_mod, IntKind.wrap_i64]
  omega
theorem ok_and (x : Int) : (x == bits .and .i64 x 63) = ok x := by
  rw [and63]
  unfold ok
  by_cases h : x = x % 64
  · have h1 : (x == x % 64) = true := by rw [← h]; simp
    rw [h1, decide_eq_true (by omega), decide_eq_true (by omega)]; rfl
  · have h1 : (x == x % 64) = false := by simpa using h
    rw [h1]
    by_cases h0 : 0 ≤ x
    · rw [decide_eq_true h0, decide_eq_false (by omega)]; rfl
    · rw [decide_eq_false h0]; rfl
theorem sheet_any (a0 a1 a2 a3 a4 a5 : Int) (w : World) : Calls Try.prog 75 #[.agg #[.int .i64 a0, .int .i64 a1, .int .i64 a2, .int .i64 a3, .int .i64 a4, .int .i64 a5]] w fun e w' => e = .returned (.bool (ok a0 && ok a1 && ok a2 && ok a3 && ok a4 && ok a5)) ∧ Below w.heap.size w w' := by
  obtain ⟨w1, e1, c0, c1, c2, c3, c4, c5, hb1⟩ := new6 a0 a1 a2 a3 a4 a5 28 w
  have E := eq26 a0 a1 a2 a3 a4 a5 (bits .and .i64 a0 63) (bits .and .i64 a1 63) (bits .and .i64 a2 63) (bits .and .i64 a3 63) (bits .and .i64 a4 63) (bits .and .i64 a5 63)
  go_enter Try.func75, Try.ntmps75
  go_wp2_with fail
  rw [← e1]
  clear e1
  go_region_held3 (fun W => W.cell? ⟨w.heap.size, 0, none⟩ = some (.int .i64 a0) ∧ W.cell? ⟨w.heap.size, 1, none⟩ = some (.int .i64 a1) ∧ W.cell? ⟨w.heap.size, 2, none⟩ = some (.int .i64 a2) ∧ W.cell? ⟨w.heap.size, 3, none⟩ = some (.int .i64 a3) ∧ W.cell? ⟨w.heap.size, 4, none⟩ = some (.int .i64 a4) ∧ W.cell? ⟨w.heap.size, 5, none⟩ = some (.int .i64 a5) ∧ Below w.heap.size w W) (first | exact ⟨c0, c1, c2, c3, c4, c5, hb1.drew⟩ | assumption | (refine keep6 a0 a1 a2 a3 a4 a5 (Nat.le_refl _) ?_ (by assumption) rfl; assumption)) (first | (go_at_call 165; refine (full_any _).mono ?_; rintro e w' ⟨rfl, hb'⟩) | (go_at_call 110; refine (shared_any a0 a1 a2 a3 a4 a5 63 63 63 63 63 63 _).mono ?_; rintro e w' ⟨rfl, hb'⟩))
  go_wp2_with fail
  go_ret
  rename_i hS
  exact ⟨by simp only [ok_and]; rfl, hS.2.2.2.2.2.2⟩
end Go.Proofs.Ytnkjamdpafpcpaa
