/- CONTRACTS: a sheet's field and its size, by the map of its cells. -/
import Derived.Test.YthphkhcppljdlaaFd7
import Derived.Test.YthphkhcppljdlaaSw5
import Derived.WalkKit
import Derived.ProofKit
import Derived.OpenShut
import Derived.Lib.Hide
import Derived.WalkSpells
import Derived.Below
import Derived.BigQuiet
import Derived.LoopN
namespace Go.Proofs.Ythphkhcppljdlaa
open Go.ChangeShapes Go.WideShapes Go.ChangeAt Go.RowKit
set_option linter.unusedVariables false
/-- The field of a sheet. -/
def fd36 (f : Fn6) : Nat := six7 (rowv (f 0)).toNat (rowv (f 1)).toNat (rowv (f 2)).toNat (rowv (f 3)).toNat (rowv (f 4)).toNat (rowv (f 5)).toNat
/-- How many cells are black. -/
def pc36 (f : Fn6) : Int := pc (rowv (f 0)) + pc (rowv (f 1)) + pc (rowv (f 2)) + pc (rowv (f 3)) + pc (rowv (f 4)) + pc (rowv (f 5))
theorem pc36_bd (f : Fn6) : 0 ≤ pc36 f ∧ pc36 f ≤ 36 := by
  have b0 := pc_bd (row_in (f 0))
  have b1 := pc_bd (row_in (f 1))
  have b2 := pc_bd (row_in (f 2))
  have b3 := pc_bd (row_in (f 3))
  have b4 := pc_bd (row_in (f 4))
  have b5 := pc_bd (row_in (f 5))
  unfold pc36
  omega
theorem row_nat (f : Fn6) (r : Nat) : rowv (f r) = (((rowv (f r)).toNat : Nat) : Int) ∧ (rowv (f r)).toNat < 64 := by
  have h := row_in (f r)
  omega
theorem fieldof_s (f : Fn6) (w : World) : Calls Try.prog 103 #[.agg #[.int .i64 (rowv (f 0)), .int .i64 (rowv (f 1)), .int .i64 (rowv (f 2)), .int .i64 (rowv (f 3)), .int .i64 (rowv (f 4)), .int .i64 (rowv (f 5))]] w fun e w' => e = .returned (.int .u64 ((fd36 f : Nat) : Int)) ∧ Below w.heap.size w w' := by
  have h := fieldof_any (rowv (f 0)).toNat (rowv (f 1)).toNat (rowv (f 2)).toNat (rowv (f 3)).toNat (rowv (f 4)).toNat (rowv (f 5)).toNat (row_nat f 0).2 (row_nat f 1).2 (row_nat f 2).2 (row_nat f 3).2 (row_nat f 4).2 (row_nat f 5).2 w
  rw [← (row_nat f 0).1, ← (row_nat f 1).1, ← (row_nat f 2).1, ← (row_nat f 3).1, ← (row_nat f 4).1, ← (row_nat f 5).1] at h
  exact h
theorem oc_s (f : Fn6) (w : World) : Calls Try.prog 167 #[.int .u64 ((fd36 f : Nat) : Int)] w fun e w' => e = .returned (.int .i64 (pc36 f)) ∧ w' = w := by
  have h := oc64_36 (rowv (f 0)).toNat (rowv (f 1)).toNat (rowv (f 2)).toNat (rowv (f 3)).toNat (rowv (f 4)).toNat (rowv (f 5)).toNat (row_nat f 0).2 (row_nat f 1).2 (row_nat f 2).2 (row_nat f 3).2 (row_nat f 4).2 (row_nat f 5).2 w
  rw [← (row_nat f 0).1, ← (row_nat f 1).1, ← (row_nat f 2).1, ← (row_nat f 3).1, ← (row_nat f 4).1, ← (row_nat f 5).1] at h
  exact h
theorem fsize_s (f : Fn6) (w : World) : Calls Try.prog 104 #[.int .u64 ((fd36 f : Nat) : Int)] w fun e w' => e = .returned (.int .i64 (pc36 f)) ∧ Below w.heap.size w w' := by
  have H := Lib.hid (oc_s f)
  generalize fd36 f = n at *
  go_enter Try.func104, Try.ntmps104
  go_wp2_with fail
  refine (H.out _).mono ?_
  rintro e w' ⟨rfl, rfl⟩
  go_wp2_with fail
  go_ret
  exact ⟨rfl, by (repeat (first | exact Below.refl _ _ | assumption | refine Below.setCell ?_ (by first | (simp; done) | (simp; omega)) _ | refine Below.alloc ?_ (by first | (simp; done) | (simp; omega)) _ | refine Below.drew ?_))⟩
end Go.Proofs.Ythphkhcppljdlaa
