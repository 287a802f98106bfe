/- CONTRACTS: the exported tests of a sheet and a cell, in the model and in the code. -/
import Derived.Test.YtgbcgepkkgodpaaSb
import Derived.Test.YtgbcgepkkgodpaaSc
import Derived.Test.YtgbcgepkkgodpaaSd
import Derived.WalkKit
import Derived.ProofKit
import Derived.OpenShut
import Derived.Lib.Hide
import Derived.WalkSpells
import Derived.Below
import Derived.BigQuiet
import Derived.LoopN
namespace Go.Proofs.Ytgbcgepkkgodpaa
open Go.ChangeShapes Go.WideShapes Go.ChangeAt Go.RowKit
set_option linter.unusedVariables false
theorem spec_sheet (a0 a1 a2 a3 a4 a5 : Int) (w : World) : Calls Try.prog 22 #[.agg #[.int .i64 a0, .int .i64 a1, .int .i64 a2, .int .i64 a3, .int .i64 a4, .int .i64 a5]] w fun e w' => e = .returned (.bool (ok a0 && ok a1 && ok a2 && ok a3 && ok a4 && ok a5)) ∧ Below w.heap.size w w' := by
  go_enter Try.func22, Try.ntmps22
  go_wp2_with fail
  refine (l2sheet_any a0 a1 a2 a3 a4 a5 _).mono ?_
  rintro e w' ⟨rfl, hb⟩
  have hB := below_of (B := w.heap.size) (w := w) (by (repeat (first | exact Below.refl _ _ | assumption | refine Below.setCell ?_ (by first | (simp; done) | (simp; omega)) _ | refine Below.alloc ?_ (by first | (simp; done) | (simp; omega)) _ | refine Below.drew ?_))) hb (by first | (simp; done) | (simp; omega))
  clear hb
  go_wp2_with fail
  go_ret
  exact ⟨rfl, hB⟩
end Go.Proofs.Ytgbcgepkkgodpaa
