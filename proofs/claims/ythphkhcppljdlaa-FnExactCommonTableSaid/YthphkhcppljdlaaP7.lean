/- CONTRACTS: ShiftsTo and PeriodsOf, the model's and the code's. -/
import Derived.Test.YthphkhcppljdlaaAv7
import Derived.Test.YthphkhcppljdlaaFs
import Derived.Deep.RegionHeld3
import Derived.WalkKit
import Derived.ProofKit
import Derived.OpenShut
import Derived.Lib.Hide
import Derived.WalkSpells
import Derived.Below
import Derived.BigQuiet
import Derived.LoopN
namespace Go.Proofs.Ythphkhcppljdlaa
open Go.ChangeShapes Go.WideShapes Go.ChangeAt Go.RowKit
set_option linter.unusedVariables false
/-- Whether one sheet, shifted, is another one: as both compare them. -/
def sg7 (a b : Fn6) (x y : Nat) : Bool := rowv (sf x y a 0) == rowv (b 0) && rowv (sf x y a 1) == rowv (b 1) && rowv (sf x y a 2) == rowv (b 2) && rowv (sf x y a 3) == rowv (b 3) && rowv (sf x y a 4) == rowv (b 4) && rowv (sf x y a 5) == rowv (b 5)
theorem eq_sg7 (a b : Fn6) (x y : Nat) (w : World) : (binOp .eql 28 (.agg #[.int .i64 (rowv (sf x y a 0)), .int .i64 (rowv (sf x y a 1)), .int .i64 (rowv (sf x y a 2)), .int .i64 (rowv (sf x y a 3)), .int .i64 (rowv (sf x y a 4)), .int .i64 (rowv (sf x y a 5))]) (.agg #[.int .i64 (rowv (b 0)), .int .i64 (rowv (b 1)), .int .i64 (rowv (b 2)), .int .i64 (rowv (b 3)), .int .i64 (rowv (b 4)), .int .i64 (rowv (b 5))])).run Try.prog w = .ok (.bool (sg7 a b x y)) w := eq26 (rowv (sf x y a 0)) (rowv (sf x y a 1)) (rowv (sf x y a 2)) (rowv (sf x y a 3)) (rowv (sf x y a 4)) (rowv (sf x y a 5)) (rowv (b 0)) (rowv (b 1)) (rowv (b 2)) (rowv (b 3)) (rowv (b 4)) (rowv (b 5)) w
theorem l2shift_7 (f : Fn6) {x y : Nat} (hx : x < 6) (hy : y < 6) (w : World) : Calls Try.prog 115 #[.agg #[.int .i64 (rowv (f 0)), .int .i64 (rowv (f 1)), .int .i64 (rowv (f 2)), .int .i64 (rowv (f 3)), .int .i64 (rowv (f 4)), .int .i64 (rowv (f 5))], .int .i64 (x : Int), .int .i64 (y : Int)] w fun e w' => e = .returned (.agg #[.int .i64 (rowv (sf x y f 0)), .int .i64 (rowv (sf x y f 1)), .int .i64 (rowv (sf x y f 2)), .int .i64 (rowv (sf x y f 3)), .int .i64 (rowv (sf x y f 4)), .int .i64 (rowv (sf x y f 5))]) ∧ Below w.heap.size w w' := l2shift_f f (x : Int) (y : Int) (WalkArith.wf_i64 (by omega)) (WalkArith.wf_i64 (by omega)) hx hy (by omega) (by omega) w
theorem SKl {w U : World} {a b : Fn6} {xs : List (Nat × Nat)} {v : Value} (h : Rl 2 [(w.heap.size, o6 a), (w.heap.size + 1, o6 b)] w xs v U) : U.cell? ⟨w.heap.size, 0, none⟩ = some (.int .i64 (rowv (a 0))) ∧ U.cell? ⟨w.heap.size, 1, none⟩ = some (.int .i64 (rowv (a 1))) ∧ U.cell? ⟨w.heap.size, 2, none⟩ = some (.int .i64 (rowv (a 2))) ∧ U.cell? ⟨w.heap.size, 3, none⟩ = some (.int .i64 (rowv (a 3))) ∧ U.cell? ⟨w.heap.size, 4, none⟩ = some (.int .i64 (rowv (a 4))) ∧ U.cell? ⟨w.heap.size, 5, none⟩ = some (.int .i64 (rowv (a 5))) ∧ U.cell? ⟨w.heap.size + 1, 0, none⟩ = some (.int .i64 (rowv (b 0))) ∧ U.cell? ⟨w.heap.size + 1, 1, none⟩ = some (.int .i64 (rowv (b 1))) ∧ U.cell? ⟨w.heap.size + 1, 2, none⟩ = some (.int .i64 (rowv (b 2))) ∧ U.cell? ⟨w.heap.size + 1, 3, none⟩ = some (.int .i64 (rowv (b 3))) ∧ U.cell? ⟨w.heap.size + 1, 4, none⟩ = some (.int .i64 (rowv (b 4))) ∧ U.cell? ⟨w.heap.size + 1, 5, none⟩ = some (.int .i64 (rowv (b 5))) ∧ Rl 2 [(w.heap.size, o6 a), (w.heap.size + 1, o6 b)] w xs v U :=
  have h0 := fun j => cell_of_row U _ j _ _ _ (h.1.row (g := w.heap.size) (o := o6 a) (List.mem_cons_self ..))
  have h1 := fun j => cell_of_row U _ j _ _ _ (h.1.row (g := w.heap.size + 1) (o := o6 b) (List.mem_cons_of_mem _ (List.mem_cons_self ..)))
  ⟨h0 0, h0 1, h0 2, h0 3, h0 4, h0 5, h1 0, h1 1, h1 2, h1 3, h1 4, h1 5, h⟩
end Go.Proofs.Ythphkhcppljdlaa
