/- THE LAW's WALK: IsShop. -/
import Derived.Test.YtnkjamdpafpcpaaSh12
import Derived.Test.YtnkjamdpafpcpaaGood12
import Derived.WalkKit
import Derived.ProofKit
import Derived.OpenShut
import Derived.Lib.Hide
import Derived.WalkSpells
import Derived.Below
import Derived.BigQuiet
import Derived.LoopN
namespace Go.Proofs.Ytnkjamdpafpcpaa
open Go.ChangeShapes Go.WideShapes Go.ChangeAt Go.RowKit
set_option linter.unusedVariables false
set_option maxRecDepth 8000 in
set_option maxHeartbeats 2000000 in
theorem isshop_core (a0 a1 a2 a3 a4 a5 : Int) (b0 b1 b2 b3 b4 b5 : Int) (p c : Int) (w : World) : Calls Try.prog 3 #[.agg #[.int .i64 a0, .int .i64 a1, .int .i64 a2, .int .i64 a3, .int .i64 a4, .int .i64 a5, .int .i64 b0, .int .i64 b1, .int .i64 b2, .int .i64 b3, .int .i64 b4, .int .i64 b5, .int .i64 p, .int .i64 c]] w fun e w' => e = .returned (.bool true) ∧ Below w.heap.size w w' := by
  have HT := Lib.hid (to_shop a0 a1 a2 a3 a4 a5 b0 b1 b2 b3 b4 b5 p c)
  have HS := Lib.hid (sshop_any a0 a1 a2 a3 a4 a5 b0 b1 b2 b3 b4 b5 p c)
  have HI := Lib.hid (ishop_any a0 a1 a2 a3 a4 a5 b0 b1 b2 b3 b4 b5 p c)
  generalize oks a0 a1 a2 a3 a4 a5 b0 b1 b2 b3 b4 b5 p c = r at HS HI
  go_enter Try.func3, Try.ntmps3
  go_wp2_with fail
  have K0 := kr12 w (.cells #[.int .i64 a0, .int .i64 a1, .int .i64 a2, .int .i64 a3, .int .i64 a4, .int .i64 a5, .int .i64 b0, .int .i64 b1, .int .i64 b2, .int .i64 b3, .int .i64 b4, .int .i64 b5, .int .i64 p, .int .i64 c] 26 (0, 0))
  generalize (World.alloc _ _ : World) = W0 at K0 ⊢
  have AC := Lib.hid (fun (U : World) (h : KR 1 [(w.heap.size, .cells #[.int .i64 a0, .int .i64 a1, .int .i64 a2, .int .i64 a3, .int .i64 a4, .int .i64 a5, .int .i64 b0, .int .i64 b1, .int .i64 b2, .int .i64 b3, .int .i64 b4, .int .i64 b5, .int .i64 p, .int .i64 c] 26 (0, 0))] w U) j => cell_of_row U _ j _ _ _ (h.row (g := w.heap.size) (List.mem_cons_self ..)))
  refine (HT.out _).mono ?_
  rintro e W2 ⟨rfl, hb⟩
  have K1 := K0.far hb rfl
  clear hb K0
  go_wp2_with fail
  refine (HS.out _).mono ?_
  rintro e W3 ⟨rfl, hb⟩
  have K2 := K1.far hb rfl
  clear hb K1
  have c0 := AC.out _ K2
  go_wp2_with fail
  refine (HT.out _).mono ?_
  rintro e W4 ⟨rfl, hb⟩
  have K3 := K2.far hb rfl
  clear hb K2 c0
  go_wp2_with fail
  refine (HI.out _).mono ?_
  rintro e W5 ⟨rfl, hb⟩
  have K4 := K3.far hb rfl
  clear hb K3
  cases r
  all_goals
    go_wp2_with fail
    go_ret
    exact ⟨rfl, K4.2.2⟩
end Go.Proofs.Ytnkjamdpafpcpaa
