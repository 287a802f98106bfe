/- THE LAW's WALK over two contracts: FirstForm. -/
import Derived.Test.YtkobgklpcpoglaaSc
import Derived.Test.YtkobgklpcpoglaaKp
import Derived.Test.YtkobgklpcpoglaaRg
import Derived.Test.YtkobgklpcpoglaaRh
import Derived.Test.YtkobgklpcpoglaaRk
import Derived.Deep.RegionHeld3
import Derived.WalkKit
import Derived.ProofKit
import Derived.OpenShut
import Derived.Lib.Hide
import Derived.WalkSpells
import Derived.Below
import Derived.BigQuiet
import Derived.LoopN
namespace Go.Proofs.Ytkobgklpcpoglaa
open Go.ChangeShapes Go.WideShapes Go.ChangeAt Go.RowKit
set_option linter.unusedVariables false
theorem eq3_same (x y z : Int) (w : World) : Calls Try.prog 75 #[.agg #[.int .i64 x, .int .i64 y, .int .i64 z], .agg #[.int .i64 x, .int .i64 y, .int .i64 z]] w fun e w' => e = .returned (.bool true) ∧ Below w.heap.size w w' := by
  go_enter Try.func75, Try.ntmps75
  go_wp2_with fail
  refine wp_loop_rounds 4 ?_
  iterate 3
    rw [rounds_succ]
    go_wp2_with fail
    go_region
    go_wp2_with fail
  rw [rounds_succ]
  go_wp2_with fail
  go_ret
  exact ⟨rfl, by (repeat (first | exact Below.refl _ _ | assumption | refine Below.setCell ?_ (by first | (simp; done) | (simp; omega)) _ | refine Below.alloc ?_ (by first | (simp; done) | (simp; omega)) _ | refine Below.drew ?_))⟩
set_option maxHeartbeats 2000000 in
theorem fform_core (a0 a1 a2 a3 a4 a5 : Int) (r0 r1 r2 r3 r4 r5 : Int) (p q s : Int) (t : Bool) (HS : Hid (∀ w, Calls Try.prog 73 #[.agg #[.int .i64 a0, .int .i64 a1, .int .i64 a2, .int .i64 a3, .int .i64 a4, .int .i64 a5]] w fun e w' => e = .returned (.tuple #[.agg #[.int .i64 r0, .int .i64 r1, .int .i64 r2, .int .i64 r3, .int .i64 r4, .int .i64 r5], .agg #[.int .i64 p, .int .i64 q, .int .i64 s], .bool t]) ∧ Below w.heap.size w w')) (HI : Hid (∀ w, Calls Try.prog 74 #[.agg #[.int .i64 a0, .int .i64 a1, .int .i64 a2, .int .i64 a3, .int .i64 a4, .int .i64 a5]] w fun e w' => e = .returned (.tuple #[.agg #[.int .i64 r0, .int .i64 r1, .int .i64 r2, .int .i64 r3, .int .i64 r4, .int .i64 r5], .agg #[.int .i64 p, .int .i64 q, .int .i64 s], .bool t]) ∧ Below w.heap.size w w')) (w : World) : Calls Try.prog 19 #[.agg #[.int .i64 a0, .int .i64 a1, .int .i64 a2, .int .i64 a3, .int .i64 a4, .int .i64 a5]] w fun e w' => e = .returned (.bool true) ∧ Below w.heap.size w w' := by
  have HT := Lib.hid (to_sheet a0 a1 a2 a3 a4 a5)
  go_enter Try.func19, Try.ntmps19
  go_wp2_with fail
  generalize hW : (World.alloc _ _ : World) = W0
  have qa : W0.heap[w.heap.size]? = some (.cells #[.int .i64 a0, .int .i64 a1, .int .i64 a2, .int .i64 a3, .int .i64 a4, .int .i64 a5] 24 (0, 0)) := by rw [← hW]; exact alloc_at rfl
  have K0 : KR 1 [(w.heap.size, .cells #[.int .i64 a0, .int .i64 a1, .int .i64 a2, .int .i64 a3, .int .i64 a4, .int .i64 a5] 24 (0, 0))] w W0 := ⟨by simp [qa], by rw [← hW]; simp, by rw [← hW]; (repeat (first | exact Below.refl _ _ | assumption | refine Below.setCell ?_ (by first | (simp; done) | (simp; omega)) _ | refine Below.alloc ?_ (by first | (simp; done) | (simp; omega)) _ | refine Below.drew ?_))⟩
  clear hW
  refine (HT.out _).mono ?_
  rintro e W1 ⟨rfl, hb⟩
  have K1 := K0.far hb rfl
  clear hb K0
  have a_c := fun j => cell_of_row W1 _ j _ _ _ (K1.row (g := w.heap.size) (List.mem_cons_self ..))
  go_wp2_with fail
  refine (HS.out _).mono ?_
  rintro e W2 ⟨rfl, hb⟩
  have K2 := K1.far hb rfl
  clear hb K1 a_c
  have hz : w.heap.size < W2.heap.size := K2.le
  have hz1 : w.heap.size < W2.heap.size + 1 := by omega
  have hz2 : w.heap.size ≠ W2.heap.size := by omega
  have hz3 : w.heap.size ≠ W2.heap.size + 1 := by omega
  have a_c := fun j => cell_of_row W2 _ j _ _ _ (K2.row (g := w.heap.size) (List.mem_cons_self ..))
  go_wp2_with fail
  have hA : ((W2.alloc (.cells #[.int .i64 r0, .int .i64 r1, .int .i64 r2, .int .i64 r3, .int .i64 r4, .int .i64 r5] 25)).alloc (.cells #[.int .i64 p, .int .i64 q, .int .i64 s] 62)).heap[W2.heap.size]? = some (.cells #[.int .i64 r0, .int .i64 r1, .int .i64 r2, .int .i64 r3, .int .i64 r4, .int .i64 r5] 25 (0, 0)) := alloc_past (alloc_at rfl)
  have hC : ((W2.alloc (.cells #[.int .i64 r0, .int .i64 r1, .int .i64 r2, .int .i64 r3, .int .i64 r4, .int .i64 r5] 25)).alloc (.cells #[.int .i64 p, .int .i64 q, .int .i64 s] 62)).heap[W2.heap.size + 1]? = some (.cells #[.int .i64 p, .int .i64 q, .int .i64 s] 62 (0, 0)) := alloc_at (by simp)
  have K3 := K2.al (o := .cells #[.int .i64 r0, .int .i64 r1, .int .i64 r2, .int .i64 r3, .int .i64 r4, .int .i64 r5] 25) |>.al (o := .cells #[.int .i64 p, .int .i64 q, .int .i64 s] 62)
  clear K2 a_c hz hz1 hz2 hz3
  generalize (World.alloc _ _ : World) = X3 at hA hC K3 ⊢
  generalize W2.heap.size = G at hA hC ⊢
  refine (HT.out _).mono ?_
  rintro e W4 ⟨rfl, hb⟩
  have K4 := K3.far hb rfl
  have hA4 := rowk hA hb rfl
  have hC4 := rowk hC hb rfl
  clear hb K3 hA hC
  go_wp2_with fail
  refine (HI.out _).mono ?_
  rintro e W5 ⟨rfl, hb⟩
  have K5 := K4.far hb rfl
  have hA5 := rowk hA4 hb rfl
  have hC5 := rowk hC4 hb rfl
  clear hb K4 hA4 hC4
  have g1 := row_lt hA5
  have g2 := row_lt hC5
  have n1 : G ≠ W5.heap.size := by omega
  have n2 : G ≠ W5.heap.size + 1 := by omega
  have n3 : G + 1 ≠ W5.heap.size := by omega
  have n4 : G + 1 ≠ W5.heap.size + 1 := by omega
  have n5 : G < W5.heap.size + 1 := by omega
  have g_c := fun j => cell_of_row W5 _ j _ _ _ hA5
  go_wp2_with fail
  have hE : ((W5.alloc (.cells #[.int .i64 r0, .int .i64 r1, .int .i64 r2, .int .i64 r3, .int .i64 r4, .int .i64 r5] 25)).alloc (.cells #[.int .i64 p, .int .i64 q, .int .i64 s] 62)).heap[W5.heap.size + 1]? = some (.cells #[.int .i64 p, .int .i64 q, .int .i64 s] 62 (0, 0)) := alloc_at (by simp)
  have K6 := K5.al (o := .cells #[.int .i64 r0, .int .i64 r1, .int .i64 r2, .int .i64 r3, .int .i64 r4, .int .i64 r5] 25) |>.al (o := .cells #[.int .i64 p, .int .i64 q, .int .i64 s] 62)
  have hC6 : ((W5.alloc (.cells #[.int .i64 r0, .int .i64 r1, .int .i64 r2, .int .i64 r3, .int .i64 r4, .int .i64 r5] 25)).alloc (.cells #[.int .i64 p, .int .i64 q, .int .i64 s] 62)).heap[G + 1]? = some (.cells #[.int .i64 p, .int .i64 q, .int .i64 s] 62 (0, 0)) := alloc_past (alloc_past hC5)
  clear K5 g_c hA5 hC5 n1 n2 n3 n4 n5 g1 g2
  generalize (World.alloc _ _ : World) = X6 at hE hC6 K6 ⊢
  generalize W5.heap.size = E at hE ⊢
  refine (eq_same r0 r1 r2 r3 r4 r5 _).mono ?_
  rintro e W7 ⟨rfl, hb⟩
  have K7 := K6.far hb rfl
  have hE7 := rowk hE hb rfl
  have hC7 := rowk hC6 hb rfl
  clear hb K6 hE hC6
  have e_c := fun j => cell_of_row W7 _ j _ _ _ hE7
  have c_c := fun j => cell_of_row W7 _ j _ _ _ hC7
  go_wp2_with fail
  refine (eq3_same p q s _).mono ?_
  rintro e W8 ⟨rfl, hb⟩
  have hB := below_of K7.2.2 hb (by have := K7.le; omega)
  clear hb K7 e_c c_c hE7 hC7
  go_wp2_with fail
  go_ret
  exact ⟨rfl, hB⟩
end Go.Proofs.Ytkobgklpcpoglaa
