/- THE WALK of SlantSheet's law. -/
import Derived.Test.YtpmhnikilianoaaKr
import Derived.Test.YtpmhnikilianoaaSc
import Derived.RegionTactic
import Derived.Deep.RegionHeld3
import Derived.WalkKit
import Derived.ProofKit
import Derived.OpenShut
import Derived.Lib.Hide
import Derived.WalkSpells
import Derived.Below
import Derived.BigQuiet
import Derived.LoopN
namespace Go.Proofs.Ytpmhnikilianoaa
open Go.ChangeShapes Go.WideShapes Go.ChangeAt Go.RowKit
set_option linter.unusedVariables false
set_option maxHeartbeats 2000000 in
theorem slant_core (a c : Int) (r0 r1 r2 r3 r4 r5 : Int) (t : Bool) (HS : Hid (∀ w, Calls Try.prog 47 #[.int .i64 a, .int .i64 c] w fun e w' => e = .returned (.tuple #[.agg #[.int .i64 r0, .int .i64 r1, .int .i64 r2, .int .i64 r3, .int .i64 r4, .int .i64 r5], .bool t]) ∧ Below w.heap.size w w')) (HI : Hid (∀ w, Calls Try.prog 48 #[.int .i64 a, .int .i64 c] w fun e w' => e = .returned (.tuple #[.agg #[.int .i64 r0, .int .i64 r1, .int .i64 r2, .int .i64 r3, .int .i64 r4, .int .i64 r5], .bool t]) ∧ Below w.heap.size w w')) (w : World) : Calls Try.prog 10 #[.int .i64 a, .int .i64 c] w fun e w' => e = .returned (.bool true) ∧ Below w.heap.size w w' := by
  go_enter Try.func10, Try.ntmps10
  go_wp2_with fail
  refine (HS.out _).mono ?_
  rintro e W1 ⟨rfl, hb⟩
  go_wp2_with fail
  have q1 : (W1.alloc (.cells #[.int .i64 r0, .int .i64 r1, .int .i64 r2, .int .i64 r3, .int .i64 r4, .int .i64 r5] 28)).heap[W1.heap.size]? = some (.cells #[.int .i64 r0, .int .i64 r1, .int .i64 r2, .int .i64 r3, .int .i64 r4, .int .i64 r5] 28 (0, 0)) := alloc_at rfl
  have hB1 : Below w.heap.size w (W1.alloc (.cells #[.int .i64 r0, .int .i64 r1, .int .i64 r2, .int .i64 r3, .int .i64 r4, .int .i64 r5] 28)) := hb.alloc hb.size _
  have hlt : W1.heap.size < (W1.alloc (.cells #[.int .i64 r0, .int .i64 r1, .int .i64 r2, .int .i64 r3, .int .i64 r4, .int .i64 r5] 28)).heap.size := by simp
  clear hb
  generalize (World.alloc _ _ : World) = X1 at q1 hB1 hlt ⊢
  generalize W1.heap.size = g1 at q1 hlt ⊢
  refine (HI.out _).mono ?_
  rintro e W2 ⟨rfl, hb⟩
  have q2 := row_keep hb hlt q1
  have hB2 := below_of hB1 hb hB1.size
  have hlt2 : g1 < W2.heap.size := Nat.lt_of_lt_of_le hlt hb.size
  clear hb q1 hB1 hlt
  have c4 := fun j => cell_of_row W2 _ j _ _ _ q2
  have hne : g1 ≠ W2.heap.size := by omega
  clear q2
  go_wp2_with fail
  have hB3 : Below w.heap.size w (W2.alloc (.cells #[.int .i64 r0, .int .i64 r1, .int .i64 r2, .int .i64 r3, .int .i64 r4, .int .i64 r5] 28)) := hB2.alloc hB2.size _
  clear c4 hne hlt2 hB2
  refine (eq_same r0 r1 r2 r3 r4 r5 _).mono ?_
  rintro e W9 ⟨rfl, hb⟩
  have hB := below_of hB3 hb hB3.size
  clear hb
  go_wp2_with fail
  go_ret
  exact ⟨rfl, hB⟩
end Go.Proofs.Ytpmhnikilianoaa
