/- THE LAW's WALK: InkSheet. -/
import Derived.Test.YtcjomhjgjdjigaaIj8
import Derived.Test.YtcjomhjgjdjigaaTp8
import Derived.WalkKit
import Derived.ProofKit
import Derived.OpenShut
import Derived.Lib.Hide
import Derived.WalkSpells
import Derived.Below
import Derived.BigQuiet
import Derived.LoopN
namespace Go.Proofs.Ytcjomhjgjdjigaa
open Go.ChangeShapes Go.WideShapes Go.ChangeAt Go.RowKit
set_option linter.unusedVariables false
set_option maxRecDepth 8000 in
set_option maxHeartbeats 1000000 in
theorem inks_core (m : Nat → Int) (k : Int) (r0 r1 r2 r3 r4 r5 : Int) (t : Bool) (HS : Hid (∀ w, Calls Try.prog 30 #[pv m, .int .i64 k] w fun e w' => e = .returned (.tuple #[.agg #[.int .i64 r0, .int .i64 r1, .int .i64 r2, .int .i64 r3, .int .i64 r4, .int .i64 r5], .bool t]) ∧ Below w.heap.size w w')) (HI : Hid (∀ w, Calls Try.prog 31 #[pv m, .int .i64 k] w fun e w' => e = .returned (.tuple #[.agg #[.int .i64 r0, .int .i64 r1, .int .i64 r2, .int .i64 r3, .int .i64 r4, .int .i64 r5], .bool t]) ∧ Below w.heap.size w w')) (w : World) : Calls Try.prog 6 #[pv m, .int .i64 k] w fun e w' => e = .returned (.bool true) ∧ Below w.heap.size w w' := by
  have HT := Lib.hid (topic_any m)
  have HQ := Lib.hid (eq_same r0 r1 r2 r3 r4 r5)
  go_enter Try.func6, Try.ntmps6
  have q1 : (w.alloc (pb 25 m)).heap[w.heap.size]? = some (pb 25 m) := alloc_at rfl
  go_wp2_with (first | ((with_reducible refine wpB36 m ?_ ?_); rfl) | ((with_reducible refine wpL36 w.heap.size 25 m q1 _ Try.underlying25 ?_ ?_ ?_ ?_); rfl; rfl; kernel_rfl))
  have K0 : KR 1 [(w.heap.size, pb 25 m)] w (w.alloc (pb 25 m)) := ⟨by intro p hp; simp only [List.mem_cons, List.mem_nil_iff, or_false] at hp; subst hp; exact ⟨by simp, q1⟩, by simp, by (repeat (first | exact Below.refl _ _ | assumption | refine Below.setCell ?_ (by first | (simp; done) | (simp; omega)) _ | refine Below.alloc ?_ (by first | (simp; done) | (simp; omega)) _ | refine Below.drew ?_))⟩
  clear q1
  generalize (World.alloc _ _ : World) = W1 at K0 ⊢
  refine (HT.out _).mono ?_
  rintro e W2 ⟨rfl, hb⟩
  have K1 := K0.far hb rfl
  clear hb K0
  go_wp2_with fail
  refine (HS.out _).mono ?_
  rintro e W3 ⟨rfl, hb⟩
  have K2 := K1.far hb rfl
  clear hb K1
  have K3 := K2.al (o := .cells #[.int .i64 r0, .int .i64 r1, .int .i64 r2, .int .i64 r3, .int .i64 r4, .int .i64 r5] 36)
  have hA : (W3.alloc (.cells #[.int .i64 r0, .int .i64 r1, .int .i64 r2, .int .i64 r3, .int .i64 r4, .int .i64 r5] 36)).heap[W3.heap.size]? = some (.cells #[.int .i64 r0, .int .i64 r1, .int .i64 r2, .int .i64 r3, .int .i64 r4, .int .i64 r5] 36 (0, 0)) := alloc_at rfl
  have q2 := K3.row (g := w.heap.size) (o := pb 25 m) (by simp)
  have q2 := Lib.hid q2
  go_wp2_with ((with_reducible refine wpL36 w.heap.size 25 m q2.out _ Try.underlying25 ?_ ?_ ?_ ?_); rfl; rfl; kernel_rfl)
  clear q2 K2
  generalize (World.alloc _ _ : World) = X3 at hA K3 ⊢
  generalize W3.heap.size = G at hA ⊢
  refine (HT.out _).mono ?_
  rintro e W4 ⟨rfl, hb⟩
  have K4 := K3.far hb rfl
  have hA4 := rowk hA hb rfl
  clear hb K3 hA
  go_wp2_with fail
  refine (HI.out _).mono ?_
  rintro e W5 ⟨rfl, hb⟩
  have K5 := K4.far hb rfl
  have hA5 := rowk hA4 hb rfl
  clear hb K4 hA4
  have glt := row_lt hA5
  have gne := Nat.ne_of_lt glt
  have a_c := fun j => cell_of_row W5 _ j _ _ _ hA5
  have hB := (K5.al (o := .cells #[.int .i64 r0, .int .i64 r1, .int .i64 r2, .int .i64 r3, .int .i64 r4, .int .i64 r5] 36)).2.2
  go_wp2_with fail
  refine (HQ.out _).mono ?_
  rintro e W7 ⟨rfl, hb⟩
  have hB7 := below_of hB hb hB.size
  clear hb hB glt gne a_c hA5 K5
  cases t
  all_goals
    go_wp2_with fail
    go_ret
    exact ⟨rfl, hB7⟩
end Go.Proofs.Ytcjomhjgjdjigaa
