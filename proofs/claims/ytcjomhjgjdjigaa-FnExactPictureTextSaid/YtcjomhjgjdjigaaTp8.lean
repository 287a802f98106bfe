/- CONTRACTS: a picture's copy. -/
import Derived.Test.YtcjomhjgjdjigaaTo8
import Derived.WalkKit
import Derived.ProofKit
import Derived.OpenShut
import Derived.Lib.Hide
import Derived.WalkSpells
import Derived.Below
import Derived.BigQuiet
import Derived.LoopN
namespace Go.Proofs.Ytcjomhjgjdjigaa
open Go.ChangeShapes Go.WideShapes Go.ChangeAt Go.RowKit
set_option linter.unusedVariables false
set_option maxRecDepth 8000 in
set_option maxHeartbeats 600000 in
theorem topic_any (m : Nat → Int) (w : World) : Calls Try.prog 19 #[pv m] w fun e w' => e = .returned (pv m) ∧ Below w.heap.size w w' := by
  have HA := Lib.hid to66_any
  go_enter Try.func19, Try.ntmps19
  have q1 : ∀ (A B : Obj), ((((w.alloc (pb 25 m)).alloc A).alloc B).heap[w.heap.size]? = some (pb 25 m)) := fun _ _ => alloc_past (alloc_past (alloc_at rfl))
  go_wp2_with (first | ((with_reducible refine wpB36 m ?_ ?_); rfl) | ((with_reducible refine wpL36 w.heap.size 25 m (q1 _ _) _ Try.underlying23 ?_ ?_ ?_ ?_); rfl; rfl; kernel_rfl))
  clear q1
  generalize hW : (World.alloc _ _ : World) = W1
  have K0 : KR 3 [(w.heap.size, pb 25 m), (w.heap.size + 1, pb 27 fun _ => 0), (w.heap.size + 1 + 1, pb 27 fun _ => 0)] w W1 := by
    rw [← hW]
    refine ⟨?_, by simp, by (repeat (first | exact Below.refl _ _ | assumption | refine Below.setCell ?_ (by first | (simp; done) | (simp; omega)) _ | refine Below.alloc ?_ (by first | (simp; done) | (simp; omega)) _ | refine Below.drew ?_))⟩
    intro p hp
    simp only [List.mem_cons, List.mem_nil_iff, or_false] at hp
    rcases hp with rfl | rfl | rfl
    · exact ⟨by simp, alloc_past (alloc_past (alloc_at rfl))⟩
    · exact ⟨by simp, alloc_past (alloc_at (by simp))⟩
    · exact ⟨by simp, alloc_at (by simp)⟩
  clear hW
  refine (HA.out m _).mono ?_
  rintro e W2 ⟨rfl, hb⟩
  have K1 := K0.far hb rfl
  clear hb K0
  have r1 := K1.row (g := w.heap.size + 1) (o := pb 27 fun _ => 0) (by simp)
  have r2 := K1.row (g := w.heap.size + 1 + 1) (o := pb 27 fun _ => 0) (by simp)
  have hB0 := K1.2.2
  clear K1
  have r3 := pb_sets m r2
  have r4 : (W2.setCells (w.heap.size + 1 + 1) 0 (cs36 m)).heap[w.heap.size + 1]? = some (pb 27 fun _ => 0) := by rw [setCells_other (by omega)]; exact r1
  have hB1 := setCells_below (b := w.heap.size + 1 + 1) (cs36 m) 0 hB0 (by omega)
  have r2 := Lib.hid r2
  have r3 := Lib.hid r3
  have r4 := Lib.hid r4
  have hB1 := Lib.hid hB1
  clear r1 hB0
  go_wp2_with (first | ((with_reducible refine wpS36 (w.heap.size + 1 + 1) m 27 _ r2.out ?_ ?_ ?_ ?_); rfl; rfl; kernel_rfl) | ((with_reducible refine wpL36 (w.heap.size + 1 + 1) 27 m r3.out _ Try.underlying27 ?_ ?_ ?_ ?_); rfl; rfl; kernel_rfl) | ((with_reducible refine wpS36 (w.heap.size + 1) m 27 _ r4.out ?_ ?_ ?_ ?_); rfl; rfl; kernel_rfl))
  have hr := pb_sets m r4.out
  have hB := setCells_below (b := w.heap.size + 1) (cs36 m) 0 hB1.out (by omega)
  generalize (World.setCells _ _ _ _ : World) = X at hr hB ⊢
  exact bodyPost_ret (v := pv m) (res36 (a := 2) (t := 27) rfl rfl (run_load36 hr 27 _ Try.underlying27 rfl (by kernel_rfl))) rfl ⟨rfl, hB⟩
end Go.Proofs.Ytcjomhjgjdjigaa
