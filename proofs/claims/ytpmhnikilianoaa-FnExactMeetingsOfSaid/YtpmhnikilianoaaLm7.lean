/- CONTRACTS: the law of MeetingsOf. -/
import Derived.Test.YtpmhnikilianoaaEa7
import Derived.Test.YtpmhnikilianoaaSc
import Derived.WalkKit
import Derived.ProofKit
import Derived.OpenShut
import Derived.Lib.Hide
import Derived.WalkSpells
import Derived.Below
import Derived.BigQuiet
import Derived.LoopN
namespace Go.Proofs.Ytpmhnikilianoaa
open Go.ChangeShapes Go.WideShapes Go.ChangeAt Go.RowKit
set_option linter.unusedVariables false
def ol9 (a0 a1 a2 a3 a4 a5 : Int) : Obj := .cells #[.int .i64 a0, .int .i64 a1, .int .i64 a2, .int .i64 a3, .int .i64 a4, .int .i64 a5] 24 (0, 0)
set_option maxRecDepth 20000 in
set_option maxHeartbeats 2000000 in
theorem meets_core (a0 a1 a2 a3 a4 a5 : Int) (m : Nat → Int) (t : Bool) (HS : Hid (∀ w, Calls Try.prog 49 #[.agg #[.int .i64 a0, .int .i64 a1, .int .i64 a2, .int .i64 a3, .int .i64 a4, .int .i64 a5]] w fun e w' => e = .returned (.tuple #[v36 m, .bool t]) ∧ Below w.heap.size w w')) (HI : Hid (∀ w, Calls Try.prog 50 #[.agg #[.int .i64 a0, .int .i64 a1, .int .i64 a2, .int .i64 a3, .int .i64 a4, .int .i64 a5]] w fun e w' => e = .returned (.tuple #[v36 m, .bool t]) ∧ Below w.heap.size w w')) (w : World) : Calls Try.prog 11 #[.agg #[.int .i64 a0, .int .i64 a1, .int .i64 a2, .int .i64 a3, .int .i64 a4, .int .i64 a5]] w fun e w' => e = .returned (.bool true) ∧ Below w.heap.size w w' := by
  have HT := Lib.hid (to_sheet a0 a1 a2 a3 a4 a5)
  have HE := Lib.hid (eq66_same m)
  unfold v36 at HS HI HE
  go_enter Try.func11, Try.ntmps11
  go_wp2_with fail
  generalize hW : (World.alloc _ _ : World) = W0
  have K0 : KR 1 [(w.heap.size, ol9 a0 a1 a2 a3 a4 a5)] w W0 := hW ▸ kr1 w _
  clear hW
  have a_c := fun j => cell_of_row W0 _ j _ _ _ (K0.row (g := w.heap.size) (o := ol9 a0 a1 a2 a3 a4 a5) (by simp))
  go_wp2_with fail
  refine (HT.out _).mono ?_
  rintro e V1 ⟨rfl, hb⟩
  have K1 := K0.far hb rfl
  clear hb K0 a_c
  go_wp2_with fail
  refine (HS.out _).mono ?_
  rintro e V2 ⟨rfl, hb⟩
  have K2 := K1.far hb rfl
  clear hb K1 HS
  have hT := Lib.hid (there36 (show (V2.alloc (o36 fun _ => 0)).heap[V2.heap.size]? = some (o36 fun _ => 0) from alloc_at rfl))
  have e2 := Lib.hid (al36 V2 (fun _ => 0) m)
  unfold o36 at hT e2
  have a_c := fun (U : World) (h : KR 1 [(w.heap.size, ol9 a0 a1 a2 a3 a4 a5)] w U) j => cell_of_row U _ j _ _ _ (h.row (g := w.heap.size) (o := ol9 a0 a1 a2 a3 a4 a5) (by simp))
  have K3 := K2.al (o := o36 m)
  have q1 : (V2.alloc (o36 m)).heap[V2.heap.size]? = some (o36 m) := alloc_at rfl
  have hg1 : V2.heap.size < (V2.alloc (o36 m)).heap.size := by simp
  have HQ := Lib.hid q1
  clear q1
  have b_c := fun j => a_c _ K3 j
  have a_c := Lib.hid a_c
  unfold o36 at b_c
  go_wp2_with (refine wpList_store_mid rfl 56 (.tmp 3) (.tmp 11) rfl (V2.heap.size) 0 #[.int .i64 (m 0), .int .i64 (m 1), .int .i64 (m 2), .int .i64 (m 3), .int .i64 (m 4), .int .i64 (m 5), .int .i64 (m 6), .int .i64 (m 7), .int .i64 (m 8), .int .i64 (m 9), .int .i64 (m 10), .int .i64 (m 11), .int .i64 (m 12), .int .i64 (m 13), .int .i64 (m 14), .int .i64 (m 15), .int .i64 (m 16), .int .i64 (m 17), .int .i64 (m 18), .int .i64 (m 19), .int .i64 (m 20), .int .i64 (m 21), .int .i64 (m 22), .int .i64 (m 23), .int .i64 (m 24), .int .i64 (m 25), .int .i64 (m 26), .int .i64 (m 27), .int .i64 (m 28), .int .i64 (m 29), .int .i64 (m 30), .int .i64 (m 31), .int .i64 (m 32), .int .i64 (m 33), .int .i64 (m 34), .int .i64 (m 35)] rfl rfl hT.out (by kernel_rfl) (by kernel_rfl) ?_; rw [e2.out])
  clear b_c hT e2
  obtain ⟨X1, hX1⟩ : ∃ X, X = V2.alloc (o36 m) := ⟨_, rfl⟩
  rw [← hX1] at K3 HQ hg1
  unfold o36 at hX1
  rw [← hX1]
  clear hX1 K2
  generalize V2.heap.size = g1 at HQ hg1 ⊢
  refine (HT.out _).mono ?_
  rintro e V3 ⟨rfl, hb⟩
  have K4 := K3.far hb rfl
  have HQ2 := Lib.hid (row_keep hb hg1 HQ.out)
  have hg2 : g1 < V3.heap.size := Nat.lt_of_lt_of_le hg1 hb.size
  clear hb K3 HQ hg1
  go_wp2_with fail
  refine (HI.out _).mono ?_
  rintro e V4 ⟨rfl, hb⟩
  have K5 := K4.far hb rfl
  have q3 := row_keep hb hg2 HQ2.out
  clear hb K4 HQ2 hg2 HI HT
  have hT := Lib.hid (there36 (show (V4.alloc (o36 fun _ => 0)).heap[V4.heap.size]? = some (o36 fun _ => 0) from alloc_at rfl))
  have e4 := Lib.hid (al36 V4 (fun _ => 0) m)
  have hc5 := Lib.hid (range36 (show (V4.alloc (o36 m)).heap[V4.heap.size]? = some (o36 m) from alloc_at rfl))
  have hc1 := Lib.hid (range36 (show (V4.alloc (o36 m)).heap[g1]? = some (o36 m) from alloc_past q3))
  have hB := K5.2.2.alloc K5.2.2.size (o36 m)
  clear K5 q3
  unfold o36 at hT e4 hc5 hc1 hB
  go_wp2_with (first | (refine wpList_store_mid rfl 56 (.tmp 5) (.tmp 17) rfl (V4.heap.size) 0 #[.int .i64 (m 0), .int .i64 (m 1), .int .i64 (m 2), .int .i64 (m 3), .int .i64 (m 4), .int .i64 (m 5), .int .i64 (m 6), .int .i64 (m 7), .int .i64 (m 8), .int .i64 (m 9), .int .i64 (m 10), .int .i64 (m 11), .int .i64 (m 12), .int .i64 (m 13), .int .i64 (m 14), .int .i64 (m 15), .int .i64 (m 16), .int .i64 (m 17), .int .i64 (m 18), .int .i64 (m 19), .int .i64 (m 20), .int .i64 (m 21), .int .i64 (m 22), .int .i64 (m 23), .int .i64 (m 24), .int .i64 (m 25), .int .i64 (m 26), .int .i64 (m 27), .int .i64 (m 28), .int .i64 (m 29), .int .i64 (m 30), .int .i64 (m 31), .int .i64 (m 32), .int .i64 (m 33), .int .i64 (m 34), .int .i64 (m 35)] rfl rfl hT.out (by kernel_rfl) (by kernel_rfl) ?_; rw [e4.out]) | (refine wpList_load_mid rfl 56 (.tmp 5) rfl (V4.heap.size) 0 rfl [.int .i64 (m 0), .int .i64 (m 1), .int .i64 (m 2), .int .i64 (m 3), .int .i64 (m 4), .int .i64 (m 5), .int .i64 (m 6), .int .i64 (m 7), .int .i64 (m 8), .int .i64 (m 9), .int .i64 (m 10), .int .i64 (m 11), .int .i64 (m 12), .int .i64 (m 13), .int .i64 (m 14), .int .i64 (m 15), .int .i64 (m 16), .int .i64 (m 17), .int .i64 (m 18), .int .i64 (m 19), .int .i64 (m 20), .int .i64 (m 21), .int .i64 (m 22), .int .i64 (m 23), .int .i64 (m 24), .int .i64 (m 25), .int .i64 (m 26), .int .i64 (m 27), .int .i64 (m 28), .int .i64 (m 29), .int .i64 (m 30), .int .i64 (m 31), .int .i64 (m 32), .int .i64 (m 33), .int .i64 (m 34), .int .i64 (m 35)] (.array 6 22) hc5.out (by kernel_rfl) rfl (by kernel_rfl) ?_) | (refine wpList_load_mid rfl 56 (.tmp 3) rfl g1 0 rfl [.int .i64 (m 0), .int .i64 (m 1), .int .i64 (m 2), .int .i64 (m 3), .int .i64 (m 4), .int .i64 (m 5), .int .i64 (m 6), .int .i64 (m 7), .int .i64 (m 8), .int .i64 (m 9), .int .i64 (m 10), .int .i64 (m 11), .int .i64 (m 12), .int .i64 (m 13), .int .i64 (m 14), .int .i64 (m 15), .int .i64 (m 16), .int .i64 (m 17), .int .i64 (m 18), .int .i64 (m 19), .int .i64 (m 20), .int .i64 (m 21), .int .i64 (m 22), .int .i64 (m 23), .int .i64 (m 24), .int .i64 (m 25), .int .i64 (m 26), .int .i64 (m 27), .int .i64 (m 28), .int .i64 (m 29), .int .i64 (m 30), .int .i64 (m 31), .int .i64 (m 32), .int .i64 (m 33), .int .i64 (m 34), .int .i64 (m 35)] (.array 6 22) hc1.out (by kernel_rfl) rfl (by kernel_rfl) ?_))
  clear hT e4 hc5 hc1
  refine (HE.out _).mono ?_
  rintro e V5 ⟨rfl, hb⟩
  have hB2 := below_of hB hb hB.size
  clear hb hB
  go_wp2_with fail
  go_ret
  exact ⟨rfl, hB2⟩
end Go.Proofs.Ytpmhnikilianoaa
