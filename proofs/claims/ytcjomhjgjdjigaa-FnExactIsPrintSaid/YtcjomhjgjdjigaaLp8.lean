/- THE LAWS' WALKS: IsPicture, IsPrint. -/
import Derived.Test.YtcjomhjgjdjigaaVi8
import Derived.Test.YtcjomhjgjdjigaaTp8
import Derived.Test.YtcjomhjgjdjigaaPq8
import Derived.WalkKit
import Derived.ProofKit
import Derived.OpenShut
import Derived.Lib.Hide
import Derived.WalkSpells
import Derived.Below
import Derived.BigQuiet
import Derived.LoopN
namespace Go.Proofs.Ytcjomhjgjdjigaa
open Go.ChangeShapes Go.WideShapes Go.ChangeAt Go.RowKit
set_option linter.unusedVariables false
set_option maxRecDepth 8000 in
set_option maxHeartbeats 1000000 in
theorem ispic_core (m : Nat → Int) (w : World) : Calls Try.prog 3 #[pv m] w fun e w' => e = .returned (.bool true) ∧ Below w.heap.size w w' := by
  have HT := Lib.hid (topic_any m)
  have HS := Lib.hid (ispec_any m)
  have HI := Lib.hid (impic_any m)
  generalize okp m = r at HS HI
  go_enter Try.func3, Try.ntmps3
  have q1 : (w.alloc (pb 25 m)).heap[w.heap.size]? = some (pb 25 m) := alloc_at rfl
  go_wp2_with (first | ((with_reducible refine wpB36 m ?_ ?_); rfl) | ((with_reducible refine wpL36 w.heap.size 25 m q1 _ Try.underlying25 ?_ ?_ ?_ ?_); rfl; rfl; kernel_rfl))
  have K0 : KR 1 [(w.heap.size, pb 25 m)] w (w.alloc (pb 25 m)) := ⟨by intro p hp; simp only [List.mem_cons, List.mem_nil_iff, or_false] at hp; subst hp; exact ⟨by simp, q1⟩, by simp, by (repeat (first | exact Below.refl _ _ | assumption | refine Below.setCell ?_ (by first | (simp; done) | (simp; omega)) _ | refine Below.alloc ?_ (by first | (simp; done) | (simp; omega)) _ | refine Below.drew ?_))⟩
  clear q1
  generalize (World.alloc _ _ : World) = W1 at K0 ⊢
  refine (HT.out _).mono ?_
  rintro e W2 ⟨rfl, hb⟩
  have K1 := K0.far hb rfl
  clear hb K0
  go_wp2_with fail
  refine (HS.out _).mono ?_
  rintro e W3 ⟨rfl, hb⟩
  have K2 := K1.far hb rfl
  clear hb K1
  have q2 := Lib.hid (K2.row (g := w.heap.size) (o := pb 25 m) (by simp))
  go_wp2_with ((with_reducible refine wpL36 w.heap.size 25 m q2.out _ Try.underlying25 ?_ ?_ ?_ ?_); rfl; rfl; kernel_rfl)
  refine (HT.out _).mono ?_
  rintro e W4 ⟨rfl, hb⟩
  have K3 := K2.far hb rfl
  clear hb K2 q2
  go_wp2_with fail
  refine (HI.out _).mono ?_
  rintro e W5 ⟨rfl, hb⟩
  have K4 := K3.far hb rfl
  clear hb K3
  cases r
  all_goals
    go_wp2_with fail
    go_ret
    exact ⟨rfl, K4.2.2⟩
set_option maxHeartbeats 1000000 in
theorem isprint_core (k : Int) (a0 a1 a2 a3 a4 a5 : Int) (x y : Int) (hx : (Lit.int .i64 x).wf = true) (hy : (Lit.int .i64 y).wf = true) (w : World) : Calls Try.prog 4 #[.agg #[.int .i64 k, .int .i64 a0, .int .i64 a1, .int .i64 a2, .int .i64 a3, .int .i64 a4, .int .i64 a5, .int .i64 x, .int .i64 y]] w fun e w' => e = .returned (.bool true) ∧ Below w.heap.size w w' := by
  have HT := Lib.hid (to_print k a0 a1 a2 a3 a4 a5 x y)
  have HS := Lib.hid (spri_is k a0 a1 a2 a3 a4 a5 x y)
  have HI := Lib.hid (ipri_any k a0 a1 a2 a3 a4 a5 x y hx hy)
  clear hx hy
  generalize okr k a0 a1 a2 a3 a4 a5 x y = r at HS HI
  go_enter Try.func4, Try.ntmps4
  go_wp2_with fail
  generalize hW : (World.alloc _ _ : World) = W0
  have K0 : KR 1 [(w.heap.size, .cells #[.int .i64 k, .int .i64 a0, .int .i64 a1, .int .i64 a2, .int .i64 a3, .int .i64 a4, .int .i64 a5, .int .i64 x, .int .i64 y] 34 (0, 0))] w W0 := by
    rw [← hW]
    exact ⟨by intro p hp; simp only [List.mem_cons, List.mem_nil_iff, or_false] at hp; subst hp; exact ⟨by simp, alloc_at rfl⟩, by simp, by (repeat (first | exact Below.refl _ _ | assumption | refine Below.setCell ?_ (by first | (simp; done) | (simp; omega)) _ | refine Below.alloc ?_ (by first | (simp; done) | (simp; omega)) _ | refine Below.drew ?_))⟩
  clear hW
  have AC := Lib.hid (fun (U : World) (h : KR 1 [(w.heap.size, .cells #[.int .i64 k, .int .i64 a0, .int .i64 a1, .int .i64 a2, .int .i64 a3, .int .i64 a4, .int .i64 a5, .int .i64 x, .int .i64 y] 34 (0, 0))] w U) j => cell_of_row U _ j _ _ _ (h.row (g := w.heap.size) (List.mem_cons_self ..)))
  refine (HT.out _).mono ?_
  rintro e W2 ⟨rfl, hb⟩
  have K1 := K0.far hb rfl
  clear hb K0
  go_wp2_with fail
  refine (HS.out _).mono ?_
  rintro e W3 ⟨rfl, hb⟩
  have K2 := K1.far hb rfl
  clear hb K1
  have c0 := AC.out _ K2
  go_wp2_with fail
  refine (HT.out _).mono ?_
  rintro e W4 ⟨rfl, hb⟩
  have K3 := K2.far hb rfl
  clear hb K2 c0
  go_wp2_with fail
  refine (HI.out _).mono ?_
  rintro e W5 ⟨rfl, hb⟩
  have K4 := K3.far hb rfl
  clear hb K3
  cases r
  all_goals
    go_wp2_with fail
    go_ret
    exact ⟨rfl, K4.2.2⟩
end Go.Proofs.Ytcjomhjgjdjigaa
