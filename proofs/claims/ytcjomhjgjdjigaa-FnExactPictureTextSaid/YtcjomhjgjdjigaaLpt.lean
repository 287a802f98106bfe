/- THE LAW's WALK: PictureText. -/
import Derived.Test.YtcjomhjgjdjigaaPv8
import Derived.Test.YtcjomhjgjdjigaaTp8
import Derived.WalkKit
import Derived.ProofKit
import Derived.OpenShut
import Derived.Lib.Hide
import Derived.WalkSpells
import Derived.Below
import Derived.BigQuiet
import Derived.LoopN
namespace Go.Proofs.Ytcjomhjgjdjigaa
open Go.ChangeShapes Go.WideShapes Go.ChangeAt Go.RowKit
set_option linter.unusedVariables false
set_option maxRecDepth 8000 in
set_option maxHeartbeats 1000000 in
theorem ptext_core (m : Nat → Int) (r : ByteArray) (t : Bool) (HS : Hid (∀ w, Calls Try.prog 59 #[pv m] w fun e w' => e = .returned (.tuple #[.string r, .bool t]) ∧ Below w.heap.size w w')) (HI : Hid (∀ w, Calls Try.prog 60 #[pv m] w fun e w' => e = .returned (.tuple #[.string r, .bool t]) ∧ Below w.heap.size w w')) (w : World) : Calls Try.prog 16 #[pv m] w fun e w' => e = .returned (.bool true) ∧ Below w.heap.size w w' := by
  have HT := Lib.hid (topic_any m)
  go_enter Try.func16, Try.ntmps16
  have q1 : (w.alloc (pb 25 m)).heap[w.heap.size]? = some (pb 25 m) := alloc_at rfl
  go_wp2_with (first | ((with_reducible refine wpB36 m ?_ ?_); rfl) | ((with_reducible refine wpL36 w.heap.size 25 m q1 _ Try.underlying25 ?_ ?_ ?_ ?_); rfl; rfl; kernel_rfl))
  have K0 : KR 1 [(w.heap.size, pb 25 m)] w (w.alloc (pb 25 m)) := ⟨by intro p hp; simp only [List.mem_cons, List.mem_nil_iff, or_false] at hp; subst hp; exact ⟨by simp, q1⟩, by simp, by (repeat (first | exact Below.refl _ _ | assumption | refine Below.setCell ?_ (by first | (simp; done) | (simp; omega)) _ | refine Below.alloc ?_ (by first | (simp; done) | (simp; omega)) _ | refine Below.drew ?_))⟩
  clear q1
  generalize (World.alloc _ _ : World) = W1 at K0 ⊢
  refine (HT.out _).mono ?_
  rintro e W2 ⟨rfl, hb⟩
  have K1 := K0.far hb rfl
  clear hb K0
  go_wp2_with fail
  refine (HS.out _).mono ?_
  rintro e W3 ⟨rfl, hb⟩
  have K2 := K1.far hb rfl
  clear hb K1
  have q2 := Lib.hid (K2.row (g := w.heap.size) (o := pb 25 m) (by simp))
  go_wp2_with ((with_reducible refine wpL36 w.heap.size 25 m q2.out _ Try.underlying25 ?_ ?_ ?_ ?_); rfl; rfl; kernel_rfl)
  clear q2
  refine (HT.out _).mono ?_
  rintro e W4 ⟨rfl, hb⟩
  have K4 := K2.far hb rfl
  clear hb K2
  go_wp2_with fail
  refine (HI.out _).mono ?_
  rintro e W5 ⟨rfl, hb⟩
  have K5 := K4.far hb rfl
  clear hb K4
  have hB7 := K5.2.2
  clear K5
  go_wp2_with fail
  go_ret
  exact ⟨rfl, hB7⟩
end Go.Proofs.Ytcjomhjgjdjigaa
