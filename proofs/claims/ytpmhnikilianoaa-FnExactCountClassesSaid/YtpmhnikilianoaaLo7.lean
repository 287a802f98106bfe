/- THE WALKS of OrderOf's, CountKept's and CountClasses' laws. -/
import Derived.Test.YtpmhnikilianoaaRk
import Derived.Test.YtpmhnikilianoaaSc
import Derived.Test.YtpmhnikilianoaaRg
import Derived.Test.YtpmhnikilianoaaKa7
import Derived.WalkKit
import Derived.ProofKit
import Derived.OpenShut
import Derived.Lib.Hide
import Derived.WalkSpells
import Derived.Below
import Derived.BigQuiet
import Derived.LoopN
namespace Go.Proofs.Ytpmhnikilianoaa
open Go.ChangeShapes Go.WideShapes Go.ChangeAt Go.RowKit
set_option linter.unusedVariables false
def o7c (x y : Int) : Obj := .cells #[.int .i64 x, .int .i64 y] 37 (0, 0)
set_option maxHeartbeats 1000000 in
theorem ord_core (x y r : Int) (t : Bool) (HS : Hid (∀ w, Calls Try.prog 54 #[.agg #[.int .i64 x, .int .i64 y]] w fun e w' => e = .returned (.tuple #[.int .i64 r, .bool t]) ∧ Below w.heap.size w w')) (HI : Hid (∀ w, Calls Try.prog 56 #[.agg #[.int .i64 x, .int .i64 y]] w fun e w' => e = .returned (.tuple #[.int .i64 r, .bool t]) ∧ Below w.heap.size w w')) (w : World) : Calls Try.prog 13 #[.agg #[.int .i64 x, .int .i64 y]] w fun e w' => e = .returned (.bool true) ∧ Below w.heap.size w w' := by
  have HT := Lib.hid (a2_any x y)
  go_enter Try.func13, Try.ntmps13
  go_wp2_with fail
  generalize hW : (World.alloc _ _ : World) = W0
  have K0 : KR 1 [(w.heap.size, o7c x y)] w W0 := hW ▸ kr1 w _
  clear hW
  have c_c := fun j => cell_of_row W0 _ j _ _ _ (K0.row (g := w.heap.size) (o := o7c x y) (by simp))
  go_wp2_with fail
  refine (HT.out _).mono ?_
  rintro e W1 ⟨rfl, hb⟩
  have K1 := K0.far hb rfl
  clear hb K0 c_c
  go_wp2_with fail
  refine (HS.out _).mono ?_
  rintro e W2 ⟨rfl, hb⟩
  have K2 := K1.far hb rfl
  clear hb K1
  have c_c := fun j => cell_of_row W2 _ j _ _ _ (K2.row (g := w.heap.size) (o := o7c x y) (by simp))
  go_wp2_with fail
  refine (HT.out _).mono ?_
  rintro e W3 ⟨rfl, hb⟩
  have K3 := K2.far hb rfl
  clear hb K2 c_c
  go_wp2_with fail
  refine (HI.out _).mono ?_
  rintro e W4 ⟨rfl, hb⟩
  have K4 := K3.far hb rfl
  clear hb K3
  go_wp2_with fail
  go_ret
  exact ⟨rfl, K4.2.2⟩
set_option maxHeartbeats 1000000 in
theorem kept_core (x y s r : Int) (t : Bool) (HS : Hid (∀ w, Calls Try.prog 57 #[.agg #[.int .i64 x, .int .i64 y], .int .i64 s] w fun e w' => e = .returned (.tuple #[.int .i64 r, .bool t]) ∧ Below w.heap.size w w')) (HI : Hid (∀ w, Calls Try.prog 58 #[.agg #[.int .i64 x, .int .i64 y], .int .i64 s] w fun e w' => e = .returned (.tuple #[.int .i64 r, .bool t]) ∧ Below w.heap.size w w')) (w : World) : Calls Try.prog 14 #[.agg #[.int .i64 x, .int .i64 y], .int .i64 s] w fun e w' => e = .returned (.bool true) ∧ Below w.heap.size w w' := by
  have HT := Lib.hid (a2_any x y)
  go_enter Try.func14, Try.ntmps14
  go_wp2_with fail
  generalize hW : (World.alloc _ _ : World) = W0
  have K0 : KR 1 [(w.heap.size, o7c x y)] w W0 := hW ▸ kr1 w _
  clear hW
  have c_c := fun j => cell_of_row W0 _ j _ _ _ (K0.row (g := w.heap.size) (o := o7c x y) (by simp))
  go_wp2_with fail
  refine (HT.out _).mono ?_
  rintro e W1 ⟨rfl, hb⟩
  have K1 := K0.far hb rfl
  clear hb K0 c_c
  go_wp2_with fail
  refine (HS.out _).mono ?_
  rintro e W2 ⟨rfl, hb⟩
  have K2 := K1.far hb rfl
  clear hb K1
  have c_c := fun j => cell_of_row W2 _ j _ _ _ (K2.row (g := w.heap.size) (o := o7c x y) (by simp))
  go_wp2_with fail
  refine (HT.out _).mono ?_
  rintro e W3 ⟨rfl, hb⟩
  have K3 := K2.far hb rfl
  clear hb K2 c_c
  go_wp2_with fail
  refine (HI.out _).mono ?_
  rintro e W4 ⟨rfl, hb⟩
  have K4 := K3.far hb rfl
  clear hb K3
  go_wp2_with fail
  go_ret
  exact ⟨rfl, K4.2.2⟩
theorem classes_core (s r : Int) (t : Bool) (HS : Hid (∀ w, Calls Try.prog 59 #[.int .i64 s] w fun e w' => e = .returned (.tuple #[.int .i64 r, .bool t]) ∧ Below w.heap.size w w')) (HI : Hid (∀ w, Calls Try.prog 60 #[.int .i64 s] w fun e w' => e = .returned (.tuple #[.int .i64 r, .bool t]) ∧ Below w.heap.size w w')) (w : World) : Calls Try.prog 15 #[.int .i64 s] w fun e w' => e = .returned (.bool true) ∧ Below w.heap.size w w' := by
  go_enter Try.func15, Try.ntmps15
  go_wp2_with fail
  refine (HS.out _).mono ?_
  rintro e W1 ⟨rfl, hb⟩
  go_wp2_with fail
  refine (HI.out _).mono ?_
  rintro e W2 ⟨rfl, hb2⟩
  have hB := below_of hb hb2 hb.size
  clear hb hb2
  go_wp2_with fail
  go_ret
  exact ⟨rfl, hB⟩
end Go.Proofs.Ytpmhnikilianoaa
