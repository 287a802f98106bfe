/- CONTRACTS: OpenCells, the model's and the code's. -/
import Derived.Test.YtkjaaaefcmpokaaCa6
import Derived.Test.YtkjaaaefcmpokaaPm5
import Derived.Test.YtkjaaaefcmpokaaSc
import Derived.WalkKit
import Derived.ProofKit
import Derived.OpenShut
import Derived.Lib.Hide
import Derived.WalkSpells
import Derived.Below
import Derived.BigQuiet
import Derived.LoopN
namespace Go.Proofs.Ytkjaaaefcmpokaa
open Go.ChangeShapes Go.WideShapes Go.ChangeAt Go.RowKit
set_option linter.unusedVariables false
theorem row_as (f : Fn6) (w : World) : Calls Try.prog 181 #[.agg #[.int .i64 (rowv (f 0)), .int .i64 (rowv (f 1)), .int .i64 (rowv (f 2)), .int .i64 (rowv (f 3)), .int .i64 (rowv (f 4)), .int .i64 (rowv (f 5))]] w fun e w' => e = .returned (.bool true) ∧ Below w.heap.size w w' := (sh_as _ _ _ _ _ _ (show (ok (rowv (f 0)) && ok (rowv (f 1)) && ok (rowv (f 2)) && ok (rowv (f 3)) && ok (rowv (f 4)) && ok (rowv (f 5))) = true by simp only [rowv_ok, Bool.and_self])).out w
/-- Rows of the two boxes and what the walk leaves below. -/
theorem two_boxes (w : World) (o o2 : Obj) {W0 : World} (hB0 : Below w.heap.size w W0) (q0 : W0.heap[w.heap.size]? = some o) (q1 : W0.heap[w.heap.size + 1]? = some o2) (hs : w.heap.size + 2 ≤ W0.heap.size) : KR 2 [(w.heap.size, o), (w.heap.size + 1, o2)] w W0 := ⟨by simp [q0, q1], hs, hB0⟩
def os (a0 a1 a2 a3 a4 a5 : Int) : Obj := .cells #[.int .i64 a0, .int .i64 a1, .int .i64 a2, .int .i64 a3, .int .i64 a4, .int .i64 a5] 28 (0, 0)
set_option maxHeartbeats 1000000 in
theorem iopen6_yes (p s : Fn6) (w : World) : Calls Try.prog 142 #[.agg #[.int .i64 (rowv (p 0)), .int .i64 (rowv (p 1)), .int .i64 (rowv (p 2)), .int .i64 (rowv (p 3)), .int .i64 (rowv (p 4)), .int .i64 (rowv (p 5))], .agg #[.int .i64 (rowv (s 0)), .int .i64 (rowv (s 1)), .int .i64 (rowv (s 2)), .int .i64 (rowv (s 3)), .int .i64 (rowv (s 4)), .int .i64 (rowv (s 5))]] w (LPb (bl (shr s p) 36) true w) := by
  have HF := Lib.hid (ishrink_c s p)
  have HG := Lib.hid (icells_f (shr s p))
  go_enter Try.func142, Try.ntmps142
  go_wp2_with fail
  generalize hW : (World.alloc _ _ : World) = W0
  have K0 : KR 2 [(w.heap.size, o6 p), (w.heap.size + 1, o6 s)] w W0 := by
    rw [← hW]
    exact two_boxes w _ _ (by (repeat (first | exact Below.refl _ _ | assumption | refine Below.setCell ?_ (by first | (simp; done) | (simp; omega)) _ | refine Below.alloc ?_ (by first | (simp; done) | (simp; omega)) _ | refine Below.drew ?_))) (alloc_past (alloc_at rfl)) (alloc_at (by simp)) (by simp)
  clear hW
  have a_c := fun j => cell_of_row W0 _ j _ _ _ (K0.row (g := w.heap.size) (o := o6 p) (by simp))
  have b_c := fun j => cell_of_row W0 _ j _ _ _ (K0.row (g := w.heap.size + 1) (o := o6 s) (by simp))
  go_wp2_with fail
  refine (HF.out _).mono ?_
  rintro e W1 ⟨rfl, hb⟩
  have HB := Lib.hid (K0.far hb rfl).2.2
  clear hb K0 a_c b_c
  go_wp2_with fail
  have HB2 := Lib.hid (HB.out.alloc HB.out.size (.cells #[.int .i64 (rowv (shr s p 0)), .int .i64 (rowv (shr s p 1)), .int .i64 (rowv (shr s p 2)), .int .i64 (rowv (shr s p 3)), .int .i64 (rowv (shr s p 4)), .int .i64 (rowv (shr s p 5))] 28))
  refine (HG.out _).mono ?_
  rintro e W3 ⟨g, cap, rfl, ho, hb⟩
  have HO := Lib.hid (own_mono ho HB2.out.size)
  have HB3 := Lib.hid (below_of HB2.out hb HB2.out.size)
  clear hb ho HB HB2
  go_wp2_with fail
  go_ret2
  exact ⟨g, cap, rfl, HO.out, HB3.out⟩
set_option maxHeartbeats 1000000 in
theorem iopen6_no (a0 a1 a2 a3 a4 a5 : Int) (b0 b1 b2 b3 b4 b5 : Int) (HF : Hid (∀ w, Calls Try.prog 78 #[.agg #[.int .i64 b0, .int .i64 b1, .int .i64 b2, .int .i64 b3, .int .i64 b4, .int .i64 b5], .agg #[.int .i64 a0, .int .i64 a1, .int .i64 a2, .int .i64 a3, .int .i64 a4, .int .i64 a5]] w fun e w' => e = .returned (.tuple #[.agg #[.int .i64 0, .int .i64 0, .int .i64 0, .int .i64 0, .int .i64 0, .int .i64 0], .bool false]) ∧ Below w.heap.size w w')) (w : World) : Calls Try.prog 142 #[.agg #[.int .i64 a0, .int .i64 a1, .int .i64 a2, .int .i64 a3, .int .i64 a4, .int .i64 a5], .agg #[.int .i64 b0, .int .i64 b1, .int .i64 b2, .int .i64 b3, .int .i64 b4, .int .i64 b5]] w (LPb [] false w) := by
  go_enter Try.func142, Try.ntmps142
  go_wp2_with fail
  generalize hW : (World.alloc _ _ : World) = W0
  have K0 : KR 2 [(w.heap.size, os a0 a1 a2 a3 a4 a5), (w.heap.size + 1, os b0 b1 b2 b3 b4 b5)] w W0 := by
    rw [← hW]
    exact two_boxes w _ _ (by (repeat (first | exact Below.refl _ _ | assumption | refine Below.setCell ?_ (by first | (simp; done) | (simp; omega)) _ | refine Below.alloc ?_ (by first | (simp; done) | (simp; omega)) _ | refine Below.drew ?_))) (alloc_past (alloc_at rfl)) (alloc_at (by simp)) (by simp)
  clear hW
  have a_c := fun j => cell_of_row W0 _ j _ _ _ (K0.row (g := w.heap.size) (o := os a0 a1 a2 a3 a4 a5) (by simp))
  have b_c := fun j => cell_of_row W0 _ j _ _ _ (K0.row (g := w.heap.size + 1) (o := os b0 b1 b2 b3 b4 b5) (by simp))
  go_wp2_with fail
  refine (HF.out _).mono ?_
  rintro e W1 ⟨rfl, hb⟩
  have HB := Lib.hid (K0.far hb rfl).2.2
  clear hb K0 a_c b_c
  go_wp2_with fail
  have HB2 := HB.out.alloc HB.out.size (.cells #[.int .i64 0, .int .i64 0, .int .i64 0, .int .i64 0, .int .i64 0, .int .i64 0] 28)
  go_ret2
  have h := World.ownsRow_lit (base := w.heap.size) (e := 47) (size := 2) (W1.alloc (.cells #[.int .i64 0, .int .i64 0, .int .i64 0, .int .i64 0, .int .i64 0, .int .i64 0] 28)) #[] 0 HB2.size (by unfold maxLen; omega) rfl
  rw [show (W1.alloc (.cells #[.int .i64 0, .int .i64 0, .int .i64 0, .int .i64 0, .int .i64 0, .int .i64 0] 28)).heap.size = W1.heap.size + 1 by simp] at h
  exact ⟨W1.heap.size + 1, 0, rfl, h, HB2.alloc HB2.size _⟩
end Go.Proofs.Ytkjaaaefcmpokaa
