/- CONTRACTS: ShiftsTo and PeriodsOf of both, where the sheets are valid and where not; pairs. -/
import Derived.Test.YtpmhnikilianoaaQ7
import Derived.Test.YtpmhnikilianoaaKa7
import Derived.WalkKit
import Derived.ProofKit
import Derived.OpenShut
import Derived.Lib.Hide
import Derived.WalkSpells
import Derived.Below
import Derived.BigQuiet
import Derived.LoopN
namespace Go.Proofs.Ytpmhnikilianoaa
open Go.ChangeShapes Go.WideShapes Go.ChangeAt Go.RowKit
set_option linter.unusedVariables false
def o7e (a0 a1 a2 a3 a4 a5 : Int) : Obj := .cells #[.int .i64 a0, .int .i64 a1, .int .i64 a2, .int .i64 a3, .int .i64 a4, .int .i64 a5] 28 (0, 0)
theorem kr2 (w : World) (o o2 : Obj) : KR 2 [(w.heap.size, o), (w.heap.size + 1, o2)] w ((w.alloc o).alloc o2) := by
  refine ⟨?_, by simp, by (repeat (first | exact Below.refl _ _ | assumption | refine Below.setCell ?_ (by first | (simp; done) | (simp; omega)) _ | refine Below.alloc ?_ (by first | (simp; done) | (simp; omega)) _ | refine Below.drew ?_))⟩
  intro p hp
  simp only [List.mem_cons, List.not_mem_nil, or_false] at hp
  rcases hp with rfl | rfl
  · exact ⟨by simp, alloc_past (alloc_at rfl)⟩
  · exact ⟨by simp, alloc_at (by simp)⟩
set_option maxHeartbeats 1000000 in
theorem sto_yes (a b : Fn6) (H0 : Hid (∀ w, Calls Try.prog 119 #[.agg #[.int .i64 (rowv (a 0)), .int .i64 (rowv (a 1)), .int .i64 (rowv (a 2)), .int .i64 (rowv (a 3)), .int .i64 (rowv (a 4)), .int .i64 (rowv (a 5))]] w fun e w' => e = .returned (.bool true) ∧ Below w.heap.size w w')) (H1 : Hid (∀ w, Calls Try.prog 119 #[.agg #[.int .i64 (rowv (b 0)), .int .i64 (rowv (b 1)), .int .i64 (rowv (b 2)), .int .i64 (rowv (b 3)), .int .i64 (rowv (b 4)), .int .i64 (rowv (b 5))]] w fun e w' => e = .returned (.bool true) ∧ Below w.heap.size w w')) (w : World) : Calls Try.prog 29 #[.agg #[.int .i64 (rowv (a 0)), .int .i64 (rowv (a 1)), .int .i64 (rowv (a 2)), .int .i64 (rowv (a 3)), .int .i64 (rowv (a 4)), .int .i64 (rowv (a 5))], .agg #[.int .i64 (rowv (b 0)), .int .i64 (rowv (b 1)), .int .i64 (rowv (b 2)), .int .i64 (rowv (b 3)), .int .i64 (rowv (b 4)), .int .i64 (rowv (b 5))]] w (LPb (pl (sg7 a b) 36) true w) := by
  have HF := Lib.hid (lto_f a b)
  go_enter Try.func29, Try.ntmps29
  go_wp2_with fail
  generalize hW : (World.alloc _ _ : World) = W0
  have K0 : KR 2 [(w.heap.size, o6 a), (w.heap.size + 1, o6 b)] w W0 := hW ▸ kr2 w _ _
  clear hW
  have a_c := fun j => cell_of_row W0 _ j _ _ _ (K0.row (g := w.heap.size) (o := o6 a) (by simp))
  go_wp2_with fail
  refine (H0.out _).mono ?_
  rintro e W1 ⟨rfl, hb⟩
  have K1 := K0.far hb rfl
  clear hb K0 a_c
  have b_c := fun j => cell_of_row W1 _ j _ _ _ (K1.row (g := w.heap.size + 1) (o := o6 b) (by simp))
  go_wp2_with fail
  refine (H1.out _).mono ?_
  rintro e W2 ⟨rfl, hb⟩
  have K2 := K1.far hb rfl
  clear hb K1 b_c
  have a_c := fun j => cell_of_row W2 _ j _ _ _ (K2.row (g := w.heap.size) (o := o6 a) (by simp))
  have b_c := fun j => cell_of_row W2 _ j _ _ _ (K2.row (g := w.heap.size + 1) (o := o6 b) (by simp))
  go_wp2_with fail
  refine (HF.out _).mono ?_
  rintro e W3 ⟨g, cap, rfl, ho, hb⟩
  have HO := Lib.hid (own_mono ho (K2.2.2.size))
  have HB := Lib.hid (below_of K2.2.2 hb K2.2.2.size)
  clear hb ho K2 a_c b_c
  go_wp2_with fail
  go_ret2
  exact ⟨g, cap, rfl, HO.out, HB.out⟩
set_option maxHeartbeats 1000000 in
theorem sto_no0 (a0 a1 a2 a3 a4 a5 : Int) (b0 b1 b2 b3 b4 b5 : Int) (H0 : Hid (∀ w, Calls Try.prog 119 #[.agg #[.int .i64 a0, .int .i64 a1, .int .i64 a2, .int .i64 a3, .int .i64 a4, .int .i64 a5]] w fun e w' => e = .returned (.bool false) ∧ Below w.heap.size w w')) (w : World) : Calls Try.prog 29 #[.agg #[.int .i64 a0, .int .i64 a1, .int .i64 a2, .int .i64 a3, .int .i64 a4, .int .i64 a5], .agg #[.int .i64 b0, .int .i64 b1, .int .i64 b2, .int .i64 b3, .int .i64 b4, .int .i64 b5]] w (LPb [] false w) := by
  go_enter Try.func29, Try.ntmps29
  go_wp2_with fail
  generalize hW : (World.alloc _ _ : World) = W0
  have K0 : KR 2 [(w.heap.size, o7e a0 a1 a2 a3 a4 a5), (w.heap.size + 1, o7e b0 b1 b2 b3 b4 b5)] w W0 := hW ▸ kr2 w _ _
  clear hW
  have a_c := fun j => cell_of_row W0 _ j _ _ _ (K0.row (g := w.heap.size) (o := o7e a0 a1 a2 a3 a4 a5) (by simp))
  go_wp2_with fail
  refine (H0.out _).mono ?_
  rintro e W1 ⟨rfl, hb⟩
  have K1 := K0.far hb rfl
  clear hb K0 a_c
  go_wp2_with fail
  go_ret2
  exact ⟨W1.heap.size, 0, rfl, World.ownsRow_lit (base := w.heap.size) (e := 37) (size := 2) W1 #[] 0 K1.2.2.size (by unfold maxLen; omega) rfl, K1.2.2.alloc K1.2.2.size _⟩
set_option maxHeartbeats 1000000 in
theorem sto_no1 (a0 a1 a2 a3 a4 a5 : Int) (b0 b1 b2 b3 b4 b5 : Int) (H0 : Hid (∀ w, Calls Try.prog 119 #[.agg #[.int .i64 a0, .int .i64 a1, .int .i64 a2, .int .i64 a3, .int .i64 a4, .int .i64 a5]] w fun e w' => e = .returned (.bool true) ∧ Below w.heap.size w w')) (H1 : Hid (∀ w, Calls Try.prog 119 #[.agg #[.int .i64 b0, .int .i64 b1, .int .i64 b2, .int .i64 b3, .int .i64 b4, .int .i64 b5]] w fun e w' => e = .returned (.bool false) ∧ Below w.heap.size w w')) (w : World) : Calls Try.prog 29 #[.agg #[.int .i64 a0, .int .i64 a1, .int .i64 a2, .int .i64 a3, .int .i64 a4, .int .i64 a5], .agg #[.int .i64 b0, .int .i64 b1, .int .i64 b2, .int .i64 b3, .int .i64 b4, .int .i64 b5]] w (LPb [] false w) := by
  go_enter Try.func29, Try.ntmps29
  go_wp2_with fail
  generalize hW : (World.alloc _ _ : World) = W0
  have K0 : KR 2 [(w.heap.size, o7e a0 a1 a2 a3 a4 a5), (w.heap.size + 1, o7e b0 b1 b2 b3 b4 b5)] w W0 := hW ▸ kr2 w _ _
  clear hW
  have a_c := fun j => cell_of_row W0 _ j _ _ _ (K0.row (g := w.heap.size) (o := o7e a0 a1 a2 a3 a4 a5) (by simp))
  go_wp2_with fail
  refine (H0.out _).mono ?_
  rintro e W1 ⟨rfl, hb⟩
  have K1 := K0.far hb rfl
  clear hb K0 a_c
  have b_c := fun j => cell_of_row W1 _ j _ _ _ (K1.row (g := w.heap.size + 1) (o := o7e b0 b1 b2 b3 b4 b5) (by simp))
  go_wp2_with fail
  refine (H1.out _).mono ?_
  rintro e W2 ⟨rfl, hb⟩
  have K2 := K1.far hb rfl
  clear hb K1 b_c
  go_wp2_with fail
  go_ret2
  exact ⟨W2.heap.size, 0, rfl, World.ownsRow_lit (base := w.heap.size) (e := 37) (size := 2) W2 #[] 0 K2.2.2.size (by unfold maxLen; omega) rfl, K2.2.2.alloc K2.2.2.size _⟩
set_option maxHeartbeats 1000000 in
theorem ito_no0 (a0 a1 a2 a3 a4 a5 : Int) (b0 b1 b2 b3 b4 b5 : Int) (H0 : Hid (∀ w, Calls Try.prog 122 #[.agg #[.int .i64 a0, .int .i64 a1, .int .i64 a2, .int .i64 a3, .int .i64 a4, .int .i64 a5]] w fun e w' => e = .returned (.bool false) ∧ Below w.heap.size w w')) (w : World) : Calls Try.prog 30 #[.agg #[.int .i64 a0, .int .i64 a1, .int .i64 a2, .int .i64 a3, .int .i64 a4, .int .i64 a5], .agg #[.int .i64 b0, .int .i64 b1, .int .i64 b2, .int .i64 b3, .int .i64 b4, .int .i64 b5]] w (LPb [] false w) := by
  go_enter Try.func30, Try.ntmps30
  go_wp2_with fail
  generalize hW : (World.alloc (World.alloc w _) _ : World) = W0
  have hsz : W0.heap.size = w.heap.size + 1 + 1 := by rw [← hW]; simp
  have K0 : KR 2 [(w.heap.size, o7e a0 a1 a2 a3 a4 a5), (w.heap.size + 1, o7e b0 b1 b2 b3 b4 b5)] w W0 := hW ▸ kr2 w _ _
  have S0 := Rl.start K0
  rw [hsz] at S0
  clear hsz hW K0
  generalize (World.alloc _ _ : World) = W1 at S0 ⊢
  generalize hv0 : (Value.slice (some ⟨_, 0, none⟩) 0 0) = v0 at S0 ⊢
  clear hv0
  have a_c := fun j => cell_of_row W1 _ j _ _ _ (S0.1.row (g := w.heap.size) (o := o7e a0 a1 a2 a3 a4 a5) (by simp))
  go_wp2_with fail
  refine (H0.out _).mono ?_
  rintro e W2 ⟨rfl, hb⟩
  have S1 := S0.below hb rfl
  clear hb S0 a_c
  obtain ⟨g, cap, rfl, h2, h3⟩ := S1.post
  have H2 := Lib.hid h2
  have H3 := Lib.hid h3
  clear h2 h3 S1
  go_wp2_with fail
  go_ret2
  exact ⟨g, cap, rfl, H2.out, H3.out⟩
set_option maxHeartbeats 1000000 in
theorem ito_no1 (a0 a1 a2 a3 a4 a5 : Int) (b0 b1 b2 b3 b4 b5 : Int) (H0 : Hid (∀ w, Calls Try.prog 122 #[.agg #[.int .i64 a0, .int .i64 a1, .int .i64 a2, .int .i64 a3, .int .i64 a4, .int .i64 a5]] w fun e w' => e = .returned (.bool true) ∧ Below w.heap.size w w')) (H1 : Hid (∀ w, Calls Try.prog 122 #[.agg #[.int .i64 b0, .int .i64 b1, .int .i64 b2, .int .i64 b3, .int .i64 b4, .int .i64 b5]] w fun e w' => e = .returned (.bool false) ∧ Below w.heap.size w w')) (w : World) : Calls Try.prog 30 #[.agg #[.int .i64 a0, .int .i64 a1, .int .i64 a2, .int .i64 a3, .int .i64 a4, .int .i64 a5], .agg #[.int .i64 b0, .int .i64 b1, .int .i64 b2, .int .i64 b3, .int .i64 b4, .int .i64 b5]] w (LPb [] false w) := by
  go_enter Try.func30, Try.ntmps30
  go_wp2_with fail
  generalize hW : (World.alloc (World.alloc w _) _ : World) = W0
  have hsz : W0.heap.size = w.heap.size + 1 + 1 := by rw [← hW]; simp
  have K0 : KR 2 [(w.heap.size, o7e a0 a1 a2 a3 a4 a5), (w.heap.size + 1, o7e b0 b1 b2 b3 b4 b5)] w W0 := hW ▸ kr2 w _ _
  have S0 := Rl.start K0
  rw [hsz] at S0
  clear hsz hW K0
  generalize (World.alloc _ _ : World) = W1 at S0 ⊢
  generalize hv0 : (Value.slice (some ⟨_, 0, none⟩) 0 0) = v0 at S0 ⊢
  clear hv0
  have a_c := fun j => cell_of_row W1 _ j _ _ _ (S0.1.row (g := w.heap.size) (o := o7e a0 a1 a2 a3 a4 a5) (by simp))
  go_wp2_with fail
  refine (H0.out _).mono ?_
  rintro e W2 ⟨rfl, hb⟩
  have S1 := S0.below hb rfl
  clear hb S0 a_c
  have b_c := fun j => cell_of_row W2 _ j _ _ _ (S1.1.row (g := w.heap.size + 1) (o := o7e b0 b1 b2 b3 b4 b5) (by simp))
  go_wp2_with fail
  refine (H1.out _).mono ?_
  rintro e W3 ⟨rfl, hb⟩
  have S2 := S1.below hb rfl
  clear hb S1 b_c
  obtain ⟨g, cap, rfl, h2, h3⟩ := S2.post
  have H2 := Lib.hid h2
  have H3 := Lib.hid h3
  clear h2 h3 S2
  go_wp2_with fail
  go_ret2
  exact ⟨g, cap, rfl, H2.out, H3.out⟩
theorem shiftsto_pair (a0 a1 a2 a3 a4 a5 : Int) (b0 b1 b2 b3 b4 b5 : Int) : ∃ (l : List (Nat × Nat)) (t : Bool), l.length ≤ 36 ∧ (∀ w, Calls Try.prog 29 #[.agg #[.int .i64 a0, .int .i64 a1, .int .i64 a2, .int .i64 a3, .int .i64 a4, .int .i64 a5], .agg #[.int .i64 b0, .int .i64 b1, .int .i64 b2, .int .i64 b3, .int .i64 b4, .int .i64 b5]] w (LPb l t w)) ∧ (∀ w, Calls Try.prog 30 #[.agg #[.int .i64 a0, .int .i64 a1, .int .i64 a2, .int .i64 a3, .int .i64 a4, .int .i64 a5], .agg #[.int .i64 b0, .int .i64 b1, .int .i64 b2, .int .i64 b3, .int .i64 b4, .int .i64 b5]] w (LPb l t w)) := by
  cases hv : (ok a0 && ok a1 && ok a2 && ok a3 && ok a4 && ok a5)
  · exact ⟨[], false, by simp, sto_no0 a0 a1 a2 a3 a4 a5 b0 b1 b2 b3 b4 b5 (Lib.hid (fun w => hv ▸ l2sheet_any a0 a1 a2 a3 a4 a5 w)), ito_no0 a0 a1 a2 a3 a4 a5 b0 b1 b2 b3 b4 b5 (Lib.hid (fun w => hv ▸ sheet_any a0 a1 a2 a3 a4 a5 w))⟩
  · cases hu : (ok b0 && ok b1 && ok b2 && ok b3 && ok b4 && ok b5)
    · exact ⟨[], false, by simp, sto_no1 a0 a1 a2 a3 a4 a5 b0 b1 b2 b3 b4 b5 (Lib.hid (fun w => hv ▸ l2sheet_any a0 a1 a2 a3 a4 a5 w)) (Lib.hid (fun w => hu ▸ l2sheet_any b0 b1 b2 b3 b4 b5 w)), ito_no1 a0 a1 a2 a3 a4 a5 b0 b1 b2 b3 b4 b5 (Lib.hid (fun w => hv ▸ sheet_any a0 a1 a2 a3 a4 a5 w)) (Lib.hid (fun w => hu ▸ sheet_any b0 b1 b2 b3 b4 b5 w))⟩
    · have HS := Lib.hid (fun w => hv ▸ l2sheet_any a0 a1 a2 a3 a4 a5 w)
      have HI := Lib.hid (fun w => hv ▸ sheet_any a0 a1 a2 a3 a4 a5 w)
      have HS2 := Lib.hid (fun w => hu ▸ l2sheet_any b0 b1 b2 b3 b4 b5 w)
      have HI2 := Lib.hid (fun w => hu ▸ sheet_any b0 b1 b2 b3 b4 b5 w)
      obtain ⟨f, rfl, rfl, rfl, rfl, rfl, rfl⟩ := sheet_bits a0 a1 a2 a3 a4 a5 hv
      obtain ⟨g, rfl, rfl, rfl, rfl, rfl, rfl⟩ := sheet_bits b0 b1 b2 b3 b4 b5 hu
      exact ⟨_, true, pl_len _ 36, sto_yes f g HS HS2, ito_yes f g HI HI2⟩
set_option maxHeartbeats 1000000 in
theorem sper_yes (a : Fn6) (H0 : Hid (∀ w, Calls Try.prog 119 #[.agg #[.int .i64 (rowv (a 0)), .int .i64 (rowv (a 1)), .int .i64 (rowv (a 2)), .int .i64 (rowv (a 3)), .int .i64 (rowv (a 4)), .int .i64 (rowv (a 5))]] w fun e w' => e = .returned (.bool true) ∧ Below w.heap.size w w')) (w : World) : Calls Try.prog 23 #[.agg #[.int .i64 (rowv (a 0)), .int .i64 (rowv (a 1)), .int .i64 (rowv (a 2)), .int .i64 (rowv (a 3)), .int .i64 (rowv (a 4)), .int .i64 (rowv (a 5))]] w (LPb (pl (sg7 a a) 36) true w) := by
  have HF := Lib.hid (lto_f a a)
  go_enter Try.func23, Try.ntmps23
  go_wp2_with fail
  generalize hW : (World.alloc _ _ : World) = W0
  have K0 : KR 1 [(w.heap.size, o6 a)] w W0 := hW ▸ kr1 w _
  clear hW
  have a_c := fun j => cell_of_row W0 _ j _ _ _ (K0.row (g := w.heap.size) (o := o6 a) (by simp))
  go_wp2_with fail
  refine (H0.out _).mono ?_
  rintro e W1 ⟨rfl, hb⟩
  have K2 := K0.far hb rfl
  clear hb K0 a_c
  have a_c := fun j => cell_of_row W1 _ j _ _ _ (K2.row (g := w.heap.size) (o := o6 a) (by simp))
  go_wp2_with fail
  refine (HF.out _).mono ?_
  rintro e W3 ⟨g, cap, rfl, ho, hb⟩
  have HO := Lib.hid (own_mono ho (K2.2.2.size))
  have HB := Lib.hid (below_of K2.2.2 hb K2.2.2.size)
  clear hb ho K2 a_c
  go_wp2_with fail
  go_ret2
  exact ⟨g, cap, rfl, HO.out, HB.out⟩
set_option maxHeartbeats 1000000 in
theorem sper_no (a0 a1 a2 a3 a4 a5 : Int) (H0 : Hid (∀ w, Calls Try.prog 119 #[.agg #[.int .i64 a0, .int .i64 a1, .int .i64 a2, .int .i64 a3, .int .i64 a4, .int .i64 a5]] w fun e w' => e = .returned (.bool false) ∧ Below w.heap.size w w')) (w : World) : Calls Try.prog 23 #[.agg #[.int .i64 a0, .int .i64 a1, .int .i64 a2, .int .i64 a3, .int .i64 a4, .int .i64 a5]] w (LPb [] false w) := by
  go_enter Try.func23, Try.ntmps23
  go_wp2_with fail
  generalize hW : (World.alloc _ _ : World) = W0
  have K0 : KR 1 [(w.heap.size, o7e a0 a1 a2 a3 a4 a5)] w W0 := hW ▸ kr1 w _
  clear hW
  have a_c := fun j => cell_of_row W0 _ j _ _ _ (K0.row (g := w.heap.size) (o := o7e a0 a1 a2 a3 a4 a5) (by simp))
  go_wp2_with fail
  refine (H0.out _).mono ?_
  rintro e W1 ⟨rfl, hb⟩
  have K1 := K0.far hb rfl
  clear hb K0 a_c
  go_wp2_with fail
  go_ret2
  exact ⟨W1.heap.size, 0, rfl, World.ownsRow_lit (base := w.heap.size) (e := 37) (size := 2) W1 #[] 0 K1.2.2.size (by unfold maxLen; omega) rfl, K1.2.2.alloc K1.2.2.size _⟩
set_option maxHeartbeats 1000000 in
theorem iper_any (a0 a1 a2 a3 a4 a5 : Int) (l : List (Nat × Nat)) (t : Bool) (H : Hid (∀ w, Calls Try.prog 30 #[.agg #[.int .i64 a0, .int .i64 a1, .int .i64 a2, .int .i64 a3, .int .i64 a4, .int .i64 a5], .agg #[.int .i64 a0, .int .i64 a1, .int .i64 a2, .int .i64 a3, .int .i64 a4, .int .i64 a5]] w (LPb l t w))) (w : World) : Calls Try.prog 25 #[.agg #[.int .i64 a0, .int .i64 a1, .int .i64 a2, .int .i64 a3, .int .i64 a4, .int .i64 a5]] w (LPb l t w) := by
  go_enter Try.func25, Try.ntmps25
  go_wp2_with fail
  generalize hW : (World.alloc _ _ : World) = W0
  have K0 : KR 1 [(w.heap.size, o7e a0 a1 a2 a3 a4 a5)] w W0 := hW ▸ kr1 w _
  clear hW
  have a_c := fun j => cell_of_row W0 _ j _ _ _ (K0.row (g := w.heap.size) (o := o7e a0 a1 a2 a3 a4 a5) (by simp))
  go_wp2_with fail
  refine (H.out _).mono ?_
  intro e W3 hp
  obtain ⟨g, cap, rfl, ho, hb⟩ := LPb.out hp
  have HO := Lib.hid (own_mono ho (K0.2.2.size))
  have HB := Lib.hid (below_of K0.2.2 hb K0.2.2.size)
  clear hb ho K0 a_c hp
  go_wp2_with fail
  go_ret2
  exact ⟨g, cap, rfl, HO.out, HB.out⟩
theorem periods_pair (a0 a1 a2 a3 a4 a5 : Int) : ∃ (l : List (Nat × Nat)) (t : Bool), l.length ≤ 36 ∧ (∀ w, Calls Try.prog 23 #[.agg #[.int .i64 a0, .int .i64 a1, .int .i64 a2, .int .i64 a3, .int .i64 a4, .int .i64 a5]] w (LPb l t w)) ∧ (∀ w, Calls Try.prog 25 #[.agg #[.int .i64 a0, .int .i64 a1, .int .i64 a2, .int .i64 a3, .int .i64 a4, .int .i64 a5]] w (LPb l t w)) := by
  cases hv : (ok a0 && ok a1 && ok a2 && ok a3 && ok a4 && ok a5)
  · exact ⟨[], false, by simp, sper_no a0 a1 a2 a3 a4 a5 (Lib.hid (fun w => hv ▸ l2sheet_any a0 a1 a2 a3 a4 a5 w)), iper_any a0 a1 a2 a3 a4 a5 [] false (Lib.hid (ito_no0 a0 a1 a2 a3 a4 a5 a0 a1 a2 a3 a4 a5 (Lib.hid (fun w => hv ▸ sheet_any a0 a1 a2 a3 a4 a5 w))))⟩
  · have HS := Lib.hid (fun w => hv ▸ l2sheet_any a0 a1 a2 a3 a4 a5 w)
    have HI := Lib.hid (fun w => hv ▸ sheet_any a0 a1 a2 a3 a4 a5 w)
    obtain ⟨f, rfl, rfl, rfl, rfl, rfl, rfl⟩ := sheet_bits a0 a1 a2 a3 a4 a5 hv
    exact ⟨_, true, pl_len _ 36, sper_yes f HS, iper_any _ _ _ _ _ _ _ true (Lib.hid (ito_yes f f HI HI))⟩
end Go.Proofs.Ytpmhnikilianoaa
