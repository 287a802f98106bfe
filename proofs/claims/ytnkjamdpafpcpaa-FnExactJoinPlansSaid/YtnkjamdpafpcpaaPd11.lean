/- CONTRACTS: whether a step is valid, of the model and of the code. -/
import Derived.Test.YtnkjamdpafpcpaaSq11
import Derived.Test.YtnkjamdpafpcpaaSb
import Derived.Test.YtnkjamdpafpcpaaSd
import Derived.Test.YtnkjamdpafpcpaaKp
import Derived.WalkKit
import Derived.ProofKit
import Derived.OpenShut
import Derived.Lib.Hide
import Derived.WalkSpells
import Derived.Below
import Derived.BigQuiet
import Derived.LoopN
namespace Go.Proofs.Ytnkjamdpafpcpaa
open Go.ChangeShapes Go.WideShapes Go.ChangeAt Go.RowKit
set_option linter.unusedVariables false
set_option maxHeartbeats 1000000 in
theorem istep_11 (q0 q1 q2 q3 : Int) (hx : (Lit.int .i64 q2).wf = true) (hy : (Lit.int .i64 q3).wf = true) (n : Nat) (hn : n ≤ 1048576) (w : World) : Calls Try.prog 205 #[.agg #[.int .i64 q0, .int .i64 q1, .int .i64 q2, .int .i64 q3], .int .i64 (n : Int)] w fun e w' => e = .returned (.bool (okS n ⟨q0, q1, q2, q3⟩)) ∧ Below w.heap.size w w' := by
  have HC := Lib.hid (iscell_any q2 q3 hx hy)
  obtain ⟨r, hr⟩ : ∃ r, r = okS n ⟨q0, q1, q2, q3⟩ := ⟨_, rfl⟩
  rw [← hr]
  unfold okS at hr
  dsimp only at hr
  have HR := Lib.hid hr
  clear hr
  by_cases h1 : 1 ≤ q0
  · by_cases h2 : q0 ≤ 3
    · by_cases h3 : 0 ≤ q1
      · by_cases h4 : q1 < (n : Int)
        · go_enter Try.func205, Try.ntmps205
          go_wp2_with fail
          generalize hW : (World.alloc _ _ : World) = W0
          have hB : Below w.heap.size w W0 := by rw [← hW]; (repeat (first | exact Below.refl _ _ | assumption | refine Below.setCell ?_ (by first | (simp; done) | (simp; omega)) _ | refine Below.alloc ?_ (by first | (simp; done) | (simp; omega)) _ | refine Below.drew ?_))
          clear hW
          refine (HC.out _).mono ?_
          rintro e W1 ⟨rfl, hb⟩
          have hB1 := below_of hB hb (by have := hB.size; omega)
          clear hb hB
          go_wp2_with fail
          go_ret
          exact ⟨by rw [HR.out]; simp [h1, h2, h3, h4], hB1⟩
        · go_enter Try.func205, Try.ntmps205
          go_wp2_with fail
          go_ret
          exact ⟨by rw [HR.out]; simp [h1, h2, h3]; intros; omega, by (repeat (first | exact Below.refl _ _ | assumption | refine Below.setCell ?_ (by first | (simp; done) | (simp; omega)) _ | refine Below.alloc ?_ (by first | (simp; done) | (simp; omega)) _ | refine Below.drew ?_))⟩
      · go_enter Try.func205, Try.ntmps205
        go_wp2_with fail
        go_ret
        exact ⟨by rw [HR.out]; simp [h1, h2]; intros; omega, by (repeat (first | exact Below.refl _ _ | assumption | refine Below.setCell ?_ (by first | (simp; done) | (simp; omega)) _ | refine Below.alloc ?_ (by first | (simp; done) | (simp; omega)) _ | refine Below.drew ?_))⟩
    · go_enter Try.func205, Try.ntmps205
      go_wp2_with fail
      go_ret
      exact ⟨by rw [HR.out]; simp [h1]; intros; omega, by (repeat (first | exact Below.refl _ _ | assumption | refine Below.setCell ?_ (by first | (simp; done) | (simp; omega)) _ | refine Below.alloc ?_ (by first | (simp; done) | (simp; omega)) _ | refine Below.drew ?_))⟩
  · go_enter Try.func205, Try.ntmps205
    go_wp2_with fail
    go_ret
    exact ⟨by rw [HR.out]; simp; intros; omega, by (repeat (first | exact Below.refl _ _ | assumption | refine Below.setCell ?_ (by first | (simp; done) | (simp; omega)) _ | refine Below.alloc ?_ (by first | (simp; done) | (simp; omega)) _ | refine Below.drew ?_))⟩
set_option maxHeartbeats 1000000 in
theorem lstep_11 (q0 q1 q2 q3 : Int) (n : Nat) (hn : n ≤ 1048576) (w : World) : Calls Try.prog 137 #[.agg #[.int .i64 q0, .int .i64 q1, .int .i64 q2, .int .i64 q3], .int .i64 (n : Int)] w fun e w' => e = .returned (.bool (okS n ⟨q0, q1, q2, q3⟩)) ∧ Below w.heap.size w w' := by
  have H1 := Lib.hid (l1in_any q0 1 3)
  have H2 := Lib.hid (l1in_any q1 0 ((n : Int) - 1))
  have HC := Lib.hid (l2cell_any q2 q3)
  have e1 : wrap64 ((n : Int) - 1) = (n : Int) - 1 := by unfold wrap64; omega
  obtain ⟨r, hr⟩ : ∃ r, r = okS n ⟨q0, q1, q2, q3⟩ := ⟨_, rfl⟩
  rw [← hr]
  unfold okS at hr
  dsimp only at hr
  have ed : decide (q1 ≤ (n : Int) - 1) = decide (q1 < (n : Int)) := decide_eq_decide.mpr (by omega)
  rw [← ed] at hr
  have HR := Lib.hid hr
  clear hr ed
  generalize (decide (1 ≤ q0) && decide (q0 ≤ 3)) = b1 at H1 HR
  generalize (decide (0 ≤ q1) && decide (q1 ≤ (n : Int) - 1)) = b2 at H2 HR
  cases b1
  · go_enter Try.func137, Try.ntmps137
    go_wp2_with fail
    generalize hW : (World.alloc _ _ : World) = W0
    have hB : Below w.heap.size w W0 := by rw [← hW]; (repeat (first | exact Below.refl _ _ | assumption | refine Below.setCell ?_ (by first | (simp; done) | (simp; omega)) _ | refine Below.alloc ?_ (by first | (simp; done) | (simp; omega)) _ | refine Below.drew ?_))
    clear hW
    refine (H1.out _).mono ?_
    rintro e W1 ⟨rfl, hb⟩
    obtain rfl := hb.symm
    go_wp2_with fail
    go_ret
    exact ⟨by rw [HR.out]; rfl, hB⟩
  · cases b2
    · go_enter Try.func137, Try.ntmps137
      go_wp2_with fail
      generalize hW : (World.alloc _ _ : World) = W0
      have hB : Below w.heap.size w W0 := by rw [← hW]; (repeat (first | exact Below.refl _ _ | assumption | refine Below.setCell ?_ (by first | (simp; done) | (simp; omega)) _ | refine Below.alloc ?_ (by first | (simp; done) | (simp; omega)) _ | refine Below.drew ?_))
      have r0 : W0.heap[w.heap.size]? = some (.cells #[.int .i64 q0, .int .i64 q1, .int .i64 q2, .int .i64 q3] 73 (0, 0)) := by rw [← hW]; exact alloc_at rfl
      clear hW
      refine (H1.out _).mono ?_
      rintro e W1 ⟨rfl, hb⟩
      obtain rfl := hb.symm
      have a_c := fun j => cell_of_row W0 _ j _ _ _ r0
      go_wp2_with fail
      refine (H2.out _).mono ?_
      rintro e W1 ⟨rfl, hb⟩
      obtain rfl := hb.symm
      go_wp2_with fail
      go_ret
      exact ⟨by rw [HR.out]; rfl, hB⟩
    · go_enter Try.func137, Try.ntmps137
      go_wp2_with fail
      generalize hW : (World.alloc _ _ : World) = W0
      have hB : Below w.heap.size w W0 := by rw [← hW]; (repeat (first | exact Below.refl _ _ | assumption | refine Below.setCell ?_ (by first | (simp; done) | (simp; omega)) _ | refine Below.alloc ?_ (by first | (simp; done) | (simp; omega)) _ | refine Below.drew ?_))
      have r0 : W0.heap[w.heap.size]? = some (.cells #[.int .i64 q0, .int .i64 q1, .int .i64 q2, .int .i64 q3] 73 (0, 0)) := by rw [← hW]; exact alloc_at rfl
      clear hW
      refine (H1.out _).mono ?_
      rintro e W1 ⟨rfl, hb⟩
      obtain rfl := hb.symm
      have a_c := fun j => cell_of_row W0 _ j _ _ _ r0
      go_wp2_with fail
      refine (H2.out _).mono ?_
      rintro e W1 ⟨rfl, hb⟩
      obtain rfl := hb.symm
      go_wp2_with fail
      refine (HC.out _).mono ?_
      rintro e W1 ⟨rfl, hb⟩
      have hB1 := below_of hB hb (by have := hB.size; omega)
      clear hb hB
      go_wp2_with fail
      go_ret
      exact ⟨by rw [HR.out]; rfl, hB1⟩
end Go.Proofs.Ytnkjamdpafpcpaa
