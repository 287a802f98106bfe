/- CONTRACTS: validity of a sheet, in the model's way and in the code's. -/
import Derived.Test.YtnkjamdpafpcpaaRows
import Derived.Deep.RegionHeld3
import Derived.RegionTactic
import Derived.WalkKit
import Derived.ProofKit
import Derived.OpenShut
import Derived.Lib.Hide
import Derived.WalkSpells
import Derived.Below
import Derived.BigQuiet
import Derived.LoopN
namespace Go.Proofs.Ytnkjamdpafpcpaa
open Go.ChangeShapes Go.WideShapes Go.ChangeAt Go.RowKit
set_option linter.unusedVariables false
def ok (a : Int) : Bool := decide (0 ≤ a) && decide (a ≤ 63)
theorem l1in_any (a lo hi : Int) (w : World) : Calls Try.prog 145 #[.int .i64 a, .int .i64 lo, .int .i64 hi] w fun e w' => e = .returned (.bool (decide (lo ≤ a) && decide (a ≤ hi))) ∧ w' = w := by
  by_cases h0 : lo ≤ a <;> by_cases h1 : a ≤ hi
  all_goals
    go_enter Try.func145, Try.ntmps145
    go_wp2_with fail
    go_ret
    exact ⟨by simp [h0, h1] <;> omega, rfl⟩
theorem in_row (a : Int) (b : Bool) (h : ok a = b) (w : World) : Calls Try.prog 145 #[.int .i64 a, .int .i64 0, .int .i64 63] w fun e w' => e = .returned (.bool b) ∧ w' = w := by
  subst h; exact l1in_any a 0 63 w
theorem full_any (w : World) : Calls Try.prog 165 #[] w fun e w' => e = .returned (.agg #[.int .i64 63, .int .i64 63, .int .i64 63, .int .i64 63, .int .i64 63, .int .i64 63]) ∧ Below w.heap.size w w' := by
  go_enter Try.func165, Try.ntmps165
  go_wp2_with fail
  refine wp_loop_rounds 7 ?_
  iterate 7
    rw [rounds_succ]
    go_wp2_with fail
  refine bodyPost_ret (v := .agg #[.int .i64 63, .int .i64 63, .int .i64 63, .int .i64 63, .int .i64 63, .int .i64 63]) (by simp [results, Try.results165, go_sem]) rfl ⟨rfl, ?_⟩
  (repeat (first | exact Below.refl _ _ | assumption | refine Below.setCell ?_ (by first | (simp; done) | (simp; omega)) _ | refine Below.alloc ?_ (by first | (simp; done) | (simp; omega)) _ | refine Below.drew ?_))
theorem l2sheet_any (a0 a1 a2 a3 a4 a5 : Int) (w : World) : Calls Try.prog 106 #[.agg #[.int .i64 a0, .int .i64 a1, .int .i64 a2, .int .i64 a3, .int .i64 a4, .int .i64 a5]] w fun e w' => e = .returned (.bool (ok a0 && ok a1 && ok a2 && ok a3 && ok a4 && ok a5)) ∧ Below w.heap.size w w' := by
  cases h0 : ok a0
  case' true =>
    cases h1 : ok a1
    case' true =>
      cases h2 : ok a2
      case' true =>
        cases h3 : ok a3
        case' true =>
          cases h4 : ok a4
          case' true => cases h5 : ok a5
  all_goals
    go_enter Try.func106, Try.ntmps106
    go_wp2_with fail
    refine wp_loop_rounds 7 ?_
    repeat
      rw [rounds_succ]
      go_wp2_with fail
      refine (in_row _ _ (by assumption) _).mono ?_
      rintro e w' ⟨rfl, rfl⟩
      go_wp2_with fail
    try (rw [rounds_succ]; go_wp2_with fail)
    go_ret
    exact ⟨rfl, by (repeat (first | exact Below.refl _ _ | assumption | refine Below.setCell ?_ (by first | (simp; done) | (simp; omega)) _ | refine Below.alloc ?_ (by first | (simp; done) | (simp; omega)) _ | refine Below.drew ?_))⟩
theorem ix0 (b0 b1 b2 b3 b4 b5 : Int) (w : World) : (Instr.index 22 (.agg #[.int .i64 b0, .int .i64 b1, .int .i64 b2, .int .i64 b3, .int .i64 b4, .int .i64 b5]) (.int .i64 0)).run Try.prog w = .ok (.int .i64 b0) w := by kernel_rfl
theorem ix1 (b0 b1 b2 b3 b4 b5 : Int) (w : World) : (Instr.index 22 (.agg #[.int .i64 b0, .int .i64 b1, .int .i64 b2, .int .i64 b3, .int .i64 b4, .int .i64 b5]) (.int .i64 1)).run Try.prog w = .ok (.int .i64 b1) w := by kernel_rfl
theorem ix2 (b0 b1 b2 b3 b4 b5 : Int) (w : World) : (Instr.index 22 (.agg #[.int .i64 b0, .int .i64 b1, .int .i64 b2, .int .i64 b3, .int .i64 b4, .int .i64 b5]) (.int .i64 2)).run Try.prog w = .ok (.int .i64 b2) w := by kernel_rfl
theorem ix3 (b0 b1 b2 b3 b4 b5 : Int) (w : World) : (Instr.index 22 (.agg #[.int .i64 b0, .int .i64 b1, .int .i64 b2, .int .i64 b3, .int .i64 b4, .int .i64 b5]) (.int .i64 3)).run Try.prog w = .ok (.int .i64 b3) w := by kernel_rfl
theorem ix4 (b0 b1 b2 b3 b4 b5 : Int) (w : World) : (Instr.index 22 (.agg #[.int .i64 b0, .int .i64 b1, .int .i64 b2, .int .i64 b3, .int .i64 b4, .int .i64 b5]) (.int .i64 4)).run Try.prog w = .ok (.int .i64 b4) w := by kernel_rfl
theorem ix5 (b0 b1 b2 b3 b4 b5 : Int) (w : World) : (Instr.index 22 (.agg #[.int .i64 b0, .int .i64 b1, .int .i64 b2, .int .i64 b3, .int .i64 b4, .int .i64 b5]) (.int .i64 5)).run Try.prog w = .ok (.int .i64 b5) w := by kernel_rfl
theorem new6 (a0 a1 a2 a3 a4 a5 : Int) (t : TypeId) (w : World) : ∃ w1, w1 = w.alloc (.cells #[.int .i64 a0, .int .i64 a1, .int .i64 a2, .int .i64 a3, .int .i64 a4, .int .i64 a5] t) ∧ w1.cell? ⟨w.heap.size, 0, none⟩ = some (.int .i64 a0) ∧ w1.cell? ⟨w.heap.size, 1, none⟩ = some (.int .i64 a1) ∧ w1.cell? ⟨w.heap.size, 2, none⟩ = some (.int .i64 a2) ∧ w1.cell? ⟨w.heap.size, 3, none⟩ = some (.int .i64 a3) ∧ w1.cell? ⟨w.heap.size, 4, none⟩ = some (.int .i64 a4) ∧ w1.cell? ⟨w.heap.size, 5, none⟩ = some (.int .i64 a5) ∧ Below w.heap.size w w1 :=
  ⟨_, rfl, by go_simp, by go_simp, by go_simp, by go_simp, by go_simp, by go_simp, by (repeat (first | exact Below.refl _ _ | assumption | refine Below.setCell ?_ (by first | (simp; done) | (simp; omega)) _ | refine Below.alloc ?_ (by first | (simp; done) | (simp; omega)) _ | refine Below.drew ?_))⟩
theorem blk_lt {w : World} {b o : Nat} {v : Value} (h : w.cell? ⟨b, o, none⟩ = some v) : b < w.heap.size := by
  by_cases hlt : b < w.heap.size
  · exact hlt
  · have : w.heap[b]? = none := Array.getElem?_eq_none (by omega)
    simp [World.cell?, this] at h
theorem keep6 {B g N : Nat} (a0 a1 a2 a3 a4 a5 : Int) {w W W' : World} (hg : B ≤ g) (h : W.cell? ⟨g, 0, none⟩ = some (.int .i64 a0) ∧ W.cell? ⟨g, 1, none⟩ = some (.int .i64 a1) ∧ W.cell? ⟨g, 2, none⟩ = some (.int .i64 a2) ∧ W.cell? ⟨g, 3, none⟩ = some (.int .i64 a3) ∧ W.cell? ⟨g, 4, none⟩ = some (.int .i64 a4) ∧ W.cell? ⟨g, 5, none⟩ = some (.int .i64 a5) ∧ Below B w W) (hb : Below N W W') (hN : N = W.heap.size) : W'.cell? ⟨g, 0, none⟩ = some (.int .i64 a0) ∧ W'.cell? ⟨g, 1, none⟩ = some (.int .i64 a1) ∧ W'.cell? ⟨g, 2, none⟩ = some (.int .i64 a2) ∧ W'.cell? ⟨g, 3, none⟩ = some (.int .i64 a3) ∧ W'.cell? ⟨g, 4, none⟩ = some (.int .i64 a4) ∧ W'.cell? ⟨g, 5, none⟩ = some (.int .i64 a5) ∧ Below B w W' := by
  subst hN
  obtain ⟨h0, h1, h2, h3, h4, h5, h⟩ := h
  have hl := blk_lt h0
  refine ⟨(hb.cell (p := ⟨g, 0, none⟩) hl).trans h0, (hb.cell (p := ⟨g, 1, none⟩) hl).trans h1, (hb.cell (p := ⟨g, 2, none⟩) hl).trans h2, (hb.cell (p := ⟨g, 3, none⟩) hl).trans h3, (hb.cell (p := ⟨g, 4, none⟩) hl).trans h4, (hb.cell (p := ⟨g, 5, none⟩) hl).trans h5, ?_⟩
  exact h.trans (hb.mono (by omega))
theorem shared_any (a0 a1 a2 a3 a4 a5 : Int) (b0 b1 b2 b3 b4 b5 : Int) (w : World) : Calls Try.prog 110 #[.agg #[.int .i64 a0, .int .i64 a1, .int .i64 a2, .int .i64 a3, .int .i64 a4, .int .i64 a5], .agg #[.int .i64 b0, .int .i64 b1, .int .i64 b2, .int .i64 b3, .int .i64 b4, .int .i64 b5]] w fun e w' => e = .returned (.agg #[.int .i64 (bits .and .i64 a0 b0), .int .i64 (bits .and .i64 a1 b1), .int .i64 (bits .and .i64 a2 b2), .int .i64 (bits .and .i64 a3 b3), .int .i64 (bits .and .i64 a4 b4), .int .i64 (bits .and .i64 a5 b5)]) ∧ Below w.heap.size w w' := by
  have i0 := ix0 b0 b1 b2 b3 b4 b5; have i1 := ix1 b0 b1 b2 b3 b4 b5; have i2 := ix2 b0 b1 b2 b3 b4 b5; have i3 := ix3 b0 b1 b2 b3 b4 b5; have i4 := ix4 b0 b1 b2 b3 b4 b5; have i5 := ix5 b0 b1 b2 b3 b4 b5
  go_enter Try.func110, Try.ntmps110
  go_wp2_with fail
  refine wp_loop_rounds 7 ?_
  iterate 7
    rw [rounds_succ]
    go_wp2_with fail
  refine bodyPost_ret (v := .agg #[.int .i64 (bits .and .i64 a0 b0), .int .i64 (bits .and .i64 a1 b1), .int .i64 (bits .and .i64 a2 b2), .int .i64 (bits .and .i64 a3 b3), .int .i64 (bits .and .i64 a4 b4), .int .i64 (bits .and .i64 a5 b5)]) (by simp [results, Try.results110, go_sem]) rfl ⟨rfl, ?_⟩
  (repeat (first | exact Below.refl _ _ | assumption | refine Below.setCell ?_ (by first | (simp; done) | (simp; omega)) _ | refine Below.alloc ?_ (by first | (simp; done) | (simp; omega)) _ | refine Below.drew ?_))
theorem xor_any (a0 a1 a2 a3 a4 a5 : Int) (b0 b1 b2 b3 b4 b5 : Int) (w : World) : Calls Try.prog 159 #[.agg #[.int .i64 a0, .int .i64 a1, .int .i64 a2, .int .i64 a3, .int .i64 a4, .int .i64 a5], .agg #[.int .i64 b0, .int .i64 b1, .int .i64 b2, .int .i64 b3, .int .i64 b4, .int .i64 b5]] w fun e w' => e = .returned (.agg #[.int .i64 (bits .xor .i64 a0 b0), .int .i64 (bits .xor .i64 a1 b1), .int .i64 (bits .xor .i64 a2 b2), .int .i64 (bits .xor .i64 a3 b3), .int .i64 (bits .xor .i64 a4 b4), .int .i64 (bits .xor .i64 a5 b5)]) ∧ Below w.heap.size w w' := by
  have i0 := ix0 b0 b1 b2 b3 b4 b5; have i1 := ix1 b0 b1 b2 b3 b4 b5; have i2 := ix2 b0 b1 b2 b3 b4 b5; have i3 := ix3 b0 b1 b2 b3 b4 b5; have i4 := ix4 b0 b1 b2 b3 b4 b5; have i5 := ix5 b0 b1 b2 b3 b4 b5
  go_enter Try.func159, Try.ntmps159
  go_wp2_with fail
  refine wp_loop_rounds 7 ?_
  iterate 7
    rw [rounds_succ]
    go_wp2_with fail
  refine bodyPost_ret (v := .agg #[.int .i64 (bits .xor .i64 a0 b0), .int .i64 (bits .xor .i64 a1 b1), .int .i64 (bits .xor .i64 a2 b2), .int .i64 (bits .xor .i64 a3 b3), .int .i64 (bits .xor .i64 a4 b4), .int .i64 (bits .xor .i64 a5 b5)]) (by simp [results, Try.results159, go_sem]) rfl ⟨rfl, ?_⟩
  (repeat (first | exact Below.refl _ _ | assumption | refine Below.setCell ?_ (by first | (simp; done) | (simp; omega)) _ | refine Below.alloc ?_ (by first | (simp; done) | (simp; omega)) _ | refine Below.drew ?_))
theorem or_any (a0 a1 a2 a3 a4 a5 : Int) (b0 b1 b2 b3 b4 b5 : Int) (w : World) : Calls Try.prog 155 #[.agg #[.int .i64 a0, .int .i64 a1, .int .i64 a2, .int .i64 a3, .int .i64 a4, .int .i64 a5], .agg #[.int .i64 b0, .int .i64 b1, .int .i64 b2, .int .i64 b3, .int .i64 b4, .int .i64 b5]] w fun e w' => e = .returned (.agg #[.int .i64 (bits .or .i64 a0 b0), .int .i64 (bits .or .i64 a1 b1), .int .i64 (bits .or .i64 a2 b2), .int .i64 (bits .or .i64 a3 b3), .int .i64 (bits .or .i64 a4 b4), .int .i64 (bits .or .i64 a5 b5)]) ∧ Below w.heap.size w w' := by
  have i0 := ix0 b0 b1 b2 b3 b4 b5; have i1 := ix1 b0 b1 b2 b3 b4 b5; have i2 := ix2 b0 b1 b2 b3 b4 b5; have i3 := ix3 b0 b1 b2 b3 b4 b5; have i4 := ix4 b0 b1 b2 b3 b4 b5; have i5 := ix5 b0 b1 b2 b3 b4 b5
  go_enter Try.func155, Try.ntmps155
  go_wp2_with fail
  refine wp_loop_rounds 7 ?_
  iterate 7
    rw [rounds_succ]
    go_wp2_with fail
  refine bodyPost_ret (v := .agg #[.int .i64 (bits .or .i64 a0 b0), .int .i64 (bits .or .i64 a1 b1), .int .i64 (bits .or .i64 a2 b2), .int .i64 (bits .or .i64 a3 b3), .int .i64 (bits .or .i64 a4 b4), .int .i64 (bits .or .i64 a5 b5)]) (by simp [results, Try.results155, go_sem]) rfl ⟨rfl, ?_⟩
  (repeat (first | exact Below.refl _ _ | assumption | refine Below.setCell ?_ (by first | (simp; done) | (simp; omega)) _ | refine Below.alloc ?_ (by first | (simp; done) | (simp; omega)) _ | refine Below.drew ?_))
theorem without_any (a0 a1 a2 a3 a4 a5 : Int) (b0 b1 b2 b3 b4 b5 : Int) (w : World) : Calls Try.prog 166 #[.agg #[.int .i64 a0, .int .i64 a1, .int .i64 a2, .int .i64 a3, .int .i64 a4, .int .i64 a5], .agg #[.int .i64 b0, .int .i64 b1, .int .i64 b2, .int .i64 b3, .int .i64 b4, .int .i64 b5]] w fun e w' => e = .returned (.agg #[.int .i64 (bits .andNot .i64 a0 b0), .int .i64 (bits .andNot .i64 a1 b1), .int .i64 (bits .andNot .i64 a2 b2), .int .i64 (bits .andNot .i64 a3 b3), .int .i64 (bits .andNot .i64 a4 b4), .int .i64 (bits .andNot .i64 a5 b5)]) ∧ Below w.heap.size w w' := by
  have i0 := ix0 b0 b1 b2 b3 b4 b5; have i1 := ix1 b0 b1 b2 b3 b4 b5; have i2 := ix2 b0 b1 b2 b3 b4 b5; have i3 := ix3 b0 b1 b2 b3 b4 b5; have i4 := ix4 b0 b1 b2 b3 b4 b5; have i5 := ix5 b0 b1 b2 b3 b4 b5
  go_enter Try.func166, Try.ntmps166
  go_wp2_with fail
  refine wp_loop_rounds 7 ?_
  iterate 7
    rw [rounds_succ]
    go_wp2_with fail
  refine bodyPost_ret (v := .agg #[.int .i64 (bits .andNot .i64 a0 b0), .int .i64 (bits .andNot .i64 a1 b1), .int .i64 (bits .andNot .i64 a2 b2), .int .i64 (bits .andNot .i64 a3 b3), .int .i64 (bits .andNot .i64 a4 b4), .int .i64 (bits .andNot .i64 a5 b5)]) (by simp [results, Try.results166, go_sem]) rfl ⟨rfl, ?_⟩
  (repeat (first | exact Below.refl _ _ | assumption | refine Below.setCell ?_ (by first | (simp; done) | (simp; omega)) _ | refine Below.alloc ?_ (by first | (simp; done) | (simp; omega)) _ | refine Below.drew ?_))
theorem rem_any (n : Int) (hn : (Lit.int .i64 n).wf = true) (w : World) : Calls Try.prog 228 #[.int .i64 n] w fun e w' => e = .returned (.int .i64 (n % 6)) ∧ w' = w := by
  have hb := bounds_i64 hn
  have e : (wrap64 (n.tmod 6 + 6)).tmod 6 = n % 6 := by
    have h1 : n.tmod 6 = n - 6 * n.tdiv 6 := by rw [Int.tmod_def]
    unfold wrap64
    rcases Int.lt_or_le n 0 with h | h
    · have : n.tmod 6 = -((-n) % 6) := by rw [← Int.neg_neg n, Int.neg_tmod, Int.tmod_eq_emod_of_nonneg (by omega)]; simp
      rw [this, Int.tmod_eq_emod_of_nonneg (by omega)]; omega
    · rw [Int.tmod_eq_emod_of_nonneg h, Int.tmod_eq_emod_of_nonneg (by omega)]; omega
  go_enter Try.func228, Try.ntmps228
  go_wp2_with fail
  go_ret
  exact ⟨rfl, rfl⟩
theorem around_any (x y : Int) (hx : (Lit.int .i64 x).wf = true) (hy : (Lit.int .i64 y).wf = true) (w : World) : Calls Try.prog 217 #[.int .i64 x, .int .i64 y] w fun e w' => e = .returned (.agg #[.int .i64 (x % 6), .int .i64 (y % 6)]) ∧ Below w.heap.size w w' := by
  have HX := Lib.hid hx
  have HY := Lib.hid hy
  clear hx hy
  go_enter Try.func217, Try.ntmps217
  go_wp2_with fail
  refine (rem_any x HX.out _).mono ?_
  rintro e w' ⟨rfl, rfl⟩
  go_wp2_with fail
  refine (rem_any y HY.out _).mono ?_
  rintro e w' ⟨rfl, rfl⟩
  go_wp2_with fail
  refine bodyPost_ret (v := .agg #[.int .i64 (x % 6), .int .i64 (y % 6)]) (by simp [results, Try.results217, go_sem]) rfl ⟨rfl, ?_⟩
  (repeat (first | exact Below.refl _ _ | assumption | refine Below.setCell ?_ (by first | (simp; done) | (simp; omega)) _ | refine Below.alloc ?_ (by first | (simp; done) | (simp; omega)) _ | refine Below.drew ?_))
end Go.Proofs.Ytnkjamdpafpcpaa
