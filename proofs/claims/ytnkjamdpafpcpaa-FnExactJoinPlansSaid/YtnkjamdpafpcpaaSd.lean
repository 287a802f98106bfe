/- CONTRACTS: cells of a sheet; remainders; shifts. -/
import Derived.Test.YtnkjamdpafpcpaaSb
import Derived.Test.YtnkjamdpafpcpaaEq
import Derived.Test.YtnkjamdpafpcpaaSa
import Derived.RegionTactic
import Derived.Deep.RegionHeld3
import Derived.WalkKit
import Derived.ProofKit
import Derived.OpenShut
import Derived.Lib.Hide
import Derived.WalkSpells
import Derived.Below
import Derived.BigQuiet
import Derived.LoopN
namespace Go.Proofs.Ytnkjamdpafpcpaa
open Go.ChangeShapes Go.WideShapes Go.ChangeAt Go.RowKit
set_option linter.unusedVariables false
def at6 (a0 a1 a2 a3 a4 a5 : Int) (y : Int) : Int := if y = 0 then a0 else if y = 1 then a1 else if y = 2 then a2 else if y = 3 then a3 else if y = 4 then a4 else a5
theorem six {y : Int} (h : 0 ≤ y ∧ y ≤ 5) : y = 0 ∨ y = 1 ∨ y = 2 ∨ y = 3 ∨ y = 4 ∨ y = 5 := by omega
theorem has_any (a0 a1 a2 a3 a4 a5 : Int) (x y : Int) (hx : 0 ≤ x ∧ x ≤ 5) (hy : 0 ≤ y ∧ y ≤ 5) (w : World) : Calls Try.prog 168 #[.agg #[.int .i64 a0, .int .i64 a1, .int .i64 a2, .int .i64 a3, .int .i64 a4, .int .i64 a5], .agg #[.int .i64 x, .int .i64 y]] w fun e w' => e = .returned (.bool (bits .and .i64 (at6 a0 a1 a2 a3 a4 a5 y / 2 ^ x.toNat) 1 == 1)) ∧ Below w.heap.size w w' := by
  rcases six hy with rfl | rfl | rfl | rfl | rfl | rfl
  all_goals
    go_enter Try.func168, Try.ntmps168
    go_wp2_with fail
    go_region
    go_wp2_with fail
    go_ret
    exact ⟨rfl, by (repeat (first | exact Below.refl _ _ | assumption | refine Below.setCell ?_ (by first | (simp; done) | (simp; omega)) _ | refine Below.alloc ?_ (by first | (simp; done) | (simp; omega)) _ | refine Below.drew ?_))⟩
theorem get_any (a0 a1 a2 a3 a4 a5 : Int) (x y : Int) (hx : 0 ≤ x ∧ x ≤ 5) (hy : 0 ≤ y ∧ y ≤ 5) (w : World) : Calls Try.prog 206 #[.agg #[.int .i64 a0, .int .i64 a1, .int .i64 a2, .int .i64 a3, .int .i64 a4, .int .i64 a5], .int .i64 x, .int .i64 y] w fun e w' => e = .returned (.bool (bits .and .i64 (at6 a0 a1 a2 a3 a4 a5 y / 2 ^ x.toNat) 1 == 1)) ∧ Below w.heap.size w w' := by
  rcases six hy with rfl | rfl | rfl | rfl | rfl | rfl
  all_goals
    go_enter Try.func206, Try.ntmps206
    go_wp2_with fail
    go_ret
    exact ⟨rfl, by (repeat (first | exact Below.refl _ _ | assumption | refine Below.setCell ?_ (by first | (simp; done) | (simp; omega)) _ | refine Below.alloc ?_ (by first | (simp; done) | (simp; omega)) _ | refine Below.drew ?_))⟩
def okc (x y : Int) : Bool := (decide (0 ≤ x) && decide (x ≤ 5)) && (decide (0 ≤ y) && decide (y ≤ 5))
theorem l2cell_any (x y : Int) (w : World) : Calls Try.prog 148 #[.agg #[.int .i64 x, .int .i64 y]] w fun e w' => e = .returned (.bool (okc x y)) ∧ Below w.heap.size w w' := by
  cases h0 : (decide (0 ≤ x) && decide (x ≤ 5))
  · have HX : ∀ w, Calls Try.prog 145 #[.int .i64 x, .int .i64 0, .int .i64 5] w fun e w' => e = .returned (.bool false) ∧ w' = w := fun w => h0 ▸ l1in_any x 0 5 w
    have E : okc x y = false := by unfold okc; rw [h0]; rfl
    rw [E]
    clear h0 E
    go_enter Try.func148, Try.ntmps148
    go_wp2_with fail
    refine (HX _).mono ?_
    rintro e w' ⟨rfl, rfl⟩
    go_wp2_with fail
    go_ret
    exact ⟨rfl, by (repeat (first | exact Below.refl _ _ | assumption | refine Below.setCell ?_ (by first | (simp; done) | (simp; omega)) _ | refine Below.alloc ?_ (by first | (simp; done) | (simp; omega)) _ | refine Below.drew ?_))⟩
  · have HX : ∀ w, Calls Try.prog 145 #[.int .i64 x, .int .i64 0, .int .i64 5] w fun e w' => e = .returned (.bool true) ∧ w' = w := fun w => h0 ▸ l1in_any x 0 5 w
    have E : okc x y = (decide (0 ≤ y) && decide (y ≤ 5)) := by unfold okc; rw [h0]; rfl
    rw [E]
    clear h0 E
    go_enter Try.func148, Try.ntmps148
    go_wp2_with fail
    refine (HX _).mono ?_
    rintro e w' ⟨rfl, rfl⟩
    go_wp2_with fail
    refine (l1in_any y 0 5 _).mono ?_
    rintro e w' ⟨rfl, rfl⟩
    go_wp2_with fail
    go_ret
    exact ⟨rfl, by (repeat (first | exact Below.refl _ _ | assumption | refine Below.setCell ?_ (by first | (simp; done) | (simp; omega)) _ | refine Below.alloc ?_ (by first | (simp; done) | (simp; omega)) _ | refine Below.drew ?_))⟩
theorem l2mod_any (n : Int) (hn : (Lit.int .i64 n).wf = true) (w : World) : Calls Try.prog 192 #[.int .i64 n] w fun e w' => e = .returned (.int .i64 (n % 6)) ∧ w' = w := by
  have hb := bounds_i64 hn
  have e : (wrap64 (n.tmod 6 + 6)).tmod 6 = n % 6 := by
    unfold wrap64
    rcases Int.lt_or_le n 0 with h | h
    · have : n.tmod 6 = -((-n) % 6) := by rw [← Int.neg_neg n, Int.neg_tmod, Int.tmod_eq_emod_of_nonneg (by omega)]; simp
      rw [this, Int.tmod_eq_emod_of_nonneg (by omega)]; omega
    · rw [Int.tmod_eq_emod_of_nonneg h, Int.tmod_eq_emod_of_nonneg (by omega)]; omega
  go_enter Try.func192, Try.ntmps192
  go_wp2_with fail
  go_ret
  exact ⟨rfl, rfl⟩
theorem around_c (x y : Int) (hx : (Lit.int .i64 x).wf = true) (hy : (Lit.int .i64 y).wf = true) (w : World) : Calls Try.prog 217 #[.int .i64 x, .int .i64 y] w fun e w' => e = .returned (.agg #[.int .i64 (x % 6), .int .i64 (y % 6)]) ∧ w' = w.alloc (.cells #[.int .i64 (x % 6), .int .i64 (y % 6)] 69) := by
  have HX := Lib.hid hx
  have HY := Lib.hid hy
  clear hx hy
  go_enter Try.func217, Try.ntmps217
  go_wp2_with fail
  refine (rem_any x HX.out _).mono ?_
  rintro e w' ⟨rfl, rfl⟩
  go_wp2_with fail
  refine (rem_any y HY.out _).mono ?_
  rintro e w' ⟨rfl, rfl⟩
  go_wp2_with fail
  exact bodyPost_ret (v := .agg #[.int .i64 (x % 6), .int .i64 (y % 6)]) (by simp [results, Try.results217, go_sem]) rfl ⟨rfl, rfl⟩
theorem l2flip_any (a0 a1 a2 a3 a4 a5 : Int) (x y : Int) (hx : 0 ≤ x ∧ x ≤ 5) (hy : 0 ≤ y ∧ y ≤ 5) (w : World) : Calls Try.prog 191 #[.agg #[.int .i64 a0, .int .i64 a1, .int .i64 a2, .int .i64 a3, .int .i64 a4, .int .i64 a5], .int .i64 x, .int .i64 y] w fun e w' => e = .returned (.agg #[.int .i64 (if y = 0 then bits .xor .i64 a0 (wrap64 (2 ^ x.toNat)) else a0), .int .i64 (if y = 1 then bits .xor .i64 a1 (wrap64 (2 ^ x.toNat)) else a1), .int .i64 (if y = 2 then bits .xor .i64 a2 (wrap64 (2 ^ x.toNat)) else a2), .int .i64 (if y = 3 then bits .xor .i64 a3 (wrap64 (2 ^ x.toNat)) else a3), .int .i64 (if y = 4 then bits .xor .i64 a4 (wrap64 (2 ^ x.toNat)) else a4), .int .i64 (if y = 5 then bits .xor .i64 a5 (wrap64 (2 ^ x.toNat)) else a5)]) ∧ Below w.heap.size w w' := by
  rcases six hy with rfl | rfl | rfl | rfl | rfl | rfl
  all_goals
    go_enter Try.func191, Try.ntmps191
    go_wp2_with fail
    go_region
    go_wp2_with fail
    refine bodyPost_ret (v := _) (by simp [results, Try.results191, go_sem]) rfl ⟨rfl, ?_⟩
    (repeat (first | exact Below.refl _ _ | assumption | refine Below.setCell ?_ (by first | (simp; done) | (simp; omega)) _ | refine Below.alloc ?_ (by first | (simp; done) | (simp; omega)) _ | refine Below.drew ?_))
theorem new2 (x y : Int) (t : TypeId) (w : World) : ∃ w1, w1 = w.alloc (.cells #[.int .i64 x, .int .i64 y] t) ∧ w1.cell? ⟨w.heap.size, 0, none⟩ = some (.int .i64 x) ∧ w1.cell? ⟨w.heap.size, 1, none⟩ = some (.int .i64 y) ∧ Below w.heap.size w w1 :=
  ⟨_, rfl, by go_simp, by go_simp, by (repeat (first | exact Below.refl _ _ | assumption | refine Below.setCell ?_ (by first | (simp; done) | (simp; omega)) _ | refine Below.alloc ?_ (by first | (simp; done) | (simp; omega)) _ | refine Below.drew ?_))⟩
theorem keep2 {B g N : Nat} (x y : Int) {w W W' : World} (hg : B ≤ g) (h : W.cell? ⟨g, 0, none⟩ = some (.int .i64 x) ∧ W.cell? ⟨g, 1, none⟩ = some (.int .i64 y) ∧ Below B w W) (hb : Below N W W') (hN : N = W.heap.size) : W'.cell? ⟨g, 0, none⟩ = some (.int .i64 x) ∧ W'.cell? ⟨g, 1, none⟩ = some (.int .i64 y) ∧ Below B w W' := by
  subst hN
  obtain ⟨h0, h1, h⟩ := h
  have hl := blk_lt h0
  refine ⟨(hb.cell (p := ⟨g, 0, none⟩) hl).trans h0, (hb.cell (p := ⟨g, 1, none⟩) hl).trans h1, ?_⟩
  exact h.trans (hb.mono (by omega))
theorem okc_mod (x y : Int) : (x == x % 6 && y == y % 6) = okc x y := by
  have h : ∀ z : Int, (z == z % 6) = (decide (0 ≤ z) && decide (z ≤ 5)) := fun z => by
    by_cases h : 0 ≤ z ∧ z ≤ 5
    · rw [decide_eq_true h.1, decide_eq_true h.2]; simp; omega
    · have : (decide (0 ≤ z) && decide (z ≤ 5)) = false := by simp; omega
      rw [this]; simp; omega
  rw [h, h]; rfl
theorem iscell_any (x y : Int) (hx : (Lit.int .i64 x).wf = true) (hy : (Lit.int .i64 y).wf = true) (w : World) : Calls Try.prog 174 #[.agg #[.int .i64 x, .int .i64 y]] w fun e w' => e = .returned (.bool (okc x y)) ∧ Below w.heap.size w w' := by
  have HA := Lib.hid (around_any x y hx hy)
  clear hx hy
  obtain ⟨w1, e1, c0, c1, hb1⟩ := new2 x y 69 w
  have E := eq29 x y (x % 6) (y % 6)
  go_enter Try.func174, Try.ntmps174
  go_wp2_with fail
  rw [← e1]
  clear e1
  go_region_held3 (fun W => W.cell? ⟨w.heap.size, 0, none⟩ = some (.int .i64 x) ∧ W.cell? ⟨w.heap.size, 1, none⟩ = some (.int .i64 y) ∧ Below w.heap.size w W) (first | exact ⟨c0, c1, hb1.drew⟩ | assumption | (refine keep2 x y (Nat.le_refl _) ?_ (by assumption) rfl; assumption)) (first | (go_at_call 217; refine (HA.out _).mono ?_; rintro e w' ⟨rfl, hb'⟩))
  go_wp2_with fail
  go_ret
  rename_i hS
  exact ⟨by simp only [okc_mod]; rfl, hS.2.2⟩
end Go.Proofs.Ytnkjamdpafpcpaa
