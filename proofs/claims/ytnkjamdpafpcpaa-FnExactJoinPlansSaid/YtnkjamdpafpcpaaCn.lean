/- CONTRACTS: the laws' comparison, marks and check of a slice of pairs. -/
import Derived.Test.YtnkjamdpafpcpaaCm
import Derived.Test.YtnkjamdpafpcpaaKr
import Derived.Test.YtnkjamdpafpcpaaRg
import Derived.RegionTactic
import Derived.Deep.RegionHeld3
import Derived.WalkKit
import Derived.ProofKit
import Derived.OpenShut
import Derived.Lib.Hide
import Derived.WalkSpells
import Derived.Below
import Derived.BigQuiet
import Derived.LoopN
namespace Go.Proofs.Ytnkjamdpafpcpaa
open Go.ChangeShapes Go.WideShapes Go.ChangeAt Go.RowKit
set_option linter.unusedVariables false
theorem cv_at (l : List (Nat × Nat)) : ∀ (k : Nat) (h : k < l.length), (cv l)[k * 2]? = some (.int .i64 (l[k].1 : Int)) ∧ (cv l)[k * 2 + 1]? = some (.int .i64 (l[k].2 : Int)) := by
  induction l with
  | nil => intro k h; simp at h
  | cons a l ih =>
    intro k h
    have e : cv (a :: l) = .int .i64 (a.1 : Int) :: .int .i64 (a.2 : Int) :: cv l := rfl
    rcases k with _ | k
    · rw [e]; exact ⟨rfl, rfl⟩
    · have := ih k (by simpa using h)
      rw [e, show (k + 1) * 2 = k * 2 + 1 + 1 by omega]
      simp only [List.getElem?_cons_succ, List.getElem_cons_succ]
      exact this
theorem own_at {W : World} {B g n cap j : Nat} {e : TypeId} {size : Nat} {xs : List Value} (h : W.ownsRow B e size (.slice (some ⟨g, 0, none⟩) n cap) n xs) {u : Value} (hx : xs[j]? = some u) : W.cell? ⟨g, j, none⟩ = some u := by
  rcases h.2 with ⟨e1, _⟩ | ⟨g2, cap2, cur, e1, hb, hh, _, _, _, ht⟩
  · exact absurd e1 (by simp)
  · simp only [Value.slice.injEq, Option.some.injEq, Addr.mk.injEq, and_true, true_and] at e1
    obtain ⟨rfl, rfl⟩ := e1
    have hj : j < n * size := by
      have := (List.getElem?_eq_some_iff.mp hx).1
      rw [h.1] at this; exact this
    rw [← ht, List.getElem?_take, if_pos hj, Array.getElem?_toList] at hx
    rw [cell_of_row W g j _ _ _ hh]
    exact hx
theorem eqa2_same (x y : Int) (w : World) : Calls Try.prog 157 #[.agg #[.int .i64 x, .int .i64 y], .agg #[.int .i64 x, .int .i64 y]] w fun e w' => e = .returned (.bool true) ∧ Below w.heap.size w w' := by
  go_enter Try.func157, Try.ntmps157
  go_wp2_with fail
  refine wp_loop_rounds 3 ?_
  iterate 2
    rw [rounds_succ]
    go_wp2_with fail
    go_region
    go_wp2_with fail
  rw [rounds_succ]
  go_wp2_with fail
  go_ret
  exact ⟨rfl, by (repeat (first | exact Below.refl _ _ | assumption | refine Below.setCell ?_ (by first | (simp; done) | (simp; omega)) _ | refine Below.alloc ?_ (by first | (simp; done) | (simp; omega)) _ | refine Below.drew ?_))⟩
set_option maxHeartbeats 4000000 in
theorem eqcells_same (l : List (Nat × Nat)) (hl : l.length ≤ 100) (B C g1 c1 g2 c2 : Nat) (w : World) (h1 : w.ownsRow B 69 2 (.slice (some ⟨g1, 0, none⟩) l.length c1) l.length (cv l)) (h2 : w.ownsRow C 69 2 (.slice (some ⟨g2, 0, none⟩) l.length c2) l.length (cv l)) : Calls Try.prog 60 #[.slice (some ⟨g1, 0, none⟩) l.length c1, .slice (some ⟨g2, 0, none⟩) l.length c2] w fun e w' => e = .returned (.bool true) ∧ Below w.heap.size w w' := by
  have H1 := Lib.hid h1
  have H2 := Lib.hid h2
  clear h1 h2
  go_enter Try.func60, Try.ntmps60
  go_wp2_with fail
  go_loopw [5] (fun i wr => ∃ k : Nat, k ≤ l.length ∧ i = .int .i64 k ∧ Hid (Below w.heap.size w wr)) (fun i _ => l.length - (intOf i).toNat)
  case atStart => exact ⟨0, by omega, rfl, Lib.hid (Below.refl _ _)⟩
  case round =>
    obtain ⟨k, hk, rfl, HB⟩ := hrel
    by_cases hlt : k < l.length
    · have hlt' : (k : Int) < l.length := by omega
      have hk0 : (0 : Int) ≤ k := by omega
      have hk2 : k ≤ 100 := by omega
      have O1 := H1.out.kept (grown_below HB.out rfl) (.inr (by simp [Value.ownBlock]))
      have O2 := H2.out.kept (grown_below HB.out rfl) (.inr (by simp [Value.ownBlock]))
      obtain ⟨p1, p2⟩ := cv_at l k hlt
      have a1 := own_at O1 p1
      have a2 := own_at O1 p2
      have b1 := own_at O2 p1
      have b2 := own_at O2 p2
      clear O1 O2 p1 p2
      generalize (l[k].1 : Int) = X at a1 b1
      generalize (l[k].2 : Int) = Y at a2 b2
      have HE := Lib.hid (eqa2_same X Y)
      have k0 : (fun U => U.cell? ⟨g1, k * 2, none⟩ = some (.int .i64 X) ∧ U.cell? ⟨g1, k * 2 + 1, none⟩ = some (.int .i64 Y) ∧ U.cell? ⟨g2, k * 2, none⟩ = some (.int .i64 X) ∧ U.cell? ⟨g2, k * 2 + 1, none⟩ = some (.int .i64 Y) ∧ Below w.heap.size w U) wr := ⟨a1, a2, b1, b2, HB.out⟩
      dsimp only at k0
      clear a1 a2 b1 b2
      go_wp2_with fail
      go_region_held3 (fun U => U.cell? ⟨g1, k * 2, none⟩ = some (.int .i64 X) ∧ U.cell? ⟨g1, k * 2 + 1, none⟩ = some (.int .i64 Y) ∧ U.cell? ⟨g2, k * 2, none⟩ = some (.int .i64 X) ∧ U.cell? ⟨g2, k * 2 + 1, none⟩ = some (.int .i64 Y) ∧ Below w.heap.size w U) (first | with_reducible exact drewc4 k0 | with_reducible assumption) (first | (go_at_call 157; with_reducible refine (HE.out _).mono ?_; rintro e w' ⟨rfl, hb'⟩; have hk := keepc4 (by with_reducible assumption) hb' rfl))
      all_goals
        have HB2 := Lib.hid hk.2.2.2.2
        clear hk k0 HB
        go_wp2_with fail
        go_roundw
        case rel => exact ⟨k + 1, by omega, by go_num, HB2⟩
        case measure => simp [intOf]; omega
    · obtain rfl : k = l.length := by omega
      go_wp2_with fail
      go_ret
      exact ⟨rfl, HB.out⟩
end Go.Proofs.Ytnkjamdpafpcpaa
