/- CONTRACTS: l10Small, l10Wins and l10Length of the model. -/
import Derived.Test.YtkjaaaefcmpokaaNu10
import Derived.Test.YtkjaaaefcmpokaaMd10
import Derived.Deep.RegionHeld3
import Derived.WalkKit
import Derived.ProofKit
import Derived.OpenShut
import Derived.Lib.Hide
import Derived.WalkSpells
import Derived.Below
import Derived.BigQuiet
import Derived.LoopN
namespace Go.Proofs.Ytkjaaaefcmpokaa
open Go.ChangeShapes Go.WideShapes Go.ChangeAt Go.RowKit
set_option linter.unusedVariables false
/-- Midway: the boxes, and the nexts. -/
def Rw10 (w : World) (f p : Fn6) (nx : List T6) (g cap : Nat) (U : World) : Prop := KR 2 [(w.heap.size, o6 f), (w.heap.size + 1, o6 p)] w U ∧ U.ownsRow (w.heap.size + 2) 28 6 (.slice (some ⟨g, 0, none⟩) nx.length cap) nx.length (tv6 nx)
theorem Rw10.below {w U U' : World} {f p : Fn6} {nx : List T6} {g cap M : Nat} (h : Rw10 w f p nx g cap U) (hb : Below M U U') (hM : M = U.heap.size) : Rw10 w f p nx g cap U' := ⟨h.1.far hb hM, h.2.kept (grown_below hb hM) (.inr (by simp [Value.ownBlock]))⟩
theorem Rw10.drew {w U : World} {f p : Fn6} {nx : List T6} {g cap : Nat} (h : Rw10 w f p nx g cap U) : Rw10 w f p nx g cap U.drew := h.below (M := U.heap.size) (Below.refl _ _).drew rfl
theorem SKw {w U : World} {f p : Fn6} {nx : List T6} {g cap i : Nat} {a0 a1 a2 a3 a4 a5 : Int} (hi : i < nx.length) (ht : nx[i] = (a0, a1, a2, a3, a4, a5)) (h : Rw10 w f p nx g cap U) : U.cell? ⟨g, i * 6, none⟩ = some (.int .i64 a0) ∧ U.cell? ⟨g, i * 6 + 1, none⟩ = some (.int .i64 a1) ∧ U.cell? ⟨g, i * 6 + 2, none⟩ = some (.int .i64 a2) ∧ U.cell? ⟨g, i * 6 + 3, none⟩ = some (.int .i64 a3) ∧ U.cell? ⟨g, i * 6 + 4, none⟩ = some (.int .i64 a4) ∧ U.cell? ⟨g, i * 6 + 5, none⟩ = some (.int .i64 a5) ∧ U.cell? ⟨w.heap.size + 1, 0, none⟩ = some (.int .i64 (rowv (p 0))) ∧ U.cell? ⟨w.heap.size + 1, 1, none⟩ = some (.int .i64 (rowv (p 1))) ∧ U.cell? ⟨w.heap.size + 1, 2, none⟩ = some (.int .i64 (rowv (p 2))) ∧ U.cell? ⟨w.heap.size + 1, 3, none⟩ = some (.int .i64 (rowv (p 3))) ∧ U.cell? ⟨w.heap.size + 1, 4, none⟩ = some (.int .i64 (rowv (p 4))) ∧ U.cell? ⟨w.heap.size + 1, 5, none⟩ = some (.int .i64 (rowv (p 5))) ∧ Rw10 w f p nx g cap U := by
  obtain ⟨p0, p1, p2, p3, p4, p5⟩ := tv6_at nx i hi
  rw [ht] at p0 p1 p2 p3 p4 p5
  have b_c := fun j => cell_of_row U _ j _ _ _ (h.1.row (g := w.heap.size + 1) (o := o6 p) (by simp))
  exact ⟨own_at h.2 p0, own_at h.2 p1, own_at h.2 p2, own_at h.2 p3, own_at h.2 p4, own_at h.2 p5, b_c 0, b_c 1, b_c 2, b_c 3, b_c 4, b_c 5, h⟩
set_option maxHeartbeats 1000000 in
theorem ssmall_no (a0 a1 a2 a3 a4 a5 : Int) (b0 b1 b2 b3 b4 b5 : Int) (HG : Hid (∀ w, Calls Try.prog 137 #[.agg #[.int .i64 a0, .int .i64 a1, .int .i64 a2, .int .i64 a3, .int .i64 a4, .int .i64 a5], .agg #[.int .i64 b0, .int .i64 b1, .int .i64 b2, .int .i64 b3, .int .i64 b4, .int .i64 b5]] w fun e w' => e = .returned (.bool false) ∧ Below w.heap.size w w')) (w : World) : Calls Try.prog 146 #[.agg #[.int .i64 a0, .int .i64 a1, .int .i64 a2, .int .i64 a3, .int .i64 a4, .int .i64 a5], .agg #[.int .i64 b0, .int .i64 b1, .int .i64 b2, .int .i64 b3, .int .i64 b4, .int .i64 b5]] w fun e w' => e = .returned (.bool false) ∧ Below w.heap.size w w' := by
  go_enter Try.func146, Try.ntmps146
  go_wp2_with fail
  generalize hW : (World.alloc _ _ : World) = W0
  have K0 : KR 2 [(w.heap.size, bx6 a0 a1 a2 a3 a4 a5), (w.heap.size + 1, bx6 b0 b1 b2 b3 b4 b5)] w W0 := by
    rw [← hW]
    exact two_b w _ _ (by (repeat (first | exact Below.refl _ _ | assumption | refine Below.setCell ?_ (by first | (simp; done) | (simp; omega)) _ | refine Below.alloc ?_ (by first | (simp; done) | (simp; omega)) _ | refine Below.drew ?_))) (alloc_past (alloc_at rfl)) (alloc_at (by simp)) (by simp)
  clear hW
  have a_c := fun j => cell_of_row W0 _ j _ _ _ (K0.row (g := w.heap.size) (o := bx6 a0 a1 a2 a3 a4 a5) (by simp))
  have b_c := fun j => cell_of_row W0 _ j _ _ _ (K0.row (g := w.heap.size + 1) (o := bx6 b0 b1 b2 b3 b4 b5) (by simp))
  go_wp2_with fail
  refine (HG.out _).mono ?_
  rintro e W1 ⟨rfl, hb⟩
  have K1 := K0.far hb rfl
  clear hb K0 a_c b_c
  go_wp2_with fail
  go_ret
  exact ⟨rfl, K1.2.2⟩
set_option maxHeartbeats 1000000 in
theorem ssmall_yes (f p : Fn6) (HG : Hid (∀ w, Calls Try.prog 137 #[.agg #[.int .i64 (rowv (f 0)), .int .i64 (rowv (f 1)), .int .i64 (rowv (f 2)), .int .i64 (rowv (f 3)), .int .i64 (rowv (f 4)), .int .i64 (rowv (f 5))], .agg #[.int .i64 (rowv (p 0)), .int .i64 (rowv (p 1)), .int .i64 (rowv (p 2)), .int .i64 (rowv (p 3)), .int .i64 (rowv (p 4)), .int .i64 (rowv (p 5))]] w fun e w' => e = .returned (.bool true) ∧ Below w.heap.size w w')) (w : World) : Calls Try.prog 146 #[.agg #[.int .i64 (rowv (f 0)), .int .i64 (rowv (f 1)), .int .i64 (rowv (f 2)), .int .i64 (rowv (f 3)), .int .i64 (rowv (f 4)), .int .i64 (rowv (f 5))], .agg #[.int .i64 (rowv (p 0)), .int .i64 (rowv (p 1)), .int .i64 (rowv (p 2)), .int .i64 (rowv (p 3)), .int .i64 (rowv (p 4)), .int .i64 (rowv (p 5))]] w fun e w' => e = .returned (.bool (decide (((nxf f p).length : Int) ≤ 7))) ∧ Below w.heap.size w w' := by
  have HN := Lib.hid (lnexts_f f p)
  have hl := nxf_len f p
  generalize nxf f p = nx at HN hl ⊢
  go_enter Try.func146, Try.ntmps146
  go_wp2_with fail
  generalize hW : (World.alloc _ _ : World) = W0
  have K0 : KR 2 [(w.heap.size, o6 f), (w.heap.size + 1, o6 p)] w W0 := by
    rw [← hW]
    exact two_b w _ _ (by (repeat (first | exact Below.refl _ _ | assumption | refine Below.setCell ?_ (by first | (simp; done) | (simp; omega)) _ | refine Below.alloc ?_ (by first | (simp; done) | (simp; omega)) _ | refine Below.drew ?_))) (alloc_past (alloc_at rfl)) (alloc_at (by simp)) (by simp)
  clear hW
  have a_c := fun j => cell_of_row W0 _ j _ _ _ (K0.row (g := w.heap.size) (o := o6 f) (by simp))
  have b_c := fun j => cell_of_row W0 _ j _ _ _ (K0.row (g := w.heap.size + 1) (o := o6 p) (by simp))
  go_wp2_with fail
  refine (HG.out _).mono ?_
  rintro e W1 ⟨rfl, hb⟩
  have K1 := K0.far hb rfl
  clear hb K0 a_c b_c
  have a_c := fun j => cell_of_row W1 _ j _ _ _ (K1.row (g := w.heap.size) (o := o6 f) (by simp))
  have b_c := fun j => cell_of_row W1 _ j _ _ _ (K1.row (g := w.heap.size + 1) (o := o6 p) (by simp))
  go_wp2_with fail
  refine (HN.out _).mono ?_
  rintro e W2 ⟨g, cap, rfl, ho, hb⟩
  have K2 := K1.far hb rfl
  clear ho hb K1 a_c b_c
  go_wp2_with fail
  go_ret
  exact ⟨rfl, K2.2.2⟩
theorem tw_in {nx : List T6} {i : Nat} (hi : i < nx.length) (V : T6 → Int) (h : ∀ u ∈ nx.take i, V u ≠ 0) (hv : V nx[i] ≠ 0) : ∀ u ∈ nx.take (i + 1), V u ≠ 0 := fun u hu => by
  rw [List.take_add_one, List.getElem?_eq_getElem hi] at hu
  rcases List.mem_append.mp hu with h1 | h1
  · exact h u h1
  · simp at h1; rw [h1]; exact hv
theorem w_end0 {nx : List T6} (V : T6 → Int) (c : Bool) (h : nx = []) : (c = true ↔ (∃ u ∈ nx, V u = 0) ∨ (nx = [] ∧ c = true)) := by subst h; simp
theorem w_end1 {nx : List T6} {V : T6 → Int} (c : Bool) (hne : ¬ ((nx.length : Int) = 0)) (h : ∀ u ∈ nx, V u ≠ 0) : (false = true ↔ (∃ u ∈ nx, V u = 0) ∨ (nx = [] ∧ c = true)) := by
  have : nx ≠ [] := fun h0 => hne (by rw [h0]; rfl)
  simp [this]
  exact fun _ _ _ _ _ _ hx => h _ hx
set_option maxHeartbeats 4000000 in
theorem wins_step (c : Bool) (V : T6 → Int) (f p : Fn6) (nx : List T6) (hl : nx.length ≤ 36) (HN : Hid (∀ w, Calls Try.prog 143 #[.agg #[.int .i64 (rowv (f 0)), .int .i64 (rowv (f 1)), .int .i64 (rowv (f 2)), .int .i64 (rowv (f 3)), .int .i64 (rowv (f 4)), .int .i64 (rowv (f 5))], .agg #[.int .i64 (rowv (p 0)), .int .i64 (rowv (p 1)), .int .i64 (rowv (p 2)), .int .i64 (rowv (p 3)), .int .i64 (rowv (p 4)), .int .i64 (rowv (p 5))]] w (LT nx w))) (HI : Hid (∀ u ∈ nx, ∀ w, Calls Try.prog 147 #[v6 u, .agg #[.int .i64 (rowv (p 0)), .int .i64 (rowv (p 1)), .int .i64 (rowv (p 2)), .int .i64 (rowv (p 3)), .int .i64 (rowv (p 4)), .int .i64 (rowv (p 5))], .bool c] w fun e w' => e = .returned (.bool (decide (V u ≠ 0))) ∧ Below w.heap.size w w')) (w : World) : Calls Try.prog 147 #[.agg #[.int .i64 (rowv (f 0)), .int .i64 (rowv (f 1)), .int .i64 (rowv (f 2)), .int .i64 (rowv (f 3)), .int .i64 (rowv (f 4)), .int .i64 (rowv (f 5))], .agg #[.int .i64 (rowv (p 0)), .int .i64 (rowv (p 1)), .int .i64 (rowv (p 2)), .int .i64 (rowv (p 3)), .int .i64 (rowv (p 4)), .int .i64 (rowv (p 5))], .bool c] w fun e w' => (∃ r : Bool, e = .returned (.bool r) ∧ (r = true ↔ (∃ u ∈ nx, V u = 0) ∨ (nx = [] ∧ c = true))) ∧ Below w.heap.size w w' := by
  go_enter Try.func147, Try.ntmps147
  go_wp2_with fail
  generalize hW : (World.alloc _ _ : World) = W0
  have K0 : KR 2 [(w.heap.size, o6 f), (w.heap.size + 1, o6 p)] w W0 := by
    rw [← hW]
    exact two_b w _ _ (by (repeat (first | exact Below.refl _ _ | assumption | refine Below.setCell ?_ (by first | (simp; done) | (simp; omega)) _ | refine Below.alloc ?_ (by first | (simp; done) | (simp; omega)) _ | refine Below.drew ?_))) (alloc_past (alloc_at rfl)) (alloc_at (by simp)) (by simp)
  clear hW
  have a_c := fun j => cell_of_row W0 _ j _ _ _ (K0.row (g := w.heap.size) (o := o6 f) (by simp))
  have b_c := fun j => cell_of_row W0 _ j _ _ _ (K0.row (g := w.heap.size + 1) (o := o6 p) (by simp))
  go_wp2_with fail
  refine (HN.out _).mono ?_
  rintro e W2 ⟨g, cap, rfl, ho, hb⟩
  have S0 : Hid (Rw10 w f p nx g cap W2) := Lib.hid ⟨K0.far hb rfl, own_mono ho K0.2.1⟩
  clear ho hb K0 a_c b_c HN
  go_wp2_with fail
  go_loopw [8] (fun n wr => ∃ i : Nat, i ≤ nx.length ∧ n = .int .i64 i ∧ (∀ u ∈ nx.take i, V u ≠ 0) ∧ Hid (Rw10 w f p nx g cap wr)) (fun n _ => nx.length - (intOf n).toNat)
  case atStart => exact ⟨0, by omega, rfl, by simp, S0⟩
  case round =>
    obtain ⟨i, hi, rfl, hno, HS⟩ := hrel
    clear S0
    by_cases hlt : i < nx.length
    · have hlt' : (i : Int) < nx.length := by omega
      have hi0 : (0 : Int) ≤ i := by omega
      have hi2 : i ≤ 36 := by omega
      have HIu := Lib.hid (HI.out nx[i] (List.getElem_mem hlt))
      have HTw := Lib.hid (fun hv => tw_in hlt V hno hv)
      have HEx := Lib.hid (fun hv : V nx[i] = 0 => (⟨nx[i], List.getElem_mem hlt, hv⟩ : ∃ u ∈ nx, V u = 0))
      obtain ⟨d, hd⟩ : ∃ d, d = decide (V nx[i] ≠ 0) := ⟨_, rfl⟩
      rw [← hd] at HIu
      have HD := Lib.hid hd
      clear hd
      have hS := HS.out
      obtain ⟨a0, a1, a2, a3, a4, a5, ht⟩ : ∃ a0 a1 a2 a3 a4 a5, nx[i] = (a0, a1, a2, a3, a4, a5) := ⟨_, _, _, _, _, _, rfl⟩
      have HT := Lib.hid ht
      rw [ht] at HIu
      unfold v6 at HIu
      dsimp only at HIu
      clear HS ht HI hno
      go_wp2_with fail
      cases d
      · set_option maxRecDepth 8000 in
        go_region_held3 (fun U => U.cell? ⟨g, i * 6, none⟩ = some (.int .i64 a0) ∧ U.cell? ⟨g, i * 6 + 1, none⟩ = some (.int .i64 a1) ∧ U.cell? ⟨g, i * 6 + 2, none⟩ = some (.int .i64 a2) ∧ U.cell? ⟨g, i * 6 + 3, none⟩ = some (.int .i64 a3) ∧ U.cell? ⟨g, i * 6 + 4, none⟩ = some (.int .i64 a4) ∧ U.cell? ⟨g, i * 6 + 5, none⟩ = some (.int .i64 a5) ∧ U.cell? ⟨w.heap.size + 1, 0, none⟩ = some (.int .i64 (rowv (p 0))) ∧ U.cell? ⟨w.heap.size + 1, 1, none⟩ = some (.int .i64 (rowv (p 1))) ∧ U.cell? ⟨w.heap.size + 1, 2, none⟩ = some (.int .i64 (rowv (p 2))) ∧ U.cell? ⟨w.heap.size + 1, 3, none⟩ = some (.int .i64 (rowv (p 3))) ∧ U.cell? ⟨w.heap.size + 1, 4, none⟩ = some (.int .i64 (rowv (p 4))) ∧ U.cell? ⟨w.heap.size + 1, 5, none⟩ = some (.int .i64 (rowv (p 5))) ∧ Rw10 w f p nx g cap U) (with_reducible refine SKw hlt HT.out ?_; (first | with_reducible assumption | (with_reducible refine Rw10.drew ?_; with_reducible assumption))) (first | (go_at_call 147; with_reducible refine (HIu.out _).mono ?_; rintro e w' ⟨rfl, hb'⟩; have hk : Rw10 w f p nx g cap w' := Rw10.below (by (first | with_reducible assumption | (with_reducible refine Rw10.drew ?_; with_reducible assumption))) hb' rfl))
        all_goals
          go_wp2_with fail
          go_ret
          exact ⟨⟨true, rfl, by simp only [true_iff]; exact .inl (HEx.out (by have := HD.out; simpa using this.symm))⟩, hk.1.2.2⟩
      · set_option maxRecDepth 8000 in
        go_region_held3 (fun U => U.cell? ⟨g, i * 6, none⟩ = some (.int .i64 a0) ∧ U.cell? ⟨g, i * 6 + 1, none⟩ = some (.int .i64 a1) ∧ U.cell? ⟨g, i * 6 + 2, none⟩ = some (.int .i64 a2) ∧ U.cell? ⟨g, i * 6 + 3, none⟩ = some (.int .i64 a3) ∧ U.cell? ⟨g, i * 6 + 4, none⟩ = some (.int .i64 a4) ∧ U.cell? ⟨g, i * 6 + 5, none⟩ = some (.int .i64 a5) ∧ U.cell? ⟨w.heap.size + 1, 0, none⟩ = some (.int .i64 (rowv (p 0))) ∧ U.cell? ⟨w.heap.size + 1, 1, none⟩ = some (.int .i64 (rowv (p 1))) ∧ U.cell? ⟨w.heap.size + 1, 2, none⟩ = some (.int .i64 (rowv (p 2))) ∧ U.cell? ⟨w.heap.size + 1, 3, none⟩ = some (.int .i64 (rowv (p 3))) ∧ U.cell? ⟨w.heap.size + 1, 4, none⟩ = some (.int .i64 (rowv (p 4))) ∧ U.cell? ⟨w.heap.size + 1, 5, none⟩ = some (.int .i64 (rowv (p 5))) ∧ Rw10 w f p nx g cap U) (with_reducible refine SKw hlt HT.out ?_; (first | with_reducible assumption | (with_reducible refine Rw10.drew ?_; with_reducible assumption))) (first | (go_at_call 147; with_reducible refine (HIu.out _).mono ?_; rintro e w' ⟨rfl, hb'⟩; have hk : Rw10 w f p nx g cap w' := Rw10.below (by (first | with_reducible assumption | (with_reducible refine Rw10.drew ?_; with_reducible assumption))) hb' rfl))
        all_goals
          have HK := Lib.hid hk
          clear hk hS
          go_wp2_with fail
          go_roundw
          case rel => exact ⟨i + 1, by omega, by go_num, HTw.out (by have := HD.out; simpa using this.symm), HK⟩
          case measure => simp [intOf]; omega
    · obtain rfl : i = nx.length := by omega
      rw [List.take_length] at hno
      have hB := HS.out.1.2.2
      clear HS HI
      have HNo := Lib.hid hno
      clear hno
      by_cases h0 : (nx.length : Int) = 0
      · have hnil : nx = [] := List.length_eq_zero_iff.mp (by omega)
        have HNil := Lib.hid hnil
        clear hnil
        go_wp2_with fail
        go_ret
        exact ⟨⟨c, rfl, w_end0 V c HNil.out⟩, hB⟩
      · have h1 : ¬ (nx.length = 0) := by omega
        have h2 : ¬ (nx = []) := fun h => h1 (by rw [h]; rfl)
        go_wp2_with fail
        go_ret
        exact ⟨⟨false, rfl, w_end1 c h0 HNo.out⟩, hB⟩
def TW (c : Bool) : List Int → Int := if c then Tmiss else Tlast
theorem tb_w (c : Bool) : Tb10 (TW c) := by cases c; exact tb_last; exact tb_miss
theorem tw_iff (c : Bool) (l : List Int) : TW c l ≠ 0 ↔ (0 : Int) ∈ l ∨ (l = [] ∧ c = true) := by
  cases c
  · show Tlast l ≠ 0 ↔ _
    have h := mex_spec l
    unfold Tlast
    constructor
    · intro h0
      exact .inl (h.1 0 (by omega))
    · rintro (h1 | h1)
      · intro h0
        have : mex l = 0 := by omega
        have h2 := h.2.1
        rw [this] at h2
        exact h2 h1
      · simp at h1
  · show Tmiss l ≠ 0 ↔ _
    unfold Tmiss
    split
    · rename_i h
      simp only [ne_eq, Int.one_ne_zero, not_false_eq_true, true_iff, and_true]
      exact h.symm
    · rename_i h
      simp only [ne_eq, not_true_eq_false, false_iff, and_true]
      exact fun h1 => h h1.symm
theorem wins_f (c : Bool) (p : Fn6) (hp : eqf p zf = false) : ∀ (n : Nat) (f : Fn6), wc6 f < n → ∀ (w : World), Calls Try.prog 147 #[.agg #[.int .i64 (rowv (f 0)), .int .i64 (rowv (f 1)), .int .i64 (rowv (f 2)), .int .i64 (rowv (f 3)), .int .i64 (rowv (f 4)), .int .i64 (rowv (f 5))], .agg #[.int .i64 (rowv (p 0)), .int .i64 (rowv (p 1)), .int .i64 (rowv (p 2)), .int .i64 (rowv (p 3)), .int .i64 (rowv (p 4)), .int .i64 (rowv (p 5))], .bool c] w fun e w' => e = .returned (.bool (decide (vt6 (TW c) p (t6 f) ≠ 0))) ∧ Below w.heap.size w w'
  | 0, f, h => absurd h (by omega)
  | n + 1, f, h => fun w => by
    refine (wins_step c (vt6 (TW c) p) f p (nxf f p) (nxf_len f p) (Lib.hid (lnexts_f f p)) (Lib.hid (fun u hu w => ?_)) w).mono ?_
    · obtain ⟨x', y', hx', hy', hfr, rfl⟩ := nxf_mem hu
      have hl := wc6_lt hx' hy' hfr hp
      exact wins_f c p hp n (jf f (sf x' y' p)) (by omega) w
    · rintro e w' ⟨⟨r, rfl, hr⟩, hb⟩
      refine ⟨?_, hb⟩
      have h1 : (vt6 (TW c) p (t6 f) ≠ 0) ↔ r = true := by
        rw [vt6_eq (TW c) p hp f, tw_iff, hr]
        simp only [List.mem_map, List.map_eq_nil_iff]
      cases r
      · rw [decide_eq_false (fun h => by simpa using h1.mp h)]
      · rw [decide_eq_true (h1.mpr rfl)]
end Go.Proofs.Ytkjaaaefcmpokaa
