/- CONTRACTS: WinningCells of the model. -/
import Derived.Test.YtkjaaaefcmpokaaMe10
import Derived.Test.YtkjaaaefcmpokaaMa10
import Derived.Maps.AppendAt
import Derived.WalkKit
import Derived.ProofKit
import Derived.OpenShut
import Derived.Lib.Hide
import Derived.WalkSpells
import Derived.Below
import Derived.BigQuiet
import Derived.LoopN
namespace Go.Proofs.Ytkjaaaefcmpokaa
open Go.ChangeShapes Go.WideShapes Go.ChangeAt Go.RowKit
set_option linter.unusedVariables false
/-- The winning ones among the first i free cells. -/
def wl (f p : Fn6) (l : List (Nat × Nat)) (i : Nat) : List (Nat × Nat) := (l.take i).filter (fun c => decide (vt6 Tlast p (nx1 f p c) = 0))
theorem wl_k0 {f p : Fn6} {l : List (Nat × Nat)} {i : Nat} (hi : i < l.length) (h : vt6 Tlast p (nx1 f p l[i]) ≠ 0) : wl f p l (i + 1) = wl f p l i := by
  unfold wl
  rw [List.take_add_one, List.getElem?_eq_getElem hi, List.filter_append]
  show _ ++ List.filter _ [l[i]] = _
  rw [List.filter_cons_of_neg (by simpa using h), List.filter_nil, List.append_nil]
theorem wl_k1 {f p : Fn6} {l : List (Nat × Nat)} {i : Nat} (hi : i < l.length) (h : vt6 Tlast p (nx1 f p l[i]) = 0) : wl f p l (i + 1) = wl f p l i ++ [l[i]] := by
  unfold wl
  rw [List.take_add_one, List.getElem?_eq_getElem hi, List.filter_append]
  show _ ++ List.filter _ [l[i]] = _
  rw [List.filter_cons_of_pos (by simpa using h), List.filter_nil]
theorem wl_len (f p : Fn6) (l : List (Nat × Nat)) (i : Nat) : (wl f p l i).length ≤ l.length := Nat.le_trans (List.length_filter_le _ _) (by rw [List.length_take]; omega)
/-- Midway: the boxes, the winning ones so far, and the free cells. -/
def Sw10 (w : World) (f p : Fn6) (l : List (Nat × Nat)) (g cap : Nat) (out : List (Nat × Nat)) (v : Value) (U : World) : Prop := Rl 2 [(w.heap.size, o6 f), (w.heap.size + 1, o6 p)] w out v U ∧ U.ownsRow (w.heap.size + 2) 47 2 (.slice (some ⟨g, 0, none⟩) l.length cap) l.length (cv l) ∧ v.ownBlock ≠ some g
theorem Sw10.below {w U U' : World} {f p : Fn6} {l out : List (Nat × Nat)} {g cap M : Nat} {v : Value} (h : Sw10 w f p l g cap out v U) (hb : Below M U U') (hM : M = U.heap.size) : Sw10 w f p l g cap out v U' := ⟨h.1.below hb hM, h.2.1.kept (grown_below hb hM) (.inr (by simp [Value.ownBlock])), h.2.2⟩
theorem Sw10.drew {w U : World} {f p : Fn6} {l out : List (Nat × Nat)} {g cap : Nat} {v : Value} (h : Sw10 w f p l g cap out v U) : Sw10 w f p l g cap out v U.drew := h.below (M := U.heap.size) (Below.refl _ _).drew rfl
theorem Sw10.alloc {w U : World} {f p : Fn6} {l out : List (Nat × Nat)} {g cap : Nat} {v : Value} (h : Sw10 w f p l g cap out v U) (o : Obj) : Sw10 w f p l g cap out v (U.alloc o) := h.below (M := U.heap.size) ((Below.refl _ _).alloc (Nat.le_refl _) o) rfl
theorem Sw10.snoc {w U U' : World} {f p : Fn6} {l out : List (Nat × Nat)} {g cap x y : Nat} {v v' : Value} (h : Sw10 w f p l g cap out v U) (hown : U'.ownsRow (w.heap.size + 2) 47 2 v' (out.length + 1) (cv out ++ [.int .i64 (x : Int), .int .i64 (y : Int)])) (hg : U.grownBy U' v.ownBlock) (hn : v' = .slice none 0 0 ↔ v = .slice none 0 0 ∧ 1 = 0) (hat : v'.ownBlock = v.ownBlock ∨ v'.ownBlock = some U.heap.size) : Sw10 w f p l g cap (out ++ [(x, y)]) v' U' := by
  refine ⟨h.1.snoc hown hg hn, h.2.1.kept hg (.inr (fun q => h.2.2 q.symm)), ?_⟩
  have g1 := (h.2.1.lt g rfl).2
  rcases hat with q | q
  · rw [q]; exact h.2.2
  · rw [q]; simp; omega
theorem SKw2 {w U : World} {f p : Fn6} {l out : List (Nat × Nat)} {g cap i x y : Nat} {v : Value} (hi : i < l.length) (hc : l[i] = (x, y)) (h : Sw10 w f p l g cap out v U) : U.cell? ⟨w.heap.size, 0, none⟩ = some (.int .i64 (rowv (f 0))) ∧ U.cell? ⟨w.heap.size, 1, none⟩ = some (.int .i64 (rowv (f 1))) ∧ U.cell? ⟨w.heap.size, 2, none⟩ = some (.int .i64 (rowv (f 2))) ∧ U.cell? ⟨w.heap.size, 3, none⟩ = some (.int .i64 (rowv (f 3))) ∧ U.cell? ⟨w.heap.size, 4, none⟩ = some (.int .i64 (rowv (f 4))) ∧ U.cell? ⟨w.heap.size, 5, none⟩ = some (.int .i64 (rowv (f 5))) ∧ U.cell? ⟨w.heap.size + 1, 0, none⟩ = some (.int .i64 (rowv (p 0))) ∧ U.cell? ⟨w.heap.size + 1, 1, none⟩ = some (.int .i64 (rowv (p 1))) ∧ U.cell? ⟨w.heap.size + 1, 2, none⟩ = some (.int .i64 (rowv (p 2))) ∧ U.cell? ⟨w.heap.size + 1, 3, none⟩ = some (.int .i64 (rowv (p 3))) ∧ U.cell? ⟨w.heap.size + 1, 4, none⟩ = some (.int .i64 (rowv (p 4))) ∧ U.cell? ⟨w.heap.size + 1, 5, none⟩ = some (.int .i64 (rowv (p 5))) ∧ U.cell? ⟨g, i * 2, none⟩ = some (.int .i64 (x : Int)) ∧ U.cell? ⟨g, i * 2 + 1, none⟩ = some (.int .i64 (y : Int)) ∧ Sw10 w f p l g cap out v U := by
  obtain ⟨p0, p1⟩ := cv_at l i hi
  rw [hc] at p0 p1
  have a_c := fun j => cell_of_row U _ j _ _ _ (h.1.1.row (g := w.heap.size) (o := o6 f) (by simp))
  have b_c := fun j => cell_of_row U _ j _ _ _ (h.1.1.row (g := w.heap.size + 1) (o := o6 p) (by simp))
  exact ⟨a_c 0, a_c 1, a_c 2, a_c 3, a_c 4, a_c 5, b_c 0, b_c 1, b_c 2, b_c 3, b_c 4, b_c 5, own_at h.2.1 p0, own_at h.2.1 p1, h⟩
set_option maxHeartbeats 4000000 in
theorem swin_yes (f p : Fn6) (hp : eqf p zf = false) (HG : Hid (∀ w, Calls Try.prog 146 #[.agg #[.int .i64 (rowv (f 0)), .int .i64 (rowv (f 1)), .int .i64 (rowv (f 2)), .int .i64 (rowv (f 3)), .int .i64 (rowv (f 4)), .int .i64 (rowv (f 5))], .agg #[.int .i64 (rowv (p 0)), .int .i64 (rowv (p 1)), .int .i64 (rowv (p 2)), .int .i64 (rowv (p 3)), .int .i64 (rowv (p 4)), .int .i64 (rowv (p 5))]] w fun e w' => e = .returned (.bool true) ∧ Below w.heap.size w w')) (w : World) : Calls Try.prog 39 #[.agg #[.int .i64 (rowv (f 0)), .int .i64 (rowv (f 1)), .int .i64 (rowv (f 2)), .int .i64 (rowv (f 3)), .int .i64 (rowv (f 4)), .int .i64 (rowv (f 5))], .agg #[.int .i64 (rowv (p 0)), .int .i64 (rowv (p 1)), .int .i64 (rowv (p 2)), .int .i64 (rowv (p 3)), .int .i64 (rowv (p 4)), .int .i64 (rowv (p 5))]] w (LPb (wl f p (bl (frf f p) 36) (bl (frf f p) 36).length) true w) := by
  obtain ⟨i0, hinf, hz0, hz1, hz2⟩ := info_parts info44
  have HFr := Lib.hid (lfree_f f p)
  have HLm := Lib.hid (bl_lt (frf f p) 36 (Nat.le_refl _))
  have hl36 := bl_len (frf f p) 36
  generalize bl (frf f p) 36 = l at HFr HLm hl36 ⊢
  go_enter Try.func39, Try.ntmps39
  go_wp2_with fail
  generalize hW : (World.alloc (World.alloc w _) _ : World) = W0
  have hsz : W0.heap.size = w.heap.size + 1 + 1 := by rw [← hW]; simp
  have K0 : KR 2 [(w.heap.size, o6 f), (w.heap.size + 1, o6 p)] w W0 := by
    rw [← hW]
    exact two_b w _ _ (by (repeat (first | exact Below.refl _ _ | assumption | refine Below.setCell ?_ (by first | (simp; done) | (simp; omega)) _ | refine Below.alloc ?_ (by first | (simp; done) | (simp; omega)) _ | refine Below.drew ?_))) (alloc_past (alloc_at rfl)) (alloc_at (by simp)) (by simp)
  have S0 := Lib.hid (Rl.start K0)
  rw [hsz] at S0
  clear hsz
  clear hW K0
  generalize (World.alloc _ _ : World) = W1 at S0 ⊢
  generalize hv0 : (Value.slice (some ⟨_, 0, none⟩) 0 0) = v0 at S0 ⊢
  clear hv0
  refine (HG.out _).mono ?_
  rintro e W2 ⟨rfl, hb⟩
  have S1 := S0.out.below hb rfl
  clear hb S0
  have a_c := fun j => cell_of_row W2 _ j _ _ _ (S1.1.row (g := w.heap.size) (o := o6 f) (by simp))
  have b_c := fun j => cell_of_row W2 _ j _ _ _ (S1.1.row (g := w.heap.size + 1) (o := o6 p) (by simp))
  go_wp2_with fail
  refine (HFr.out _).mono ?_
  rintro e W3 hp3
  obtain ⟨g, cap, rfl, ho, hb⟩ := LP.out hp3
  have hgl := (ho.lt g rfl).1
  have S2 : Hid (Sw10 w f p l g cap (wl f p l 0) v0 W3) := by
    refine Lib.hid ⟨S1.below hb rfl, own_mono ho S1.1.2.1, ?_⟩
    obtain ⟨_, g0, c0, hv, h3⟩ := S1
    have := (h3.lt g0 (by rw [hv]; rfl)).2
    rw [hv]
    simp [Value.ownBlock]
    omega
  clear hp3 ho hb S1 a_c b_c hgl
  go_wp2_with fail
  go_loopw [6, 8] (fun v n wr => ∃ i : Nat, i ≤ l.length ∧ n = .int .i64 i ∧ Hid (Sw10 w f p l g cap (wl f p l i) v wr)) (fun _ n _ => l.length - (intOf n).toNat)
  case atStart => exact ⟨0, by omega, rfl, S2⟩
  case round =>
    obtain ⟨i, hi, rfl, HS⟩ := hrel
    clear S2
    by_cases hlt : i < l.length
    · have hlt' : (i : Int) < l.length := by omega
      have hi0 : (0 : Int) ≤ i := by omega
      have hi2 : i ≤ 36 := by omega
      obtain ⟨hx, hy⟩ := HLm.out _ (List.getElem_mem hlt)
      have H0 := Lib.hid (@wl_k0 f p l i hlt)
      have H1 := Lib.hid (@wl_k1 f p l i hlt)
      have hwl := wl_len f p l i
      obtain ⟨x, y, hc⟩ : ∃ x y, l[i] = (x, y) := ⟨_, _, rfl⟩
      rw [hc] at hx hy H0 H1
      dsimp only at hx hy
      have HC := Lib.hid hc
      clear hc
      have HA := Lib.hid (l2at_n p hx hy)
      have HJ := Lib.hid (lor_f f (sf x y p))
      have HWn := Lib.hid (wins_f false p hp _ (jf f (sf x y p)) (Nat.lt_succ_self _))
      change Hid (vt6 Tlast p (t6 (jf f (sf x y p))) ≠ 0 → _) at H0
      change Hid (vt6 Tlast p (t6 (jf f (sf x y p))) = 0 → _) at H1
      change Hid (∀ w, Calls _ _ _ w (fun e w' => e = .returned (.bool (decide (vt6 Tlast p (t6 (jf f (sf x y p))) ≠ 0))) ∧ _)) at HWn
      generalize vt6 Tlast p (t6 (jf f (sf x y p))) = z at H0 H1 HWn
      obtain ⟨out', hw1⟩ : ∃ o, o = wl f p l (i + 1) := ⟨_, rfl⟩
      rw [← hw1] at H0 H1
      have HW1 := Lib.hid hw1.symm
      clear hw1
      generalize wl f p l i = out at H0 H1 HS hwl
      have HZ : Hid (out' = if z = 0 then out ++ [(x, y)] else out) := by
        by_cases hz : z = 0
        · rw [if_pos hz]; exact Lib.hid (H1.out hz)
        · rw [if_neg hz]; exact Lib.hid (H0.out hz)
      clear H0 H1
      have hS := HS.out
      clear HS
      go_wp2_with fail
      by_cases hz : z = 0
      · rw [if_pos hz] at HZ
        have hzd : decide (z ≠ 0) = false := by simp [hz]
        rw [hzd] at HWn
        set_option maxRecDepth 8000 in
        go_region_held3 (fun U => U.cell? ⟨w.heap.size, 0, none⟩ = some (.int .i64 (rowv (f 0))) ∧ U.cell? ⟨w.heap.size, 1, none⟩ = some (.int .i64 (rowv (f 1))) ∧ U.cell? ⟨w.heap.size, 2, none⟩ = some (.int .i64 (rowv (f 2))) ∧ U.cell? ⟨w.heap.size, 3, none⟩ = some (.int .i64 (rowv (f 3))) ∧ U.cell? ⟨w.heap.size, 4, none⟩ = some (.int .i64 (rowv (f 4))) ∧ U.cell? ⟨w.heap.size, 5, none⟩ = some (.int .i64 (rowv (f 5))) ∧ U.cell? ⟨w.heap.size + 1, 0, none⟩ = some (.int .i64 (rowv (p 0))) ∧ U.cell? ⟨w.heap.size + 1, 1, none⟩ = some (.int .i64 (rowv (p 1))) ∧ U.cell? ⟨w.heap.size + 1, 2, none⟩ = some (.int .i64 (rowv (p 2))) ∧ U.cell? ⟨w.heap.size + 1, 3, none⟩ = some (.int .i64 (rowv (p 3))) ∧ U.cell? ⟨w.heap.size + 1, 4, none⟩ = some (.int .i64 (rowv (p 4))) ∧ U.cell? ⟨w.heap.size + 1, 5, none⟩ = some (.int .i64 (rowv (p 5))) ∧ U.cell? ⟨g, i * 2, none⟩ = some (.int .i64 (x : Int)) ∧ U.cell? ⟨g, i * 2 + 1, none⟩ = some (.int .i64 (y : Int)) ∧ Sw10 w f p l g cap out u6 U) (with_reducible refine SKw2 hlt HC.out ?_; (first | with_reducible assumption | (with_reducible refine Sw10.drew ?_; with_reducible assumption))) (first | (go_at_call 153; with_reducible refine (HA.out _).mono ?_; rintro e w' ⟨rfl, hb'⟩; have hk : Sw10 w f p l g cap out u6 w' := Sw10.below (by (first | with_reducible assumption | (with_reducible refine Sw10.drew ?_; with_reducible assumption))) hb' rfl) | (go_at_call 152; with_reducible refine (HJ.out _).mono ?_; rintro e w' ⟨rfl, hb'⟩; have hk : Sw10 w f p l g cap out u6 w' := Sw10.below (by (first | with_reducible assumption | (with_reducible refine Sw10.drew ?_; with_reducible assumption))) hb' rfl) | (go_at_call 147; with_reducible refine (HWn.out _).mono ?_; rintro e w' ⟨rfl, hb'⟩; have hk : Sw10 w f p l g cap out u6 w' := Sw10.below (by (first | with_reducible assumption | (with_reducible refine Sw10.drew ?_; with_reducible assumption))) hb' rfl))
        all_goals
          obtain ⟨_, g0, cp0, hv, _⟩ := hk.1
          subst hv
          have HO := (hk.1.2.choose_spec.choose_spec.2).kept (grown_below ((Below.refl _ _).alloc (Nat.le_refl _) (.cells #[.int .i64 (x : Int), .int .i64 (y : Int)] 47)) rfl) (.inr (by simp [Value.ownBlock]))
          have HY := Lib.hid (hk.alloc (.cells #[.int .i64 (x : Int), .int .i64 (y : Int)] 47))
          have hks := hk.1.1.2.1
          have hq0 := (SKw2 hlt HC.out hk).2.2.2.2.2.2.2.2.2.2.2.2.1
          have hq1 := (SKw2 hlt HC.out hk).2.2.2.2.2.2.2.2.2.2.2.2.2.1
          clear hk hS
          go_wp2_with (at_builtin; refine wpList_append_own_at _ rfl _ _ 25 rfl (w.heap.size + 2) 47 i0 (.agg #[.int .i64 0, .int .i64 0]) 2 16 Try.underlying25 hinf hz0 hz1 hz2 rfl (by decide) _ _ _ rfl HO ⟨w'.heap.size, 0, none⟩ 1 1 [.int .i64 (x : Int), .int .i64 (y : Int)] rfl rfl (two_new _ _ _ _) (ints_one _ _) (by have := hwl; unfold maxLen; omega) (by have := hwl; omega) (by have := hks; simp; omega) ?_; intro v' w1 hown' hgrow hnn hat; have R := Lib.hid (HY.out.snoc hown' hgrow hnn hat); clear hown' hgrow hnn hat HY HO hks)
          go_roundw
          case rel => exact ⟨i + 1, by omega, by go_num, by rw [HW1.out, HZ.out]; exact R⟩
          case measure => simp [intOf]; omega
      · rw [if_neg hz] at HZ
        have hzd : decide (z ≠ 0) = true := by simp [hz]
        rw [hzd] at HWn
        set_option maxRecDepth 8000 in
        go_region_held3 (fun U => U.cell? ⟨w.heap.size, 0, none⟩ = some (.int .i64 (rowv (f 0))) ∧ U.cell? ⟨w.heap.size, 1, none⟩ = some (.int .i64 (rowv (f 1))) ∧ U.cell? ⟨w.heap.size, 2, none⟩ = some (.int .i64 (rowv (f 2))) ∧ U.cell? ⟨w.heap.size, 3, none⟩ = some (.int .i64 (rowv (f 3))) ∧ U.cell? ⟨w.heap.size, 4, none⟩ = some (.int .i64 (rowv (f 4))) ∧ U.cell? ⟨w.heap.size, 5, none⟩ = some (.int .i64 (rowv (f 5))) ∧ U.cell? ⟨w.heap.size + 1, 0, none⟩ = some (.int .i64 (rowv (p 0))) ∧ U.cell? ⟨w.heap.size + 1, 1, none⟩ = some (.int .i64 (rowv (p 1))) ∧ U.cell? ⟨w.heap.size + 1, 2, none⟩ = some (.int .i64 (rowv (p 2))) ∧ U.cell? ⟨w.heap.size + 1, 3, none⟩ = some (.int .i64 (rowv (p 3))) ∧ U.cell? ⟨w.heap.size + 1, 4, none⟩ = some (.int .i64 (rowv (p 4))) ∧ U.cell? ⟨w.heap.size + 1, 5, none⟩ = some (.int .i64 (rowv (p 5))) ∧ U.cell? ⟨g, i * 2, none⟩ = some (.int .i64 (x : Int)) ∧ U.cell? ⟨g, i * 2 + 1, none⟩ = some (.int .i64 (y : Int)) ∧ Sw10 w f p l g cap out u6 U) (with_reducible refine SKw2 hlt HC.out ?_; (first | with_reducible assumption | (with_reducible refine Sw10.drew ?_; with_reducible assumption))) (first | (go_at_call 153; with_reducible refine (HA.out _).mono ?_; rintro e w' ⟨rfl, hb'⟩; have hk : Sw10 w f p l g cap out u6 w' := Sw10.below (by (first | with_reducible assumption | (with_reducible refine Sw10.drew ?_; with_reducible assumption))) hb' rfl) | (go_at_call 152; with_reducible refine (HJ.out _).mono ?_; rintro e w' ⟨rfl, hb'⟩; have hk : Sw10 w f p l g cap out u6 w' := Sw10.below (by (first | with_reducible assumption | (with_reducible refine Sw10.drew ?_; with_reducible assumption))) hb' rfl) | (go_at_call 147; with_reducible refine (HWn.out _).mono ?_; rintro e w' ⟨rfl, hb'⟩; have hk : Sw10 w f p l g cap out u6 w' := Sw10.below (by (first | with_reducible assumption | (with_reducible refine Sw10.drew ?_; with_reducible assumption))) hb' rfl))
        all_goals
          have HK := Lib.hid hk
          clear hk hS
          go_wp2_with fail
          go_roundw
          case rel => exact ⟨i + 1, by omega, by go_num, by rw [HW1.out, HZ.out]; exact HK⟩
          case measure => simp [intOf]; omega
    · obtain rfl : i = l.length := by omega
      obtain ⟨g2, cap2, rfl, h2, h3⟩ := HS.out.1.post
      have H2 := Lib.hid h2
      have H3 := Lib.hid h3
      clear h2 h3 HS
      go_wp2_with fail
      go_ret2
      exact ⟨g2, cap2, rfl, H2.out, H3.out⟩
end Go.Proofs.Ytkjaaaefcmpokaa
