/- MERGED, for one claim's sake: Nu10, Mu10, Pu10, Mv10, Pv10. -/
import Derived.Test.YtkjaaaefcmpokaaNm10
import Derived.Test.YtkjaaaefcmpokaaNt10
import Derived.Test.YtkjaaaefcmpokaaMd10
import Derived.WalkKit
import Derived.ProofKit
import Derived.OpenShut
import Derived.Lib.Hide
import Derived.WalkSpells
import Derived.Below
import Derived.BigQuiet
import Derived.LoopN
import Derived.Deep.RegionHeld3
namespace Go.Proofs.Ytkjaaaefcmpokaa
open Go.ChangeShapes Go.WideShapes Go.ChangeAt Go.RowKit
set_option linter.unusedVariables false
/- Nu10 -/
open Go.Maps Go.ChangeMaps Go.MapKept
/-- A telling that grows by one at each step at most. -/
def Tb10 (T : List Int → Int) : Prop := ∀ (m : Nat) (l : List Int), l.length ≤ 36 → (∀ x ∈ l, 0 ≤ x ∧ x ≤ 36 + (m : Int)) → 0 ≤ T l ∧ T l ≤ 37 + (m : Int)
theorem tb_last : Tb10 Tlast := fun m l hl _ => by
  have := (mex_spec l).2.2
  unfold Tlast
  omega
theorem tb_miss : Tb10 Tmiss := fun m l hl _ => by
  unfold Tmiss
  split <;> omega
theorem tb_long : Tb10 Tlong := fun m l hl h => by
  unfold Tlong
  split
  · omega
  · rename_i h0
    have := mxl_bd h0 h
    omega
theorem tb_short : Tb10 Tshort := fun m l hl h => by
  unfold Tshort
  split
  · omega
  · rename_i h0
    have := mnl_bd h0 h
    omega
theorem vt_bd {T : List Int → Int} (hT : Tb10 T) {p : Fn6} (hp : eqf p zf = false) : ∀ (n : Nat) (f : Fn6), wc6 f < n → 0 ≤ vt6 T p (t6 f) ∧ vt6 T p (t6 f) ≤ 37 + (wc6 f : Int)
  | 0, f, h => absurd h (by omega)
  | n + 1, f, h => by
    rw [vt6_eq T p hp f]
    refine hT (wc6 f) _ (by rw [List.length_map]; exact nxf_len f p) (fun x hx => ?_)
    obtain ⟨u, hu, rfl⟩ := List.mem_map.mp hx
    obtain ⟨x', y', hx', hy', hfr, rfl⟩ := nxf_mem hu
    have hl := wc6_lt hx' hy' hfr hp
    have hb := vt_bd hT hp n (jf f (sf x' y' p)) (by omega)
    omega
theorem vt_b {T : List Int → Int} (hT : Tb10 T) {p : Fn6} (hp : eqf p zf = false) (f : Fn6) : 0 ≤ vt6 T p (t6 f) ∧ vt6 T p (t6 f) ≤ 1000 := by
  have := vt_bd hT hp _ f (Nat.lt_succ_self _)
  have := wc6_le f
  omega
theorem vt_nx {T : List Int → Int} (hT : Tb10 T) {p : Fn6} (hp : eqf p zf = false) (f : Fn6) : ∀ u ∈ nxf f p, 0 ≤ vt6 T p u ∧ vt6 T p u ≤ 1000 := fun u hu => by
  obtain ⟨x', y', _, _, _, rfl⟩ := nxf_mem hu
  exact vt_b hT hp _
theorem num_f (fn : Nat) (T : List Int → Int) (HT : Hid (Tell10 fn T)) (hT : Tb10 T) (p : Fn6) (hp : eqf p zf = false) (HS : Hid (∀ w, Calls Try.prog 141 #[.agg #[.int .i64 (rowv (p 0)), .int .i64 (rowv (p 1)), .int .i64 (rowv (p 2)), .int .i64 (rowv (p 3)), .int .i64 (rowv (p 4)), .int .i64 (rowv (p 5))]] w fun e w' => e = .returned (.bool true) ∧ Below w.heap.size w w')) (b : Nat) : ∀ (n : Nat) (f : Fn6), wc6 f < n → ∀ (w : World), Mo10 (vt6 T p) b w → Calls Try.prog 155 #[.map (some b), .agg #[.int .i64 (rowv (f 0)), .int .i64 (rowv (f 1)), .int .i64 (rowv (f 2)), .int .i64 (rowv (f 3)), .int .i64 (rowv (f 4)), .int .i64 (rowv (f 5))], .agg #[.int .i64 (rowv (p 0)), .int .i64 (rowv (p 1)), .int .i64 (rowv (p 2)), .int .i64 (rowv (p 3)), .int .i64 (rowv (p 4)), .int .i64 (rowv (p 5))], .func (.func fn) #[] #[]] w fun e w' => e = .returned (.int .i64 (vt6 T p (t6 f))) ∧ Mo10 (vt6 T p) b w' ∧ w.grownBy w' (some b)
  | 0, f, h => absurd h (by omega)
  | n + 1, f, h => num_step fn (vt6 T p) T HT f p (nxf f p) (nxf_len f p) (Lib.hid (inexts_f f p HS)) (vt6_eq T p hp f) (vt_nx hT hp f) b (Lib.hid (fun u hu w hM => by
      obtain ⟨x', y', hx', hy', hfr, rfl⟩ := nxf_mem hu
      have hl := wc6_lt hx' hy' hfr hp
      exact num_f fn T HT hT p hp HS b n (jf f (sf x' y' p)) (by omega) w hM))
theorem run_makeMap10 (w : World) : (Instr.makeMap 138 none).run Try.prog w = .ok (.map (some w.heap.size)) (w.alloc (.map #[] 0)) := by kernel_rfl
theorem Mo10.start (V : T6 → Int) (w : World) : Mo10 V w.heap.size (w.alloc (.map #[] 0)) := ⟨_, _, World.ownsMap_made w Try.prog 28 RV10, Gd10.start V⟩
theorem bx_b (f : Fn6) : o6 f = bx6 (rowv (f 0)) (rowv (f 1)) (rowv (f 2)) (rowv (f 3)) (rowv (f 4)) (rowv (f 5)) := rfl
set_option maxHeartbeats 1000000 in
theorem isgame_f (a0 a1 a2 a3 a4 a5 : Int) (b0 b1 b2 b3 b4 b5 : Int) (l : List T6) (hl : l.length ≤ 36) (t : Bool) (HI : Hid (∀ w, Calls Try.prog 29 #[.agg #[.int .i64 a0, .int .i64 a1, .int .i64 a2, .int .i64 a3, .int .i64 a4, .int .i64 a5], .agg #[.int .i64 b0, .int .i64 b1, .int .i64 b2, .int .i64 b3, .int .i64 b4, .int .i64 b5]] w (LTb l t w))) (w : World) : Calls Try.prog 154 #[.agg #[.int .i64 a0, .int .i64 a1, .int .i64 a2, .int .i64 a3, .int .i64 a4, .int .i64 a5], .agg #[.int .i64 b0, .int .i64 b1, .int .i64 b2, .int .i64 b3, .int .i64 b4, .int .i64 b5]] w fun e w' => e = .returned (.bool (t && decide ((l.length : Int) ≤ 7))) ∧ Below w.heap.size w w' := by
  go_enter Try.func154, Try.ntmps154
  go_wp2_with fail
  generalize hW : (World.alloc _ _ : World) = W0
  have K0 : KR 2 [(w.heap.size, bx6 a0 a1 a2 a3 a4 a5), (w.heap.size + 1, bx6 b0 b1 b2 b3 b4 b5)] w W0 := by
    rw [← hW]
    exact two_b w _ _ (by (repeat (first | exact Below.refl _ _ | assumption | refine Below.setCell ?_ (by first | (simp; done) | (simp; omega)) _ | refine Below.alloc ?_ (by first | (simp; done) | (simp; omega)) _ | refine Below.drew ?_))) (alloc_past (alloc_at rfl)) (alloc_at (by simp)) (by simp)
  clear hW
  have a_c := fun j => cell_of_row W0 _ j _ _ _ (K0.row (g := w.heap.size) (o := bx6 a0 a1 a2 a3 a4 a5) (by simp))
  have b_c := fun j => cell_of_row W0 _ j _ _ _ (K0.row (g := w.heap.size + 1) (o := bx6 b0 b1 b2 b3 b4 b5) (by simp))
  go_wp2_with fail
  refine (HI.out _).mono ?_
  rintro e W1 ⟨g, cap, rfl, ho, hb⟩
  have K1 := K0.far hb rfl
  clear ho hb K0 a_c b_c
  cases t <;>
  · go_wp2_with fail
    go_ret
    exact ⟨by simp, K1.2.2⟩
set_option maxHeartbeats 1000000 in
theorem told_no (fn : Nat) (a0 a1 a2 a3 a4 a5 : Int) (b0 b1 b2 b3 b4 b5 : Int) (HG : Hid (∀ w, Calls Try.prog 154 #[.agg #[.int .i64 a0, .int .i64 a1, .int .i64 a2, .int .i64 a3, .int .i64 a4, .int .i64 a5], .agg #[.int .i64 b0, .int .i64 b1, .int .i64 b2, .int .i64 b3, .int .i64 b4, .int .i64 b5]] w fun e w' => e = .returned (.bool false) ∧ Below w.heap.size w w')) (w : World) : Calls Try.prog 148 #[.func (.func fn) #[] #[], .agg #[.int .i64 a0, .int .i64 a1, .int .i64 a2, .int .i64 a3, .int .i64 a4, .int .i64 a5], .agg #[.int .i64 b0, .int .i64 b1, .int .i64 b2, .int .i64 b3, .int .i64 b4, .int .i64 b5]] w fun e w' => e = .returned (.tuple #[.int .i64 0, .bool false]) ∧ Below w.heap.size w w' := by
  go_enter Try.func148, Try.ntmps148
  go_wp2_with fail
  generalize hW : (World.alloc _ _ : World) = W0
  have K0 : KR 2 [(w.heap.size, bx6 a0 a1 a2 a3 a4 a5), (w.heap.size + 1, bx6 b0 b1 b2 b3 b4 b5)] w W0 := by
    rw [← hW]
    exact two_b w _ _ (by (repeat (first | exact Below.refl _ _ | assumption | refine Below.setCell ?_ (by first | (simp; done) | (simp; omega)) _ | refine Below.alloc ?_ (by first | (simp; done) | (simp; omega)) _ | refine Below.drew ?_))) (alloc_past (alloc_at rfl)) (alloc_at (by simp)) (by simp)
  clear hW
  have a_c := fun j => cell_of_row W0 _ j _ _ _ (K0.row (g := w.heap.size) (o := bx6 a0 a1 a2 a3 a4 a5) (by simp))
  have b_c := fun j => cell_of_row W0 _ j _ _ _ (K0.row (g := w.heap.size + 1) (o := bx6 b0 b1 b2 b3 b4 b5) (by simp))
  go_wp2_with fail
  refine (HG.out _).mono ?_
  rintro e W1 ⟨rfl, hb⟩
  have K1 := K0.far hb rfl
  clear hb K0 a_c b_c
  go_wp2_with fail
  go_ret2
  exact ⟨rfl, K1.2.2⟩
set_option maxHeartbeats 1000000 in
theorem told_yes (fn : Nat) (T : List Int → Int) (HT : Hid (Tell10 fn T)) (hT : Tb10 T) (f p : Fn6) (hp : eqf p zf = false) (HS : Hid (∀ w, Calls Try.prog 141 #[.agg #[.int .i64 (rowv (p 0)), .int .i64 (rowv (p 1)), .int .i64 (rowv (p 2)), .int .i64 (rowv (p 3)), .int .i64 (rowv (p 4)), .int .i64 (rowv (p 5))]] w fun e w' => e = .returned (.bool true) ∧ Below w.heap.size w w')) (HG : Hid (∀ w, Calls Try.prog 154 #[.agg #[.int .i64 (rowv (f 0)), .int .i64 (rowv (f 1)), .int .i64 (rowv (f 2)), .int .i64 (rowv (f 3)), .int .i64 (rowv (f 4)), .int .i64 (rowv (f 5))], .agg #[.int .i64 (rowv (p 0)), .int .i64 (rowv (p 1)), .int .i64 (rowv (p 2)), .int .i64 (rowv (p 3)), .int .i64 (rowv (p 4)), .int .i64 (rowv (p 5))]] w fun e w' => e = .returned (.bool true) ∧ Below w.heap.size w w')) (w : World) : Calls Try.prog 148 #[.func (.func fn) #[] #[], .agg #[.int .i64 (rowv (f 0)), .int .i64 (rowv (f 1)), .int .i64 (rowv (f 2)), .int .i64 (rowv (f 3)), .int .i64 (rowv (f 4)), .int .i64 (rowv (f 5))], .agg #[.int .i64 (rowv (p 0)), .int .i64 (rowv (p 1)), .int .i64 (rowv (p 2)), .int .i64 (rowv (p 3)), .int .i64 (rowv (p 4)), .int .i64 (rowv (p 5))]] w fun e w' => e = .returned (.tuple #[.int .i64 (vt6 T p (t6 f)), .bool true]) ∧ Below w.heap.size w w' := by
  have HF := Lib.hid (fun b => num_f fn T HT hT p hp HS b _ f (Nat.lt_succ_self _))
  have hmm := run_makeMap10
  have HM := Lib.hid (Mo10.start (vt6 T p))
  generalize vt6 T p (t6 f) = z at HF ⊢
  go_enter Try.func148, Try.ntmps148
  go_wp2_with fail
  generalize hW : (World.alloc _ _ : World) = W0
  have K0 : KR 2 [(w.heap.size, o6 f), (w.heap.size + 1, o6 p)] w W0 := by
    rw [← hW]
    exact two_b w _ _ (by (repeat (first | exact Below.refl _ _ | assumption | refine Below.setCell ?_ (by first | (simp; done) | (simp; omega)) _ | refine Below.alloc ?_ (by first | (simp; done) | (simp; omega)) _ | refine Below.drew ?_))) (alloc_past (alloc_at rfl)) (alloc_at (by simp)) (by simp)
  clear hW
  have a_c := fun j => cell_of_row W0 _ j _ _ _ (K0.row (g := w.heap.size) (o := o6 f) (by simp))
  have b_c := fun j => cell_of_row W0 _ j _ _ _ (K0.row (g := w.heap.size + 1) (o := o6 p) (by simp))
  go_wp2_with fail
  refine (HG.out _).mono ?_
  rintro e W1 ⟨rfl, hb⟩
  have K1 := K0.far hb rfl
  clear hb K0 a_c b_c
  have a_c := fun j => cell_of_row W1 _ j _ _ _ (K1.row (g := w.heap.size) (o := o6 f) (by simp))
  have b_c := fun j => cell_of_row W1 _ j _ _ _ (K1.row (g := w.heap.size + 1) (o := o6 p) (by simp))
  have hlt : w.heap.size + 1 < W1.heap.size := by have := K1.2.1; omega
  have hlt0 : w.heap.size < W1.heap.size := by omega
  have hne : w.heap.size + 1 ≠ W1.heap.size := by omega
  have hne0 : w.heap.size ≠ W1.heap.size := by omega
  go_wp2_with fail
  refine (HF.out _ _ (HM.out W1)).mono ?_
  rintro e W2 ⟨rfl, hD, hg⟩
  have hB := (K1.2.2.alloc K1.2.2.size (.map #[] 0)).grown hg (by simp; omega) (fun k hk => by cases hk; omega)
  clear hD hg a_c b_c K1 hmm HM
  go_wp2_with fail
  go_ret2
  exact ⟨rfl, hB⟩
/- Mu10 -/
/-- Midway: the boxes, and the nexts. -/
def Rw10 (w : World) (f p : Fn6) (nx : List T6) (g cap : Nat) (U : World) : Prop := KR 2 [(w.heap.size, o6 f), (w.heap.size + 1, o6 p)] w U ∧ U.ownsRow (w.heap.size + 2) 28 6 (.slice (some ⟨g, 0, none⟩) nx.length cap) nx.length (tv6 nx)
theorem Rw10.below {w U U' : World} {f p : Fn6} {nx : List T6} {g cap M : Nat} (h : Rw10 w f p nx g cap U) (hb : Below M U U') (hM : M = U.heap.size) : Rw10 w f p nx g cap U' := ⟨h.1.far hb hM, h.2.kept (grown_below hb hM) (.inr (by simp [Value.ownBlock]))⟩
theorem Rw10.drew {w U : World} {f p : Fn6} {nx : List T6} {g cap : Nat} (h : Rw10 w f p nx g cap U) : Rw10 w f p nx g cap U.drew := h.below (M := U.heap.size) (Below.refl _ _).drew rfl
theorem SKw {w U : World} {f p : Fn6} {nx : List T6} {g cap i : Nat} {a0 a1 a2 a3 a4 a5 : Int} (hi : i < nx.length) (ht : nx[i] = (a0, a1, a2, a3, a4, a5)) (h : Rw10 w f p nx g cap U) : U.cell? ⟨g, i * 6, none⟩ = some (.int .i64 a0) ∧ U.cell? ⟨g, i * 6 + 1, none⟩ = some (.int .i64 a1) ∧ U.cell? ⟨g, i * 6 + 2, none⟩ = some (.int .i64 a2) ∧ U.cell? ⟨g, i * 6 + 3, none⟩ = some (.int .i64 a3) ∧ U.cell? ⟨g, i * 6 + 4, none⟩ = some (.int .i64 a4) ∧ U.cell? ⟨g, i * 6 + 5, none⟩ = some (.int .i64 a5) ∧ U.cell? ⟨w.heap.size + 1, 0, none⟩ = some (.int .i64 (rowv (p 0))) ∧ U.cell? ⟨w.heap.size + 1, 1, none⟩ = some (.int .i64 (rowv (p 1))) ∧ U.cell? ⟨w.heap.size + 1, 2, none⟩ = some (.int .i64 (rowv (p 2))) ∧ U.cell? ⟨w.heap.size + 1, 3, none⟩ = some (.int .i64 (rowv (p 3))) ∧ U.cell? ⟨w.heap.size + 1, 4, none⟩ = some (.int .i64 (rowv (p 4))) ∧ U.cell? ⟨w.heap.size + 1, 5, none⟩ = some (.int .i64 (rowv (p 5))) ∧ Rw10 w f p nx g cap U := by
  obtain ⟨p0, p1, p2, p3, p4, p5⟩ := tv6_at nx i hi
  rw [ht] at p0 p1 p2 p3 p4 p5
  have b_c := fun j => cell_of_row U _ j _ _ _ (h.1.row (g := w.heap.size + 1) (o := o6 p) (by simp))
  exact ⟨own_at h.2 p0, own_at h.2 p1, own_at h.2 p2, own_at h.2 p3, own_at h.2 p4, own_at h.2 p5, b_c 0, b_c 1, b_c 2, b_c 3, b_c 4, b_c 5, h⟩
set_option maxHeartbeats 1000000 in
theorem ssmall_no (a0 a1 a2 a3 a4 a5 : Int) (b0 b1 b2 b3 b4 b5 : Int) (HG : Hid (∀ w, Calls Try.prog 137 #[.agg #[.int .i64 a0, .int .i64 a1, .int .i64 a2, .int .i64 a3, .int .i64 a4, .int .i64 a5], .agg #[.int .i64 b0, .int .i64 b1, .int .i64 b2, .int .i64 b3, .int .i64 b4, .int .i64 b5]] w fun e w' => e = .returned (.bool false) ∧ Below w.heap.size w w')) (w : World) : Calls Try.prog 146 #[.agg #[.int .i64 a0, .int .i64 a1, .int .i64 a2, .int .i64 a3, .int .i64 a4, .int .i64 a5], .agg #[.int .i64 b0, .int .i64 b1, .int .i64 b2, .int .i64 b3, .int .i64 b4, .int .i64 b5]] w fun e w' => e = .returned (.bool false) ∧ Below w.heap.size w w' := by
  go_enter Try.func146, Try.ntmps146
  go_wp2_with fail
  generalize hW : (World.alloc _ _ : World) = W0
  have K0 : KR 2 [(w.heap.size, bx6 a0 a1 a2 a3 a4 a5), (w.heap.size + 1, bx6 b0 b1 b2 b3 b4 b5)] w W0 := by
    rw [← hW]
    exact two_b w _ _ (by (repeat (first | exact Below.refl _ _ | assumption | refine Below.setCell ?_ (by first | (simp; done) | (simp; omega)) _ | refine Below.alloc ?_ (by first | (simp; done) | (simp; omega)) _ | refine Below.drew ?_))) (alloc_past (alloc_at rfl)) (alloc_at (by simp)) (by simp)
  clear hW
  have a_c := fun j => cell_of_row W0 _ j _ _ _ (K0.row (g := w.heap.size) (o := bx6 a0 a1 a2 a3 a4 a5) (by simp))
  have b_c := fun j => cell_of_row W0 _ j _ _ _ (K0.row (g := w.heap.size + 1) (o := bx6 b0 b1 b2 b3 b4 b5) (by simp))
  go_wp2_with fail
  refine (HG.out _).mono ?_
  rintro e W1 ⟨rfl, hb⟩
  have K1 := K0.far hb rfl
  clear hb K0 a_c b_c
  go_wp2_with fail
  go_ret
  exact ⟨rfl, K1.2.2⟩
set_option maxHeartbeats 1000000 in
theorem ssmall_yes (f p : Fn6) (HG : Hid (∀ w, Calls Try.prog 137 #[.agg #[.int .i64 (rowv (f 0)), .int .i64 (rowv (f 1)), .int .i64 (rowv (f 2)), .int .i64 (rowv (f 3)), .int .i64 (rowv (f 4)), .int .i64 (rowv (f 5))], .agg #[.int .i64 (rowv (p 0)), .int .i64 (rowv (p 1)), .int .i64 (rowv (p 2)), .int .i64 (rowv (p 3)), .int .i64 (rowv (p 4)), .int .i64 (rowv (p 5))]] w fun e w' => e = .returned (.bool true) ∧ Below w.heap.size w w')) (w : World) : Calls Try.prog 146 #[.agg #[.int .i64 (rowv (f 0)), .int .i64 (rowv (f 1)), .int .i64 (rowv (f 2)), .int .i64 (rowv (f 3)), .int .i64 (rowv (f 4)), .int .i64 (rowv (f 5))], .agg #[.int .i64 (rowv (p 0)), .int .i64 (rowv (p 1)), .int .i64 (rowv (p 2)), .int .i64 (rowv (p 3)), .int .i64 (rowv (p 4)), .int .i64 (rowv (p 5))]] w fun e w' => e = .returned (.bool (decide (((nxf f p).length : Int) ≤ 7))) ∧ Below w.heap.size w w' := by
  have HN := Lib.hid (lnexts_f f p)
  have hl := nxf_len f p
  generalize nxf f p = nx at HN hl ⊢
  go_enter Try.func146, Try.ntmps146
  go_wp2_with fail
  generalize hW : (World.alloc _ _ : World) = W0
  have K0 : KR 2 [(w.heap.size, o6 f), (w.heap.size + 1, o6 p)] w W0 := by
    rw [← hW]
    exact two_b w _ _ (by (repeat (first | exact Below.refl _ _ | assumption | refine Below.setCell ?_ (by first | (simp; done) | (simp; omega)) _ | refine Below.alloc ?_ (by first | (simp; done) | (simp; omega)) _ | refine Below.drew ?_))) (alloc_past (alloc_at rfl)) (alloc_at (by simp)) (by simp)
  clear hW
  have a_c := fun j => cell_of_row W0 _ j _ _ _ (K0.row (g := w.heap.size) (o := o6 f) (by simp))
  have b_c := fun j => cell_of_row W0 _ j _ _ _ (K0.row (g := w.heap.size + 1) (o := o6 p) (by simp))
  go_wp2_with fail
  refine (HG.out _).mono ?_
  rintro e W1 ⟨rfl, hb⟩
  have K1 := K0.far hb rfl
  clear hb K0 a_c b_c
  have a_c := fun j => cell_of_row W1 _ j _ _ _ (K1.row (g := w.heap.size) (o := o6 f) (by simp))
  have b_c := fun j => cell_of_row W1 _ j _ _ _ (K1.row (g := w.heap.size + 1) (o := o6 p) (by simp))
  go_wp2_with fail
  refine (HN.out _).mono ?_
  rintro e W2 ⟨g, cap, rfl, ho, hb⟩
  have K2 := K1.far hb rfl
  clear ho hb K1 a_c b_c
  go_wp2_with fail
  go_ret
  exact ⟨rfl, K2.2.2⟩
theorem tw_in {nx : List T6} {i : Nat} (hi : i < nx.length) (V : T6 → Int) (h : ∀ u ∈ nx.take i, V u ≠ 0) (hv : V nx[i] ≠ 0) : ∀ u ∈ nx.take (i + 1), V u ≠ 0 := fun u hu => by
  rw [List.take_add_one, List.getElem?_eq_getElem hi] at hu
  rcases List.mem_append.mp hu with h1 | h1
  · exact h u h1
  · simp at h1; rw [h1]; exact hv
theorem w_end0 {nx : List T6} (V : T6 → Int) (c : Bool) (h : nx = []) : (c = true ↔ (∃ u ∈ nx, V u = 0) ∨ (nx = [] ∧ c = true)) := by subst h; simp
theorem w_end1 {nx : List T6} {V : T6 → Int} (c : Bool) (hne : ¬ ((nx.length : Int) = 0)) (h : ∀ u ∈ nx, V u ≠ 0) : (false = true ↔ (∃ u ∈ nx, V u = 0) ∨ (nx = [] ∧ c = true)) := by
  have : nx ≠ [] := fun h0 => hne (by rw [h0]; rfl)
  simp [this]
  exact fun _ _ _ _ _ _ hx => h _ hx
set_option maxHeartbeats 4000000 in
theorem wins_step (c : Bool) (V : T6 → Int) (f p : Fn6) (nx : List T6) (hl : nx.length ≤ 36) (HN : Hid (∀ w, Calls Try.prog 143 #[.agg #[.int .i64 (rowv (f 0)), .int .i64 (rowv (f 1)), .int .i64 (rowv (f 2)), .int .i64 (rowv (f 3)), .int .i64 (rowv (f 4)), .int .i64 (rowv (f 5))], .agg #[.int .i64 (rowv (p 0)), .int .i64 (rowv (p 1)), .int .i64 (rowv (p 2)), .int .i64 (rowv (p 3)), .int .i64 (rowv (p 4)), .int .i64 (rowv (p 5))]] w (LT nx w))) (HI : Hid (∀ u ∈ nx, ∀ w, Calls Try.prog 147 #[v6 u, .agg #[.int .i64 (rowv (p 0)), .int .i64 (rowv (p 1)), .int .i64 (rowv (p 2)), .int .i64 (rowv (p 3)), .int .i64 (rowv (p 4)), .int .i64 (rowv (p 5))], .bool c] w fun e w' => e = .returned (.bool (decide (V u ≠ 0))) ∧ Below w.heap.size w w')) (w : World) : Calls Try.prog 147 #[.agg #[.int .i64 (rowv (f 0)), .int .i64 (rowv (f 1)), .int .i64 (rowv (f 2)), .int .i64 (rowv (f 3)), .int .i64 (rowv (f 4)), .int .i64 (rowv (f 5))], .agg #[.int .i64 (rowv (p 0)), .int .i64 (rowv (p 1)), .int .i64 (rowv (p 2)), .int .i64 (rowv (p 3)), .int .i64 (rowv (p 4)), .int .i64 (rowv (p 5))], .bool c] w fun e w' => (∃ r : Bool, e = .returned (.bool r) ∧ (r = true ↔ (∃ u ∈ nx, V u = 0) ∨ (nx = [] ∧ c = true))) ∧ Below w.heap.size w w' := by
  go_enter Try.func147, Try.ntmps147
  go_wp2_with fail
  generalize hW : (World.alloc _ _ : World) = W0
  have K0 : KR 2 [(w.heap.size, o6 f), (w.heap.size + 1, o6 p)] w W0 := by
    rw [← hW]
    exact two_b w _ _ (by (repeat (first | exact Below.refl _ _ | assumption | refine Below.setCell ?_ (by first | (simp; done) | (simp; omega)) _ | refine Below.alloc ?_ (by first | (simp; done) | (simp; omega)) _ | refine Below.drew ?_))) (alloc_past (alloc_at rfl)) (alloc_at (by simp)) (by simp)
  clear hW
  have a_c := fun j => cell_of_row W0 _ j _ _ _ (K0.row (g := w.heap.size) (o := o6 f) (by simp))
  have b_c := fun j => cell_of_row W0 _ j _ _ _ (K0.row (g := w.heap.size + 1) (o := o6 p) (by simp))
  go_wp2_with fail
  refine (HN.out _).mono ?_
  rintro e W2 ⟨g, cap, rfl, ho, hb⟩
  have S0 : Hid (Rw10 w f p nx g cap W2) := Lib.hid ⟨K0.far hb rfl, own_mono ho K0.2.1⟩
  clear ho hb K0 a_c b_c HN
  go_wp2_with fail
  go_loopw [8] (fun n wr => ∃ i : Nat, i ≤ nx.length ∧ n = .int .i64 i ∧ (∀ u ∈ nx.take i, V u ≠ 0) ∧ Hid (Rw10 w f p nx g cap wr)) (fun n _ => nx.length - (intOf n).toNat)
  case atStart => exact ⟨0, by omega, rfl, by simp, S0⟩
  case round =>
    obtain ⟨i, hi, rfl, hno, HS⟩ := hrel
    clear S0
    by_cases hlt : i < nx.length
    · have hlt' : (i : Int) < nx.length := by omega
      have hi0 : (0 : Int) ≤ i := by omega
      have hi2 : i ≤ 36 := by omega
      have HIu := Lib.hid (HI.out nx[i] (List.getElem_mem hlt))
      have HTw := Lib.hid (fun hv => tw_in hlt V hno hv)
      have HEx := Lib.hid (fun hv : V nx[i] = 0 => (⟨nx[i], List.getElem_mem hlt, hv⟩ : ∃ u ∈ nx, V u = 0))
      obtain ⟨d, hd⟩ : ∃ d, d = decide (V nx[i] ≠ 0) := ⟨_, rfl⟩
      rw [← hd] at HIu
      have HD := Lib.hid hd
      clear hd
      have hS := HS.out
      obtain ⟨a0, a1, a2, a3, a4, a5, ht⟩ : ∃ a0 a1 a2 a3 a4 a5, nx[i] = (a0, a1, a2, a3, a4, a5) := ⟨_, _, _, _, _, _, rfl⟩
      have HT := Lib.hid ht
      rw [ht] at HIu
      unfold v6 at HIu
      dsimp only at HIu
      clear HS ht HI hno
      go_wp2_with fail
      cases d
      · set_option maxRecDepth 8000 in
        go_region_held3 (fun U => U.cell? ⟨g, i * 6, none⟩ = some (.int .i64 a0) ∧ U.cell? ⟨g, i * 6 + 1, none⟩ = some (.int .i64 a1) ∧ U.cell? ⟨g, i * 6 + 2, none⟩ = some (.int .i64 a2) ∧ U.cell? ⟨g, i * 6 + 3, none⟩ = some (.int .i64 a3) ∧ U.cell? ⟨g, i * 6 + 4, none⟩ = some (.int .i64 a4) ∧ U.cell? ⟨g, i * 6 + 5, none⟩ = some (.int .i64 a5) ∧ U.cell? ⟨w.heap.size + 1, 0, none⟩ = some (.int .i64 (rowv (p 0))) ∧ U.cell? ⟨w.heap.size + 1, 1, none⟩ = some (.int .i64 (rowv (p 1))) ∧ U.cell? ⟨w.heap.size + 1, 2, none⟩ = some (.int .i64 (rowv (p 2))) ∧ U.cell? ⟨w.heap.size + 1, 3, none⟩ = some (.int .i64 (rowv (p 3))) ∧ U.cell? ⟨w.heap.size + 1, 4, none⟩ = some (.int .i64 (rowv (p 4))) ∧ U.cell? ⟨w.heap.size + 1, 5, none⟩ = some (.int .i64 (rowv (p 5))) ∧ Rw10 w f p nx g cap U) (with_reducible refine SKw hlt HT.out ?_; (first | with_reducible assumption | (with_reducible refine Rw10.drew ?_; with_reducible assumption))) (first | (go_at_call 147; with_reducible refine (HIu.out _).mono ?_; rintro e w' ⟨rfl, hb'⟩; have hk : Rw10 w f p nx g cap w' := Rw10.below (by (first | with_reducible assumption | (with_reducible refine Rw10.drew ?_; with_reducible assumption))) hb' rfl))
        all_goals
          go_wp2_with fail
          go_ret
          exact ⟨⟨true, rfl, by simp only [true_iff]; exact .inl (HEx.out (by have := HD.out; simpa using this.symm))⟩, hk.1.2.2⟩
      · set_option maxRecDepth 8000 in
        go_region_held3 (fun U => U.cell? ⟨g, i * 6, none⟩ = some (.int .i64 a0) ∧ U.cell? ⟨g, i * 6 + 1, none⟩ = some (.int .i64 a1) ∧ U.cell? ⟨g, i * 6 + 2, none⟩ = some (.int .i64 a2) ∧ U.cell? ⟨g, i * 6 + 3, none⟩ = some (.int .i64 a3) ∧ U.cell? ⟨g, i * 6 + 4, none⟩ = some (.int .i64 a4) ∧ U.cell? ⟨g, i * 6 + 5, none⟩ = some (.int .i64 a5) ∧ U.cell? ⟨w.heap.size + 1, 0, none⟩ = some (.int .i64 (rowv (p 0))) ∧ U.cell? ⟨w.heap.size + 1, 1, none⟩ = some (.int .i64 (rowv (p 1))) ∧ U.cell? ⟨w.heap.size + 1, 2, none⟩ = some (.int .i64 (rowv (p 2))) ∧ U.cell? ⟨w.heap.size + 1, 3, none⟩ = some (.int .i64 (rowv (p 3))) ∧ U.cell? ⟨w.heap.size + 1, 4, none⟩ = some (.int .i64 (rowv (p 4))) ∧ U.cell? ⟨w.heap.size + 1, 5, none⟩ = some (.int .i64 (rowv (p 5))) ∧ Rw10 w f p nx g cap U) (with_reducible refine SKw hlt HT.out ?_; (first | with_reducible assumption | (with_reducible refine Rw10.drew ?_; with_reducible assumption))) (first | (go_at_call 147; with_reducible refine (HIu.out _).mono ?_; rintro e w' ⟨rfl, hb'⟩; have hk : Rw10 w f p nx g cap w' := Rw10.below (by (first | with_reducible assumption | (with_reducible refine Rw10.drew ?_; with_reducible assumption))) hb' rfl))
        all_goals
          have HK := Lib.hid hk
          clear hk hS
          go_wp2_with fail
          go_roundw
          case rel => exact ⟨i + 1, by omega, by go_num, HTw.out (by have := HD.out; simpa using this.symm), HK⟩
          case measure => simp [intOf]; omega
    · obtain rfl : i = nx.length := by omega
      rw [List.take_length] at hno
      have hB := HS.out.1.2.2
      clear HS HI
      have HNo := Lib.hid hno
      clear hno
      by_cases h0 : (nx.length : Int) = 0
      · have hnil : nx = [] := List.length_eq_zero_iff.mp (by omega)
        have HNil := Lib.hid hnil
        clear hnil
        go_wp2_with fail
        go_ret
        exact ⟨⟨c, rfl, w_end0 V c HNil.out⟩, hB⟩
      · have h1 : ¬ (nx.length = 0) := by omega
        have h2 : ¬ (nx = []) := fun h => h1 (by rw [h]; rfl)
        go_wp2_with fail
        go_ret
        exact ⟨⟨false, rfl, w_end1 c h0 HNo.out⟩, hB⟩
def TW (c : Bool) : List Int → Int := if c then Tmiss else Tlast
theorem tb_w (c : Bool) : Tb10 (TW c) := by cases c; exact tb_last; exact tb_miss
theorem tw_iff (c : Bool) (l : List Int) : TW c l ≠ 0 ↔ (0 : Int) ∈ l ∨ (l = [] ∧ c = true) := by
  cases c
  · show Tlast l ≠ 0 ↔ _
    have h := mex_spec l
    unfold Tlast
    constructor
    · intro h0
      exact .inl (h.1 0 (by omega))
    · rintro (h1 | h1)
      · intro h0
        have : mex l = 0 := by omega
        have h2 := h.2.1
        rw [this] at h2
        exact h2 h1
      · simp at h1
  · show Tmiss l ≠ 0 ↔ _
    unfold Tmiss
    split
    · rename_i h
      simp only [ne_eq, Int.one_ne_zero, not_false_eq_true, true_iff, and_true]
      exact h.symm
    · rename_i h
      simp only [ne_eq, not_true_eq_false, false_iff, and_true]
      exact fun h1 => h h1.symm
theorem wins_f (c : Bool) (p : Fn6) (hp : eqf p zf = false) : ∀ (n : Nat) (f : Fn6), wc6 f < n → ∀ (w : World), Calls Try.prog 147 #[.agg #[.int .i64 (rowv (f 0)), .int .i64 (rowv (f 1)), .int .i64 (rowv (f 2)), .int .i64 (rowv (f 3)), .int .i64 (rowv (f 4)), .int .i64 (rowv (f 5))], .agg #[.int .i64 (rowv (p 0)), .int .i64 (rowv (p 1)), .int .i64 (rowv (p 2)), .int .i64 (rowv (p 3)), .int .i64 (rowv (p 4)), .int .i64 (rowv (p 5))], .bool c] w fun e w' => e = .returned (.bool (decide (vt6 (TW c) p (t6 f) ≠ 0))) ∧ Below w.heap.size w w'
  | 0, f, h => absurd h (by omega)
  | n + 1, f, h => fun w => by
    refine (wins_step c (vt6 (TW c) p) f p (nxf f p) (nxf_len f p) (Lib.hid (lnexts_f f p)) (Lib.hid (fun u hu w => ?_)) w).mono ?_
    · obtain ⟨x', y', hx', hy', hfr, rfl⟩ := nxf_mem hu
      have hl := wc6_lt hx' hy' hfr hp
      exact wins_f c p hp n (jf f (sf x' y' p)) (by omega) w
    · rintro e w' ⟨⟨r, rfl, hr⟩, hb⟩
      refine ⟨?_, hb⟩
      have h1 : (vt6 (TW c) p (t6 f) ≠ 0) ↔ r = true := by
        rw [vt6_eq (TW c) p hp f, tw_iff, hr]
        simp only [List.mem_map, List.map_eq_nil_iff]
      cases r
      · rw [decide_eq_false (fun h => by simpa using h1.mp h)]
      · rw [decide_eq_true (h1.mpr rfl)]
/- Pu10 -/
set_option maxHeartbeats 1000000 in
theorem slast_no (a0 a1 a2 a3 a4 a5 : Int) (b0 b1 b2 b3 b4 b5 : Int) (HG : Hid (∀ w, Calls Try.prog 146 #[.agg #[.int .i64 a0, .int .i64 a1, .int .i64 a2, .int .i64 a3, .int .i64 a4, .int .i64 a5], .agg #[.int .i64 b0, .int .i64 b1, .int .i64 b2, .int .i64 b3, .int .i64 b4, .int .i64 b5]] w fun e w' => e = .returned (.bool false) ∧ Below w.heap.size w w')) (w : World) : Calls Try.prog 33 #[.agg #[.int .i64 a0, .int .i64 a1, .int .i64 a2, .int .i64 a3, .int .i64 a4, .int .i64 a5], .agg #[.int .i64 b0, .int .i64 b1, .int .i64 b2, .int .i64 b3, .int .i64 b4, .int .i64 b5]] w fun e w' => e = .returned (.tuple #[.bool false, .bool false]) ∧ Below w.heap.size w w' := by
  go_enter Try.func33, Try.ntmps33
  go_wp2_with fail
  generalize hW : (World.alloc _ _ : World) = W0
  have K0 : KR 2 [(w.heap.size, bx6 a0 a1 a2 a3 a4 a5), (w.heap.size + 1, bx6 b0 b1 b2 b3 b4 b5)] w W0 := by
    rw [← hW]
    exact two_b w _ _ (by (repeat (first | exact Below.refl _ _ | assumption | refine Below.setCell ?_ (by first | (simp; done) | (simp; omega)) _ | refine Below.alloc ?_ (by first | (simp; done) | (simp; omega)) _ | refine Below.drew ?_))) (alloc_past (alloc_at rfl)) (alloc_at (by simp)) (by simp)
  clear hW
  have a_c := fun j => cell_of_row W0 _ j _ _ _ (K0.row (g := w.heap.size) (o := bx6 a0 a1 a2 a3 a4 a5) (by simp))
  have b_c := fun j => cell_of_row W0 _ j _ _ _ (K0.row (g := w.heap.size + 1) (o := bx6 b0 b1 b2 b3 b4 b5) (by simp))
  go_wp2_with fail
  refine (HG.out _).mono ?_
  rintro e W1 ⟨rfl, hb⟩
  have K1 := K0.far hb rfl
  clear hb K0 a_c b_c
  go_wp2_with fail
  go_ret2
  exact ⟨rfl, K1.2.2⟩
set_option maxHeartbeats 1000000 in
theorem slast_yes (f p : Fn6) (r : Bool) (HG : Hid (∀ w, Calls Try.prog 146 #[.agg #[.int .i64 (rowv (f 0)), .int .i64 (rowv (f 1)), .int .i64 (rowv (f 2)), .int .i64 (rowv (f 3)), .int .i64 (rowv (f 4)), .int .i64 (rowv (f 5))], .agg #[.int .i64 (rowv (p 0)), .int .i64 (rowv (p 1)), .int .i64 (rowv (p 2)), .int .i64 (rowv (p 3)), .int .i64 (rowv (p 4)), .int .i64 (rowv (p 5))]] w fun e w' => e = .returned (.bool true) ∧ Below w.heap.size w w')) (HF : Hid (∀ w, Calls Try.prog 147 #[.agg #[.int .i64 (rowv (f 0)), .int .i64 (rowv (f 1)), .int .i64 (rowv (f 2)), .int .i64 (rowv (f 3)), .int .i64 (rowv (f 4)), .int .i64 (rowv (f 5))], .agg #[.int .i64 (rowv (p 0)), .int .i64 (rowv (p 1)), .int .i64 (rowv (p 2)), .int .i64 (rowv (p 3)), .int .i64 (rowv (p 4)), .int .i64 (rowv (p 5))], .bool false] w fun e w' => e = .returned (.bool r) ∧ Below w.heap.size w w')) (w : World) : Calls Try.prog 33 #[.agg #[.int .i64 (rowv (f 0)), .int .i64 (rowv (f 1)), .int .i64 (rowv (f 2)), .int .i64 (rowv (f 3)), .int .i64 (rowv (f 4)), .int .i64 (rowv (f 5))], .agg #[.int .i64 (rowv (p 0)), .int .i64 (rowv (p 1)), .int .i64 (rowv (p 2)), .int .i64 (rowv (p 3)), .int .i64 (rowv (p 4)), .int .i64 (rowv (p 5))]] w fun e w' => e = .returned (.tuple #[.bool r, .bool true]) ∧ Below w.heap.size w w' := by
  go_enter Try.func33, Try.ntmps33
  go_wp2_with fail
  generalize hW : (World.alloc _ _ : World) = W0
  have K0 : KR 2 [(w.heap.size, o6 f), (w.heap.size + 1, o6 p)] w W0 := by
    rw [← hW]
    exact two_b w _ _ (by (repeat (first | exact Below.refl _ _ | assumption | refine Below.setCell ?_ (by first | (simp; done) | (simp; omega)) _ | refine Below.alloc ?_ (by first | (simp; done) | (simp; omega)) _ | refine Below.drew ?_))) (alloc_past (alloc_at rfl)) (alloc_at (by simp)) (by simp)
  clear hW
  have a_c := fun j => cell_of_row W0 _ j _ _ _ (K0.row (g := w.heap.size) (o := o6 f) (by simp))
  have b_c := fun j => cell_of_row W0 _ j _ _ _ (K0.row (g := w.heap.size + 1) (o := o6 p) (by simp))
  go_wp2_with fail
  refine (HG.out _).mono ?_
  rintro e W1 ⟨rfl, hb⟩
  have K1 := K0.far hb rfl
  clear hb K0 a_c b_c
  have a_c := fun j => cell_of_row W1 _ j _ _ _ (K1.row (g := w.heap.size) (o := o6 f) (by simp))
  have b_c := fun j => cell_of_row W1 _ j _ _ _ (K1.row (g := w.heap.size + 1) (o := o6 p) (by simp))
  go_wp2_with fail
  refine (HF.out _).mono ?_
  rintro e W2 ⟨rfl, hb⟩
  have K2 := K1.far hb rfl
  clear hb K1 a_c b_c
  go_wp2_with fail
  go_ret2
  exact ⟨rfl, K2.2.2⟩
set_option maxHeartbeats 1000000 in
theorem smiss_no (a0 a1 a2 a3 a4 a5 : Int) (b0 b1 b2 b3 b4 b5 : Int) (HG : Hid (∀ w, Calls Try.prog 146 #[.agg #[.int .i64 a0, .int .i64 a1, .int .i64 a2, .int .i64 a3, .int .i64 a4, .int .i64 a5], .agg #[.int .i64 b0, .int .i64 b1, .int .i64 b2, .int .i64 b3, .int .i64 b4, .int .i64 b5]] w fun e w' => e = .returned (.bool false) ∧ Below w.heap.size w w')) (w : World) : Calls Try.prog 35 #[.agg #[.int .i64 a0, .int .i64 a1, .int .i64 a2, .int .i64 a3, .int .i64 a4, .int .i64 a5], .agg #[.int .i64 b0, .int .i64 b1, .int .i64 b2, .int .i64 b3, .int .i64 b4, .int .i64 b5]] w fun e w' => e = .returned (.tuple #[.bool false, .bool false]) ∧ Below w.heap.size w w' := by
  go_enter Try.func35, Try.ntmps35
  go_wp2_with fail
  generalize hW : (World.alloc _ _ : World) = W0
  have K0 : KR 2 [(w.heap.size, bx6 a0 a1 a2 a3 a4 a5), (w.heap.size + 1, bx6 b0 b1 b2 b3 b4 b5)] w W0 := by
    rw [← hW]
    exact two_b w _ _ (by (repeat (first | exact Below.refl _ _ | assumption | refine Below.setCell ?_ (by first | (simp; done) | (simp; omega)) _ | refine Below.alloc ?_ (by first | (simp; done) | (simp; omega)) _ | refine Below.drew ?_))) (alloc_past (alloc_at rfl)) (alloc_at (by simp)) (by simp)
  clear hW
  have a_c := fun j => cell_of_row W0 _ j _ _ _ (K0.row (g := w.heap.size) (o := bx6 a0 a1 a2 a3 a4 a5) (by simp))
  have b_c := fun j => cell_of_row W0 _ j _ _ _ (K0.row (g := w.heap.size + 1) (o := bx6 b0 b1 b2 b3 b4 b5) (by simp))
  go_wp2_with fail
  refine (HG.out _).mono ?_
  rintro e W1 ⟨rfl, hb⟩
  have K1 := K0.far hb rfl
  clear hb K0 a_c b_c
  go_wp2_with fail
  go_ret2
  exact ⟨rfl, K1.2.2⟩
set_option maxHeartbeats 1000000 in
theorem smiss_yes (f p : Fn6) (r : Bool) (HG : Hid (∀ w, Calls Try.prog 146 #[.agg #[.int .i64 (rowv (f 0)), .int .i64 (rowv (f 1)), .int .i64 (rowv (f 2)), .int .i64 (rowv (f 3)), .int .i64 (rowv (f 4)), .int .i64 (rowv (f 5))], .agg #[.int .i64 (rowv (p 0)), .int .i64 (rowv (p 1)), .int .i64 (rowv (p 2)), .int .i64 (rowv (p 3)), .int .i64 (rowv (p 4)), .int .i64 (rowv (p 5))]] w fun e w' => e = .returned (.bool true) ∧ Below w.heap.size w w')) (HF : Hid (∀ w, Calls Try.prog 147 #[.agg #[.int .i64 (rowv (f 0)), .int .i64 (rowv (f 1)), .int .i64 (rowv (f 2)), .int .i64 (rowv (f 3)), .int .i64 (rowv (f 4)), .int .i64 (rowv (f 5))], .agg #[.int .i64 (rowv (p 0)), .int .i64 (rowv (p 1)), .int .i64 (rowv (p 2)), .int .i64 (rowv (p 3)), .int .i64 (rowv (p 4)), .int .i64 (rowv (p 5))], .bool true] w fun e w' => e = .returned (.bool r) ∧ Below w.heap.size w w')) (w : World) : Calls Try.prog 35 #[.agg #[.int .i64 (rowv (f 0)), .int .i64 (rowv (f 1)), .int .i64 (rowv (f 2)), .int .i64 (rowv (f 3)), .int .i64 (rowv (f 4)), .int .i64 (rowv (f 5))], .agg #[.int .i64 (rowv (p 0)), .int .i64 (rowv (p 1)), .int .i64 (rowv (p 2)), .int .i64 (rowv (p 3)), .int .i64 (rowv (p 4)), .int .i64 (rowv (p 5))]] w fun e w' => e = .returned (.tuple #[.bool r, .bool true]) ∧ Below w.heap.size w w' := by
  go_enter Try.func35, Try.ntmps35
  go_wp2_with fail
  generalize hW : (World.alloc _ _ : World) = W0
  have K0 : KR 2 [(w.heap.size, o6 f), (w.heap.size + 1, o6 p)] w W0 := by
    rw [← hW]
    exact two_b w _ _ (by (repeat (first | exact Below.refl _ _ | assumption | refine Below.setCell ?_ (by first | (simp; done) | (simp; omega)) _ | refine Below.alloc ?_ (by first | (simp; done) | (simp; omega)) _ | refine Below.drew ?_))) (alloc_past (alloc_at rfl)) (alloc_at (by simp)) (by simp)
  clear hW
  have a_c := fun j => cell_of_row W0 _ j _ _ _ (K0.row (g := w.heap.size) (o := o6 f) (by simp))
  have b_c := fun j => cell_of_row W0 _ j _ _ _ (K0.row (g := w.heap.size + 1) (o := o6 p) (by simp))
  go_wp2_with fail
  refine (HG.out _).mono ?_
  rintro e W1 ⟨rfl, hb⟩
  have K1 := K0.far hb rfl
  clear hb K0 a_c b_c
  have a_c := fun j => cell_of_row W1 _ j _ _ _ (K1.row (g := w.heap.size) (o := o6 f) (by simp))
  have b_c := fun j => cell_of_row W1 _ j _ _ _ (K1.row (g := w.heap.size + 1) (o := o6 p) (by simp))
  go_wp2_with fail
  refine (HF.out _).mono ?_
  rintro e W2 ⟨rfl, hb⟩
  have K2 := K1.far hb rfl
  clear hb K1 a_c b_c
  go_wp2_with fail
  go_ret2
  exact ⟨rfl, K2.2.2⟩
set_option maxHeartbeats 1000000 in
theorem inum_f (a0 a1 a2 a3 a4 a5 : Int) (b0 b1 b2 b3 b4 b5 : Int) (z : Int) (t : Bool) (HF : Hid (∀ w, Calls Try.prog 148 #[.func (.func 151) #[] #[], .agg #[.int .i64 a0, .int .i64 a1, .int .i64 a2, .int .i64 a3, .int .i64 a4, .int .i64 a5], .agg #[.int .i64 b0, .int .i64 b1, .int .i64 b2, .int .i64 b3, .int .i64 b4, .int .i64 b5]] w fun e w' => e = .returned (.tuple #[.int .i64 z, .bool t]) ∧ Below w.heap.size w w')) (w : World) : Calls Try.prog 38 #[.agg #[.int .i64 a0, .int .i64 a1, .int .i64 a2, .int .i64 a3, .int .i64 a4, .int .i64 a5], .agg #[.int .i64 b0, .int .i64 b1, .int .i64 b2, .int .i64 b3, .int .i64 b4, .int .i64 b5]] w fun e w' => e = .returned (.tuple #[.int .i64 z, .bool t]) ∧ Below w.heap.size w w' := by
  go_enter Try.func38, Try.ntmps38
  go_wp2_with fail
  generalize hW : (World.alloc _ _ : World) = W0
  have K0 : KR 2 [(w.heap.size, bx6 a0 a1 a2 a3 a4 a5), (w.heap.size + 1, bx6 b0 b1 b2 b3 b4 b5)] w W0 := by
    rw [← hW]
    exact two_b w _ _ (by (repeat (first | exact Below.refl _ _ | assumption | refine Below.setCell ?_ (by first | (simp; done) | (simp; omega)) _ | refine Below.alloc ?_ (by first | (simp; done) | (simp; omega)) _ | refine Below.drew ?_))) (alloc_past (alloc_at rfl)) (alloc_at (by simp)) (by simp)
  clear hW
  have a_c := fun j => cell_of_row W0 _ j _ _ _ (K0.row (g := w.heap.size) (o := bx6 a0 a1 a2 a3 a4 a5) (by simp))
  have b_c := fun j => cell_of_row W0 _ j _ _ _ (K0.row (g := w.heap.size + 1) (o := bx6 b0 b1 b2 b3 b4 b5) (by simp))
  go_wp2_with fail
  refine (HF.out _).mono ?_
  rintro e W1 ⟨rfl, hb⟩
  have K1 := K0.far hb rfl
  clear hb K0 a_c b_c
  go_wp2_with fail
  go_ret2
  exact ⟨by first | rfl | (by_cases hz : z = 0 <;> simp [hz]), K1.2.2⟩
set_option maxHeartbeats 1000000 in
theorem imiss_f (a0 a1 a2 a3 a4 a5 : Int) (b0 b1 b2 b3 b4 b5 : Int) (z : Int) (t : Bool) (HF : Hid (∀ w, Calls Try.prog 148 #[.func (.func 149) #[] #[], .agg #[.int .i64 a0, .int .i64 a1, .int .i64 a2, .int .i64 a3, .int .i64 a4, .int .i64 a5], .agg #[.int .i64 b0, .int .i64 b1, .int .i64 b2, .int .i64 b3, .int .i64 b4, .int .i64 b5]] w fun e w' => e = .returned (.tuple #[.int .i64 z, .bool t]) ∧ Below w.heap.size w w')) (w : World) : Calls Try.prog 36 #[.agg #[.int .i64 a0, .int .i64 a1, .int .i64 a2, .int .i64 a3, .int .i64 a4, .int .i64 a5], .agg #[.int .i64 b0, .int .i64 b1, .int .i64 b2, .int .i64 b3, .int .i64 b4, .int .i64 b5]] w fun e w' => e = .returned (.tuple #[.bool (decide (z = 1)), .bool t]) ∧ Below w.heap.size w w' := by
  go_enter Try.func36, Try.ntmps36
  go_wp2_with fail
  generalize hW : (World.alloc _ _ : World) = W0
  have K0 : KR 2 [(w.heap.size, bx6 a0 a1 a2 a3 a4 a5), (w.heap.size + 1, bx6 b0 b1 b2 b3 b4 b5)] w W0 := by
    rw [← hW]
    exact two_b w _ _ (by (repeat (first | exact Below.refl _ _ | assumption | refine Below.setCell ?_ (by first | (simp; done) | (simp; omega)) _ | refine Below.alloc ?_ (by first | (simp; done) | (simp; omega)) _ | refine Below.drew ?_))) (alloc_past (alloc_at rfl)) (alloc_at (by simp)) (by simp)
  clear hW
  have a_c := fun j => cell_of_row W0 _ j _ _ _ (K0.row (g := w.heap.size) (o := bx6 a0 a1 a2 a3 a4 a5) (by simp))
  have b_c := fun j => cell_of_row W0 _ j _ _ _ (K0.row (g := w.heap.size + 1) (o := bx6 b0 b1 b2 b3 b4 b5) (by simp))
  go_wp2_with fail
  refine (HF.out _).mono ?_
  rintro e W1 ⟨rfl, hb⟩
  have K1 := K0.far hb rfl
  clear hb K0 a_c b_c
  go_wp2_with fail
  go_ret2
  exact ⟨by first | rfl | (by_cases hz : z = 0 <;> simp [hz]), K1.2.2⟩
set_option maxHeartbeats 1000000 in
theorem ilongg_f (a0 a1 a2 a3 a4 a5 : Int) (b0 b1 b2 b3 b4 b5 : Int) (z : Int) (t : Bool) (HF : Hid (∀ w, Calls Try.prog 148 #[.func (.func 159) #[] #[], .agg #[.int .i64 a0, .int .i64 a1, .int .i64 a2, .int .i64 a3, .int .i64 a4, .int .i64 a5], .agg #[.int .i64 b0, .int .i64 b1, .int .i64 b2, .int .i64 b3, .int .i64 b4, .int .i64 b5]] w fun e w' => e = .returned (.tuple #[.int .i64 z, .bool t]) ∧ Below w.heap.size w w')) (w : World) : Calls Try.prog 42 #[.agg #[.int .i64 a0, .int .i64 a1, .int .i64 a2, .int .i64 a3, .int .i64 a4, .int .i64 a5], .agg #[.int .i64 b0, .int .i64 b1, .int .i64 b2, .int .i64 b3, .int .i64 b4, .int .i64 b5]] w fun e w' => e = .returned (.tuple #[.int .i64 z, .bool t]) ∧ Below w.heap.size w w' := by
  go_enter Try.func42, Try.ntmps42
  go_wp2_with fail
  generalize hW : (World.alloc _ _ : World) = W0
  have K0 : KR 2 [(w.heap.size, bx6 a0 a1 a2 a3 a4 a5), (w.heap.size + 1, bx6 b0 b1 b2 b3 b4 b5)] w W0 := by
    rw [← hW]
    exact two_b w _ _ (by (repeat (first | exact Below.refl _ _ | assumption | refine Below.setCell ?_ (by first | (simp; done) | (simp; omega)) _ | refine Below.alloc ?_ (by first | (simp; done) | (simp; omega)) _ | refine Below.drew ?_))) (alloc_past (alloc_at rfl)) (alloc_at (by simp)) (by simp)
  clear hW
  have a_c := fun j => cell_of_row W0 _ j _ _ _ (K0.row (g := w.heap.size) (o := bx6 a0 a1 a2 a3 a4 a5) (by simp))
  have b_c := fun j => cell_of_row W0 _ j _ _ _ (K0.row (g := w.heap.size + 1) (o := bx6 b0 b1 b2 b3 b4 b5) (by simp))
  go_wp2_with fail
  refine (HF.out _).mono ?_
  rintro e W1 ⟨rfl, hb⟩
  have K1 := K0.far hb rfl
  clear hb K0 a_c b_c
  go_wp2_with fail
  go_ret2
  exact ⟨by first | rfl | (by_cases hz : z = 0 <;> simp [hz]), K1.2.2⟩
set_option maxHeartbeats 1000000 in
theorem ishortg_f (a0 a1 a2 a3 a4 a5 : Int) (b0 b1 b2 b3 b4 b5 : Int) (z : Int) (t : Bool) (HF : Hid (∀ w, Calls Try.prog 148 #[.func (.func 160) #[] #[], .agg #[.int .i64 a0, .int .i64 a1, .int .i64 a2, .int .i64 a3, .int .i64 a4, .int .i64 a5], .agg #[.int .i64 b0, .int .i64 b1, .int .i64 b2, .int .i64 b3, .int .i64 b4, .int .i64 b5]] w fun e w' => e = .returned (.tuple #[.int .i64 z, .bool t]) ∧ Below w.heap.size w w')) (w : World) : Calls Try.prog 44 #[.agg #[.int .i64 a0, .int .i64 a1, .int .i64 a2, .int .i64 a3, .int .i64 a4, .int .i64 a5], .agg #[.int .i64 b0, .int .i64 b1, .int .i64 b2, .int .i64 b3, .int .i64 b4, .int .i64 b5]] w fun e w' => e = .returned (.tuple #[.int .i64 z, .bool t]) ∧ Below w.heap.size w w' := by
  go_enter Try.func44, Try.ntmps44
  go_wp2_with fail
  generalize hW : (World.alloc _ _ : World) = W0
  have K0 : KR 2 [(w.heap.size, bx6 a0 a1 a2 a3 a4 a5), (w.heap.size + 1, bx6 b0 b1 b2 b3 b4 b5)] w W0 := by
    rw [← hW]
    exact two_b w _ _ (by (repeat (first | exact Below.refl _ _ | assumption | refine Below.setCell ?_ (by first | (simp; done) | (simp; omega)) _ | refine Below.alloc ?_ (by first | (simp; done) | (simp; omega)) _ | refine Below.drew ?_))) (alloc_past (alloc_at rfl)) (alloc_at (by simp)) (by simp)
  clear hW
  have a_c := fun j => cell_of_row W0 _ j _ _ _ (K0.row (g := w.heap.size) (o := bx6 a0 a1 a2 a3 a4 a5) (by simp))
  have b_c := fun j => cell_of_row W0 _ j _ _ _ (K0.row (g := w.heap.size + 1) (o := bx6 b0 b1 b2 b3 b4 b5) (by simp))
  go_wp2_with fail
  refine (HF.out _).mono ?_
  rintro e W1 ⟨rfl, hb⟩
  have K1 := K0.far hb rfl
  clear hb K0 a_c b_c
  go_wp2_with fail
  go_ret2
  exact ⟨by first | rfl | (by_cases hz : z = 0 <;> simp [hz]), K1.2.2⟩
set_option maxHeartbeats 1000000 in
theorem ilast_f (a0 a1 a2 a3 a4 a5 : Int) (b0 b1 b2 b3 b4 b5 : Int) (z : Int) (t : Bool) (HF : Hid (∀ w, Calls Try.prog 38 #[.agg #[.int .i64 a0, .int .i64 a1, .int .i64 a2, .int .i64 a3, .int .i64 a4, .int .i64 a5], .agg #[.int .i64 b0, .int .i64 b1, .int .i64 b2, .int .i64 b3, .int .i64 b4, .int .i64 b5]] w fun e w' => e = .returned (.tuple #[.int .i64 z, .bool t]) ∧ Below w.heap.size w w')) (w : World) : Calls Try.prog 34 #[.agg #[.int .i64 a0, .int .i64 a1, .int .i64 a2, .int .i64 a3, .int .i64 a4, .int .i64 a5], .agg #[.int .i64 b0, .int .i64 b1, .int .i64 b2, .int .i64 b3, .int .i64 b4, .int .i64 b5]] w fun e w' => e = .returned (.tuple #[.bool (decide (z ≠ 0)), .bool t]) ∧ Below w.heap.size w w' := by
  go_enter Try.func34, Try.ntmps34
  go_wp2_with fail
  generalize hW : (World.alloc _ _ : World) = W0
  have K0 : KR 2 [(w.heap.size, bx6 a0 a1 a2 a3 a4 a5), (w.heap.size + 1, bx6 b0 b1 b2 b3 b4 b5)] w W0 := by
    rw [← hW]
    exact two_b w _ _ (by (repeat (first | exact Below.refl _ _ | assumption | refine Below.setCell ?_ (by first | (simp; done) | (simp; omega)) _ | refine Below.alloc ?_ (by first | (simp; done) | (simp; omega)) _ | refine Below.drew ?_))) (alloc_past (alloc_at rfl)) (alloc_at (by simp)) (by simp)
  clear hW
  have a_c := fun j => cell_of_row W0 _ j _ _ _ (K0.row (g := w.heap.size) (o := bx6 a0 a1 a2 a3 a4 a5) (by simp))
  have b_c := fun j => cell_of_row W0 _ j _ _ _ (K0.row (g := w.heap.size + 1) (o := bx6 b0 b1 b2 b3 b4 b5) (by simp))
  go_wp2_with fail
  refine (HF.out _).mono ?_
  rintro e W1 ⟨rfl, hb⟩
  have K1 := K0.far hb rfl
  clear hb K0 a_c b_c
  go_wp2_with fail
  go_ret2
  exact ⟨by first | rfl | (by_cases hz : z = 0 <;> simp [hz]), K1.2.2⟩
theorem nz_eqf (p : Fn6) (h : nz6 (rowv (p 0)) (rowv (p 1)) (rowv (p 2)) (rowv (p 3)) (rowv (p 4)) (rowv (p 5)) = true) : eqf p zf = false := by
  have hz : ∀ j, rowv (zf j) = 0 := fun j => rfl
  unfold nz6 at h
  unfold eqf
  rw [hz 0, hz 1, hz 2, hz 3, hz 4, hz 5]
  rw [Bool.eq_false_iff]
  intro hh
  simp at h hh
  omega
theorem tell_last : Tell10 151 Tlast := ⟨fun v w => enters_of Try.func151 (by kernel_rfl) rfl #[v] w, fun l hl _ B v w hO => least_f l hl B v w hO⟩
theorem tell_miss : Tell10 149 Tmiss := ⟨fun v w => enters_of Try.func149 (by kernel_rfl) rfl #[v] w, fun l hl _ B v w hO => missed_f l hl B v w hO⟩
theorem tell_long : Tell10 159 Tlong := ⟨fun v w => enters_of Try.func159 (by kernel_rfl) rfl #[v] w, fun l hl hb B v w hO => longest_f l hl hb B v w hO⟩
theorem tell_short : Tell10 160 Tshort := ⟨fun v w => enters_of Try.func160 (by kernel_rfl) rfl #[v] w, fun l hl hb B v w hO => shortest_f l hl hb B v w hO⟩
/-- A game is not asked for, on both sides; or it is, with a stamp that is not empty. -/
theorem game_ways (a0 a1 a2 a3 a4 a5 : Int) (b0 b1 b2 b3 b4 b5 : Int) : ((∀ w, Calls Try.prog 146 #[.agg #[.int .i64 a0, .int .i64 a1, .int .i64 a2, .int .i64 a3, .int .i64 a4, .int .i64 a5], .agg #[.int .i64 b0, .int .i64 b1, .int .i64 b2, .int .i64 b3, .int .i64 b4, .int .i64 b5]] w fun e w' => e = .returned (.bool false) ∧ Below w.heap.size w w') ∧ (∀ w, Calls Try.prog 154 #[.agg #[.int .i64 a0, .int .i64 a1, .int .i64 a2, .int .i64 a3, .int .i64 a4, .int .i64 a5], .agg #[.int .i64 b0, .int .i64 b1, .int .i64 b2, .int .i64 b3, .int .i64 b4, .int .i64 b5]] w fun e w' => e = .returned (.bool false) ∧ Below w.heap.size w w')) ∨ (∃ f p : Fn6, a0 = rowv (f 0) ∧ a1 = rowv (f 1) ∧ a2 = rowv (f 2) ∧ a3 = rowv (f 3) ∧ a4 = rowv (f 4) ∧ a5 = rowv (f 5) ∧ b0 = rowv (p 0) ∧ b1 = rowv (p 1) ∧ b2 = rowv (p 2) ∧ b3 = rowv (p 3) ∧ b4 = rowv (p 4) ∧ b5 = rowv (p 5) ∧ eqf p zf = false ∧ (∀ w, Calls Try.prog 141 #[.agg #[.int .i64 (rowv (p 0)), .int .i64 (rowv (p 1)), .int .i64 (rowv (p 2)), .int .i64 (rowv (p 3)), .int .i64 (rowv (p 4)), .int .i64 (rowv (p 5))]] w fun e w' => e = .returned (.bool true) ∧ Below w.heap.size w w') ∧ (∀ w, Calls Try.prog 146 #[.agg #[.int .i64 (rowv (f 0)), .int .i64 (rowv (f 1)), .int .i64 (rowv (f 2)), .int .i64 (rowv (f 3)), .int .i64 (rowv (f 4)), .int .i64 (rowv (f 5))], .agg #[.int .i64 (rowv (p 0)), .int .i64 (rowv (p 1)), .int .i64 (rowv (p 2)), .int .i64 (rowv (p 3)), .int .i64 (rowv (p 4)), .int .i64 (rowv (p 5))]] w fun e w' => e = .returned (.bool true) ∧ Below w.heap.size w w') ∧ (∀ w, Calls Try.prog 154 #[.agg #[.int .i64 (rowv (f 0)), .int .i64 (rowv (f 1)), .int .i64 (rowv (f 2)), .int .i64 (rowv (f 3)), .int .i64 (rowv (f 4)), .int .i64 (rowv (f 5))], .agg #[.int .i64 (rowv (p 0)), .int .i64 (rowv (p 1)), .int .i64 (rowv (p 2)), .int .i64 (rowv (p 3)), .int .i64 (rowv (p 4)), .int .i64 (rowv (p 5))]] w fun e w' => e = .returned (.bool true) ∧ Below w.heap.size w w')) := by
  have HG := lgood_any a0 a1 a2 a3 a4 a5 b0 b1 b2 b3 b4 b5
  have HS := istamp_any b0 b1 b2 b3 b4 b5
  rcases good_ways a0 a1 a2 a3 a4 a5 b0 b1 b2 b3 b4 b5 with ⟨h, hv⟩ | ⟨h, hv, hs⟩ | ⟨h, hv, hc, hn⟩
  · rw [h] at HG
    exact .inl ⟨ssmall_no a0 a1 a2 a3 a4 a5 b0 b1 b2 b3 b4 b5 (Lib.hid HG), isgame_f a0 a1 a2 a3 a4 a5 b0 b1 b2 b3 b4 b5 [] (by simp) false (Lib.hid (inext_no0 a0 a1 a2 a3 a4 a5 b0 b1 b2 b3 b4 b5 (sh_ai a0 a1 a2 a3 a4 a5 hv)))⟩
  · rw [h] at HG
    rw [hs] at HS
    exact .inl ⟨ssmall_no a0 a1 a2 a3 a4 a5 b0 b1 b2 b3 b4 b5 (Lib.hid HG), isgame_f a0 a1 a2 a3 a4 a5 b0 b1 b2 b3 b4 b5 [] (by simp) false (Lib.hid (inext_no1 a0 a1 a2 a3 a4 a5 b0 b1 b2 b3 b4 b5 (sh_ai a0 a1 a2 a3 a4 a5 hv) (Lib.hid HS)))⟩
  · rw [h] at HG
    rw [hc, hn] at HS
    have HV := sh_ai a0 a1 a2 a3 a4 a5 hv
    obtain ⟨f, rfl, rfl, rfl, rfl, rfl, rfl⟩ := sheet_bits a0 a1 a2 a3 a4 a5 hv
    obtain ⟨p, rfl, rfl, rfl, rfl, rfl, rfl⟩ := sheet_bits b0 b1 b2 b3 b4 b5 hc
    have HA := ssmall_yes f p (Lib.hid HG)
    have HB := isgame_f (rowv (f 0)) (rowv (f 1)) (rowv (f 2)) (rowv (f 3)) (rowv (f 4)) (rowv (f 5)) (rowv (p 0)) (rowv (p 1)) (rowv (p 2)) (rowv (p 3)) (rowv (p 4)) (rowv (p 5)) (nxf f p) (nxf_len f p) true (Lib.hid (inext_yes f p HV (Lib.hid HS)))
    rw [Bool.true_and] at HB
    cases hd : decide (((nxf f p).length : Int) ≤ 7)
    · rw [hd] at HA HB
      exact .inl ⟨HA, HB⟩
    · rw [hd] at HA HB
      exact .inr ⟨f, p, rfl, rfl, rfl, rfl, rfl, rfl, rfl, rfl, rfl, rfl, rfl, rfl, nz_eqf p hn, HS, HA, HB⟩
theorem lastw_pair (a0 a1 a2 a3 a4 a5 : Int) (b0 b1 b2 b3 b4 b5 : Int) : ∃ (r : Bool) (t : Bool), (∀ w, Calls Try.prog 33 #[.agg #[.int .i64 a0, .int .i64 a1, .int .i64 a2, .int .i64 a3, .int .i64 a4, .int .i64 a5], .agg #[.int .i64 b0, .int .i64 b1, .int .i64 b2, .int .i64 b3, .int .i64 b4, .int .i64 b5]] w fun e w' => e = .returned (.tuple #[.bool r, .bool t]) ∧ Below w.heap.size w w') ∧ (∀ w, Calls Try.prog 34 #[.agg #[.int .i64 a0, .int .i64 a1, .int .i64 a2, .int .i64 a3, .int .i64 a4, .int .i64 a5], .agg #[.int .i64 b0, .int .i64 b1, .int .i64 b2, .int .i64 b3, .int .i64 b4, .int .i64 b5]] w fun e w' => e = .returned (.tuple #[.bool r, .bool t]) ∧ Below w.heap.size w w') := by
  rcases game_ways a0 a1 a2 a3 a4 a5 b0 b1 b2 b3 b4 b5 with ⟨HS, HI⟩ | ⟨f, p, rfl, rfl, rfl, rfl, rfl, rfl, rfl, rfl, rfl, rfl, rfl, rfl, hp, H1, HS, HI⟩
  · exact ⟨_, false, slast_no a0 a1 a2 a3 a4 a5 b0 b1 b2 b3 b4 b5 (Lib.hid HS), ilast_f a0 a1 a2 a3 a4 a5 b0 b1 b2 b3 b4 b5 0 false (Lib.hid (inum_f a0 a1 a2 a3 a4 a5 b0 b1 b2 b3 b4 b5 0 false (Lib.hid (told_no 151 a0 a1 a2 a3 a4 a5 b0 b1 b2 b3 b4 b5 (Lib.hid HI)))))⟩
  · have HT := told_yes 151 Tlast (Lib.hid tell_last) tb_last f p hp (Lib.hid H1) (Lib.hid HI)
    exact ⟨_, true, slast_yes f p _ (Lib.hid HS) (Lib.hid (wins_f false p hp _ f (Nat.lt_succ_self _))), ilast_f _ _ _ _ _ _ _ _ _ _ _ _ _ true (Lib.hid (inum_f _ _ _ _ _ _ _ _ _ _ _ _ _ true (Lib.hid HT)))⟩
theorem miss_01 {p : Fn6} (hp : eqf p zf = false) (f : Fn6) : decide (vt6 Tmiss p (t6 f) = 1) = decide (vt6 Tmiss p (t6 f) ≠ 0) := by
  rw [vt6_eq Tmiss p hp f]
  unfold Tmiss
  split <;> rfl
theorem missw_pair (a0 a1 a2 a3 a4 a5 : Int) (b0 b1 b2 b3 b4 b5 : Int) : ∃ (r : Bool) (t : Bool), (∀ w, Calls Try.prog 35 #[.agg #[.int .i64 a0, .int .i64 a1, .int .i64 a2, .int .i64 a3, .int .i64 a4, .int .i64 a5], .agg #[.int .i64 b0, .int .i64 b1, .int .i64 b2, .int .i64 b3, .int .i64 b4, .int .i64 b5]] w fun e w' => e = .returned (.tuple #[.bool r, .bool t]) ∧ Below w.heap.size w w') ∧ (∀ w, Calls Try.prog 36 #[.agg #[.int .i64 a0, .int .i64 a1, .int .i64 a2, .int .i64 a3, .int .i64 a4, .int .i64 a5], .agg #[.int .i64 b0, .int .i64 b1, .int .i64 b2, .int .i64 b3, .int .i64 b4, .int .i64 b5]] w fun e w' => e = .returned (.tuple #[.bool r, .bool t]) ∧ Below w.heap.size w w') := by
  rcases game_ways a0 a1 a2 a3 a4 a5 b0 b1 b2 b3 b4 b5 with ⟨HS, HI⟩ | ⟨f, p, rfl, rfl, rfl, rfl, rfl, rfl, rfl, rfl, rfl, rfl, rfl, rfl, hp, H1, HS, HI⟩
  · exact ⟨_, false, smiss_no a0 a1 a2 a3 a4 a5 b0 b1 b2 b3 b4 b5 (Lib.hid HS), imiss_f a0 a1 a2 a3 a4 a5 b0 b1 b2 b3 b4 b5 0 false (Lib.hid (told_no 149 a0 a1 a2 a3 a4 a5 b0 b1 b2 b3 b4 b5 (Lib.hid HI)))⟩
  · have HT := told_yes 149 Tmiss (Lib.hid tell_miss) tb_miss f p hp (Lib.hid H1) (Lib.hid HI)
    have HI2 := imiss_f _ _ _ _ _ _ _ _ _ _ _ _ _ true (Lib.hid HT)
    rw [miss_01 hp f] at HI2
    exact ⟨_, true, smiss_yes f p _ (Lib.hid HS) (Lib.hid (wins_f true p hp _ f (Nat.lt_succ_self _))), HI2⟩
/- Mv10 -/
def TL (c : Bool) : List Int → Int := if c then Tlong else Tshort
theorem tb_l (c : Bool) : Tb10 (TL c) := by cases c; exact tb_short; exact tb_long
def bst (c : Bool) (l : List Int) : Int := if l = [] then -1 else if c then mxl l + 1 else mnl l + 1
theorem bst_bd (c : Bool) {l : List Int} (hb : ∀ x ∈ l, 0 ≤ x ∧ x ≤ 1000) : -1 ≤ bst c l ∧ bst c l ≤ 1001 := by
  unfold bst
  split
  · omega
  · rename_i h
    have h1 := mxl_bd h hb
    have h2 := mnl_bd h hb
    split <;> omega
theorem bst_up (c : Bool) (l : List Int) (hb : ∀ x ∈ l, 0 ≤ x ∧ x ≤ 1000) (i : Nat) (hi : i < l.length) : bst c (l.take (i + 1)) = if bst c (l.take i) < 0 ∨ (c = true ∧ bst c (l.take i) < 1 + l[i]) ∨ (c = false ∧ 1 + l[i] < bst c (l.take i)) then 1 + l[i] else bst c (l.take i) := by
  have hne : l.take (i + 1) ≠ [] := fun h => by
    have := congrArg List.length h
    rw [List.length_take, List.length_nil] at this
    omega
  rcases Nat.eq_zero_or_pos i with h0 | h0
  · subst h0
    obtain ⟨x, t, rfl⟩ : ∃ x t, l = x :: t := by
      cases l with
      | nil => simp at hi
      | cons x t => exact ⟨x, t, rfl⟩
    have e1 : mxl [x] = x := rfl
    have e2 : mnl [x] = x := rfl
    have : bst c ([x]) = 1 + x := by
      unfold bst
      rw [if_neg (by simp), e1, e2]
      split <;> omega
    have h2 : bst c [] = -1 := rfl
    rw [show (x :: t).take (0 + 1) = [x] from rfl, this, if_pos (Or.inl (show bst c ((x :: t).take 0) < 0 by rw [List.take_zero, h2]; decide))]
    rfl
  · have hne0 : l.take i ≠ [] := fun h => by
      have := congrArg List.length h
      rw [List.length_take, List.length_nil] at this
      omega
    have h1 := mxl_bd hne0 (fun x hx => hb x (List.mem_of_mem_take hx))
    have h2 := mnl_bd hne0 (fun x hx => hb x (List.mem_of_mem_take hx))
    unfold bst
    rw [if_neg hne, if_neg hne0, mxl_take hi h0, mnl_take hi h0]
    generalize l[i] = x
    generalize mxl (l.take i) = m at h1 ⊢
    generalize mnl (l.take i) = n at h2 ⊢
    have em : max m x = if m ≤ x then x else m := Int.max_def m x
    have en : min n x = if n ≤ x then n else x := Int.min_def n x
    rw [em, en]
    clear em en
    cases c
    · simp only [Bool.false_eq_true, if_false, false_and, true_and, false_or]
      by_cases hq : n ≤ x
      · rw [if_pos hq]; split <;> omega
      · rw [if_neg hq]; split <;> omega
    · simp only [if_true, true_and, Bool.true_eq_false, false_and, or_false]
      by_cases hq : m ≤ x
      · rw [if_pos hq]; split <;> omega
      · rw [if_neg hq]; split <;> omega
theorem bst_end (c : Bool) (l : List Int) (hb : ∀ x ∈ l, 0 ≤ x ∧ x ≤ 1000) : (if 0 < bst c l then bst c l else 0) = TL c l := by
  have e : TL c l = if l = [] then 0 else if c then mxl l + 1 else mnl l + 1 := by
    cases c
    · show Tshort l = _
      unfold Tshort
      rfl
    · show Tlong l = _
      unfold Tlong
      rfl
  rw [e]
  unfold bst
  by_cases h : l = []
  · simp [h]
  · have h1 := mxl_bd h hb
    have h2 := mnl_bd h hb
    simp only [if_neg h]
    cases c
    · simp only [Bool.false_eq_true, if_false]
      split <;> omega
    · simp only [if_true]
      split <;> omega
theorem lmost10 (a b : Int) (w : World) : Calls Try.prog 262 #[.int .i64 a, .int .i64 b] w fun e w' => e = .returned (.int .i64 (if b < a then a else b)) ∧ w' = w := by
  by_cases h : b < a
  · have h2 : a > b := h
    rw [if_pos h]
    go_enter Try.func262, Try.ntmps262
    go_wp2_with fail
    go_ret
    exact ⟨rfl, rfl⟩
  · have h2 : ¬ (a > b) := h
    rw [if_neg h]
    go_enter Try.func262, Try.ntmps262
    go_wp2_with fail
    go_ret
    exact ⟨rfl, rfl⟩
set_option maxHeartbeats 4000000 in
theorem len_step (c : Bool) (V : T6 → Int) (f p : Fn6) (nx : List T6) (hl : nx.length ≤ 36) (hVb : Hid (∀ u ∈ nx, 0 ≤ V u ∧ V u ≤ 1000)) (HN : Hid (∀ w, Calls Try.prog 143 #[.agg #[.int .i64 (rowv (f 0)), .int .i64 (rowv (f 1)), .int .i64 (rowv (f 2)), .int .i64 (rowv (f 3)), .int .i64 (rowv (f 4)), .int .i64 (rowv (f 5))], .agg #[.int .i64 (rowv (p 0)), .int .i64 (rowv (p 1)), .int .i64 (rowv (p 2)), .int .i64 (rowv (p 3)), .int .i64 (rowv (p 4)), .int .i64 (rowv (p 5))]] w (LT nx w))) (HI : Hid (∀ u ∈ nx, ∀ w, Calls Try.prog 158 #[v6 u, .agg #[.int .i64 (rowv (p 0)), .int .i64 (rowv (p 1)), .int .i64 (rowv (p 2)), .int .i64 (rowv (p 3)), .int .i64 (rowv (p 4)), .int .i64 (rowv (p 5))], .bool c] w fun e w' => e = .returned (.int .i64 (V u)) ∧ Below w.heap.size w w')) (w : World) : Calls Try.prog 158 #[.agg #[.int .i64 (rowv (f 0)), .int .i64 (rowv (f 1)), .int .i64 (rowv (f 2)), .int .i64 (rowv (f 3)), .int .i64 (rowv (f 4)), .int .i64 (rowv (f 5))], .agg #[.int .i64 (rowv (p 0)), .int .i64 (rowv (p 1)), .int .i64 (rowv (p 2)), .int .i64 (rowv (p 3)), .int .i64 (rowv (p 4)), .int .i64 (rowv (p 5))], .bool c] w fun e w' => e = .returned (.int .i64 (TL c (nx.map V))) ∧ Below w.heap.size w w' := by
  have hmb : ∀ x ∈ nx.map V, 0 ≤ x ∧ x ≤ 1000 := fun x hx => by obtain ⟨u, hu, rfl⟩ := List.mem_map.mp hx; exact hVb.out u hu
  have HEnd := Lib.hid (bst_end c (nx.map V) hmb)
  have HUp := Lib.hid (bst_up c (nx.map V) hmb)
  have HBd := Lib.hid (fun i => bst_bd c (l := (nx.map V).take i) (fun x hx => hmb x (List.mem_of_mem_take hx)))
  have HMost := Lib.hid lmost10
  clear hmb
  go_enter Try.func158, Try.ntmps158
  go_wp2_with fail
  generalize hW : (World.alloc _ _ : World) = W0
  have K0 : KR 2 [(w.heap.size, o6 f), (w.heap.size + 1, o6 p)] w W0 := by
    rw [← hW]
    exact two_b w _ _ (by (repeat (first | exact Below.refl _ _ | assumption | refine Below.setCell ?_ (by first | (simp; done) | (simp; omega)) _ | refine Below.alloc ?_ (by first | (simp; done) | (simp; omega)) _ | refine Below.drew ?_))) (alloc_past (alloc_at rfl)) (alloc_at (by simp)) (by simp)
  clear hW
  have a_c := fun j => cell_of_row W0 _ j _ _ _ (K0.row (g := w.heap.size) (o := o6 f) (by simp))
  have b_c := fun j => cell_of_row W0 _ j _ _ _ (K0.row (g := w.heap.size + 1) (o := o6 p) (by simp))
  go_wp2_with fail
  refine (HN.out _).mono ?_
  rintro e W2 ⟨g, cap, rfl, ho, hb⟩
  have S0 : Hid (Rw10 w f p nx g cap W2) := Lib.hid ⟨K0.far hb rfl, own_mono ho K0.2.1⟩
  clear ho hb K0 a_c b_c HN
  go_wp2_with fail
  go_loopw [7, 9] (fun b n wr => ∃ i : Nat, i ≤ nx.length ∧ n = .int .i64 i ∧ b = .int .i64 (bst c ((nx.map V).take i)) ∧ Hid (Rw10 w f p nx g cap wr)) (fun _ n _ => nx.length - (intOf n).toNat)
  case atStart => exact ⟨0, by omega, rfl, rfl, S0⟩
  case round =>
    obtain ⟨i, hi, rfl, rfl, HS⟩ := hrel
    clear S0
    have hbd := HBd.out i
    by_cases hlt : i < nx.length
    · have hlt' : (i : Int) < nx.length := by omega
      have hi0 : (0 : Int) ≤ i := by omega
      have hi2 : i ≤ 36 := by omega
      have hup := HUp.out i (by rw [List.length_map]; exact hlt)
      rw [List.getElem_map] at hup
      have HIu := Lib.hid (HI.out nx[i] (List.getElem_mem hlt))
      obtain ⟨hv1, hv2⟩ := hVb.out nx[i] (List.getElem_mem hlt)
      have hS := HS.out
      obtain ⟨a0, a1, a2, a3, a4, a5, ht⟩ : ∃ a0 a1 a2 a3 a4 a5, nx[i] = (a0, a1, a2, a3, a4, a5) := ⟨_, _, _, _, _, _, rfl⟩
      have HT := Lib.hid ht
      rw [ht] at HIu hup hv1 hv2
      unfold v6 at HIu
      dsimp only at HIu
      generalize V (a0, a1, a2, a3, a4, a5) = v at HIu hup hv1 hv2
      generalize bst c ((nx.map V).take i) = z at hup hbd ⊢
      generalize hz2 : bst c ((nx.map V).take (i + 1)) = z2 at hup
      have HUp2 := Lib.hid hup
      have HZ2 := Lib.hid hz2
      obtain ⟨hb1, hb2⟩ := hbd
      clear HS ht HI hup hz2 HUp HBd HEnd hVb
      go_wp2_with fail
      set_option maxRecDepth 8000 in
      go_region_held3 (fun U => U.cell? ⟨g, i * 6, none⟩ = some (.int .i64 a0) ∧ U.cell? ⟨g, i * 6 + 1, none⟩ = some (.int .i64 a1) ∧ U.cell? ⟨g, i * 6 + 2, none⟩ = some (.int .i64 a2) ∧ U.cell? ⟨g, i * 6 + 3, none⟩ = some (.int .i64 a3) ∧ U.cell? ⟨g, i * 6 + 4, none⟩ = some (.int .i64 a4) ∧ U.cell? ⟨g, i * 6 + 5, none⟩ = some (.int .i64 a5) ∧ U.cell? ⟨w.heap.size + 1, 0, none⟩ = some (.int .i64 (rowv (p 0))) ∧ U.cell? ⟨w.heap.size + 1, 1, none⟩ = some (.int .i64 (rowv (p 1))) ∧ U.cell? ⟨w.heap.size + 1, 2, none⟩ = some (.int .i64 (rowv (p 2))) ∧ U.cell? ⟨w.heap.size + 1, 3, none⟩ = some (.int .i64 (rowv (p 3))) ∧ U.cell? ⟨w.heap.size + 1, 4, none⟩ = some (.int .i64 (rowv (p 4))) ∧ U.cell? ⟨w.heap.size + 1, 5, none⟩ = some (.int .i64 (rowv (p 5))) ∧ Rw10 w f p nx g cap U) (with_reducible refine SKw hlt HT.out ?_; (first | with_reducible assumption | (with_reducible refine Rw10.drew ?_; with_reducible assumption))) (first | (go_at_call 158; with_reducible refine (HIu.out _).mono ?_; rintro e w' ⟨rfl, hb'⟩; have hk : Rw10 w f p nx g cap w' := Rw10.below (by (first | with_reducible assumption | (with_reducible refine Rw10.drew ?_; with_reducible assumption))) hb' rfl))
      all_goals
        have HK := Lib.hid hk
        clear hk hS
        by_cases h1 : z < 0
        · have h1d : decide (z < 0) = true := decide_eq_true h1
          go_wp2_with fail
          go_roundw
          case rel => exact ⟨i + 1, by omega, by go_num, by rw [HZ2.out, HUp2.out, if_pos (.inl h1)]; rw [show IntKind.i64.wrap (1 + v) = 1 + v from by rw [IntKind.wrap_i64]; omega], HK⟩
          case measure => simp [intOf]; omega
        · have h1d : decide (z < 0) = false := decide_eq_false h1
          cases c
          · by_cases h2 : 1 + v < z
            · have h2d : decide (1 + v < z) = true := decide_eq_true h2
              go_wp2_with fail
              go_roundw
              case rel => exact ⟨i + 1, by omega, by go_num, by rw [HZ2.out, HUp2.out, if_pos (.inr (.inr ⟨rfl, h2⟩))]; rw [show IntKind.i64.wrap (1 + v) = 1 + v from by rw [IntKind.wrap_i64]; omega], HK⟩
              case measure => simp [intOf]; omega
            · have h2d : decide (1 + v < z) = false := decide_eq_false h2
              go_wp2_with fail
              go_roundw
              case rel => exact ⟨i + 1, by omega, by go_num, by rw [HZ2.out, HUp2.out, if_neg (by rintro (h | ⟨h, _⟩ | ⟨_, h⟩) <;> first | omega | simp at h)], HK⟩
              case measure => simp [intOf]; omega
          · by_cases h2 : 1 + v > z
            · have h2d : decide (1 + v > z) = true := decide_eq_true h2
              go_wp2_with fail
              go_roundw
              case rel => exact ⟨i + 1, by omega, by go_num, by rw [HZ2.out, HUp2.out, if_pos (.inr (.inl ⟨rfl, h2⟩))]; rw [show IntKind.i64.wrap (1 + v) = 1 + v from by rw [IntKind.wrap_i64]; omega], HK⟩
              case measure => simp [intOf]; omega
            · have h2d : decide (1 + v > z) = false := decide_eq_false h2
              go_wp2_with fail
              go_roundw
              case rel => exact ⟨i + 1, by omega, by go_num, by rw [HZ2.out, HUp2.out, if_neg (by rintro (h | ⟨_, h⟩ | ⟨h, _⟩) <;> first | omega | simp at h)], HK⟩
              case measure => simp [intOf]; omega
    · obtain rfl : i = nx.length := by omega
      have hB := HS.out.1.2.2
      have e : (nx.map V).take nx.length = nx.map V := by rw [List.take_of_length_le (by rw [List.length_map]; exact Nat.le_refl _)]
      rw [e] at hbd ⊢
      have hE := HEnd.out
      generalize bst c (nx.map V) = z at hbd hE ⊢
      have HM2 := Lib.hid (lmost10 z 0)
      generalize (if 0 < z then z else 0) = q at hE HM2
      have HE := Lib.hid hE
      clear HS HI e hE HEnd HUp HBd
      go_wp2_with fail
      refine (HM2.out _).mono ?_
      rintro e w5 ⟨rfl, rfl⟩
      go_wp2_with fail
      go_ret
      exact ⟨by rw [← HE.out]; rfl, hB⟩
theorem len_f (c : Bool) (p : Fn6) (hp : eqf p zf = false) : ∀ (n : Nat) (f : Fn6), wc6 f < n → ∀ (w : World), Calls Try.prog 158 #[.agg #[.int .i64 (rowv (f 0)), .int .i64 (rowv (f 1)), .int .i64 (rowv (f 2)), .int .i64 (rowv (f 3)), .int .i64 (rowv (f 4)), .int .i64 (rowv (f 5))], .agg #[.int .i64 (rowv (p 0)), .int .i64 (rowv (p 1)), .int .i64 (rowv (p 2)), .int .i64 (rowv (p 3)), .int .i64 (rowv (p 4)), .int .i64 (rowv (p 5))], .bool c] w fun e w' => e = .returned (.int .i64 (vt6 (TL c) p (t6 f))) ∧ Below w.heap.size w w'
  | 0, f, h => absurd h (by omega)
  | n + 1, f, h => fun w => by
    rw [vt6_eq (TL c) p hp f]
    exact len_step c (vt6 (TL c) p) f p (nxf f p) (nxf_len f p) (Lib.hid (vt_nx (tb_l c) hp f)) (Lib.hid (lnexts_f f p)) (Lib.hid (fun u hu w => by
      obtain ⟨x', y', hx', hy', hfr, rfl⟩ := nxf_mem hu
      have hl := wc6_lt hx' hy' hfr hp
      exact len_f c p hp n (jf f (sf x' y' p)) (by omega) w)) w
/- Pv10 -/
set_option maxHeartbeats 1000000 in
theorem slongg_no (a0 a1 a2 a3 a4 a5 : Int) (b0 b1 b2 b3 b4 b5 : Int) (HG : Hid (∀ w, Calls Try.prog 146 #[.agg #[.int .i64 a0, .int .i64 a1, .int .i64 a2, .int .i64 a3, .int .i64 a4, .int .i64 a5], .agg #[.int .i64 b0, .int .i64 b1, .int .i64 b2, .int .i64 b3, .int .i64 b4, .int .i64 b5]] w fun e w' => e = .returned (.bool false) ∧ Below w.heap.size w w')) (w : World) : Calls Try.prog 41 #[.agg #[.int .i64 a0, .int .i64 a1, .int .i64 a2, .int .i64 a3, .int .i64 a4, .int .i64 a5], .agg #[.int .i64 b0, .int .i64 b1, .int .i64 b2, .int .i64 b3, .int .i64 b4, .int .i64 b5]] w fun e w' => e = .returned (.tuple #[.int .i64 0, .bool false]) ∧ Below w.heap.size w w' := by
  go_enter Try.func41, Try.ntmps41
  go_wp2_with fail
  generalize hW : (World.alloc _ _ : World) = W0
  have K0 : KR 2 [(w.heap.size, bx6 a0 a1 a2 a3 a4 a5), (w.heap.size + 1, bx6 b0 b1 b2 b3 b4 b5)] w W0 := by
    rw [← hW]
    exact two_b w _ _ (by (repeat (first | exact Below.refl _ _ | assumption | refine Below.setCell ?_ (by first | (simp; done) | (simp; omega)) _ | refine Below.alloc ?_ (by first | (simp; done) | (simp; omega)) _ | refine Below.drew ?_))) (alloc_past (alloc_at rfl)) (alloc_at (by simp)) (by simp)
  clear hW
  have a_c := fun j => cell_of_row W0 _ j _ _ _ (K0.row (g := w.heap.size) (o := bx6 a0 a1 a2 a3 a4 a5) (by simp))
  have b_c := fun j => cell_of_row W0 _ j _ _ _ (K0.row (g := w.heap.size + 1) (o := bx6 b0 b1 b2 b3 b4 b5) (by simp))
  go_wp2_with fail
  refine (HG.out _).mono ?_
  rintro e W1 ⟨rfl, hb⟩
  have K1 := K0.far hb rfl
  clear hb K0 a_c b_c
  go_wp2_with fail
  go_ret2
  exact ⟨rfl, K1.2.2⟩
set_option maxHeartbeats 1000000 in
theorem slongg_yes (f p : Fn6) (r : Int) (HG : Hid (∀ w, Calls Try.prog 146 #[.agg #[.int .i64 (rowv (f 0)), .int .i64 (rowv (f 1)), .int .i64 (rowv (f 2)), .int .i64 (rowv (f 3)), .int .i64 (rowv (f 4)), .int .i64 (rowv (f 5))], .agg #[.int .i64 (rowv (p 0)), .int .i64 (rowv (p 1)), .int .i64 (rowv (p 2)), .int .i64 (rowv (p 3)), .int .i64 (rowv (p 4)), .int .i64 (rowv (p 5))]] w fun e w' => e = .returned (.bool true) ∧ Below w.heap.size w w')) (HF : Hid (∀ w, Calls Try.prog 158 #[.agg #[.int .i64 (rowv (f 0)), .int .i64 (rowv (f 1)), .int .i64 (rowv (f 2)), .int .i64 (rowv (f 3)), .int .i64 (rowv (f 4)), .int .i64 (rowv (f 5))], .agg #[.int .i64 (rowv (p 0)), .int .i64 (rowv (p 1)), .int .i64 (rowv (p 2)), .int .i64 (rowv (p 3)), .int .i64 (rowv (p 4)), .int .i64 (rowv (p 5))], .bool true] w fun e w' => e = .returned (.int .i64 r) ∧ Below w.heap.size w w')) (w : World) : Calls Try.prog 41 #[.agg #[.int .i64 (rowv (f 0)), .int .i64 (rowv (f 1)), .int .i64 (rowv (f 2)), .int .i64 (rowv (f 3)), .int .i64 (rowv (f 4)), .int .i64 (rowv (f 5))], .agg #[.int .i64 (rowv (p 0)), .int .i64 (rowv (p 1)), .int .i64 (rowv (p 2)), .int .i64 (rowv (p 3)), .int .i64 (rowv (p 4)), .int .i64 (rowv (p 5))]] w fun e w' => e = .returned (.tuple #[.int .i64 r, .bool true]) ∧ Below w.heap.size w w' := by
  go_enter Try.func41, Try.ntmps41
  go_wp2_with fail
  generalize hW : (World.alloc _ _ : World) = W0
  have K0 : KR 2 [(w.heap.size, o6 f), (w.heap.size + 1, o6 p)] w W0 := by
    rw [← hW]
    exact two_b w _ _ (by (repeat (first | exact Below.refl _ _ | assumption | refine Below.setCell ?_ (by first | (simp; done) | (simp; omega)) _ | refine Below.alloc ?_ (by first | (simp; done) | (simp; omega)) _ | refine Below.drew ?_))) (alloc_past (alloc_at rfl)) (alloc_at (by simp)) (by simp)
  clear hW
  have a_c := fun j => cell_of_row W0 _ j _ _ _ (K0.row (g := w.heap.size) (o := o6 f) (by simp))
  have b_c := fun j => cell_of_row W0 _ j _ _ _ (K0.row (g := w.heap.size + 1) (o := o6 p) (by simp))
  go_wp2_with fail
  refine (HG.out _).mono ?_
  rintro e W1 ⟨rfl, hb⟩
  have K1 := K0.far hb rfl
  clear hb K0 a_c b_c
  have a_c := fun j => cell_of_row W1 _ j _ _ _ (K1.row (g := w.heap.size) (o := o6 f) (by simp))
  have b_c := fun j => cell_of_row W1 _ j _ _ _ (K1.row (g := w.heap.size + 1) (o := o6 p) (by simp))
  go_wp2_with fail
  refine (HF.out _).mono ?_
  rintro e W2 ⟨rfl, hb⟩
  have K2 := K1.far hb rfl
  clear hb K1 a_c b_c
  go_wp2_with fail
  go_ret2
  exact ⟨rfl, K2.2.2⟩
set_option maxHeartbeats 1000000 in
theorem sshortg_no (a0 a1 a2 a3 a4 a5 : Int) (b0 b1 b2 b3 b4 b5 : Int) (HG : Hid (∀ w, Calls Try.prog 146 #[.agg #[.int .i64 a0, .int .i64 a1, .int .i64 a2, .int .i64 a3, .int .i64 a4, .int .i64 a5], .agg #[.int .i64 b0, .int .i64 b1, .int .i64 b2, .int .i64 b3, .int .i64 b4, .int .i64 b5]] w fun e w' => e = .returned (.bool false) ∧ Below w.heap.size w w')) (w : World) : Calls Try.prog 43 #[.agg #[.int .i64 a0, .int .i64 a1, .int .i64 a2, .int .i64 a3, .int .i64 a4, .int .i64 a5], .agg #[.int .i64 b0, .int .i64 b1, .int .i64 b2, .int .i64 b3, .int .i64 b4, .int .i64 b5]] w fun e w' => e = .returned (.tuple #[.int .i64 0, .bool false]) ∧ Below w.heap.size w w' := by
  go_enter Try.func43, Try.ntmps43
  go_wp2_with fail
  generalize hW : (World.alloc _ _ : World) = W0
  have K0 : KR 2 [(w.heap.size, bx6 a0 a1 a2 a3 a4 a5), (w.heap.size + 1, bx6 b0 b1 b2 b3 b4 b5)] w W0 := by
    rw [← hW]
    exact two_b w _ _ (by (repeat (first | exact Below.refl _ _ | assumption | refine Below.setCell ?_ (by first | (simp; done) | (simp; omega)) _ | refine Below.alloc ?_ (by first | (simp; done) | (simp; omega)) _ | refine Below.drew ?_))) (alloc_past (alloc_at rfl)) (alloc_at (by simp)) (by simp)
  clear hW
  have a_c := fun j => cell_of_row W0 _ j _ _ _ (K0.row (g := w.heap.size) (o := bx6 a0 a1 a2 a3 a4 a5) (by simp))
  have b_c := fun j => cell_of_row W0 _ j _ _ _ (K0.row (g := w.heap.size + 1) (o := bx6 b0 b1 b2 b3 b4 b5) (by simp))
  go_wp2_with fail
  refine (HG.out _).mono ?_
  rintro e W1 ⟨rfl, hb⟩
  have K1 := K0.far hb rfl
  clear hb K0 a_c b_c
  go_wp2_with fail
  go_ret2
  exact ⟨rfl, K1.2.2⟩
set_option maxHeartbeats 1000000 in
theorem sshortg_yes (f p : Fn6) (r : Int) (HG : Hid (∀ w, Calls Try.prog 146 #[.agg #[.int .i64 (rowv (f 0)), .int .i64 (rowv (f 1)), .int .i64 (rowv (f 2)), .int .i64 (rowv (f 3)), .int .i64 (rowv (f 4)), .int .i64 (rowv (f 5))], .agg #[.int .i64 (rowv (p 0)), .int .i64 (rowv (p 1)), .int .i64 (rowv (p 2)), .int .i64 (rowv (p 3)), .int .i64 (rowv (p 4)), .int .i64 (rowv (p 5))]] w fun e w' => e = .returned (.bool true) ∧ Below w.heap.size w w')) (HF : Hid (∀ w, Calls Try.prog 158 #[.agg #[.int .i64 (rowv (f 0)), .int .i64 (rowv (f 1)), .int .i64 (rowv (f 2)), .int .i64 (rowv (f 3)), .int .i64 (rowv (f 4)), .int .i64 (rowv (f 5))], .agg #[.int .i64 (rowv (p 0)), .int .i64 (rowv (p 1)), .int .i64 (rowv (p 2)), .int .i64 (rowv (p 3)), .int .i64 (rowv (p 4)), .int .i64 (rowv (p 5))], .bool false] w fun e w' => e = .returned (.int .i64 r) ∧ Below w.heap.size w w')) (w : World) : Calls Try.prog 43 #[.agg #[.int .i64 (rowv (f 0)), .int .i64 (rowv (f 1)), .int .i64 (rowv (f 2)), .int .i64 (rowv (f 3)), .int .i64 (rowv (f 4)), .int .i64 (rowv (f 5))], .agg #[.int .i64 (rowv (p 0)), .int .i64 (rowv (p 1)), .int .i64 (rowv (p 2)), .int .i64 (rowv (p 3)), .int .i64 (rowv (p 4)), .int .i64 (rowv (p 5))]] w fun e w' => e = .returned (.tuple #[.int .i64 r, .bool true]) ∧ Below w.heap.size w w' := by
  go_enter Try.func43, Try.ntmps43
  go_wp2_with fail
  generalize hW : (World.alloc _ _ : World) = W0
  have K0 : KR 2 [(w.heap.size, o6 f), (w.heap.size + 1, o6 p)] w W0 := by
    rw [← hW]
    exact two_b w _ _ (by (repeat (first | exact Below.refl _ _ | assumption | refine Below.setCell ?_ (by first | (simp; done) | (simp; omega)) _ | refine Below.alloc ?_ (by first | (simp; done) | (simp; omega)) _ | refine Below.drew ?_))) (alloc_past (alloc_at rfl)) (alloc_at (by simp)) (by simp)
  clear hW
  have a_c := fun j => cell_of_row W0 _ j _ _ _ (K0.row (g := w.heap.size) (o := o6 f) (by simp))
  have b_c := fun j => cell_of_row W0 _ j _ _ _ (K0.row (g := w.heap.size + 1) (o := o6 p) (by simp))
  go_wp2_with fail
  refine (HG.out _).mono ?_
  rintro e W1 ⟨rfl, hb⟩
  have K1 := K0.far hb rfl
  clear hb K0 a_c b_c
  have a_c := fun j => cell_of_row W1 _ j _ _ _ (K1.row (g := w.heap.size) (o := o6 f) (by simp))
  have b_c := fun j => cell_of_row W1 _ j _ _ _ (K1.row (g := w.heap.size + 1) (o := o6 p) (by simp))
  go_wp2_with fail
  refine (HF.out _).mono ?_
  rintro e W2 ⟨rfl, hb⟩
  have K2 := K1.far hb rfl
  clear hb K1 a_c b_c
  go_wp2_with fail
  go_ret2
  exact ⟨rfl, K2.2.2⟩
theorem longg_pair (a0 a1 a2 a3 a4 a5 : Int) (b0 b1 b2 b3 b4 b5 : Int) : ∃ (r : Int) (t : Bool), (∀ w, Calls Try.prog 41 #[.agg #[.int .i64 a0, .int .i64 a1, .int .i64 a2, .int .i64 a3, .int .i64 a4, .int .i64 a5], .agg #[.int .i64 b0, .int .i64 b1, .int .i64 b2, .int .i64 b3, .int .i64 b4, .int .i64 b5]] w fun e w' => e = .returned (.tuple #[.int .i64 r, .bool t]) ∧ Below w.heap.size w w') ∧ (∀ w, Calls Try.prog 42 #[.agg #[.int .i64 a0, .int .i64 a1, .int .i64 a2, .int .i64 a3, .int .i64 a4, .int .i64 a5], .agg #[.int .i64 b0, .int .i64 b1, .int .i64 b2, .int .i64 b3, .int .i64 b4, .int .i64 b5]] w fun e w' => e = .returned (.tuple #[.int .i64 r, .bool t]) ∧ Below w.heap.size w w') := by
  rcases game_ways a0 a1 a2 a3 a4 a5 b0 b1 b2 b3 b4 b5 with ⟨HS, HI⟩ | ⟨f, p, rfl, rfl, rfl, rfl, rfl, rfl, rfl, rfl, rfl, rfl, rfl, rfl, hp, H1, HS, HI⟩
  · exact ⟨_, false, slongg_no a0 a1 a2 a3 a4 a5 b0 b1 b2 b3 b4 b5 (Lib.hid HS), ilongg_f a0 a1 a2 a3 a4 a5 b0 b1 b2 b3 b4 b5 0 false (Lib.hid (told_no 159 a0 a1 a2 a3 a4 a5 b0 b1 b2 b3 b4 b5 (Lib.hid HI)))⟩
  · have HT := told_yes 159 Tlong (Lib.hid tell_long) tb_long f p hp (Lib.hid H1) (Lib.hid HI)
    have HL : ∀ w, _ := len_f true p hp _ f (Nat.lt_succ_self _)
    exact ⟨vt6 Tlong p (t6 f), true, slongg_yes f p _ (Lib.hid HS) (Lib.hid HL), ilongg_f _ _ _ _ _ _ _ _ _ _ _ _ _ true (Lib.hid HT)⟩
theorem shortg_pair (a0 a1 a2 a3 a4 a5 : Int) (b0 b1 b2 b3 b4 b5 : Int) : ∃ (r : Int) (t : Bool), (∀ w, Calls Try.prog 43 #[.agg #[.int .i64 a0, .int .i64 a1, .int .i64 a2, .int .i64 a3, .int .i64 a4, .int .i64 a5], .agg #[.int .i64 b0, .int .i64 b1, .int .i64 b2, .int .i64 b3, .int .i64 b4, .int .i64 b5]] w fun e w' => e = .returned (.tuple #[.int .i64 r, .bool t]) ∧ Below w.heap.size w w') ∧ (∀ w, Calls Try.prog 44 #[.agg #[.int .i64 a0, .int .i64 a1, .int .i64 a2, .int .i64 a3, .int .i64 a4, .int .i64 a5], .agg #[.int .i64 b0, .int .i64 b1, .int .i64 b2, .int .i64 b3, .int .i64 b4, .int .i64 b5]] w fun e w' => e = .returned (.tuple #[.int .i64 r, .bool t]) ∧ Below w.heap.size w w') := by
  rcases game_ways a0 a1 a2 a3 a4 a5 b0 b1 b2 b3 b4 b5 with ⟨HS, HI⟩ | ⟨f, p, rfl, rfl, rfl, rfl, rfl, rfl, rfl, rfl, rfl, rfl, rfl, rfl, hp, H1, HS, HI⟩
  · exact ⟨_, false, sshortg_no a0 a1 a2 a3 a4 a5 b0 b1 b2 b3 b4 b5 (Lib.hid HS), ishortg_f a0 a1 a2 a3 a4 a5 b0 b1 b2 b3 b4 b5 0 false (Lib.hid (told_no 160 a0 a1 a2 a3 a4 a5 b0 b1 b2 b3 b4 b5 (Lib.hid HI)))⟩
  · have HT := told_yes 160 Tshort (Lib.hid tell_short) tb_short f p hp (Lib.hid H1) (Lib.hid HI)
    have HL : ∀ w, _ := len_f false p hp _ f (Nat.lt_succ_self _)
    exact ⟨vt6 Tshort p (t6 f), true, sshortg_yes f p _ (Lib.hid HS) (Lib.hid HL), ishortg_f _ _ _ _ _ _ _ _ _ _ _ _ _ true (Lib.hid HT)⟩
end Go.Proofs.Ytkjaaaefcmpokaa
