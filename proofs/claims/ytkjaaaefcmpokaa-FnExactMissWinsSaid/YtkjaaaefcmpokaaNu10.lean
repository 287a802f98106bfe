/- CONTRACTS: numberOf by induction, toldBy, and the five that ask it, of the code. -/
import Derived.Test.YtkjaaaefcmpokaaNm10
import Derived.Test.YtkjaaaefcmpokaaNt10
import Derived.Test.YtkjaaaefcmpokaaMd10
import Derived.WalkKit
import Derived.ProofKit
import Derived.OpenShut
import Derived.Lib.Hide
import Derived.WalkSpells
import Derived.Below
import Derived.BigQuiet
import Derived.LoopN
namespace Go.Proofs.Ytkjaaaefcmpokaa
open Go.ChangeShapes Go.WideShapes Go.ChangeAt Go.RowKit
set_option linter.unusedVariables false
open Go.Maps Go.ChangeMaps Go.MapKept
/-- A telling that grows by one at each step at most. -/
def Tb10 (T : List Int → Int) : Prop := ∀ (m : Nat) (l : List Int), l.length ≤ 36 → (∀ x ∈ l, 0 ≤ x ∧ x ≤ 36 + (m : Int)) → 0 ≤ T l ∧ T l ≤ 37 + (m : Int)
theorem tb_last : Tb10 Tlast := fun m l hl _ => by
  have := (mex_spec l).2.2
  unfold Tlast
  omega
theorem tb_miss : Tb10 Tmiss := fun m l hl _ => by
  unfold Tmiss
  split <;> omega
theorem tb_long : Tb10 Tlong := fun m l hl h => by
  unfold Tlong
  split
  · omega
  · rename_i h0
    have := mxl_bd h0 h
    omega
theorem tb_short : Tb10 Tshort := fun m l hl h => by
  unfold Tshort
  split
  · omega
  · rename_i h0
    have := mnl_bd h0 h
    omega
theorem vt_bd {T : List Int → Int} (hT : Tb10 T) {p : Fn6} (hp : eqf p zf = false) : ∀ (n : Nat) (f : Fn6), wc6 f < n → 0 ≤ vt6 T p (t6 f) ∧ vt6 T p (t6 f) ≤ 37 + (wc6 f : Int)
  | 0, f, h => absurd h (by omega)
  | n + 1, f, h => by
    rw [vt6_eq T p hp f]
    refine hT (wc6 f) _ (by rw [List.length_map]; exact nxf_len f p) (fun x hx => ?_)
    obtain ⟨u, hu, rfl⟩ := List.mem_map.mp hx
    obtain ⟨x', y', hx', hy', hfr, rfl⟩ := nxf_mem hu
    have hl := wc6_lt hx' hy' hfr hp
    have hb := vt_bd hT hp n (jf f (sf x' y' p)) (by omega)
    omega
theorem vt_b {T : List Int → Int} (hT : Tb10 T) {p : Fn6} (hp : eqf p zf = false) (f : Fn6) : 0 ≤ vt6 T p (t6 f) ∧ vt6 T p (t6 f) ≤ 1000 := by
  have := vt_bd hT hp _ f (Nat.lt_succ_self _)
  have := wc6_le f
  omega
theorem vt_nx {T : List Int → Int} (hT : Tb10 T) {p : Fn6} (hp : eqf p zf = false) (f : Fn6) : ∀ u ∈ nxf f p, 0 ≤ vt6 T p u ∧ vt6 T p u ≤ 1000 := fun u hu => by
  obtain ⟨x', y', _, _, _, rfl⟩ := nxf_mem hu
  exact vt_b hT hp _
theorem num_f (fn : Nat) (T : List Int → Int) (HT : Hid (Tell10 fn T)) (hT : Tb10 T) (p : Fn6) (hp : eqf p zf = false) (HS : Hid (∀ w, Calls Try.prog 141 #[.agg #[.int .i64 (rowv (p 0)), .int .i64 (rowv (p 1)), .int .i64 (rowv (p 2)), .int .i64 (rowv (p 3)), .int .i64 (rowv (p 4)), .int .i64 (rowv (p 5))]] w fun e w' => e = .returned (.bool true) ∧ Below w.heap.size w w')) (b : Nat) : ∀ (n : Nat) (f : Fn6), wc6 f < n → ∀ (w : World), Mo10 (vt6 T p) b w → Calls Try.prog 155 #[.map (some b), .agg #[.int .i64 (rowv (f 0)), .int .i64 (rowv (f 1)), .int .i64 (rowv (f 2)), .int .i64 (rowv (f 3)), .int .i64 (rowv (f 4)), .int .i64 (rowv (f 5))], .agg #[.int .i64 (rowv (p 0)), .int .i64 (rowv (p 1)), .int .i64 (rowv (p 2)), .int .i64 (rowv (p 3)), .int .i64 (rowv (p 4)), .int .i64 (rowv (p 5))], .func (.func fn) #[] #[]] w fun e w' => e = .returned (.int .i64 (vt6 T p (t6 f))) ∧ Mo10 (vt6 T p) b w' ∧ w.grownBy w' (some b)
  | 0, f, h => absurd h (by omega)
  | n + 1, f, h => num_step fn (vt6 T p) T HT f p (nxf f p) (nxf_len f p) (Lib.hid (inexts_f f p HS)) (vt6_eq T p hp f) (vt_nx hT hp f) b (Lib.hid (fun u hu w hM => by
      obtain ⟨x', y', hx', hy', hfr, rfl⟩ := nxf_mem hu
      have hl := wc6_lt hx' hy' hfr hp
      exact num_f fn T HT hT p hp HS b n (jf f (sf x' y' p)) (by omega) w hM))
theorem run_makeMap10 (w : World) : (Instr.makeMap 138 none).run Try.prog w = .ok (.map (some w.heap.size)) (w.alloc (.map #[] 0)) := by kernel_rfl
theorem Mo10.start (V : T6 → Int) (w : World) : Mo10 V w.heap.size (w.alloc (.map #[] 0)) := ⟨_, _, World.ownsMap_made w Try.prog 28 RV10, Gd10.start V⟩
theorem bx_b (f : Fn6) : o6 f = bx6 (rowv (f 0)) (rowv (f 1)) (rowv (f 2)) (rowv (f 3)) (rowv (f 4)) (rowv (f 5)) := rfl
set_option maxHeartbeats 1000000 in
theorem isgame_f (a0 a1 a2 a3 a4 a5 : Int) (b0 b1 b2 b3 b4 b5 : Int) (l : List T6) (hl : l.length ≤ 36) (t : Bool) (HI : Hid (∀ w, Calls Try.prog 29 #[.agg #[.int .i64 a0, .int .i64 a1, .int .i64 a2, .int .i64 a3, .int .i64 a4, .int .i64 a5], .agg #[.int .i64 b0, .int .i64 b1, .int .i64 b2, .int .i64 b3, .int .i64 b4, .int .i64 b5]] w (LTb l t w))) (w : World) : Calls Try.prog 154 #[.agg #[.int .i64 a0, .int .i64 a1, .int .i64 a2, .int .i64 a3, .int .i64 a4, .int .i64 a5], .agg #[.int .i64 b0, .int .i64 b1, .int .i64 b2, .int .i64 b3, .int .i64 b4, .int .i64 b5]] w fun e w' => e = .returned (.bool (t && decide ((l.length : Int) ≤ 7))) ∧ Below w.heap.size w w' := by
  go_enter Try.func154, Try.ntmps154
  go_wp2_with fail
  generalize hW : (World.alloc _ _ : World) = W0
  have K0 : KR 2 [(w.heap.size, bx6 a0 a1 a2 a3 a4 a5), (w.heap.size + 1, bx6 b0 b1 b2 b3 b4 b5)] w W0 := by
    rw [← hW]
    exact two_b w _ _ (by (repeat (first | exact Below.refl _ _ | assumption | refine Below.setCell ?_ (by first | (simp; done) | (simp; omega)) _ | refine Below.alloc ?_ (by first | (simp; done) | (simp; omega)) _ | refine Below.drew ?_))) (alloc_past (alloc_at rfl)) (alloc_at (by simp)) (by simp)
  clear hW
  have a_c := fun j => cell_of_row W0 _ j _ _ _ (K0.row (g := w.heap.size) (o := bx6 a0 a1 a2 a3 a4 a5) (by simp))
  have b_c := fun j => cell_of_row W0 _ j _ _ _ (K0.row (g := w.heap.size + 1) (o := bx6 b0 b1 b2 b3 b4 b5) (by simp))
  go_wp2_with fail
  refine (HI.out _).mono ?_
  rintro e W1 ⟨g, cap, rfl, ho, hb⟩
  have K1 := K0.far hb rfl
  clear ho hb K0 a_c b_c
  cases t <;>
  · go_wp2_with fail
    go_ret
    exact ⟨by simp, K1.2.2⟩
set_option maxHeartbeats 1000000 in
theorem told_no (fn : Nat) (a0 a1 a2 a3 a4 a5 : Int) (b0 b1 b2 b3 b4 b5 : Int) (HG : Hid (∀ w, Calls Try.prog 154 #[.agg #[.int .i64 a0, .int .i64 a1, .int .i64 a2, .int .i64 a3, .int .i64 a4, .int .i64 a5], .agg #[.int .i64 b0, .int .i64 b1, .int .i64 b2, .int .i64 b3, .int .i64 b4, .int .i64 b5]] w fun e w' => e = .returned (.bool false) ∧ Below w.heap.size w w')) (w : World) : Calls Try.prog 148 #[.func (.func fn) #[] #[], .agg #[.int .i64 a0, .int .i64 a1, .int .i64 a2, .int .i64 a3, .int .i64 a4, .int .i64 a5], .agg #[.int .i64 b0, .int .i64 b1, .int .i64 b2, .int .i64 b3, .int .i64 b4, .int .i64 b5]] w fun e w' => e = .returned (.tuple #[.int .i64 0, .bool false]) ∧ Below w.heap.size w w' := by
  go_enter Try.func148, Try.ntmps148
  go_wp2_with fail
  generalize hW : (World.alloc _ _ : World) = W0
  have K0 : KR 2 [(w.heap.size, bx6 a0 a1 a2 a3 a4 a5), (w.heap.size + 1, bx6 b0 b1 b2 b3 b4 b5)] w W0 := by
    rw [← hW]
    exact two_b w _ _ (by (repeat (first | exact Below.refl _ _ | assumption | refine Below.setCell ?_ (by first | (simp; done) | (simp; omega)) _ | refine Below.alloc ?_ (by first | (simp; done) | (simp; omega)) _ | refine Below.drew ?_))) (alloc_past (alloc_at rfl)) (alloc_at (by simp)) (by simp)
  clear hW
  have a_c := fun j => cell_of_row W0 _ j _ _ _ (K0.row (g := w.heap.size) (o := bx6 a0 a1 a2 a3 a4 a5) (by simp))
  have b_c := fun j => cell_of_row W0 _ j _ _ _ (K0.row (g := w.heap.size + 1) (o := bx6 b0 b1 b2 b3 b4 b5) (by simp))
  go_wp2_with fail
  refine (HG.out _).mono ?_
  rintro e W1 ⟨rfl, hb⟩
  have K1 := K0.far hb rfl
  clear hb K0 a_c b_c
  go_wp2_with fail
  go_ret2
  exact ⟨rfl, K1.2.2⟩
set_option maxHeartbeats 1000000 in
theorem told_yes (fn : Nat) (T : List Int → Int) (HT : Hid (Tell10 fn T)) (hT : Tb10 T) (f p : Fn6) (hp : eqf p zf = false) (HS : Hid (∀ w, Calls Try.prog 141 #[.agg #[.int .i64 (rowv (p 0)), .int .i64 (rowv (p 1)), .int .i64 (rowv (p 2)), .int .i64 (rowv (p 3)), .int .i64 (rowv (p 4)), .int .i64 (rowv (p 5))]] w fun e w' => e = .returned (.bool true) ∧ Below w.heap.size w w')) (HG : Hid (∀ w, Calls Try.prog 154 #[.agg #[.int .i64 (rowv (f 0)), .int .i64 (rowv (f 1)), .int .i64 (rowv (f 2)), .int .i64 (rowv (f 3)), .int .i64 (rowv (f 4)), .int .i64 (rowv (f 5))], .agg #[.int .i64 (rowv (p 0)), .int .i64 (rowv (p 1)), .int .i64 (rowv (p 2)), .int .i64 (rowv (p 3)), .int .i64 (rowv (p 4)), .int .i64 (rowv (p 5))]] w fun e w' => e = .returned (.bool true) ∧ Below w.heap.size w w')) (w : World) : Calls Try.prog 148 #[.func (.func fn) #[] #[], .agg #[.int .i64 (rowv (f 0)), .int .i64 (rowv (f 1)), .int .i64 (rowv (f 2)), .int .i64 (rowv (f 3)), .int .i64 (rowv (f 4)), .int .i64 (rowv (f 5))], .agg #[.int .i64 (rowv (p 0)), .int .i64 (rowv (p 1)), .int .i64 (rowv (p 2)), .int .i64 (rowv (p 3)), .int .i64 (rowv (p 4)), .int .i64 (rowv (p 5))]] w fun e w' => e = .returned (.tuple #[.int .i64 (vt6 T p (t6 f)), .bool true]) ∧ Below w.heap.size w w' := by
  have HF := Lib.hid (fun b => num_f fn T HT hT p hp HS b _ f (Nat.lt_succ_self _))
  have hmm := run_makeMap10
  have HM := Lib.hid (Mo10.start (vt6 T p))
  generalize vt6 T p (t6 f) = z at HF ⊢
  go_enter Try.func148, Try.ntmps148
  go_wp2_with fail
  generalize hW : (World.alloc _ _ : World) = W0
  have K0 : KR 2 [(w.heap.size, o6 f), (w.heap.size + 1, o6 p)] w W0 := by
    rw [← hW]
    exact two_b w _ _ (by (repeat (first | exact Below.refl _ _ | assumption | refine Below.setCell ?_ (by first | (simp; done) | (simp; omega)) _ | refine Below.alloc ?_ (by first | (simp; done) | (simp; omega)) _ | refine Below.drew ?_))) (alloc_past (alloc_at rfl)) (alloc_at (by simp)) (by simp)
  clear hW
  have a_c := fun j => cell_of_row W0 _ j _ _ _ (K0.row (g := w.heap.size) (o := o6 f) (by simp))
  have b_c := fun j => cell_of_row W0 _ j _ _ _ (K0.row (g := w.heap.size + 1) (o := o6 p) (by simp))
  go_wp2_with fail
  refine (HG.out _).mono ?_
  rintro e W1 ⟨rfl, hb⟩
  have K1 := K0.far hb rfl
  clear hb K0 a_c b_c
  have a_c := fun j => cell_of_row W1 _ j _ _ _ (K1.row (g := w.heap.size) (o := o6 f) (by simp))
  have b_c := fun j => cell_of_row W1 _ j _ _ _ (K1.row (g := w.heap.size + 1) (o := o6 p) (by simp))
  have hlt : w.heap.size + 1 < W1.heap.size := by have := K1.2.1; omega
  have hlt0 : w.heap.size < W1.heap.size := by omega
  have hne : w.heap.size + 1 ≠ W1.heap.size := by omega
  have hne0 : w.heap.size ≠ W1.heap.size := by omega
  go_wp2_with fail
  refine (HF.out _ _ (HM.out W1)).mono ?_
  rintro e W2 ⟨rfl, hD, hg⟩
  have hB := (K1.2.2.alloc K1.2.2.size (.map #[] 0)).grown hg (by simp; omega) (fun k hk => by cases hk; omega)
  clear hD hg a_c b_c K1 hmm HM
  go_wp2_with fail
  go_ret2
  exact ⟨rfl, hB⟩
end Go.Proofs.Ytkjaaaefcmpokaa
