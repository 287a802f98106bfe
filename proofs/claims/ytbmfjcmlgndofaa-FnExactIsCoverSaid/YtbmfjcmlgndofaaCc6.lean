/- CONTRACTS: the model's sheet behind presses at cells of a list, whether all open cells make the target. -/
import Derived.Test.YtbmfjcmlgndofaaCa6
import Derived.Test.YtbmfjcmlgndofaaCb6
import Derived.Test.YtbmfjcmlgndofaaPm5
import Derived.Deep.RegionHeld3
import Derived.WalkKit
import Derived.ProofKit
import Derived.OpenShut
import Derived.Lib.Hide
import Derived.WalkSpells
import Derived.Below
import Derived.BigQuiet
import Derived.LoopN
namespace Go.Proofs.Ytbmfjcmlgndofaa
open Go.ChangeShapes Go.WideShapes Go.ChangeAt Go.RowKit
set_option linter.unusedVariables false
/-- Midway in a loop over a row of pairs: what is made so far lies in the block gb. -/
def Rg6 (n : Nat) (R : List (Nat × Obj)) (w : World) (l : List (Nat × Nat)) (g cap gb : Nat) (F : Fn6) (W : World) : Prop :=
  KR n R w W ∧ W.ownsRow 0 53 2 (.slice (some ⟨g, 0, none⟩) l.length cap) l.length (cv l) ∧ W.heap[gb]? = some (o6 F) ∧ w.heap.size + n ≤ gb ∧ gb < W.heap.size ∧ g ≠ gb
theorem Rg6.below {n : Nat} {R : List (Nat × Obj)} {w W W' : World} {l : List (Nat × Nat)} {g cap gb M : Nat} {F : Fn6} (h : Rg6 n R w l g cap gb F W) (hb : Below M W W') (hM : M = W.heap.size) : Rg6 n R w l g cap gb F W' := by
  obtain ⟨h1, h2, h3, h4, h5, h6⟩ := h
  exact ⟨h1.far hb hM, h2.kept (grown_below hb hM) (.inr (by simp [Value.ownBlock])), rowk h3 hb hM, h4, Nat.lt_of_lt_of_le h5 hb.size, h6⟩
theorem Rg6.put {n : Nat} {R : List (Nat × Obj)} {w W : World} {l : List (Nat × Nat)} {g cap gb : Nat} {F : Fn6} (G : Fn6) (h : Rg6 n R w l g cap gb F W) : Rg6 n R w l g cap gb G ((((((W.setCell ⟨gb, 0, none⟩ (.int .i64 (rowv (G 0)))).setCell ⟨gb, 1, none⟩ (.int .i64 (rowv (G 1)))).setCell ⟨gb, 2, none⟩ (.int .i64 (rowv (G 2)))).setCell ⟨gb, 3, none⟩ (.int .i64 (rowv (G 3)))).setCell ⟨gb, 4, none⟩ (.int .i64 (rowv (G 4)))).setCell ⟨gb, 5, none⟩ (.int .i64 (rowv (G 5)))) := by
  obtain ⟨h1, h2, h3, h4, h5, h6⟩ := h
  exact ⟨h1.set h4 |>.set h4 |>.set h4 |>.set h4 |>.set h4 |>.set h4, own_set6 _ _ _ _ _ _ h2 h6, set6a _ _ _ _ _ _ h3, h4, by simpa using h5, h6⟩
theorem Rg6_c {n : Nat} {R : List (Nat × Obj)} {w U : World} {l : List (Nat × Nat)} {g cap gb : Nat} {F : Fn6} (h : Rg6 n R w l g cap gb F U) : ∀ j, U.cell? ⟨gb, j, none⟩ = (#[.int .i64 (rowv (F 0)), .int .i64 (rowv (F 1)), .int .i64 (rowv (F 2)), .int .i64 (rowv (F 3)), .int .i64 (rowv (F 4)), .int .i64 (rowv (F 5))] : Array Value)[j]? := fun j => cell_of_row U _ j _ _ _ h.2.2.1
theorem Rg6_f {n : Nat} {R : List (Nat × Obj)} {w U : World} {l : List (Nat × Nat)} {g cap gb : Nat} {F : Fn6} (h : Rg6 n R w l g cap gb F U) : ∀ j, U.frozen? ⟨gb, j, none⟩ = false := fun j => frozen_of_row U _ j _ _ h.2.2.1
set_option maxHeartbeats 4000000 in
theorem link6_f (p : Fn6) (l : List (Nat × Nat)) (hlm : ∀ c ∈ l, c.1 < 6 ∧ c.2 < 6) (hlen : l.length ≤ 1048576) (g cap : Nat) (w : World) (hO : w.ownsRow 0 53 2 (.slice (some ⟨g, 0, none⟩) l.length cap) l.length (cv l)) : Calls Try.prog 129 #[.agg #[.int .i64 (rowv (p 0)), .int .i64 (rowv (p 1)), .int .i64 (rowv (p 2)), .int .i64 (rowv (p 3)), .int .i64 (rowv (p 4)), .int .i64 (rowv (p 5))], .slice (some ⟨g, 0, none⟩) l.length cap] w fun e w' => e = .returned (.agg #[.int .i64 (rowv (spo p l zf 0)), .int .i64 (rowv (spo p l zf 1)), .int .i64 (rowv (spo p l zf 2)), .int .i64 (rowv (spo p l zf 3)), .int .i64 (rowv (spo p l zf 4)), .int .i64 (rowv (spo p l zf 5))]) ∧ Below w.heap.size w w' := by
  have hg := (hO.lt g rfl).2
  have HLm := Lib.hid hlm
  have HO := Lib.hid hO
  clear hlm hO
  go_enter Try.func129, Try.ntmps129
  go_wp2_with fail
  generalize hW : (World.alloc _ _ : World) = W0
  have hB0 : Below w.heap.size w W0 := by rw [← hW]; (repeat (first | exact Below.refl _ _ | assumption | refine Below.setCell ?_ (by first | (simp; done) | (simp; omega)) _ | refine Below.alloc ?_ (by first | (simp; done) | (simp; omega)) _ | refine Below.drew ?_))
  have qa : W0.heap[(w.heap.size : Nat)]? = some (o6 p) := by
    rw [← hW]
    repeat (first | (refine alloc_at ?_; first | (simp; done) | (simp; omega)) | refine drew_row ?_ | refine alloc_past ?_ | assumption)
  have qb : W0.heap[(w.heap.size + 1 : Nat)]? = some oz := by
    rw [← hW]
    repeat (first | (refine alloc_at ?_; first | (simp; done) | (simp; omega)) | refine drew_row ?_ | refine alloc_past ?_ | assumption)
  have qz : W0.heap[(w.heap.size + 2 : Nat)]? = some (o6 (spo p (l.take 0) zf)) := by
    rw [← hW]
    refine alloc_at (o := .cells #[.int .i64 0, .int .i64 0, .int .i64 0, .int .i64 0, .int .i64 0, .int .i64 0] 28) ?_
    simp
  have S0 : Hid (Rg6 2 [(w.heap.size, o6 p), (w.heap.size + 1, oz)] w l g cap (w.heap.size + 2) (spo p (l.take 0) zf) W0) := Lib.hid ⟨two_boxes w _ _ hB0 qa qb (by rw [← hW]; simp), HO.out.kept (grown_below hB0 rfl) (.inr (by simp [Value.ownBlock])), qz, Nat.le_refl _, row_lt qz, by omega⟩
  clear hW hB0 qa qb qz HO hg
  obtain ⟨gb, hgb⟩ : ∃ gb, gb = w.heap.size + 2 := ⟨_, rfl⟩
  rw [← hgb] at S0 ⊢
  clear hgb
  go_loopw [6] (fun c wr => ∃ i : Nat, i ≤ l.length ∧ c = .int .i64 i ∧ Hid (Rg6 2 [(w.heap.size, o6 p), (w.heap.size + 1, oz)] w l g cap gb (spo p (l.take i) zf) wr)) (fun c _ => l.length - (intOf c).toNat)
  case atStart => exact ⟨0, by omega, rfl, S0⟩
  case round =>
    obtain ⟨i, hi, rfl, HS⟩ := hrel
    by_cases hlt : i < l.length
    · have hlt' : (i : Int) < l.length := by omega
      have hi0 : (0 : Int) ≤ i := by omega
      have hi2 : i ≤ 1048576 := by omega
      obtain ⟨p1, p2⟩ := cv_at l i hlt
      have HD := Lib.hid (HS.out.below (M := wr.heap.size) (Below.refl _ _).drew rfl)
      have a1 := own_at HD.out.2.1 p1
      have a2 := own_at HD.out.2.1 p2
      clear p1 p2
      obtain ⟨m1, m2⟩ := HLm.out _ (List.getElem_mem hlt)
      have HF := Lib.hid (l2at_n p m1 m2)
      have HXr := Lib.hid (row_jf (spo p (l.take i) zf) (sf (l[i]).1 (l[i]).2 p))
      have HP : Hid (spo p (l.take (i + 1)) zf = jf (spo p (l.take i) zf) (sf (l[i]).1 (l[i]).2 p)) := Lib.hid (spo_succ p l zf hlt)
      generalize l[i] = c at a1 a2 HF HP HXr
      obtain ⟨x, y⟩ := c
      dsimp only at HP HXr HF a1 a2
      have HX := Lib.hid (l2or_any (rowv (spo p (l.take i) zf 0)) (rowv (spo p (l.take i) zf 1)) (rowv (spo p (l.take i) zf 2)) (rowv (spo p (l.take i) zf 3)) (rowv (spo p (l.take i) zf 4)) (rowv (spo p (l.take i) zf 5)) (rowv (sf x y p 0)) (rowv (sf x y p 1)) (rowv (sf x y p 2)) (rowv (sf x y p 3)) (rowv (sf x y p 4)) (rowv (sf x y p 5)))
      simp only [HXr.out] at HX
      generalize spo p (l.take i) zf = F at HS HD HP HX
      go_wp2_with fail
      have d_c := Rg6_c HD.out
      have s_c := fun j => cell_of_row wr.drew _ j _ _ _ (HD.out.1.row (g := w.heap.size) (o := o6 p) (by simp))
      set_option maxRecDepth 8000 in
      go_region_with (first | (go_at_call 138; with_reducible refine (HF.out _).mono ?_; rintro e w' ⟨rfl, hb'⟩; have HE := Lib.hid (HD.out.below hb' rfl); have e_c := Rg6_c HE.out) | (go_at_call 137; with_reducible refine (HX.out _).mono ?_; rintro e w' ⟨rfl, hb'⟩; have HG := Lib.hid (HE.out.below hb' rfl); clear e_c d_c; have b_f := Rg6_f HG.out; have b_c := Rg6_c HG.out))
      all_goals
        have HI2 := Lib.hid (HG.out.put (jf F (sf x y p)))
        clear HG HE HD b_f b_c s_c a1 a2
        go_wp2_with fail
        go_roundw
        case rel => exact ⟨i + 1, by omega, by go_num, by rw [HP.out]; exact HI2⟩
        case measure => simp [intOf]; omega
    · obtain rfl : i = l.length := by omega
      have hgb3 := HS.out.2.2.2.1
      have d_c := Rg6_c HS.out
      rw [List.take_length] at d_c
      have z_c := fun j => cell_of_row wr _ j _ _ _ (HS.out.1.row (g := w.heap.size + 1) (o := oz) (by simp))
      have z_f := fun j => frozen_of_row wr _ j _ _ (HS.out.1.row (g := w.heap.size + 1) (o := oz) (by simp))
      go_wp2_with fail
      have qx : ((((((wr.setCell ⟨w.heap.size + 1, 0, none⟩ (.int .i64 (rowv (spo p l zf 0)))).setCell ⟨w.heap.size + 1, 1, none⟩ (.int .i64 (rowv (spo p l zf 1)))).setCell ⟨w.heap.size + 1, 2, none⟩ (.int .i64 (rowv (spo p l zf 2)))).setCell ⟨w.heap.size + 1, 3, none⟩ (.int .i64 (rowv (spo p l zf 3)))).setCell ⟨w.heap.size + 1, 4, none⟩ (.int .i64 (rowv (spo p l zf 4)))).setCell ⟨w.heap.size + 1, 5, none⟩ (.int .i64 (rowv (spo p l zf 5)))).heap[w.heap.size + 1]? = _ := set6a _ _ _ _ _ _ (HS.out.1.row (g := w.heap.size + 1) (o := oz) (by simp))
      have hB := below6 (g := w.heap.size + 1) (v0 := .int .i64 (rowv (spo p l zf 0))) (v1 := .int .i64 (rowv (spo p l zf 1))) (v2 := .int .i64 (rowv (spo p l zf 2))) (v3 := .int .i64 (rowv (spo p l zf 3))) (v4 := .int .i64 (rowv (spo p l zf 4))) (v5 := .int .i64 (rowv (spo p l zf 5))) HS.out.1.2.2 (by omega)
      generalize (World.setCell _ _ _ : World) = X at qx hB ⊢
      have x_c := fun j => cell_of_row X _ j _ _ _ qx
      exact bodyPost_ret (v := .agg #[.int .i64 (rowv (spo p l zf 0)), .int .i64 (rowv (spo p l zf 1)), .int .i64 (rowv (spo p l zf 2)), .int .i64 (rowv (spo p l zf 3)), .int .i64 (rowv (spo p l zf 4)), .int .i64 (rowv (spo p l zf 5))]) (by simp [results, Try.results129, go_sem, x_c]) rfl ⟨rfl, hB⟩
def eqf (f g : Fn6) : Bool := rowv (f 0) == rowv (g 0) && rowv (f 1) == rowv (g 1) && rowv (f 2) == rowv (g 2) && rowv (f 3) == rowv (g 3) && rowv (f 4) == rowv (g 4) && rowv (f 5) == rowv (g 5)
theorem eqf_iff (f g : Fn6) : eqf f g = true ↔ Ag f g := by
  unfold eqf
  simp only [Bool.and_eq_true, beq_iff_eq]
  constructor
  · rintro ⟨⟨⟨⟨⟨h0, h1⟩, h2⟩, h3⟩, h4⟩, h5⟩ j i hj hi
    rcases six_n hj with rfl | rfl | rfl | rfl | rfl | rfl
    · exact rowv_inj h0 i hi
    · exact rowv_inj h1 i hi
    · exact rowv_inj h2 i hi
    · exact rowv_inj h3 i hi
    · exact rowv_inj h4 i hi
    · exact rowv_inj h5 i hi
  · intro h
    exact ⟨⟨⟨⟨⟨rowv_congr fun i hi => h 0 i (by decide) hi, rowv_congr fun i hi => h 1 i (by decide) hi⟩, rowv_congr fun i hi => h 2 i (by decide) hi⟩, rowv_congr fun i hi => h 3 i (by decide) hi⟩, rowv_congr fun i hi => h 4 i (by decide) hi⟩, rowv_congr fun i hi => h 5 i (by decide) hi⟩
theorem eqf_ag {f f' g g' : Fn6} (h : Ag f f') (k : Ag g g') : eqf f g = eqf f' g' := by
  rw [Bool.eq_iff_iff, eqf_iff, eqf_iff]
  exact ⟨fun q => h.symm.trans (q.trans k), fun q => h.trans (q.trans k.symm)⟩
theorem bl_lt36 (f : Fn6) : ∀ c ∈ bl f 36, c.1 < 6 ∧ c.2 < 6 := bl_lt f 36 (Nat.le_refl _)
set_option maxHeartbeats 4000000 in
theorem lcan6_f (p s : Fn6) (w : World) : Calls Try.prog 127 #[.agg #[.int .i64 (rowv (p 0)), .int .i64 (rowv (p 1)), .int .i64 (rowv (p 2)), .int .i64 (rowv (p 3)), .int .i64 (rowv (p 4)), .int .i64 (rowv (p 5))], .agg #[.int .i64 (rowv (s 0)), .int .i64 (rowv (s 1)), .int .i64 (rowv (s 2)), .int .i64 (rowv (s 3)), .int .i64 (rowv (s 4)), .int .i64 (rowv (s 5))]] w fun e w' => e = .returned (.bool (eqf (spd p (shr s p)) s)) ∧ Below w.heap.size w w' := by
  have H1 := Lib.hid (lopen6_f p s)
  have hlen := bl_len (shr s p) 36
  have H2 := Lib.hid (link6_f p (bl (shr s p) 36) (bl_lt36 _) (by omega))
  have HE := Lib.hid (eq26 (rowv (spd p (shr s p) 0)) (rowv (spd p (shr s p) 1)) (rowv (spd p (shr s p) 2)) (rowv (spd p (shr s p) 3)) (rowv (spd p (shr s p) 4)) (rowv (spd p (shr s p) 5)) (rowv (s 0)) (rowv (s 1)) (rowv (s 2)) (rowv (s 3)) (rowv (s 4)) (rowv (s 5)))
  rw [show spo p (bl (shr s p) 36) zf = spd p (shr s p) from rfl] at H2
  generalize bl (shr s p) 36 = l at H1 H2 hlen
  clear hlen
  go_enter Try.func127, Try.ntmps127
  go_wp2_with fail
  generalize hW : (World.alloc _ _ : World) = W0
  have hk : KR 2 [(w.heap.size, o6 p), (w.heap.size + 1, o6 s)] w W0 := by
    rw [← hW]
    exact two_boxes w _ _ (by (repeat (first | exact Below.refl _ _ | assumption | refine Below.setCell ?_ (by first | (simp; done) | (simp; omega)) _ | refine Below.alloc ?_ (by first | (simp; done) | (simp; omega)) _ | refine Below.drew ?_))) (alloc_past (alloc_at rfl)) (alloc_at (by simp)) (by simp)
  clear hW
  have hz0 := KR.le hk
  have he := HE.out
  set_option maxRecDepth 8000 in
  go_region_held3 (fun U => U.cell? ⟨w.heap.size, 0, none⟩ = some (.int .i64 (rowv (p 0))) ∧ U.cell? ⟨w.heap.size, 1, none⟩ = some (.int .i64 (rowv (p 1))) ∧ U.cell? ⟨w.heap.size, 2, none⟩ = some (.int .i64 (rowv (p 2))) ∧ U.cell? ⟨w.heap.size, 3, none⟩ = some (.int .i64 (rowv (p 3))) ∧ U.cell? ⟨w.heap.size, 4, none⟩ = some (.int .i64 (rowv (p 4))) ∧ U.cell? ⟨w.heap.size, 5, none⟩ = some (.int .i64 (rowv (p 5))) ∧ U.cell? ⟨w.heap.size + 1, 0, none⟩ = some (.int .i64 (rowv (s 0))) ∧ U.cell? ⟨w.heap.size + 1, 1, none⟩ = some (.int .i64 (rowv (s 1))) ∧ U.cell? ⟨w.heap.size + 1, 2, none⟩ = some (.int .i64 (rowv (s 2))) ∧ U.cell? ⟨w.heap.size + 1, 3, none⟩ = some (.int .i64 (rowv (s 3))) ∧ U.cell? ⟨w.heap.size + 1, 4, none⟩ = some (.int .i64 (rowv (s 4))) ∧ U.cell? ⟨w.heap.size + 1, 5, none⟩ = some (.int .i64 (rowv (s 5))) ∧ KR 2 [(w.heap.size, o6 p), (w.heap.size + 1, o6 s)] w U) (with_reducible refine SK2 ?_; (repeat (first | with_reducible assumption | with_reducible refine KR.al ?_ | with_reducible refine KR.drew ?_))) (first | (go_at_call 122; with_reducible refine (H1.out _).mono ?_; rintro e w' hp; obtain ⟨g, cap, rfl, ho, hb'⟩ := LP.out hp; have hk : KR 2 [(w.heap.size, o6 p), (w.heap.size + 1, o6 s)] w w' := KR.far (by (repeat (first | with_reducible assumption | with_reducible refine KR.al ?_ | with_reducible refine KR.drew ?_))) hb' rfl; have ho0 := Lib.hid (own_mono ho (Nat.zero_le _))) | (go_at_call 129; with_reducible refine (H2.out _ _ _ ho0.out).mono ?_; rintro e w' ⟨rfl, hb'⟩; have hk : KR 2 [(w.heap.size, o6 p), (w.heap.size + 1, o6 s)] w w' := KR.far (by (repeat (first | with_reducible assumption | with_reducible refine KR.al ?_ | with_reducible refine KR.drew ?_))) hb' rfl))
  all_goals
    go_wp2_with fail
    go_ret
    exact ⟨rfl, hk.2.2⟩
set_option maxHeartbeats 1000000 in
theorem scan6_yes (p s : Fn6) (w : World) : Calls Try.prog 26 #[.agg #[.int .i64 (rowv (p 0)), .int .i64 (rowv (p 1)), .int .i64 (rowv (p 2)), .int .i64 (rowv (p 3)), .int .i64 (rowv (p 4)), .int .i64 (rowv (p 5))], .agg #[.int .i64 (rowv (s 0)), .int .i64 (rowv (s 1)), .int .i64 (rowv (s 2)), .int .i64 (rowv (s 3)), .int .i64 (rowv (s 4)), .int .i64 (rowv (s 5))]] w fun e w' => e = .returned (.tuple #[.bool (eqf (spd p (shr s p)) s), .bool true]) ∧ Below w.heap.size w w' := by
  have HV := Lib.hid (row_as p)
  have HV2 := Lib.hid (row_as s)
  have HF := Lib.hid (lcan6_f p s)
  go_enter Try.func26, Try.ntmps26
  go_wp2_with fail
  generalize hW : (World.alloc _ _ : World) = W0
  have K0 : KR 2 [(w.heap.size, o6 p), (w.heap.size + 1, o6 s)] w W0 := by
    rw [← hW]
    exact two_boxes w _ _ (by (repeat (first | exact Below.refl _ _ | assumption | refine Below.setCell ?_ (by first | (simp; done) | (simp; omega)) _ | refine Below.alloc ?_ (by first | (simp; done) | (simp; omega)) _ | refine Below.drew ?_))) (alloc_past (alloc_at rfl)) (alloc_at (by simp)) (by simp)
  clear hW
  have a_c := fun j => cell_of_row W0 _ j _ _ _ (K0.row (g := w.heap.size) (o := o6 p) (by simp))
  go_wp2_with fail
  refine (HV.out _).mono ?_
  rintro e W1 ⟨rfl, hb⟩
  have K1 := K0.far hb rfl
  clear hb K0 a_c
  have b_c := fun j => cell_of_row W1 _ j _ _ _ (K1.row (g := w.heap.size + 1) (o := o6 s) (by simp))
  go_wp2_with fail
  refine (HV2.out _).mono ?_
  rintro e W2 ⟨rfl, hb⟩
  have K2 := K1.far hb rfl
  clear hb K1 b_c
  have a_c := fun j => cell_of_row W2 _ j _ _ _ (K2.row (g := w.heap.size) (o := o6 p) (by simp))
  have b_c := fun j => cell_of_row W2 _ j _ _ _ (K2.row (g := w.heap.size + 1) (o := o6 s) (by simp))
  go_wp2_with fail
  refine (HF.out _).mono ?_
  rintro e W3 ⟨rfl, hb⟩
  have HB := Lib.hid (below_of K2.2.2 hb K2.2.2.size)
  clear hb K2 a_c b_c
  go_wp2_with fail
  go_ret2
  exact ⟨rfl, HB.out⟩
set_option maxHeartbeats 1000000 in
theorem scan6_no0 (a0 a1 a2 a3 a4 a5 : Int) (b0 b1 b2 b3 b4 b5 : Int) (H0 : Hid (∀ w, Calls Try.prog 121 #[.agg #[.int .i64 a0, .int .i64 a1, .int .i64 a2, .int .i64 a3, .int .i64 a4, .int .i64 a5]] w fun e w' => e = .returned (.bool false) ∧ Below w.heap.size w w')) (w : World) : Calls Try.prog 26 #[.agg #[.int .i64 a0, .int .i64 a1, .int .i64 a2, .int .i64 a3, .int .i64 a4, .int .i64 a5], .agg #[.int .i64 b0, .int .i64 b1, .int .i64 b2, .int .i64 b3, .int .i64 b4, .int .i64 b5]] w fun e w' => e = .returned (.tuple #[.bool false, .bool false]) ∧ Below w.heap.size w w' := by
  go_enter Try.func26, Try.ntmps26
  go_wp2_with fail
  generalize hW : (World.alloc _ _ : World) = W0
  have K0 : KR 2 [(w.heap.size, os a0 a1 a2 a3 a4 a5), (w.heap.size + 1, os b0 b1 b2 b3 b4 b5)] w W0 := by
    rw [← hW]
    exact two_boxes w _ _ (by (repeat (first | exact Below.refl _ _ | assumption | refine Below.setCell ?_ (by first | (simp; done) | (simp; omega)) _ | refine Below.alloc ?_ (by first | (simp; done) | (simp; omega)) _ | refine Below.drew ?_))) (alloc_past (alloc_at rfl)) (alloc_at (by simp)) (by simp)
  clear hW
  have a_c := fun j => cell_of_row W0 _ j _ _ _ (K0.row (g := w.heap.size) (o := os a0 a1 a2 a3 a4 a5) (by simp))
  go_wp2_with fail
  refine (H0.out _).mono ?_
  rintro e W1 ⟨rfl, hb⟩
  have K1 := K0.far hb rfl
  clear hb K0 a_c
  go_wp2_with fail
  go_ret2
  exact ⟨rfl, K1.2.2⟩
set_option maxHeartbeats 1000000 in
theorem scan6_no1 (a0 a1 a2 a3 a4 a5 : Int) (b0 b1 b2 b3 b4 b5 : Int) (H0 : Hid (∀ w, Calls Try.prog 121 #[.agg #[.int .i64 a0, .int .i64 a1, .int .i64 a2, .int .i64 a3, .int .i64 a4, .int .i64 a5]] w fun e w' => e = .returned (.bool true) ∧ Below w.heap.size w w')) (H1 : Hid (∀ w, Calls Try.prog 121 #[.agg #[.int .i64 b0, .int .i64 b1, .int .i64 b2, .int .i64 b3, .int .i64 b4, .int .i64 b5]] w fun e w' => e = .returned (.bool false) ∧ Below w.heap.size w w')) (w : World) : Calls Try.prog 26 #[.agg #[.int .i64 a0, .int .i64 a1, .int .i64 a2, .int .i64 a3, .int .i64 a4, .int .i64 a5], .agg #[.int .i64 b0, .int .i64 b1, .int .i64 b2, .int .i64 b3, .int .i64 b4, .int .i64 b5]] w fun e w' => e = .returned (.tuple #[.bool false, .bool false]) ∧ Below w.heap.size w w' := by
  go_enter Try.func26, Try.ntmps26
  go_wp2_with fail
  generalize hW : (World.alloc _ _ : World) = W0
  have K0 : KR 2 [(w.heap.size, os a0 a1 a2 a3 a4 a5), (w.heap.size + 1, os b0 b1 b2 b3 b4 b5)] w W0 := by
    rw [← hW]
    exact two_boxes w _ _ (by (repeat (first | exact Below.refl _ _ | assumption | refine Below.setCell ?_ (by first | (simp; done) | (simp; omega)) _ | refine Below.alloc ?_ (by first | (simp; done) | (simp; omega)) _ | refine Below.drew ?_))) (alloc_past (alloc_at rfl)) (alloc_at (by simp)) (by simp)
  clear hW
  have a_c := fun j => cell_of_row W0 _ j _ _ _ (K0.row (g := w.heap.size) (o := os a0 a1 a2 a3 a4 a5) (by simp))
  go_wp2_with fail
  refine (H0.out _).mono ?_
  rintro e W1 ⟨rfl, hb⟩
  have K1 := K0.far hb rfl
  clear hb K0 a_c
  have b_c := fun j => cell_of_row W1 _ j _ _ _ (K1.row (g := w.heap.size + 1) (o := os b0 b1 b2 b3 b4 b5) (by simp))
  go_wp2_with fail
  refine (H1.out _).mono ?_
  rintro e W2 ⟨rfl, hb⟩
  have K2 := K1.far hb rfl
  clear hb K1 b_c
  go_wp2_with fail
  go_ret2
  exact ⟨rfl, K2.2.2⟩
/-- The code's: IsOpened with the arguments exchanged. -/
theorem ican6_any (a0 a1 a2 a3 a4 a5 : Int) (b0 b1 b2 b3 b4 b5 : Int) (r t : Bool) (HF : Hid (∀ w, Calls Try.prog 66 #[.agg #[.int .i64 b0, .int .i64 b1, .int .i64 b2, .int .i64 b3, .int .i64 b4, .int .i64 b5], .agg #[.int .i64 a0, .int .i64 a1, .int .i64 a2, .int .i64 a3, .int .i64 a4, .int .i64 a5]] w fun e w' => e = .returned (.tuple #[.bool r, .bool t]) ∧ Below w.heap.size w w')) (w : World) : Calls Try.prog 27 #[.agg #[.int .i64 a0, .int .i64 a1, .int .i64 a2, .int .i64 a3, .int .i64 a4, .int .i64 a5], .agg #[.int .i64 b0, .int .i64 b1, .int .i64 b2, .int .i64 b3, .int .i64 b4, .int .i64 b5]] w fun e w' => e = .returned (.tuple #[.bool r, .bool t]) ∧ Below w.heap.size w w' := by
  go_enter Try.func27, Try.ntmps27
  go_wp2_with fail
  generalize hW : (World.alloc _ _ : World) = W0
  have K0 : KR 2 [(w.heap.size, os a0 a1 a2 a3 a4 a5), (w.heap.size + 1, os b0 b1 b2 b3 b4 b5)] w W0 := by
    rw [← hW]
    exact two_boxes w _ _ (by (repeat (first | exact Below.refl _ _ | assumption | refine Below.setCell ?_ (by first | (simp; done) | (simp; omega)) _ | refine Below.alloc ?_ (by first | (simp; done) | (simp; omega)) _ | refine Below.drew ?_))) (alloc_past (alloc_at rfl)) (alloc_at (by simp)) (by simp)
  clear hW
  have a_c := fun j => cell_of_row W0 _ j _ _ _ (K0.row (g := w.heap.size) (o := os a0 a1 a2 a3 a4 a5) (by simp))
  have b_c := fun j => cell_of_row W0 _ j _ _ _ (K0.row (g := w.heap.size + 1) (o := os b0 b1 b2 b3 b4 b5) (by simp))
  go_wp2_with fail
  refine (HF.out _).mono ?_
  rintro e W1 ⟨rfl, hb⟩
  have HB := Lib.hid (K0.far hb rfl).2.2
  clear hb K0 a_c b_c
  go_wp2_with fail
  go_ret2
  exact ⟨rfl, HB.out⟩
/-- The code's IsOpened: not valid. -/
theorem iisop_n0 (a0 a1 a2 a3 a4 a5 : Int) (b0 b1 b2 b3 b4 b5 : Int) (hv : (ok a0 && ok a1 && ok a2 && ok a3 && ok a4 && ok a5) = false) (w : World) : Calls Try.prog 66 #[.agg #[.int .i64 a0, .int .i64 a1, .int .i64 a2, .int .i64 a3, .int .i64 a4, .int .i64 a5], .agg #[.int .i64 b0, .int .i64 b1, .int .i64 b2, .int .i64 b3, .int .i64 b4, .int .i64 b5]] w fun e w' => e = .returned (.tuple #[.bool false, .bool false]) ∧ Below w.heap.size w w' := iio_no a0 a1 a2 a3 a4 a5 b0 b1 b2 b3 b4 b5 (Lib.hid (iopen_n0 a0 a1 a2 a3 a4 a5 b0 b1 b2 b3 b4 b5 hv)) w
theorem iisop_n1 (a0 a1 a2 a3 a4 a5 : Int) (b0 b1 b2 b3 b4 b5 : Int) (hv : (ok a0 && ok a1 && ok a2 && ok a3 && ok a4 && ok a5) = true) (hc : (ok b0 && ok b1 && ok b2 && ok b3 && ok b4 && ok b5) = false) (w : World) : Calls Try.prog 66 #[.agg #[.int .i64 a0, .int .i64 a1, .int .i64 a2, .int .i64 a3, .int .i64 a4, .int .i64 a5], .agg #[.int .i64 b0, .int .i64 b1, .int .i64 b2, .int .i64 b3, .int .i64 b4, .int .i64 b5]] w fun e w' => e = .returned (.tuple #[.bool false, .bool false]) ∧ Below w.heap.size w w' := iio_no a0 a1 a2 a3 a4 a5 b0 b1 b2 b3 b4 b5 (Lib.hid (iopen_n1 a0 a1 a2 a3 a4 a5 b0 b1 b2 b3 b4 b5 hv hc)) w
theorem can_opn (s p : Fn6) : eqf (spd p (shr s p)) s = eqf (spd (shr s p) p) s := eqf_ag (spd_comm _ _) (Ag.refl _)
theorem ican6_yes (p s : Fn6) (w : World) : Calls Try.prog 27 #[.agg #[.int .i64 (rowv (p 0)), .int .i64 (rowv (p 1)), .int .i64 (rowv (p 2)), .int .i64 (rowv (p 3)), .int .i64 (rowv (p 4)), .int .i64 (rowv (p 5))], .agg #[.int .i64 (rowv (s 0)), .int .i64 (rowv (s 1)), .int .i64 (rowv (s 2)), .int .i64 (rowv (s 3)), .int .i64 (rowv (s 4)), .int .i64 (rowv (s 5))]] w fun e w' => e = .returned (.tuple #[.bool (eqf (spd p (shr s p)) s), .bool true]) ∧ Below w.heap.size w w' := by
  rw [can_opn]
  exact ican6_any (rowv (p 0)) (rowv (p 1)) (rowv (p 2)) (rowv (p 3)) (rowv (p 4)) (rowv (p 5)) (rowv (s 0)) (rowv (s 1)) (rowv (s 2)) (rowv (s 3)) (rowv (s 4)) (rowv (s 5)) _ true (Lib.hid (fun w => iio_yes (rowv (s 0)) (rowv (s 1)) (rowv (s 2)) (rowv (s 3)) (rowv (s 4)) (rowv (s 5)) (rowv (p 0)) (rowv (p 1)) (rowv (p 2)) (rowv (p 3)) (rowv (p 4)) (rowv (p 5)) (rowv (spd (shr s p) p 0)) (rowv (spd (shr s p) p 1)) (rowv (spd (shr s p) p 2)) (rowv (spd (shr s p) p 3)) (rowv (spd (shr s p) p 4)) (rowv (spd (shr s p) p 5)) (Lib.hid (iopen_c s p)) w)) w
theorem can6_pair (a0 a1 a2 a3 a4 a5 : Int) (b0 b1 b2 b3 b4 b5 : Int) : ∃ (r t : Bool), (∀ w, Calls Try.prog 26 #[.agg #[.int .i64 a0, .int .i64 a1, .int .i64 a2, .int .i64 a3, .int .i64 a4, .int .i64 a5], .agg #[.int .i64 b0, .int .i64 b1, .int .i64 b2, .int .i64 b3, .int .i64 b4, .int .i64 b5]] w fun e w' => e = .returned (.tuple #[.bool r, .bool t]) ∧ Below w.heap.size w w') ∧ (∀ w, Calls Try.prog 27 #[.agg #[.int .i64 a0, .int .i64 a1, .int .i64 a2, .int .i64 a3, .int .i64 a4, .int .i64 a5], .agg #[.int .i64 b0, .int .i64 b1, .int .i64 b2, .int .i64 b3, .int .i64 b4, .int .i64 b5]] w fun e w' => e = .returned (.tuple #[.bool r, .bool t]) ∧ Below w.heap.size w w') := by
  cases hv : (ok a0 && ok a1 && ok a2 && ok a3 && ok a4 && ok a5)
  · cases hc : (ok b0 && ok b1 && ok b2 && ok b3 && ok b4 && ok b5)
    · exact ⟨false, false, scan6_no0 a0 a1 a2 a3 a4 a5 b0 b1 b2 b3 b4 b5 (sh_as a0 a1 a2 a3 a4 a5 hv), ican6_any a0 a1 a2 a3 a4 a5 b0 b1 b2 b3 b4 b5 false false (Lib.hid (iisop_n0 b0 b1 b2 b3 b4 b5 a0 a1 a2 a3 a4 a5 hc))⟩
    · exact ⟨false, false, scan6_no0 a0 a1 a2 a3 a4 a5 b0 b1 b2 b3 b4 b5 (sh_as a0 a1 a2 a3 a4 a5 hv), ican6_any a0 a1 a2 a3 a4 a5 b0 b1 b2 b3 b4 b5 false false (Lib.hid (iisop_n1 b0 b1 b2 b3 b4 b5 a0 a1 a2 a3 a4 a5 hc hv))⟩
  · cases hc : (ok b0 && ok b1 && ok b2 && ok b3 && ok b4 && ok b5)
    · exact ⟨false, false, scan6_no1 a0 a1 a2 a3 a4 a5 b0 b1 b2 b3 b4 b5 (sh_as a0 a1 a2 a3 a4 a5 hv) (sh_as b0 b1 b2 b3 b4 b5 hc), ican6_any a0 a1 a2 a3 a4 a5 b0 b1 b2 b3 b4 b5 false false (Lib.hid (iisop_n0 b0 b1 b2 b3 b4 b5 a0 a1 a2 a3 a4 a5 hc))⟩
    · obtain ⟨p, rfl, rfl, rfl, rfl, rfl, rfl⟩ := sheet_bits a0 a1 a2 a3 a4 a5 hv
      obtain ⟨s, rfl, rfl, rfl, rfl, rfl, rfl⟩ := sheet_bits b0 b1 b2 b3 b4 b5 hc
      exact ⟨_, true, scan6_yes p s, ican6_yes p s⟩
end Go.Proofs.Ytbmfjcmlgndofaa
