/- CONTRACTS: the model's ReflectSheet. -/
import Derived.Test.YtjhokdccgachcaaPm5
import Derived.RegionTactic
import Derived.StillTailTactics
import Derived.WalkKit
import Derived.ProofKit
import Derived.OpenShut
import Derived.Lib.Hide
import Derived.WalkSpells
import Derived.Below
import Derived.BigQuiet
import Derived.LoopN
namespace Go.Proofs.Ytjhokdccgachcaa
open Go.ChangeShapes Go.WideShapes Go.ChangeAt Go.RowKit
set_option linter.unusedVariables false
theorem lflip_f (F : Fn6) {x y : Nat} (hx : x < 6) (hy : y < 6) (w : World) : Calls Try.prog 102 #[.agg #[.int .i64 (rowv (F 0)), .int .i64 (rowv (F 1)), .int .i64 (rowv (F 2)), .int .i64 (rowv (F 3)), .int .i64 (rowv (F 4)), .int .i64 (rowv (F 5))], .int .i64 (x : Int), .int .i64 (y : Int)] w fun e w' => e = .returned (.agg #[.int .i64 (rowv (sg x y F 0)), .int .i64 (rowv (sg x y F 1)), .int .i64 (rowv (sg x y F 2)), .int .i64 (rowv (sg x y F 3)), .int .i64 (rowv (sg x y F 4)), .int .i64 (rowv (sg x y F 5))]) ∧ Below w.heap.size w w' := by
  have h := l2flip_any (rowv (F 0)) (rowv (F 1)) (rowv (F 2)) (rowv (F 3)) (rowv (F 4)) (rowv (F 5)) (x : Int) (y : Int) ⟨by omega, by omega⟩ ⟨by omega, by omega⟩ w
  have e0 : rowv (sg x y F 0) = if (y : Int) = 0 then bits .xor .i64 (rowv (F 0)) (wrap64 (2 ^ ((x : Int)).toNat)) else rowv (F 0) := row_sg F hx y 0
  have e1 : rowv (sg x y F 1) = if (y : Int) = 1 then bits .xor .i64 (rowv (F 1)) (wrap64 (2 ^ ((x : Int)).toNat)) else rowv (F 1) := row_sg F hx y 1
  have e2 : rowv (sg x y F 2) = if (y : Int) = 2 then bits .xor .i64 (rowv (F 2)) (wrap64 (2 ^ ((x : Int)).toNat)) else rowv (F 2) := row_sg F hx y 2
  have e3 : rowv (sg x y F 3) = if (y : Int) = 3 then bits .xor .i64 (rowv (F 3)) (wrap64 (2 ^ ((x : Int)).toNat)) else rowv (F 3) := row_sg F hx y 3
  have e4 : rowv (sg x y F 4) = if (y : Int) = 4 then bits .xor .i64 (rowv (F 4)) (wrap64 (2 ^ ((x : Int)).toNat)) else rowv (F 4) := row_sg F hx y 4
  have e5 : rowv (sg x y F 5) = if (y : Int) = 5 then bits .xor .i64 (rowv (F 5)) (wrap64 (2 ^ ((x : Int)).toNat)) else rowv (F 5) := row_sg F hx y 5
  rw [← e0, ← e1, ← e2, ← e3, ← e4, ← e5] at h
  exact h
theorem lmod_neg {x : Nat} (hx : x < 6) (w : World) : Calls Try.prog 103 #[.int .i64 (-(x : Int))] w fun e w' => e = .returned (.int .i64 (((6 - x) % 6 : Nat) : Int)) ∧ w' = w := by
  have h := l2mod_any (-(x : Int)) (WalkArith.wf_i64 (by omega)) w
  rw [show (-(x : Int)) % 6 = (((6 - x) % 6 : Nat) : Int) by omega] at h
  exact h
/-- Midway: the cells in a row of their own; what is made so far in the block gb. -/
def Rf5 (w : World) (s : Fn6) (l : List (Nat × Nat)) (g cap gb : Nat) (F : Fn6) (W : World) : Prop :=
  KR 2 [(w.heap.size, o6 s), (w.heap.size + 1, oz)] w W ∧ W.ownsRow 0 91 2 (.slice (some ⟨g, 0, none⟩) l.length cap) l.length (cv l) ∧ W.heap[gb]? = some (o6 F) ∧ w.heap.size + 2 ≤ gb ∧ gb < W.heap.size ∧ g ≠ gb
theorem Rf5.below {w W W' : World} {s F : Fn6} {l : List (Nat × Nat)} {g cap gb M : Nat} (h : Rf5 w s l g cap gb F W) (hb : Below M W W') (hM : M = W.heap.size) : Rf5 w s l g cap gb F W' := by
  obtain ⟨h1, h2, h3, h4, h5, h6⟩ := h
  exact ⟨h1.far hb hM, h2.kept (grown_below hb hM) (.inr (by simp [Value.ownBlock])), rowk h3 hb hM, h4, Nat.lt_of_lt_of_le h5 hb.size, h6⟩
theorem Rf5.put {w W : World} {s F : Fn6} {l : List (Nat × Nat)} {g cap gb : Nat} (G : Fn6) (h : Rf5 w s l g cap gb F W) : Rf5 w s l g cap gb G ((((((W.setCell ⟨gb, 0, none⟩ (.int .i64 (rowv (G 0)))).setCell ⟨gb, 1, none⟩ (.int .i64 (rowv (G 1)))).setCell ⟨gb, 2, none⟩ (.int .i64 (rowv (G 2)))).setCell ⟨gb, 3, none⟩ (.int .i64 (rowv (G 3)))).setCell ⟨gb, 4, none⟩ (.int .i64 (rowv (G 4)))).setCell ⟨gb, 5, none⟩ (.int .i64 (rowv (G 5)))) := by
  obtain ⟨h1, h2, h3, h4, h5, h6⟩ := h
  exact ⟨h1.set h4 |>.set h4 |>.set h4 |>.set h4 |>.set h4 |>.set h4, own_set6 _ _ _ _ _ _ h2 h6, set6a _ _ _ _ _ _ h3, h4, by simpa using h5, h6⟩
theorem Rf5_c {w U : World} {s F : Fn6} {l : List (Nat × Nat)} {g cap gb : Nat} (h : Rf5 w s l g cap gb F U) : ∀ j, U.cell? ⟨gb, j, none⟩ = (#[.int .i64 (rowv (F 0)), .int .i64 (rowv (F 1)), .int .i64 (rowv (F 2)), .int .i64 (rowv (F 3)), .int .i64 (rowv (F 4)), .int .i64 (rowv (F 5))] : Array Value)[j]? := fun j => cell_of_row U _ j _ _ _ h.2.2.1
theorem Rf5_f {w U : World} {s F : Fn6} {l : List (Nat × Nat)} {g cap gb : Nat} (h : Rf5 w s l g cap gb F U) : ∀ j, U.frozen? ⟨gb, j, none⟩ = false := fun j => frozen_of_row U _ j _ _ h.2.2.1
theorem refl_row (s : Fn6) {j : Nat} (hj : j < 6) : rowv (rfo (bl s 36) zf j) = rowv (rf s j) := rowv_congr fun i hi => by
  rw [rfo_key s 36 (Nat.le_refl _) j i hj hi]
  have : 6 * ((6 - j) % 6) + (6 - i) % 6 < 36 := by omega
  simp [this]
set_option maxRecDepth 20000 in
set_option maxHeartbeats 1000000 in
theorem sre_yes (s : Fn6) (K0 : Hid (∀ w, Calls Try.prog 91 #[.agg #[.int .i64 (rowv (s 0)), .int .i64 (rowv (s 1)), .int .i64 (rowv (s 2)), .int .i64 (rowv (s 3)), .int .i64 (rowv (s 4)), .int .i64 (rowv (s 5))]] w fun e w' => e = .returned (.bool true) ∧ Below w.heap.size w w')) (w : World) : Calls Try.prog 33 #[.agg #[.int .i64 (rowv (s 0)), .int .i64 (rowv (s 1)), .int .i64 (rowv (s 2)), .int .i64 (rowv (s 3)), .int .i64 (rowv (s 4)), .int .i64 (rowv (s 5))]] w fun e w' => e = .returned (.tuple #[.agg #[.int .i64 (rowv (rf s 0)), .int .i64 (rowv (rf s 1)), .int .i64 (rowv (rf s 2)), .int .i64 (rowv (rf s 3)), .int .i64 (rowv (rf s 4)), .int .i64 (rowv (rf s 5))], .bool true]) ∧ Below w.heap.size w w' := by
  go_enter Try.func33, Try.ntmps33
  go_wp2_with fail
  generalize hW : (World.alloc _ _ : World) = W0
  have qa : W0.heap[(w.heap.size : Nat)]? = some (o6 s) := by
    rw [← hW]
    repeat (first | (refine alloc_at ?_; first | (simp; done) | (simp; omega)) | refine drew_row ?_ | refine alloc_past ?_ | assumption)
  have qz : W0.heap[(w.heap.size + 1 : Nat)]? = some oz := by
    rw [← hW]
    repeat (first | (refine alloc_at ?_; first | (simp; done) | (simp; omega)) | refine drew_row ?_ | refine alloc_past ?_ | assumption)
  have K : KR 2 [(w.heap.size, o6 s), (w.heap.size + 1, oz)] w W0 := ⟨by simp [qa, qz], by rw [← hW]; simp, by rw [← hW]; (repeat (first | exact Below.refl _ _ | assumption | refine Below.setCell ?_ (by first | (simp; done) | (simp; omega)) _ | refine Below.alloc ?_ (by first | (simp; done) | (simp; omega)) _ | refine Below.drew ?_))⟩
  clear hW qa qz
  refine (K0.out _).mono ?_
  rintro e V0 ⟨rfl, hb⟩
  have K := K.far hb rfl
  have s_c := fun j => cell_of_row V0 _ j _ _ _ (K.row (g := w.heap.size) (o := o6 s) (by simp))
  clear hb K0
  go_wp2_with fail
  refine (lcells_f s _).mono ?_
  rintro e W1 ⟨g, cap, rfl, ho, hb⟩
  have K1 := K.far hb rfl
  have hg := (ho.lt g rfl).2
  have ho0 := own_mono ho (Nat.zero_le _)
  clear hb K ho s_c
  obtain ⟨l, hl⟩ : ∃ l, l = bl s 36 := ⟨_, rfl⟩
  have hl36 : l.length ≤ 36 := by rw [hl]; exact bl_len s 36
  have HLm := Lib.hid (show ∀ c ∈ l, c.1 < 6 ∧ c.2 < 6 by rw [hl]; exact bl_lt s 36 (Nat.le_refl _))
  have HPf := Lib.hid (show ∀ j, j < 6 → rowv (rf s j) = rowv (rfo l zf j) by rw [hl]; exact fun j hj => (refl_row s hj).symm)
  rw [← hl] at ho0 ⊢
  clear hl
  go_wp2_with fail
  have S0 : Hid (Rf5 w s l g cap W1.heap.size (rfo (l.take 0) zf) (W1.alloc oz)) := Lib.hid ⟨K1.al, ho0.alloc _, alloc_at rfl, K1.le, by simp, by omega⟩
  clear K1 ho0 hg
  generalize hgb : W1.heap.size = gb at S0 ⊢
  unfold oz at S0
  generalize (World.alloc _ _ : World) = W2 at S0 ⊢
  clear hgb
  go_loopw [6] (fun c wr => ∃ i : Nat, i ≤ l.length ∧ c = .int .i64 i ∧ Hid (Rf5 w s l g cap gb (rfo (l.take i) zf) wr)) (fun c _ => l.length - (intOf c).toNat)
  case atStart => exact ⟨0, by omega, rfl, S0⟩
  case round =>
    obtain ⟨i, hi, rfl, HS⟩ := hrel
    by_cases hlt : i < l.length
    · have hlt' : (i : Int) < l.length := by omega
      have hi0 : (0 : Int) ≤ i := by omega
      have hi2 : i ≤ 36 := by omega
      obtain ⟨p1, p2⟩ := cv_at l i hlt
      have HD := Lib.hid (HS.out.below (M := wr.heap.size) (Below.refl _ _).drew rfl)
      have a1 := own_at HD.out.2.1 p1
      have a2 := own_at HD.out.2.1 p2
      clear p1 p2
      obtain ⟨m1, m2⟩ := HLm.out _ (List.getElem_mem hlt)
      have HE := Lib.hid (rfo_succ l zf hlt)
      generalize rfo (l.take i) zf = F at HD HE HS
      generalize l[i] = c at a1 a2 HE m1 m2
      obtain ⟨x, y⟩ := c
      dsimp only at HE a1 a2 m1 m2
      have HM1 := Lib.hid (lmod_neg m1)
      have HM2 := Lib.hid (lmod_neg m2)
      have HF := Lib.hid (lflip_f F (x := (6 - x) % 6) (y := (6 - y) % 6) (Nat.mod_lt _ (by decide)) (Nat.mod_lt _ (by decide)))
      have w1 : IntKind.i64.wrap (-(x : Int)) = -(x : Int) := by rcases six_n m1 with h | h | h | h | h | h <;> (rw [h]; decide +kernel)
      have w2 : IntKind.i64.wrap (-(y : Int)) = -(y : Int) := by rcases six_n m2 with h | h | h | h | h | h <;> (rw [h]; decide +kernel)
      generalize (6 - x) % 6 = u at HM1 HF HE
      generalize (6 - y) % 6 = v at HM2 HF HE
      go_wp2_with fail
      have d_c := Rf5_c HD.out
      refine wp_region_still_tail 15 (by kernel_rfl) (by kernel_rfl) ?_
      simp only [List.take_succ_cons, List.take_zero, List.drop_succ_cons, List.drop_zero]
      repeat still_step
      still_call (HM1.out _)
      repeat still_step
      still_call (HM2.out _)
      repeat still_step
      refine wpStill_nil ?_
      change wpList _ _ _ _ _ wr.drew
      go_wp2_with fail
      refine (HF.out _).mono ?_
      rintro e w2 ⟨rfl, hb'⟩
      have HG := Lib.hid (HD.out.below hb' rfl)
      clear d_c hb' HD a1 a2
      have b_f := Rf5_f HG.out
      have b_c := Rf5_c HG.out
      go_wp2_with fail
      have HI2 := Lib.hid (HG.out.put (sg u v F))
      clear HG b_f b_c
      go_roundw
      case rel => exact ⟨i + 1, by omega, by go_num, by rw [HE.out]; exact HI2⟩
      case measure => simp [intOf]; omega
    · obtain rfl : i = l.length := by omega
      rw [List.take_length] at HS
      have d_c := Rf5_c HS.out
      have z_c : ∀ j, wr.cell? ⟨w.heap.size + 1, j, none⟩ = (#[.int .i64 0, .int .i64 0, .int .i64 0, .int .i64 0, .int .i64 0, .int .i64 0] : Array Value)[j]? := oz_c (HS.out.1.row (g := w.heap.size + 1) (o := oz) (by simp))
      have z_f : ∀ j, wr.frozen? ⟨w.heap.size + 1, j, none⟩ = false := oz_f (HS.out.1.row (g := w.heap.size + 1) (o := oz) (by simp))
      go_wp2_with fail
      rw [HPf.out 0 (by decide), HPf.out 1 (by decide), HPf.out 2 (by decide), HPf.out 3 (by decide), HPf.out 4 (by decide), HPf.out 5 (by decide)]
      refine bodyPost_ret (v := .tuple #[.agg #[.int .i64 (rowv (rfo l zf 0)), .int .i64 (rowv (rfo l zf 1)), .int .i64 (rowv (rfo l zf 2)), .int .i64 (rowv (rfo l zf 3)), .int .i64 (rowv (rfo l zf 4)), .int .i64 (rowv (rfo l zf 5))], .bool true]) (by simp [results, Try.results33, go_sem, z_c]) rfl ⟨rfl, ?_⟩
      exact below6 HS.out.1.2.2 (by omega)
theorem refl_pair (a0 a1 a2 a3 a4 a5 : Int) : ∃ (r0 r1 r2 r3 r4 r5 : Int) (t : Bool), (∀ w, Calls Try.prog 33 #[.agg #[.int .i64 a0, .int .i64 a1, .int .i64 a2, .int .i64 a3, .int .i64 a4, .int .i64 a5]] w fun e w' => e = .returned (.tuple #[.agg #[.int .i64 r0, .int .i64 r1, .int .i64 r2, .int .i64 r3, .int .i64 r4, .int .i64 r5], .bool t]) ∧ Below w.heap.size w w') ∧ (∀ w, Calls Try.prog 34 #[.agg #[.int .i64 a0, .int .i64 a1, .int .i64 a2, .int .i64 a3, .int .i64 a4, .int .i64 a5]] w fun e w' => e = .returned (.tuple #[.agg #[.int .i64 r0, .int .i64 r1, .int .i64 r2, .int .i64 r3, .int .i64 r4, .int .i64 r5], .bool t]) ∧ Below w.heap.size w w') := by
  cases hv : (ok a0 && ok a1 && ok a2 && ok a3 && ok a4 && ok a5)
  · exact ⟨0, 0, 0, 0, 0, 0, false, fun w => sre_no0 a0 a1 a2 a3 a4 a5 (sh_as a0 a1 a2 a3 a4 a5 hv) w, fun w => ire_no0 a0 a1 a2 a3 a4 a5 (sh_ai a0 a1 a2 a3 a4 a5 hv) w⟩
  · have Hs := sh_as a0 a1 a2 a3 a4 a5 hv
    have Hi := sh_ai a0 a1 a2 a3 a4 a5 hv
    obtain ⟨s, rfl, rfl, rfl, rfl, rfl, rfl⟩ := sheet_bits a0 a1 a2 a3 a4 a5 hv
    exact ⟨_, _, _, _, _, _, true, fun w => sre_yes s Hs w, fun w => ire_yes (rowv (s 0)) (rowv (s 1)) (rowv (s 2)) (rowv (s 3)) (rowv (s 4)) (rowv (s 5)) _ _ _ _ _ _ Hi (Lib.hid (reflected_f s)) w⟩
end Go.Proofs.Ytjhokdccgachcaa
