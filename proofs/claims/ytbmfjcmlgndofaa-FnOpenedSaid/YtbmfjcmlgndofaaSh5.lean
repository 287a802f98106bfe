/- CONTRACTS: the model's shrinking. -/
import Derived.Test.YtbmfjcmlgndofaaSj5
import Derived.Test.YtbmfjcmlgndofaaTq
import Derived.Test.YtbmfjcmlgndofaaSe
import Derived.Deep.RegionHeld3
import Derived.WalkKit
import Derived.ProofKit
import Derived.OpenShut
import Derived.Lib.Hide
import Derived.WalkSpells
import Derived.Below
import Derived.BigQuiet
import Derived.LoopN
namespace Go.Proofs.Ytbmfjcmlgndofaa
open Go.ChangeShapes Go.WideShapes Go.ChangeAt Go.RowKit
set_option linter.unusedVariables false
def si5 : Nat → Nat → Nat × Nat := fun a b => (a, b)
theorem only_i {y x : Nat} (hx : x < 6) : Only si5 y x y x := ⟨rfl, fun a b _ hb => ⟨hb, fun e => by simp only [si5, Prod.mk.injEq] at e; exact e⟩⟩
/-- Midway in a shrinking: n cells are looked at. -/
def Th5 (w : World) (s p : Nat → Nat → Bool) (n : Nat) (W : World) : Prop :=
  KR 3 [(w.heap.size, o6 s), (w.heap.size + 1, o6 p), (w.heap.size + 2, oz)] w W ∧ W.heap[w.heap.size + 3]? = some (o6 (hv si5 (shr s p) n)) ∧ w.heap.size + 4 ≤ W.heap.size
theorem Th5.below {w W W' : World} {s p : Nat → Nat → Bool} {n M : Nat} (h : Th5 w s p n W) (hb : Below M W W') (hM : M = W.heap.size) : Th5 w s p n W' :=
  ⟨h.1.far hb hM, rowk h.2.1 hb hM, Nat.le_trans h.2.2 hb.size⟩
theorem Th5.white {w W : World} {s p : Nat → Nat → Bool} {y x : Nat} (h : Th5 w s p (6 * y + x) W) (hx : x < 6) (hf : shr s p y x = false) : Th5 w s p (6 * y + x + 1) W := by
  refine ⟨h.1, ?_, h.2.2⟩
  have e : o6 (hv si5 (shr s p) (6 * y + x + 1)) = o6 (hv si5 (shr s p) (6 * y + x)) := by
    unfold o6
    rw [hv_row_none hx (only_i hx) hf (show 0 < 6 by decide), hv_row_none hx (only_i hx) hf (show 1 < 6 by decide), hv_row_none hx (only_i hx) hf (show 2 < 6 by decide), hv_row_none hx (only_i hx) hf (show 3 < 6 by decide), hv_row_none hx (only_i hx) hf (show 4 < 6 by decide), hv_row_none hx (only_i hx) hf (show 5 < 6 by decide)]
  rw [e]
  exact h.2.1
theorem Th5.black {w W : World} {s p : Nat → Nat → Bool} {n q : Nat} (h : Th5 w s p n W) : Th5 w s p q ((((((W.setCell ⟨w.heap.size + 3, 0, none⟩ (.int .i64 (rowv (hv si5 (shr s p) q 0)))).setCell ⟨w.heap.size + 3, 1, none⟩ (.int .i64 (rowv (hv si5 (shr s p) q 1)))).setCell ⟨w.heap.size + 3, 2, none⟩ (.int .i64 (rowv (hv si5 (shr s p) q 2)))).setCell ⟨w.heap.size + 3, 3, none⟩ (.int .i64 (rowv (hv si5 (shr s p) q 3)))).setCell ⟨w.heap.size + 3, 4, none⟩ (.int .i64 (rowv (hv si5 (shr s p) q 4)))).setCell ⟨w.heap.size + 3, 5, none⟩ (.int .i64 (rowv (hv si5 (shr s p) q 5)))) := by
  have hg := Nat.le_refl (w.heap.size + 3)
  exact ⟨h.1.set hg |>.set hg |>.set hg |>.set hg |>.set hg |>.set hg, set6a _ _ _ _ _ _ h.2.1, by simpa using h.2.2⟩
theorem Th5_s {w U : World} {s p : Nat → Nat → Bool} {n : Nat} (h : Th5 w s p n U) : ∀ j, U.cell? ⟨w.heap.size, j, none⟩ = (#[.int .i64 (rowv (s 0)), .int .i64 (rowv (s 1)), .int .i64 (rowv (s 2)), .int .i64 (rowv (s 3)), .int .i64 (rowv (s 4)), .int .i64 (rowv (s 5))] : Array Value)[j]? := fun j => cell_of_row U _ j _ _ _ (h.1.row (g := w.heap.size) (o := o6 s) (by simp))
theorem Th5_p {w U : World} {s p : Nat → Nat → Bool} {n : Nat} (h : Th5 w s p n U) : ∀ j, U.cell? ⟨w.heap.size + 1, j, none⟩ = (#[.int .i64 (rowv (p 0)), .int .i64 (rowv (p 1)), .int .i64 (rowv (p 2)), .int .i64 (rowv (p 3)), .int .i64 (rowv (p 4)), .int .i64 (rowv (p 5))] : Array Value)[j]? := fun j => cell_of_row U _ j _ _ _ (h.1.row (g := w.heap.size + 1) (o := o6 p) (by simp))
theorem l2part_f (s p : Nat → Nat → Bool) {x y : Nat} (hx : x < 6) (hy : y < 6) (w : World) : Calls Try.prog 213 #[.agg #[.int .i64 (rowv (sf x y p 0)), .int .i64 (rowv (sf x y p 1)), .int .i64 (rowv (sf x y p 2)), .int .i64 (rowv (sf x y p 3)), .int .i64 (rowv (sf x y p 4)), .int .i64 (rowv (sf x y p 5))], .agg #[.int .i64 (rowv (s 0)), .int .i64 (rowv (s 1)), .int .i64 (rowv (s 2)), .int .i64 (rowv (s 3)), .int .i64 (rowv (s 4)), .int .i64 (rowv (s 5))]] w fun e w' => e = .returned (.bool (shr s p y x)) ∧ Below w.heap.size w w' := by
  have H := l2part_any (rowv (sf x y p 0)) (rowv (sf x y p 1)) (rowv (sf x y p 2)) (rowv (sf x y p 3)) (rowv (sf x y p 4)) (rowv (sf x y p 5)) (rowv (s 0)) (rowv (s 1)) (rowv (s 2)) (rowv (s 3)) (rowv (s 4)) (rowv (s 5)) w
  rw [part_bit s p hx hy] at H
  exact H
theorem l2shift_n (p : Nat → Nat → Bool) {x y : Nat} (hx : x < 6) (hy : y < 6) (w : World) : Calls Try.prog 220 #[.agg #[.int .i64 (rowv (p 0)), .int .i64 (rowv (p 1)), .int .i64 (rowv (p 2)), .int .i64 (rowv (p 3)), .int .i64 (rowv (p 4)), .int .i64 (rowv (p 5))], .int .i64 (x : Int), .int .i64 (y : Int)] w fun e w' => e = .returned (.agg #[.int .i64 (rowv (sf x y p 0)), .int .i64 (rowv (sf x y p 1)), .int .i64 (rowv (sf x y p 2)), .int .i64 (rowv (sf x y p 3)), .int .i64 (rowv (sf x y p 4)), .int .i64 (rowv (sf x y p 5))]) ∧ Below w.heap.size w w' := l2shift_f p (x : Int) (y : Int) (WalkArith.wf_i64 (by omega)) (WalkArith.wf_i64 (by omega)) hx hy (by omega) (by omega) w
set_option maxHeartbeats 1000000 in
theorem lshrink_f (s p : Nat → Nat → Bool) (w : World) : Calls Try.prog 174 #[.agg #[.int .i64 (rowv (s 0)), .int .i64 (rowv (s 1)), .int .i64 (rowv (s 2)), .int .i64 (rowv (s 3)), .int .i64 (rowv (s 4)), .int .i64 (rowv (s 5))], .agg #[.int .i64 (rowv (p 0)), .int .i64 (rowv (p 1)), .int .i64 (rowv (p 2)), .int .i64 (rowv (p 3)), .int .i64 (rowv (p 4)), .int .i64 (rowv (p 5))]] w fun e w' => e = .returned (.agg #[.int .i64 (rowv (shr s p 0)), .int .i64 (rowv (shr s p 1)), .int .i64 (rowv (shr s p 2)), .int .i64 (rowv (shr s p 3)), .int .i64 (rowv (shr s p 4)), .int .i64 (rowv (shr s p 5))]) ∧ Below w.heap.size w w' := by
  go_enter Try.func174, Try.ntmps174
  go_wp2_with fail
  generalize hW : (World.alloc _ _ : World) = W0
  have S0 : Hid (Th5 w s p 0 W0) := Lib.hid (by
    have e : o6 (hv si5 (shr s p) 0) = oz := by
      unfold o6 oz
      rw [hv_zero si5 (shr s p) 0, hv_zero si5 (shr s p) 1, hv_zero si5 (shr s p) 2, hv_zero si5 (shr s p) 3, hv_zero si5 (shr s p) 4, hv_zero si5 (shr s p) 5]
    refine ⟨⟨?_, by rw [← hW]; simp, by rw [← hW]; (repeat (first | exact Below.refl _ _ | assumption | refine Below.setCell ?_ (by first | (simp; done) | (simp; omega)) _ | refine Below.alloc ?_ (by first | (simp; done) | (simp; omega)) _ | refine Below.drew ?_))⟩, ?_, by rw [← hW]; simp⟩
    · intro q hq
      simp only [List.mem_cons, List.not_mem_nil, or_false] at hq
      rcases hq with rfl | rfl | rfl
      · refine ⟨by simp, ?_⟩
        rw [← hW]
        repeat (first | (refine alloc_at ?_; first | (simp; done) | (simp; omega)) | refine drew_row ?_ | refine alloc_past ?_ | assumption)
      · refine ⟨by simp, ?_⟩
        rw [← hW]
        repeat (first | (refine alloc_at ?_; first | (simp; done) | (simp; omega)) | refine drew_row ?_ | refine alloc_past ?_ | assumption)
      · refine ⟨by simp, ?_⟩
        rw [← hW]
        repeat (first | (refine alloc_at ?_; first | (simp; done) | (simp; omega)) | refine drew_row ?_ | refine alloc_past ?_ | assumption)
    · rw [e, ← hW]
      repeat (first | (refine alloc_at ?_; first | (simp; done) | (simp; omega)) | refine drew_row ?_ | refine alloc_past ?_ | assumption))
  clear hW
  go_loopw [6] (fun y wr => ∃ j : Nat, j ≤ 6 ∧ y = .int .i64 j ∧ Hid (Th5 w s p (6 * j) wr)) (fun y _ => 6 - (intOf y).toNat)
  case atStart => exact ⟨0, by omega, rfl, S0⟩
  case round =>
    obtain ⟨j, hj, rfl, HS⟩ := hrel
    by_cases hlt : j < 6
    · have hlt' : (j : Int) < 6 := by omega
      have hlt2 : decide ((j : Int) < 6) = true := decide_eq_true hlt'
      go_wp2_with fail
      try rw [hlt2]
      clear hlt2
      go_loopw [7] (fun x wr2 => ∃ i : Nat, i ≤ 6 ∧ x = .int .i64 i ∧ Hid (Th5 w s p (6 * j + i) wr2)) (fun x _ => 6 - (intOf x).toNat)
      case atStart => exact ⟨0, by omega, rfl, HS⟩
      case round =>
        obtain ⟨i, hi, rfl, HI⟩ := hrel
        by_cases hli : i < 6
        · have hli' : (i : Int) < 6 := by omega
          have HG := Lib.hid (l2shift_n p hli hlt)
          have HP := Lib.hid (l2part_f s p hli hlt)
          go_wp2_with fail
          have HD := Lib.hid (HI.out.below (M := wr.heap.size) (Below.refl _ _).drew rfl)
          clear HI
          have s_c := Th5_s HD.out
          have p_c := Th5_p HD.out
          go_region_with (first | (go_at_call 220; with_reducible refine (HG.out _).mono ?_; rintro e w' ⟨rfl, hb'⟩; have HE := Lib.hid (HD.out.below hb' rfl); have e_c := Th5_s HE.out) | (go_at_call 213; with_reducible refine (HP.out _).mono ?_; rintro e w2 ⟨rfl, hb2⟩; have HJ := Lib.hid (HE.out.below hb2 rfl)))
          all_goals
            clear s_c p_c e_c HG HP HD HE hb' hb2
            obtain ⟨u, hu⟩ : ∃ u, u = shr s p j i := ⟨_, rfl⟩
            rw [← hu]
            cases u
            · go_wp2_with fail
              go_roundw
              case rel => exact ⟨i + 1, by omega, by go_num, Lib.hid (HJ.out.white hli hu.symm)⟩
              case measure => simp [intOf]; omega
            · have HF := Lib.hid (flip_hv hli hlt hli (only_i hli) hu.symm)
              have c_c := fun j => cell_of_row w2 _ j _ _ _ HJ.out.2.1
              clear hu
              go_wp2_with fail
              refine (HF.out _).mono ?_
              rintro e W3 ⟨rfl, hb⟩
              have HK := Lib.hid (HJ.out.below hb rfl)
              clear hb c_c HF HJ
              have d_c := fun j => cell_of_row W3 _ j _ _ _ HK.out.2.1
              have d_f := fun j => frozen_of_row W3 _ j _ _ HK.out.2.1
              go_wp2_with fail
              go_roundw
              case rel => exact ⟨i + 1, by omega, by go_num, Lib.hid HK.out.black⟩
              case measure => simp [intOf]; omega
        · go_wp2_with fail
          go_roundw
          case rel => exact ⟨j + 1, by omega, by go_num, Lib.hid (by have : i = 6 := by omega
                                                                     subst this; exact HI.out)⟩
          case measure => simp [intOf]; omega
    · obtain rfl : j = 6 := by omega
      have z_c := fun j => cell_of_row wr _ j _ _ _ (HS.out.1.row (g := w.heap.size + 2) (o := oz) (by simp))
      have z_f := fun j => frozen_of_row wr _ j _ _ (HS.out.1.row (g := w.heap.size + 2) (o := oz) (by simp))
      have t_c := fun j => cell_of_row wr _ j _ _ _ HS.out.2.1
      have HT := Lib.hid HS.out.1.2.2
      clear HS
      go_wp2_with fail
      have E : ∀ a, a < 6 → rowv (hv si5 (shr s p) 36 a) = rowv (shr s p a) := fun a ha => hv_end (shr s p) (fun a b ha hb => ⟨ha, hb⟩) ha
      refine bodyPost_ret (v := .agg #[.int .i64 (rowv (hv si5 (shr s p) 36 0)), .int .i64 (rowv (hv si5 (shr s p) 36 1)), .int .i64 (rowv (hv si5 (shr s p) 36 2)), .int .i64 (rowv (hv si5 (shr s p) 36 3)), .int .i64 (rowv (hv si5 (shr s p) 36 4)), .int .i64 (rowv (hv si5 (shr s p) 36 5))]) (by simp [results, Try.results174, go_sem, z_c]) rfl ⟨by rw [E 0 (by decide), E 1 (by decide), E 2 (by decide), E 3 (by decide), E 4 (by decide), E 5 (by decide)], ?_⟩
      exact below6 HT.out (by omega)
end Go.Proofs.Ytbmfjcmlgndofaa
