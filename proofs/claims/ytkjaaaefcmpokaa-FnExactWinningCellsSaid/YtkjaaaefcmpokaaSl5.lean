/- CONTRACTS: the model's spread. -/
import Derived.Test.YtkjaaaefcmpokaaSj5
import Derived.Deep.RegionHeld3
import Derived.Test.YtkjaaaefcmpokaaPa4
import Derived.WalkKit
import Derived.ProofKit
import Derived.OpenShut
import Derived.Lib.Hide
import Derived.WalkSpells
import Derived.Below
import Derived.BigQuiet
import Derived.LoopN
namespace Go.Proofs.Ytkjaaaefcmpokaa
open Go.ChangeShapes Go.WideShapes Go.ChangeAt Go.RowKit
set_option linter.unusedVariables false
set_option maxHeartbeats 4000000 in
theorem lspread_f (s p : Nat → Nat → Bool) (w : World) : Calls Try.prog 275 #[.agg #[.int .i64 (rowv (s 0)), .int .i64 (rowv (s 1)), .int .i64 (rowv (s 2)), .int .i64 (rowv (s 3)), .int .i64 (rowv (s 4)), .int .i64 (rowv (s 5))], .agg #[.int .i64 (rowv (p 0)), .int .i64 (rowv (p 1)), .int .i64 (rowv (p 2)), .int .i64 (rowv (p 3)), .int .i64 (rowv (p 4)), .int .i64 (rowv (p 5))]] w fun e w' => e = .returned (.agg #[.int .i64 (rowv (spd s p 0)), .int .i64 (rowv (spd s p 1)), .int .i64 (rowv (spd s p 2)), .int .i64 (rowv (spd s p 3)), .int .i64 (rowv (spd s p 4)), .int .i64 (rowv (spd s p 5))]) ∧ Below w.heap.size w w' := by
  go_enter Try.func275, Try.ntmps275
  go_wp2_with fail
  generalize hW : (World.alloc _ _ : World) = W0
  have hB0 : Below w.heap.size w W0 := by rw [← hW]; (repeat (first | exact Below.refl _ _ | assumption | refine Below.setCell ?_ (by first | (simp; done) | (simp; omega)) _ | refine Below.alloc ?_ (by first | (simp; done) | (simp; omega)) _ | refine Below.drew ?_))
  have qa : W0.heap[(w.heap.size : Nat)]? = some (o6 s) := by
    rw [← hW]
    repeat (first | (refine alloc_at ?_; first | (simp; done) | (simp; omega)) | refine drew_row ?_ | refine alloc_past ?_ | assumption)
  have qb : W0.heap[(w.heap.size + 1 : Nat)]? = some (o6 p) := by
    rw [← hW]
    repeat (first | (refine alloc_at ?_; first | (simp; done) | (simp; omega)) | refine drew_row ?_ | refine alloc_past ?_ | assumption)
  have qz : W0.heap[(w.heap.size + 2 : Nat)]? = some oz := by
    rw [← hW]
    repeat (first | (refine alloc_at ?_; first | (simp; done) | (simp; omega)) | refine drew_row ?_ | refine alloc_past ?_ | assumption)
  have K0 : KR 3 [(w.heap.size, o6 s), (w.heap.size + 1, o6 p), (w.heap.size + 2, oz)] w W0 := ⟨by simp [qa, qb, qz], by rw [← hW]; simp, hB0⟩
  clear hW hB0 qa qb qz
  refine (lcells_f p _).mono ?_
  rintro e W1 ⟨g, cap, rfl, ho, hb⟩
  have K1 := K0.far hb rfl
  have hg := (ho.lt g rfl).2
  have ho0 := own_mono ho (Nat.zero_le _)
  clear hb K0 ho
  obtain ⟨l, hl⟩ : ∃ l, l = bl p 36 := ⟨_, rfl⟩
  have hl36 : l.length ≤ 36 := by rw [hl]; exact bl_len p 36
  have HLm := Lib.hid (show ∀ c ∈ l, c.1 < 6 ∧ c.2 < 6 by rw [hl]; exact bl_lt p 36 (Nat.le_refl _))
  have HPf := Lib.hid (show spd s p = spo s l zf by rw [hl]; rfl)
  rw [← hl] at ho0 ⊢
  clear hl
  go_wp2_with fail
  have S0 : Hid (Rs5 w s p l g cap W1.heap.size 0 (W1.alloc oz)) := Lib.hid ⟨K1.al, ho0.alloc _, alloc_at rfl, K1.le, by simp, by omega⟩
  clear K1 ho0 hg
  generalize hgb : W1.heap.size = gb at S0 ⊢
  unfold oz at S0
  generalize (World.alloc _ _ : World) = W2 at S0 ⊢
  clear hgb
  go_loopw [7] (fun c wr => ∃ i : Nat, i ≤ l.length ∧ c = .int .i64 i ∧ Hid (Rs5 w s p l g cap gb i wr)) (fun c _ => l.length - (intOf c).toNat)
  case atStart => exact ⟨0, by omega, rfl, S0⟩
  case round =>
    obtain ⟨i, hi, rfl, HS⟩ := hrel
    by_cases hlt : i < l.length
    · have hlt' : (i : Int) < l.length := by omega
      have hi0 : (0 : Int) ≤ i := by omega
      have hi2 : i ≤ 36 := by omega
      obtain ⟨p1, p2⟩ := cv_at l i hlt
      have HD := Lib.hid (HS.out.below (M := wr.heap.size) (Below.refl _ _).drew rfl)
      have a1 := own_at HD.out.2.1 p1
      have a2 := own_at HD.out.2.1 p2
      clear p1 p2
      obtain ⟨m1, m2⟩ := HLm.out _ (List.getElem_mem hlt)
      have HF := Lib.hid (l2at_n s m1 m2)
      have HXr := Lib.hid (row_jf (spo s (l.take i) zf) (sf (l[i]).1 (l[i]).2 s))
      have HP := Lib.hid (fun (W : World) (h : Rs5 w s p l g cap gb i W) => h.put hlt)
      generalize l[i] = c at a1 a2 HF HP HXr
      obtain ⟨x, y⟩ := c
      dsimp only at HP HXr HF a1 a2
      have HX := Lib.hid (l2or_any (rowv (spo s (l.take i) zf 0)) (rowv (spo s (l.take i) zf 1)) (rowv (spo s (l.take i) zf 2)) (rowv (spo s (l.take i) zf 3)) (rowv (spo s (l.take i) zf 4)) (rowv (spo s (l.take i) zf 5)) (rowv (sf x y s 0)) (rowv (sf x y s 1)) (rowv (sf x y s 2)) (rowv (sf x y s 3)) (rowv (sf x y s 4)) (rowv (sf x y s 5)))
      simp only [HXr.out] at HX
      go_wp2_with fail
      have d_c := Rs5_c HD.out
      have s_c := fun j => cell_of_row wr.drew _ j _ _ _ (HD.out.1.row (g := w.heap.size) (o := o6 s) (by simp))
      set_option maxRecDepth 8000 in
      go_region_with (first | (go_at_call 153; with_reducible refine (HF.out _).mono ?_; rintro e w' ⟨rfl, hb'⟩; have HE := Lib.hid (HD.out.below hb' rfl); have e_c := Rs5_c HE.out) | (go_at_call 152; with_reducible refine (HX.out _).mono ?_; rintro e w' ⟨rfl, hb'⟩; have HG := Lib.hid (HE.out.below hb' rfl); clear e_c d_c; have b_f := Rs5_f HG.out; have b_c := Rs5_c HG.out))
      all_goals
        have HI2 := Lib.hid (HP.out _ HG.out)
        clear HG HE HD b_f b_c s_c a1 a2
        go_wp2_with fail
        go_roundw
        case rel => exact ⟨i + 1, by omega, by go_num, HI2⟩
        case measure => simp [intOf]; omega
    · obtain rfl : i = l.length := by omega
      have hgb3 := HS.out.2.2.2.1
      have d_c := Rs5_c HS.out
      rw [List.take_length] at d_c
      have z_c := fun j => cell_of_row wr _ j _ _ _ (HS.out.1.row (g := w.heap.size + 2) (o := oz) (by simp))
      have z_f := fun j => frozen_of_row wr _ j _ _ (HS.out.1.row (g := w.heap.size + 2) (o := oz) (by simp))
      go_wp2_with fail
      have qx : ((((((wr.setCell ⟨w.heap.size + 2, 0, none⟩ (.int .i64 (rowv (spo s l zf 0)))).setCell ⟨w.heap.size + 2, 1, none⟩ (.int .i64 (rowv (spo s l zf 1)))).setCell ⟨w.heap.size + 2, 2, none⟩ (.int .i64 (rowv (spo s l zf 2)))).setCell ⟨w.heap.size + 2, 3, none⟩ (.int .i64 (rowv (spo s l zf 3)))).setCell ⟨w.heap.size + 2, 4, none⟩ (.int .i64 (rowv (spo s l zf 4)))).setCell ⟨w.heap.size + 2, 5, none⟩ (.int .i64 (rowv (spo s l zf 5)))).heap[w.heap.size + 2]? = _ := set6a _ _ _ _ _ _ (HS.out.1.row (g := w.heap.size + 2) (o := oz) (by simp))
      have hB := below6 (g := w.heap.size + 2) (v0 := .int .i64 (rowv (spo s l zf 0))) (v1 := .int .i64 (rowv (spo s l zf 1))) (v2 := .int .i64 (rowv (spo s l zf 2))) (v3 := .int .i64 (rowv (spo s l zf 3))) (v4 := .int .i64 (rowv (spo s l zf 4))) (v5 := .int .i64 (rowv (spo s l zf 5))) HS.out.1.2.2 (by omega)
      generalize (World.setCell _ _ _ : World) = X at qx hB ⊢
      have x_c := fun j => cell_of_row X _ j _ _ _ qx
      rw [HPf.out]
      exact bodyPost_ret (v := .agg #[.int .i64 (rowv (spo s l zf 0)), .int .i64 (rowv (spo s l zf 1)), .int .i64 (rowv (spo s l zf 2)), .int .i64 (rowv (spo s l zf 3)), .int .i64 (rowv (spo s l zf 4)), .int .i64 (rowv (spo s l zf 5))]) (by simp [results, Try.results275, go_sem, x_c]) rfl ⟨rfl, hB⟩
end Go.Proofs.Ytkjaaaefcmpokaa
