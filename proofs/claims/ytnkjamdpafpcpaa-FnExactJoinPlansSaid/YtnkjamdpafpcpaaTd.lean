/- CONTRACTS: turned sheets in the code. -/
import Derived.Test.YtnkjamdpafpcpaaTc
import Derived.Test.YtnkjamdpafpcpaaRg
import Derived.Deep.RegionHeld3
import Derived.RegionTactic
import Derived.WalkKit
import Derived.ProofKit
import Derived.OpenShut
import Derived.Lib.Hide
import Derived.WalkSpells
import Derived.Below
import Derived.BigQuiet
import Derived.LoopN
namespace Go.Proofs.Ytnkjamdpafpcpaa
open Go.ChangeShapes Go.WideShapes Go.ChangeAt Go.RowKit
set_option linter.unusedVariables false
theorem has_f (f : Nat → Nat → Bool) {y x : Nat} (hy : y < 6) (hx : x < 6) (w : World) : Calls Try.prog 168 #[.agg #[.int .i64 (rowv (f 0)), .int .i64 (rowv (f 1)), .int .i64 (rowv (f 2)), .int .i64 (rowv (f 3)), .int .i64 (rowv (f 4)), .int .i64 (rowv (f 5))], .agg #[.int .i64 (x : Int), .int .i64 (y : Int)]] w fun e w' => e = .returned (.bool (f y x)) ∧ Below w.heap.size w w' := by
  have H := has_any (rowv (f 0)) (rowv (f 1)) (rowv (f 2)) (rowv (f 3)) (rowv (f 4)) (rowv (f 5)) (x : Int) (y : Int) ⟨by omega, by omega⟩ ⟨by omega, by omega⟩ w
  rw [cell_black f hy hx] at H
  exact H
theorem Tu.set {w W : World} {s : Nat → Nat → Nat × Nat} {f : Nat → Nat → Bool} {p q : Nat} {da : Nat} {v : Int} (h : Tu w s f p W) (hda : da < 6) (hv1 : v = rowv (hv s f q da)) (hv2 : ∀ r, r < 6 → r ≠ da → rowv (hv s f q r) = rowv (hv s f p r)) : Tu w s f q (W.setCell ⟨w.heap.size + 2, da, none⟩ (.int .i64 v)) := by
  obtain ⟨h1, h2, h3, h4, h5⟩ := h
  refine ⟨h1.setCell (by simp) _, ?_, ?_, ?_, by simpa using h5⟩
  · rw [Below.heap_setCell _ _ _ _ (show w.heap.size ≠ w.heap.size + 2 by omega)]; exact h2
  · rw [Below.heap_setCell _ _ _ _ (show w.heap.size + 1 ≠ w.heap.size + 2 by omega)]; exact h3
  · have e := heap_setCell_same W (w.heap.size + 2) da _ 28 (.int .i64 v) h4
    rw [e, hv1]
    rcases six_n hda with rfl | rfl | rfl | rfl | rfl | rfl
    · rw [hv2 1 (by decide) (by decide), hv2 2 (by decide) (by decide), hv2 3 (by decide) (by decide), hv2 4 (by decide) (by decide), hv2 5 (by decide) (by decide)]; rfl
    · rw [hv2 0 (by decide) (by decide), hv2 2 (by decide) (by decide), hv2 3 (by decide) (by decide), hv2 4 (by decide) (by decide), hv2 5 (by decide) (by decide)]; rfl
    · rw [hv2 0 (by decide) (by decide), hv2 1 (by decide) (by decide), hv2 3 (by decide) (by decide), hv2 4 (by decide) (by decide), hv2 5 (by decide) (by decide)]; rfl
    · rw [hv2 0 (by decide) (by decide), hv2 1 (by decide) (by decide), hv2 2 (by decide) (by decide), hv2 4 (by decide) (by decide), hv2 5 (by decide) (by decide)]; rfl
    · rw [hv2 0 (by decide) (by decide), hv2 1 (by decide) (by decide), hv2 2 (by decide) (by decide), hv2 3 (by decide) (by decide), hv2 5 (by decide) (by decide)]; rfl
    · rw [hv2 0 (by decide) (by decide), hv2 1 (by decide) (by decide), hv2 2 (by decide) (by decide), hv2 3 (by decide) (by decide), hv2 4 (by decide) (by decide)]; rfl
theorem Tu.row {w W : World} {s : Nat → Nat → Nat × Nat} {f : Nat → Nat → Bool} {y x da db : Nat} (h : Tu w s f (6 * y + x) W) (hx : x < 6) (hda : da < 6) (hdb : db < 6) (ho : Only s y x da db) (hf : f y x = true) : Tu w s f (6 * y + x + 1) (W.setCell ⟨w.heap.size + 2, da, none⟩ (.int .i64 (bits .or .i64 (rowv (hv s f (6 * y + x) da)) (wrap64 (2 ^ ((db : Int)).toNat))))) := by
  refine h.set hda ?_ fun r hr hne => ?_
  · rw [hv_row_or hx hdb ho hf hda, if_pos rfl]
  · rw [hv_row_or hx hdb ho hf hr, if_neg (by omega)]
theorem Tu.drew {w W : World} {s : Nat → Nat → Nat × Nat} {f : Nat → Nat → Bool} {p : Nat} (h : Tu w s f p W) : Tu w s f p W.drew := ⟨h.1.drew, h.2⟩
theorem Tu.alloc {w W : World} {s : Nat → Nat → Nat × Nat} {f : Nat → Nat → Bool} {p : Nat} (h : Tu w s f p W) (o : Obj) : Tu w s f p (W.alloc o) := by
  obtain ⟨h1, h2, h3, h4, h5⟩ := h
  exact ⟨h1.alloc (by omega) _, alloc_past h2, alloc_past h3, alloc_past h4, by simp; omega⟩
set_option maxHeartbeats 4000000 in
theorem turned_f (f : Nat → Nat → Bool) {k : Nat} (hk : k < 8) (w : World) : Calls Try.prog 233 #[.agg #[.int .i64 (rowv (f 0)), .int .i64 (rowv (f 1)), .int .i64 (rowv (f 2)), .int .i64 (rowv (f 3)), .int .i64 (rowv (f 4)), .int .i64 (rowv (f 5))], .int .i64 (k : Int)] w fun e w' => e = .returned (.agg #[.int .i64 (rowv (tf k f 0)), .int .i64 (rowv (tf k f 1)), .int .i64 (rowv (tf k f 2)), .int .i64 (rowv (tf k f 3)), .int .i64 (rowv (tf k f 4)), .int .i64 (rowv (tf k f 5))]) ∧ Below w.heap.size w w' := by
  go_enter Try.func233, Try.ntmps233
  go_wp2_with fail
  have S0 := Lib.hid (Tu.start w (src k) f)
  generalize (World.alloc _ _ : World) = W0 at S0 ⊢
  go_loopw [10] (fun y wr => ∃ j : Nat, j ≤ 6 ∧ y = .int .i64 j ∧ Hid (Tu w (src k) f (6 * j) wr)) (fun y _ => 6 - (intOf y).toNat)
  case atStart => exact ⟨0, by omega, rfl, S0⟩
  case round =>
    obtain ⟨j, hj, rfl, HS⟩ := hrel
    by_cases hlt : j < 6
    · have hlt' : (j : Int) < 6 := by omega
      have hlt2 : decide ((j : Int) < 6) = true := decide_eq_true hlt'
      go_wp2_with fail
      try rw [hlt2]
      clear hlt2
      go_loopw [13] (fun x wr2 => ∃ i : Nat, i ≤ 6 ∧ x = .int .i64 i ∧ Hid (Tu w (src k) f (6 * j + i) wr2)) (fun x _ => 6 - (intOf x).toNat)
      case atStart => exact ⟨0, by omega, rfl, HS⟩
      case round =>
        obtain ⟨i, hi, rfl, HI⟩ := hrel
        by_cases hli : i < 6
        · have hli' : (i : Int) < 6 := by omega
          have HG := Lib.hid (has_f f hlt hli)
          have HJ := Lib.hid (HI.out.alloc (.cells #[.int .i64 (i : Int), .int .i64 (j : Int)] 69))
          have hg : w.heap.size + 3 ≤ wr.heap.size := HI.out.2.2.2.2
          have a_c := fun k => cell_of_row (wr.alloc (.cells #[.int .i64 (i : Int), .int .i64 (j : Int)] 69)) _ k _ _ _ HJ.out.2.1
          have g_c := fun k => cell_of_row (wr.alloc (.cells #[.int .i64 (i : Int), .int .i64 (j : Int)] 69)) wr.heap.size k _ _ _ (alloc_at rfl)
          go_wp2_with fail
          refine (HG.out _).mono ?_
          rintro e W2 ⟨rfl, hb⟩
          have HK := Lib.hid (HJ.out.below hb rfl)
          have hc1 := rowk (alloc_at rfl) hb rfl
          clear hb HJ HG a_c g_c HI
          generalize wr.heap.size = g at hc1 hg ⊢
          cases hf : f j i
          · go_wp2_with fail
            go_roundw
            case rel => exact ⟨i + 1, by omega, by go_num, Lib.hid (HK.out.white hli (only_src hk hlt hli).1 hf)⟩
            case measure => simp [intOf]; omega
          · have HT := Lib.hid (tcell_f hk hli hlt)
            have g_c := fun j => cell_of_row W2 _ j _ _ _ hc1
            go_wp2_with fail
            refine (HT.out _).mono ?_
            rintro e W3 ⟨rfl, hb⟩
            have HL := Lib.hid (HK.out.below hb rfl)
            have hd := only_src hk hlt hli
            generalize dst k i j = d at hd ⊢
            clear hb HK HT g_c hc1
            go_wp2_with fail
            obtain ⟨d1, d2⟩ := d
            obtain ⟨ho, h1, h2⟩ := hd
            simp only at ho h1 h2 ⊢
            have HM := Lib.hid (HL.out.alloc (.cells #[.int .i64 (d1 : Int), .int .i64 (d2 : Int)] 69))
            have hc2 : (W3.alloc (.cells #[.int .i64 (d1 : Int), .int .i64 (d2 : Int)] 69)).heap[W3.heap.size]? = some (.cells #[.int .i64 (d1 : Int), .int .i64 (d2 : Int)] 69 (0, 0)) := alloc_at rfl
            have HR := Lib.hid (HM.out.row hli h2 h1 ho hf)
            have hg9 : w.heap.size + 3 ≤ W3.heap.size := HL.out.2.2.2.2
            clear HL ho
            have hd1 : (d1 : Int) < 6 := by omega
            have HO := HM.out.2.2.2.1
            generalize (World.alloc _ _ : World) = W4 at HM HR hc2 HO ⊢
            generalize W3.heap.size = g9 at hc2 hg9 ⊢
            have g_c := fun k => cell_of_row W4 _ k _ _ _ hc2
            have o_c := fun k => cell_of_row W4 _ k _ _ _ HO
            have o_f := fun k => frozen_of_row W4 _ k _ _ HO
            clear hc2 HO HM
            rcases six_n h2 with rfl | rfl | rfl | rfl | rfl | rfl
            all_goals
              go_region
              go_wp2_with fail
              go_roundw
              case rel => exact ⟨i + 1, by omega, by go_num, Lib.hid HR.out.drew⟩
              case measure => simp [intOf]; omega
        · go_wp2_with fail
          go_roundw
          case rel => exact ⟨j + 1, by omega, by go_num, Lib.hid (by have : i = 6 := by omega
                                                                     subst this; exact HI.out)⟩
          case measure => simp [intOf]; omega
    · obtain rfl : j = 6 := by omega
      obtain ⟨t1, t2, t3, t4, t5⟩ := HS.out
      have a_c := fun j => cell_of_row wr _ j _ _ _ t4
      have b_c := fun j => cell_of_row wr _ j _ _ _ t3
      have b_f := fun j => frozen_of_row wr _ j _ _ t3
      have HT := Lib.hid t1
      clear t1 t2 t3 t4
      go_wp2_with fail
      have E : ∀ a, a < 6 → rowv (hv (src k) f 36 a) = rowv (tf k f a) := fun a ha => (hv_end f (fun a b ha hb => src_in hk ha hb) ha).trans (rowv_congr fun b hb => src_tf f hk ha hb)
      refine bodyPost_ret (v := .agg #[.int .i64 (rowv (hv (src k) f 36 0)), .int .i64 (rowv (hv (src k) f 36 1)), .int .i64 (rowv (hv (src k) f 36 2)), .int .i64 (rowv (hv (src k) f 36 3)), .int .i64 (rowv (hv (src k) f 36 4)), .int .i64 (rowv (hv (src k) f 36 5))]) (by simp [results, Try.results233, go_sem, b_c]) rfl ⟨by rw [E 0 (by decide), E 1 (by decide), E 2 (by decide), E 3 (by decide), E 4 (by decide), E 5 (by decide)], ?_⟩
      exact below6 HT.out (by omega)
end Go.Proofs.Ytnkjamdpafpcpaa
