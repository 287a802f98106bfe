/- CONTRACTS: CellsOf, the model's and the code's. -/
import Derived.Test.YtnkjamdpafpcpaaCl
import Derived.WalkKit
import Derived.ProofKit
import Derived.OpenShut
import Derived.Lib.Hide
import Derived.WalkSpells
import Derived.Below
import Derived.BigQuiet
import Derived.LoopN
namespace Go.Proofs.Ytnkjamdpafpcpaa
open Go.ChangeShapes Go.WideShapes Go.ChangeAt Go.RowKit
set_option linter.unusedVariables false
theorem own_mono {W : World} {B B2 : Nat} {e : TypeId} {size n : Nat} {v : Value} {xs : List Value} (h : W.ownsRow B e size v n xs) (hb : B2 ≤ B) : W.ownsRow B2 e size v n xs := by
  refine ⟨h.1, ?_⟩
  rcases h.2 with h2 | ⟨g, cap, cur, e, hg, hr⟩
  · exact .inl h2
  · exact .inr ⟨g, cap, cur, e, Nat.le_trans hb hg, hr⟩
def Cs1Post (f : Nat → Nat → Bool) (w : World) (e : Ending) (w' : World) : Prop := ∃ g cap, e = .returned (.tuple #[.slice (some ⟨g, 0, none⟩) (bl f 36).length cap, .bool true]) ∧ w'.ownsRow w.heap.size 69 2 (.slice (some ⟨g, 0, none⟩) (bl f 36).length cap) (bl f 36).length (cv (bl f 36)) ∧ Below w.heap.size w w'
def Cs0Post (w : World) (e : Ending) (w' : World) : Prop := ∃ g cap, e = .returned (.tuple #[.slice (some ⟨g, 0, none⟩) 0 cap, .bool false]) ∧ w'.ownsRow w.heap.size 69 2 (.slice (some ⟨g, 0, none⟩) 0 cap) 0 [] ∧ Below w.heap.size w w'
set_option maxHeartbeats 4000000 in
theorem icells_f (f : Nat → Nat → Bool) (w : World) : Calls Try.prog 78 #[.agg #[.int .i64 (rowv (f 0)), .int .i64 (rowv (f 1)), .int .i64 (rowv (f 2)), .int .i64 (rowv (f 3)), .int .i64 (rowv (f 4)), .int .i64 (rowv (f 5))]] w (Cs1Post f w) := by
  obtain ⟨i0, hi, hz0, hz1, hz2⟩ := info_parts info44
  have HV := sh_ai _ _ _ _ _ _ (show (ok (rowv (f 0)) && ok (rowv (f 1)) && ok (rowv (f 2)) && ok (rowv (f 3)) && ok (rowv (f 4)) && ok (rowv (f 5))) = true by simp only [rowv_ok, Bool.and_self])
  go_enter Try.func78, Try.ntmps78
  go_wp2_with fail
  have S0 := Lib.hid (Rc.start w f)
  refine (HV.out _).mono ?_
  rintro e W0 ⟨rfl, hb⟩
  have S1 := Lib.hid (S0.out.below hb rfl)
  clear hb S0 HV
  generalize hv0 : (Value.slice (some ⟨w.heap.size + 1, 0, none⟩) 0 0) = v0 at S1 ⊢
  clear hv0
  go_wp2_with fail
  go_loopw [4, 13] (fun v y wr => ∃ j : Nat, j ≤ 6 ∧ y = .int .i64 j ∧ Hid (Rc w f (6 * j) v wr)) (fun _ y _ => 6 - (intOf y).toNat)
  case atStart => exact ⟨0, by omega, rfl, S1⟩
  case round =>
    obtain ⟨j, hj, rfl, HS⟩ := hrel
    by_cases hlt : j < 6
    · have hlt' : (j : Int) < 6 := by omega
      have hlt2 : decide ((j : Int) < 6) = true := decide_eq_true hlt'
      go_wp2_with fail
      try rw [hlt2]
      clear hlt2
      go_loopw [4, 16] (fun v x wr2 => ∃ i : Nat, i ≤ 6 ∧ x = .int .i64 i ∧ Hid (Rc w f (6 * j + i) v wr2)) (fun _ x _ => 6 - (intOf x).toNat)
      case atStart => exact ⟨0, by omega, rfl, HS⟩
      case round =>
        obtain ⟨i, hi6, rfl, HI⟩ := hrel
        by_cases hli : i < 6
        · have hli' : (i : Int) < 6 := by omega
          have HX := HI.out
          obtain ⟨g, cap, rfl, ho, h3, h4, h5⟩ := HX
          have HK := Lib.hid (HI.out.alloc (.cells #[.int .i64 (i : Int), .int .i64 (j : Int)] 69))
          have a_c := fun k => cell_of_row (wr.alloc (.cells #[.int .i64 (i : Int), .int .i64 (j : Int)] 69)) _ k _ _ _ (alloc_past h3)
          have b_c := fun k => cell_of_row (wr.alloc (.cells #[.int .i64 (i : Int), .int .i64 (j : Int)] 69)) wr.heap.size k _ _ _ (alloc_at rfl)
          have HG := Lib.hid (has_f f hlt hli)
          clear ho h3 h4 h5
          go_wp2_with fail
          refine (HG.out _).mono ?_
          rintro e W2 ⟨rfl, hb⟩
          have HJ := Lib.hid (HK.out.below hb rfl)
          have hc := rowk (alloc_at rfl) hb rfl
          clear hb HI HG HK a_c b_c
          generalize wr.heap.size = gc at hc ⊢
          cases hf : f j i
          · go_wp2_with fail
            go_roundw
            case rel => exact ⟨i + 1, by omega, by go_num, Lib.hid (HJ.out.no hli hf)⟩
            case measure => simp [intOf]; omega
          · obtain ⟨_, _, _, ho, _, _, HS1⟩ := HJ.out
            have HO := ho.kept (grown_below ((Below.refl _ _).alloc (Nat.le_refl _) (.cells #[.int .i64 (i : Int), .int .i64 (j : Int)] 69)) rfl) (.inr (by simp [Value.ownBlock]))
            have HY := Lib.hid (HJ.out.alloc (.cells #[.int .i64 (i : Int), .int .i64 (j : Int)] 69))
            have HL := bl_len f (6 * j + i)
            have g_c := fun k => cell_of_row W2 _ k _ _ _ hc
            clear ho HJ
            go_wp2_with (at_builtin; refine wpList_append_own _ rfl _ _ 86 rfl (w.heap.size + 1) 69 i0 (.agg #[.int .i64 0, .int .i64 0]) 2 16 Try.underlying86 hi hz0 hz1 hz2 rfl (by decide) _ _ _ rfl HO ⟨W2.heap.size, 0, none⟩ 1 1 [.int .i64 (i : Int), .int .i64 (j : Int)] rfl rfl (two_new _ _ _ _) (ints_one _ _) (by have := HL; unfold maxLen; omega) (by have := HL; omega) (by have := HS1; simp; omega) ?_; intro v' w1 hown' hgrow hnn; have R := Lib.hid (HY.out.yes hli hf hown' hgrow hnn); clear hown' hgrow hnn HY HO HL HS1 hc g_c)
            go_roundw
            case rel => exact ⟨i + 1, by omega, by go_num, R⟩
            case measure => simp [intOf]; omega
        · obtain rfl : i = 6 := by omega
          clear hi hz0 hz1 hz2
          go_wp2_with fail
          go_roundw
          case rel => exact ⟨j + 1, by omega, by go_num, Lib.hid HI.out⟩
          case measure => simp [intOf]; omega
    · obtain rfl : j = 6 := by omega
      obtain ⟨g, cap, rfl, h2, h3⟩ := HS.out.post
      have H2 := Lib.hid h2
      have H3 := Lib.hid h3
      clear h2 h3 HS
      go_wp2_with fail
      go_ret2
      exact ⟨g, cap, rfl, H2.out, H3.out⟩
theorem icells_no (a0 a1 a2 a3 a4 a5 : Int) (hv : (ok a0 && ok a1 && ok a2 && ok a3 && ok a4 && ok a5) = false) (w : World) : Calls Try.prog 78 #[.agg #[.int .i64 a0, .int .i64 a1, .int .i64 a2, .int .i64 a3, .int .i64 a4, .int .i64 a5]] w (Cs0Post w) := by
  have HV := sh_ai a0 a1 a2 a3 a4 a5 hv
  go_enter Try.func78, Try.ntmps78
  go_wp2_with fail
  have HO := Lib.hid (World.ownsRow_lit (base := w.heap.size) (e := 69) (size := 2) (w.alloc (.cells #[.int .i64 a0, .int .i64 a1, .int .i64 a2, .int .i64 a3, .int .i64 a4, .int .i64 a5] 28)) #[] 0 (by simp) (by unfold maxLen; omega) rfl)
  have HB := Lib.hid (show Below w.heap.size w ((w.alloc (.cells #[.int .i64 a0, .int .i64 a1, .int .i64 a2, .int .i64 a3, .int .i64 a4, .int .i64 a5] 28)).alloc (.cells #[] 69)) by (repeat (first | exact Below.refl _ _ | assumption | refine Below.setCell ?_ (by first | (simp; done) | (simp; omega)) _ | refine Below.alloc ?_ (by first | (simp; done) | (simp; omega)) _ | refine Below.drew ?_)))
  refine (HV.out _).mono ?_
  rintro e W1 ⟨rfl, hb⟩
  have HO1 := Lib.hid (HO.out.kept (grown_below hb rfl) (.inr (by simp [Value.ownBlock])))
  have HB1 := Lib.hid (below_of HB.out hb HB.out.size)
  clear hb HO HB HV
  go_wp2_with fail
  go_ret2
  have h := HO1.out
  rw [show (w.alloc (.cells #[.int .i64 a0, .int .i64 a1, .int .i64 a2, .int .i64 a3, .int .i64 a4, .int .i64 a5] 28)).heap.size = w.heap.size + 1 by simp] at h
  exact ⟨w.heap.size + 1, 0, rfl, h, HB1.out⟩
theorem scells_f (f : Nat → Nat → Bool) (w : World) : Calls Try.prog 79 #[.agg #[.int .i64 (rowv (f 0)), .int .i64 (rowv (f 1)), .int .i64 (rowv (f 2)), .int .i64 (rowv (f 3)), .int .i64 (rowv (f 4)), .int .i64 (rowv (f 5))]] w (Cs1Post f w) := by
  have HV := sh_as _ _ _ _ _ _ (show (ok (rowv (f 0)) && ok (rowv (f 1)) && ok (rowv (f 2)) && ok (rowv (f 3)) && ok (rowv (f 4)) && ok (rowv (f 5))) = true by simp only [rowv_ok, Bool.and_self])
  go_enter Try.func79, Try.ntmps79
  go_wp2_with fail
  have q0 : (w.alloc (.cells #[.int .i64 (rowv (f 0)), .int .i64 (rowv (f 1)), .int .i64 (rowv (f 2)), .int .i64 (rowv (f 3)), .int .i64 (rowv (f 4)), .int .i64 (rowv (f 5))] 28)).heap[w.heap.size]? = some (.cells #[.int .i64 (rowv (f 0)), .int .i64 (rowv (f 1)), .int .i64 (rowv (f 2)), .int .i64 (rowv (f 3)), .int .i64 (rowv (f 4)), .int .i64 (rowv (f 5))] 28 (0, 0)) := alloc_at rfl
  have HB := Lib.hid (show Below w.heap.size w (w.alloc (.cells #[.int .i64 (rowv (f 0)), .int .i64 (rowv (f 1)), .int .i64 (rowv (f 2)), .int .i64 (rowv (f 3)), .int .i64 (rowv (f 4)), .int .i64 (rowv (f 5))] 28)) by (repeat (first | exact Below.refl _ _ | assumption | refine Below.setCell ?_ (by first | (simp; done) | (simp; omega)) _ | refine Below.alloc ?_ (by first | (simp; done) | (simp; omega)) _ | refine Below.drew ?_)))
  refine (HV.out _).mono ?_
  rintro e W1 ⟨rfl, hb⟩
  have q1 := rowk q0 hb rfl
  have HB1 := Lib.hid (below_of HB.out hb HB.out.size)
  clear hb HB HV q0
  have a_c := fun k => cell_of_row W1 _ k _ _ _ q1
  go_wp2_with fail
  refine (lcells_f f W1).mono ?_
  rintro e W2 ⟨g, cap, rfl, ho, hb⟩
  have HO := Lib.hid (own_mono ho HB1.out.size)
  have HB2 := Lib.hid (below_of HB1.out hb HB1.out.size)
  clear hb HB1 ho a_c q1
  go_wp2_with fail
  go_ret2
  exact ⟨g, cap, rfl, HO.out, HB2.out⟩
theorem scells_no (a0 a1 a2 a3 a4 a5 : Int) (hv : (ok a0 && ok a1 && ok a2 && ok a3 && ok a4 && ok a5) = false) (w : World) : Calls Try.prog 79 #[.agg #[.int .i64 a0, .int .i64 a1, .int .i64 a2, .int .i64 a3, .int .i64 a4, .int .i64 a5]] w (Cs0Post w) := by
  have HV := sh_as a0 a1 a2 a3 a4 a5 hv
  go_enter Try.func79, Try.ntmps79
  go_wp2_with fail
  have HB := Lib.hid (show Below w.heap.size w (w.alloc (.cells #[.int .i64 a0, .int .i64 a1, .int .i64 a2, .int .i64 a3, .int .i64 a4, .int .i64 a5] 28)) by (repeat (first | exact Below.refl _ _ | assumption | refine Below.setCell ?_ (by first | (simp; done) | (simp; omega)) _ | refine Below.alloc ?_ (by first | (simp; done) | (simp; omega)) _ | refine Below.drew ?_)))
  refine (HV.out _).mono ?_
  rintro e W1 ⟨rfl, hb⟩
  have HB1 := Lib.hid (below_of HB.out hb HB.out.size)
  clear hb HB HV
  go_wp2_with fail
  go_ret2
  have h := World.ownsRow_lit (base := w.heap.size) (e := 69) (size := 2) W1 #[] 0 HB1.out.size (by unfold maxLen; omega) rfl
  exact ⟨W1.heap.size, 0, rfl, h, HB1.out.alloc HB1.out.size _⟩
end Go.Proofs.Ytnkjamdpafpcpaa
