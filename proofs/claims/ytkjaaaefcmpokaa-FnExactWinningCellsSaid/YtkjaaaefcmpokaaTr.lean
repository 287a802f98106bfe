/- CONTRACTS: turns of a sheet in the model. -/
import Derived.Test.YtkjaaaefcmpokaaTq
import Derived.WalkKit
import Derived.ProofKit
import Derived.OpenShut
import Derived.Lib.Hide
import Derived.WalkSpells
import Derived.Below
import Derived.BigQuiet
import Derived.LoopN
namespace Go.Proofs.Ytkjaaaefcmpokaa
open Go.ChangeShapes Go.WideShapes Go.ChangeAt Go.RowKit
set_option linter.unusedVariables false
set_option maxHeartbeats 4000000 in
theorem mirror_f (f : Nat → Nat → Bool) (w : World) : Calls Try.prog 299 #[.agg #[.int .i64 (rowv (f 0)), .int .i64 (rowv (f 1)), .int .i64 (rowv (f 2)), .int .i64 (rowv (f 3)), .int .i64 (rowv (f 4)), .int .i64 (rowv (f 5))]] w fun e w' => e = .returned (.agg #[.int .i64 (rowv (mf f 0)), .int .i64 (rowv (mf f 1)), .int .i64 (rowv (mf f 2)), .int .i64 (rowv (mf f 3)), .int .i64 (rowv (mf f 4)), .int .i64 (rowv (mf f 5))]) ∧ Below w.heap.size w w' := by
  go_enter Try.func299, Try.ntmps299
  go_wp2_with fail
  have S0 := Lib.hid (Tu.start w sm f)
  generalize (World.alloc _ _ : World) = W0 at S0 ⊢
  go_loopw [4] (fun y wr => ∃ j : Nat, j ≤ 6 ∧ y = .int .i64 j ∧ Hid (Tu w sm f (6 * j) wr)) (fun y _ => 6 - (intOf y).toNat)
  case atStart => exact ⟨0, by omega, rfl, S0⟩
  case round =>
    obtain ⟨j, hj, rfl, HS⟩ := hrel
    by_cases hlt : j < 6
    · have hlt' : (j : Int) < 6 := by omega
      have hlt2 : decide ((j : Int) < 6) = true := decide_eq_true hlt'
      go_wp2_with fail
      try rw [hlt2]
      clear hlt2
      go_loopw [5] (fun x wr2 => ∃ i : Nat, i ≤ 6 ∧ x = .int .i64 i ∧ Hid (Tu w sm f (6 * j + i) wr2)) (fun x _ => 6 - (intOf x).toNat)
      case atStart => exact ⟨0, by omega, rfl, HS⟩
      case round =>
        obtain ⟨i, hi, rfl, HI⟩ := hrel
        by_cases hli : i < 6
        · have hli' : (i : Int) < 6 := by omega
          have e5 : (5 : Int) - i = ((5 - i : Nat) : Int) := by omega
          have hw : wrap64 (5 - (i : Int)) = ((5 - i : Nat) : Int) := by rw [e5]; unfold wrap64; omega
          have a_c := fun j => cell_of_row wr _ j _ _ _ HI.out.2.1
          have HG := Lib.hid (get_f f hlt hli)
          go_wp2_with fail
          refine (HG.out _).mono ?_
          rintro e W2 ⟨rfl, hb⟩
          have HJ := Lib.hid (HI.out.below hb rfl)
          clear hb HI HG a_c
          cases hf : f j i
          · go_wp2_with fail
            go_roundw
            case rel => exact ⟨i + 1, by omega, by go_num, Lib.hid (HJ.out.white hli (only_m hlt hli) hf)⟩
            case measure => simp [intOf]; omega
          · have HF := Lib.hid (flip_hv hli hlt (show 5 - i < 6 by omega) (only_m hlt hli) hf)
            have c_c := fun j => cell_of_row W2 _ j _ _ _ HJ.out.2.2.2.1
            go_wp2_with fail
            refine (HF.out _).mono ?_
            rintro e W3 ⟨rfl, hb⟩
            have HK := Lib.hid (HJ.out.below hb rfl)
            clear hb c_c HF HJ
            have d_c := fun j => cell_of_row W3 _ j _ _ _ HK.out.2.2.2.1
            have d_f := fun j => frozen_of_row W3 _ j _ _ HK.out.2.2.2.1
            go_wp2_with fail
            go_roundw
            case rel => exact ⟨i + 1, by omega, by go_num, Lib.hid HK.out.black⟩
            case measure => simp [intOf]; omega
        · go_wp2_with fail
          go_roundw
          case rel => exact ⟨j + 1, by omega, by go_num, Lib.hid (by have : i = 6 := by omega
                                                                     subst this; exact HI.out)⟩
          case measure => simp [intOf]; omega
    · obtain rfl : j = 6 := by omega
      obtain ⟨t1, t2, t3, t4, t5⟩ := HS.out
      have a_c := fun j => cell_of_row wr _ j _ _ _ t4
      have b_c := fun j => cell_of_row wr _ j _ _ _ t3
      have b_f := fun j => frozen_of_row wr _ j _ _ t3
      have HT := Lib.hid t1
      clear t1 t2 t3 t4
      go_wp2_with fail
      have E : ∀ a, a < 6 → rowv (hv sm f 36 a) = rowv (mf f a) := fun a ha => hv_end f (fun a b ha hb => ⟨ha, by simp only [sm]; omega⟩) ha
      refine bodyPost_ret (v := .agg #[.int .i64 (rowv (hv sm f 36 0)), .int .i64 (rowv (hv sm f 36 1)), .int .i64 (rowv (hv sm f 36 2)), .int .i64 (rowv (hv sm f 36 3)), .int .i64 (rowv (hv sm f 36 4)), .int .i64 (rowv (hv sm f 36 5))]) (by simp [results, Try.results299, go_sem, b_c]) rfl ⟨by rw [E 0 (by decide), E 1 (by decide), E 2 (by decide), E 3 (by decide), E 4 (by decide), E 5 (by decide)], ?_⟩
      exact below6 HT.out (by omega)
/-- A sheet g in the first block, the answer's block white. -/
def Tt (w : World) (g : Nat → Nat → Bool) (W : World) : Prop :=
  Below w.heap.size w W ∧ W.heap[w.heap.size]? = some (.cells #[.int .i64 (rowv (g 0)), .int .i64 (rowv (g 1)), .int .i64 (rowv (g 2)), .int .i64 (rowv (g 3)), .int .i64 (rowv (g 4)), .int .i64 (rowv (g 5))] 28 (0, 0)) ∧ W.heap[w.heap.size + 1]? = some (.cells #[.int .i64 0, .int .i64 0, .int .i64 0, .int .i64 0, .int .i64 0, .int .i64 0] 28 (0, 0)) ∧ w.heap.size + 2 ≤ W.heap.size
theorem Tt.start (w : World) (f : Nat → Nat → Bool) : Tt w f ((w.alloc (.cells #[.int .i64 (rowv (f 0)), .int .i64 (rowv (f 1)), .int .i64 (rowv (f 2)), .int .i64 (rowv (f 3)), .int .i64 (rowv (f 4)), .int .i64 (rowv (f 5))] 28)).alloc (.cells #[.int .i64 0, .int .i64 0, .int .i64 0, .int .i64 0, .int .i64 0, .int .i64 0] 28)) := ⟨by (repeat (first | exact Below.refl _ _ | assumption | refine Below.setCell ?_ (by first | (simp; done) | (simp; omega)) _ | refine Below.alloc ?_ (by first | (simp; done) | (simp; omega)) _ | refine Below.drew ?_)), alloc_past (alloc_at rfl), alloc_at (by simp), by simp⟩
theorem Tt.below {w W W' : World} {g : Nat → Nat → Bool} {N : Nat} (h : Tt w g W) (hb : Below N W W') (hN : N = W.heap.size) : Tt w g W' := by
  obtain ⟨h1, h2, h3, h4⟩ := h
  subst hN
  exact ⟨below_of h1 hb (by omega), row_keep hb (by omega) h2, row_keep hb (by omega) h3, Nat.le_trans h4 hb.size⟩
theorem Tt.put {w W : World} {g : Nat → Nat → Bool} (g2 : Nat → Nat → Bool) (h : Tt w g W) : Tt w g2 ((((((W.setCell ⟨w.heap.size, 0, none⟩ (.int .i64 (rowv (g2 0)))).setCell ⟨w.heap.size, 1, none⟩ (.int .i64 (rowv (g2 1)))).setCell ⟨w.heap.size, 2, none⟩ (.int .i64 (rowv (g2 2)))).setCell ⟨w.heap.size, 3, none⟩ (.int .i64 (rowv (g2 3)))).setCell ⟨w.heap.size, 4, none⟩ (.int .i64 (rowv (g2 4)))).setCell ⟨w.heap.size, 5, none⟩ (.int .i64 (rowv (g2 5)))) := by
  obtain ⟨h1, h2, h3, h4⟩ := h
  exact ⟨below6 h1 (Nat.le_refl _), set6r _ _ _ _ _ _ h2, set6o _ _ _ _ _ _ (by omega) h3, by simpa using h4⟩
set_option maxHeartbeats 2000000 in
theorem turn_f0 (f : Nat → Nat → Bool) (w : World) : Calls Try.prog 251 #[.agg #[.int .i64 (rowv (f 0)), .int .i64 (rowv (f 1)), .int .i64 (rowv (f 2)), .int .i64 (rowv (f 3)), .int .i64 (rowv (f 4)), .int .i64 (rowv (f 5))], .int .i64 0] w fun e w' => e = .returned (.agg #[.int .i64 (rowv (tf 0 f 0)), .int .i64 (rowv (tf 0 f 1)), .int .i64 (rowv (tf 0 f 2)), .int .i64 (rowv (tf 0 f 3)), .int .i64 (rowv (tf 0 f 4)), .int .i64 (rowv (tf 0 f 5))]) ∧ Below w.heap.size w w' := by
  show Calls Try.prog 251 #[.agg #[.int .i64 (rowv (f 0)), .int .i64 (rowv (f 1)), .int .i64 (rowv (f 2)), .int .i64 (rowv (f 3)), .int .i64 (rowv (f 4)), .int .i64 (rowv (f 5))], .int .i64 0] w fun e w' => e = .returned (.agg #[.int .i64 (rowv ((f) 0)), .int .i64 (rowv ((f) 1)), .int .i64 (rowv ((f) 2)), .int .i64 (rowv ((f) 3)), .int .i64 (rowv ((f) 4)), .int .i64 (rowv ((f) 5))]) ∧ Below w.heap.size w w'
  go_enter Try.func251, Try.ntmps251
  go_wp2_with fail
  have S0 := Lib.hid (Tt.start w f)
  generalize (World.alloc _ _ : World) = W0 at S0 ⊢
  refine wp_loop_rounds 1 ?_
  rw [rounds_succ]
  have c_c := fun j => cell_of_row W0 _ j _ _ _ S0.out.2.1
  have d_c := fun j => cell_of_row W0 _ j _ _ _ S0.out.2.2.1
  have d_f := fun j => frozen_of_row W0 _ j _ _ S0.out.2.2.1
  go_wp2_with fail
  refine bodyPost_ret (v := .agg #[.int .i64 (rowv ((f) 0)), .int .i64 (rowv ((f) 1)), .int .i64 (rowv ((f) 2)), .int .i64 (rowv ((f) 3)), .int .i64 (rowv ((f) 4)), .int .i64 (rowv ((f) 5))]) (by simp [results, Try.results251, go_sem, d_c]) rfl ⟨rfl, ?_⟩
  exact below6 S0.out.1 (by omega)
set_option maxHeartbeats 2000000 in
theorem turn_f1 (f : Nat → Nat → Bool) (w : World) : Calls Try.prog 251 #[.agg #[.int .i64 (rowv (f 0)), .int .i64 (rowv (f 1)), .int .i64 (rowv (f 2)), .int .i64 (rowv (f 3)), .int .i64 (rowv (f 4)), .int .i64 (rowv (f 5))], .int .i64 1] w fun e w' => e = .returned (.agg #[.int .i64 (rowv (tf 1 f 0)), .int .i64 (rowv (tf 1 f 1)), .int .i64 (rowv (tf 1 f 2)), .int .i64 (rowv (tf 1 f 3)), .int .i64 (rowv (tf 1 f 4)), .int .i64 (rowv (tf 1 f 5))]) ∧ Below w.heap.size w w' := by
  show Calls Try.prog 251 #[.agg #[.int .i64 (rowv (f 0)), .int .i64 (rowv (f 1)), .int .i64 (rowv (f 2)), .int .i64 (rowv (f 3)), .int .i64 (rowv (f 4)), .int .i64 (rowv (f 5))], .int .i64 1] w fun e w' => e = .returned (.agg #[.int .i64 (rowv ((qf f) 0)), .int .i64 (rowv ((qf f) 1)), .int .i64 (rowv ((qf f) 2)), .int .i64 (rowv ((qf f) 3)), .int .i64 (rowv ((qf f) 4)), .int .i64 (rowv ((qf f) 5))]) ∧ Below w.heap.size w w'
  go_enter Try.func251, Try.ntmps251
  go_wp2_with fail
  have S0 := Lib.hid (Tt.start w f)
  generalize (World.alloc _ _ : World) = W0 at S0 ⊢
  refine wp_loop_rounds 2 ?_
  rw [rounds_succ]
  have c_c := fun j => cell_of_row W0 _ j _ _ _ S0.out.2.1
  have HQ := Lib.hid (quarter_f (f))
  go_wp2_with fail
  refine (HQ.out _).mono ?_
  rintro e W0a ⟨rfl, hb⟩
  have T0 := Lib.hid (S0.out.below hb rfl)
  clear hb c_c HQ S0
  have c_c := fun j => cell_of_row W0a _ j _ _ _ T0.out.2.1
  have c_f := fun j => frozen_of_row W0a _ j _ _ T0.out.2.1
  go_wp2_with fail
  have S1 := Lib.hid (T0.out.put (qf f))
  clear c_c c_f T0
  generalize (World.setCell _ _ _ : World) = W1 at S1 ⊢
  rw [rounds_succ]
  have c_c := fun j => cell_of_row W1 _ j _ _ _ S1.out.2.1
  have d_c := fun j => cell_of_row W1 _ j _ _ _ S1.out.2.2.1
  have d_f := fun j => frozen_of_row W1 _ j _ _ S1.out.2.2.1
  go_wp2_with fail
  refine bodyPost_ret (v := .agg #[.int .i64 (rowv ((qf f) 0)), .int .i64 (rowv ((qf f) 1)), .int .i64 (rowv ((qf f) 2)), .int .i64 (rowv ((qf f) 3)), .int .i64 (rowv ((qf f) 4)), .int .i64 (rowv ((qf f) 5))]) (by simp [results, Try.results251, go_sem, d_c]) rfl ⟨rfl, ?_⟩
  exact below6 S1.out.1 (by omega)
set_option maxHeartbeats 2000000 in
theorem turn_f2 (f : Nat → Nat → Bool) (w : World) : Calls Try.prog 251 #[.agg #[.int .i64 (rowv (f 0)), .int .i64 (rowv (f 1)), .int .i64 (rowv (f 2)), .int .i64 (rowv (f 3)), .int .i64 (rowv (f 4)), .int .i64 (rowv (f 5))], .int .i64 2] w fun e w' => e = .returned (.agg #[.int .i64 (rowv (tf 2 f 0)), .int .i64 (rowv (tf 2 f 1)), .int .i64 (rowv (tf 2 f 2)), .int .i64 (rowv (tf 2 f 3)), .int .i64 (rowv (tf 2 f 4)), .int .i64 (rowv (tf 2 f 5))]) ∧ Below w.heap.size w w' := by
  show Calls Try.prog 251 #[.agg #[.int .i64 (rowv (f 0)), .int .i64 (rowv (f 1)), .int .i64 (rowv (f 2)), .int .i64 (rowv (f 3)), .int .i64 (rowv (f 4)), .int .i64 (rowv (f 5))], .int .i64 2] w fun e w' => e = .returned (.agg #[.int .i64 (rowv ((qf (qf f)) 0)), .int .i64 (rowv ((qf (qf f)) 1)), .int .i64 (rowv ((qf (qf f)) 2)), .int .i64 (rowv ((qf (qf f)) 3)), .int .i64 (rowv ((qf (qf f)) 4)), .int .i64 (rowv ((qf (qf f)) 5))]) ∧ Below w.heap.size w w'
  go_enter Try.func251, Try.ntmps251
  go_wp2_with fail
  have S0 := Lib.hid (Tt.start w f)
  generalize (World.alloc _ _ : World) = W0 at S0 ⊢
  refine wp_loop_rounds 3 ?_
  rw [rounds_succ]
  have c_c := fun j => cell_of_row W0 _ j _ _ _ S0.out.2.1
  have HQ := Lib.hid (quarter_f (f))
  go_wp2_with fail
  refine (HQ.out _).mono ?_
  rintro e W0a ⟨rfl, hb⟩
  have T0 := Lib.hid (S0.out.below hb rfl)
  clear hb c_c HQ S0
  have c_c := fun j => cell_of_row W0a _ j _ _ _ T0.out.2.1
  have c_f := fun j => frozen_of_row W0a _ j _ _ T0.out.2.1
  go_wp2_with fail
  have S1 := Lib.hid (T0.out.put (qf f))
  clear c_c c_f T0
  generalize (World.setCell _ _ _ : World) = W1 at S1 ⊢
  rw [rounds_succ]
  have c_c := fun j => cell_of_row W1 _ j _ _ _ S1.out.2.1
  have HQ := Lib.hid (quarter_f (qf f))
  go_wp2_with fail
  refine (HQ.out _).mono ?_
  rintro e W1a ⟨rfl, hb⟩
  have T1 := Lib.hid (S1.out.below hb rfl)
  clear hb c_c HQ S1
  have c_c := fun j => cell_of_row W1a _ j _ _ _ T1.out.2.1
  have c_f := fun j => frozen_of_row W1a _ j _ _ T1.out.2.1
  go_wp2_with fail
  have S2 := Lib.hid (T1.out.put (qf (qf f)))
  clear c_c c_f T1
  generalize (World.setCell _ _ _ : World) = W2 at S2 ⊢
  rw [rounds_succ]
  have c_c := fun j => cell_of_row W2 _ j _ _ _ S2.out.2.1
  have d_c := fun j => cell_of_row W2 _ j _ _ _ S2.out.2.2.1
  have d_f := fun j => frozen_of_row W2 _ j _ _ S2.out.2.2.1
  go_wp2_with fail
  refine bodyPost_ret (v := .agg #[.int .i64 (rowv ((qf (qf f)) 0)), .int .i64 (rowv ((qf (qf f)) 1)), .int .i64 (rowv ((qf (qf f)) 2)), .int .i64 (rowv ((qf (qf f)) 3)), .int .i64 (rowv ((qf (qf f)) 4)), .int .i64 (rowv ((qf (qf f)) 5))]) (by simp [results, Try.results251, go_sem, d_c]) rfl ⟨rfl, ?_⟩
  exact below6 S2.out.1 (by omega)
set_option maxHeartbeats 2000000 in
theorem turn_f3 (f : Nat → Nat → Bool) (w : World) : Calls Try.prog 251 #[.agg #[.int .i64 (rowv (f 0)), .int .i64 (rowv (f 1)), .int .i64 (rowv (f 2)), .int .i64 (rowv (f 3)), .int .i64 (rowv (f 4)), .int .i64 (rowv (f 5))], .int .i64 3] w fun e w' => e = .returned (.agg #[.int .i64 (rowv (tf 3 f 0)), .int .i64 (rowv (tf 3 f 1)), .int .i64 (rowv (tf 3 f 2)), .int .i64 (rowv (tf 3 f 3)), .int .i64 (rowv (tf 3 f 4)), .int .i64 (rowv (tf 3 f 5))]) ∧ Below w.heap.size w w' := by
  show Calls Try.prog 251 #[.agg #[.int .i64 (rowv (f 0)), .int .i64 (rowv (f 1)), .int .i64 (rowv (f 2)), .int .i64 (rowv (f 3)), .int .i64 (rowv (f 4)), .int .i64 (rowv (f 5))], .int .i64 3] w fun e w' => e = .returned (.agg #[.int .i64 (rowv ((qf (qf (qf f))) 0)), .int .i64 (rowv ((qf (qf (qf f))) 1)), .int .i64 (rowv ((qf (qf (qf f))) 2)), .int .i64 (rowv ((qf (qf (qf f))) 3)), .int .i64 (rowv ((qf (qf (qf f))) 4)), .int .i64 (rowv ((qf (qf (qf f))) 5))]) ∧ Below w.heap.size w w'
  go_enter Try.func251, Try.ntmps251
  go_wp2_with fail
  have S0 := Lib.hid (Tt.start w f)
  generalize (World.alloc _ _ : World) = W0 at S0 ⊢
  refine wp_loop_rounds 4 ?_
  rw [rounds_succ]
  have c_c := fun j => cell_of_row W0 _ j _ _ _ S0.out.2.1
  have HQ := Lib.hid (quarter_f (f))
  go_wp2_with fail
  refine (HQ.out _).mono ?_
  rintro e W0a ⟨rfl, hb⟩
  have T0 := Lib.hid (S0.out.below hb rfl)
  clear hb c_c HQ S0
  have c_c := fun j => cell_of_row W0a _ j _ _ _ T0.out.2.1
  have c_f := fun j => frozen_of_row W0a _ j _ _ T0.out.2.1
  go_wp2_with fail
  have S1 := Lib.hid (T0.out.put (qf f))
  clear c_c c_f T0
  generalize (World.setCell _ _ _ : World) = W1 at S1 ⊢
  rw [rounds_succ]
  have c_c := fun j => cell_of_row W1 _ j _ _ _ S1.out.2.1
  have HQ := Lib.hid (quarter_f (qf f))
  go_wp2_with fail
  refine (HQ.out _).mono ?_
  rintro e W1a ⟨rfl, hb⟩
  have T1 := Lib.hid (S1.out.below hb rfl)
  clear hb c_c HQ S1
  have c_c := fun j => cell_of_row W1a _ j _ _ _ T1.out.2.1
  have c_f := fun j => frozen_of_row W1a _ j _ _ T1.out.2.1
  go_wp2_with fail
  have S2 := Lib.hid (T1.out.put (qf (qf f)))
  clear c_c c_f T1
  generalize (World.setCell _ _ _ : World) = W2 at S2 ⊢
  rw [rounds_succ]
  have c_c := fun j => cell_of_row W2 _ j _ _ _ S2.out.2.1
  have HQ := Lib.hid (quarter_f (qf (qf f)))
  go_wp2_with fail
  refine (HQ.out _).mono ?_
  rintro e W2a ⟨rfl, hb⟩
  have T2 := Lib.hid (S2.out.below hb rfl)
  clear hb c_c HQ S2
  have c_c := fun j => cell_of_row W2a _ j _ _ _ T2.out.2.1
  have c_f := fun j => frozen_of_row W2a _ j _ _ T2.out.2.1
  go_wp2_with fail
  have S3 := Lib.hid (T2.out.put (qf (qf (qf f))))
  clear c_c c_f T2
  generalize (World.setCell _ _ _ : World) = W3 at S3 ⊢
  rw [rounds_succ]
  have c_c := fun j => cell_of_row W3 _ j _ _ _ S3.out.2.1
  have d_c := fun j => cell_of_row W3 _ j _ _ _ S3.out.2.2.1
  have d_f := fun j => frozen_of_row W3 _ j _ _ S3.out.2.2.1
  go_wp2_with fail
  refine bodyPost_ret (v := .agg #[.int .i64 (rowv ((qf (qf (qf f))) 0)), .int .i64 (rowv ((qf (qf (qf f))) 1)), .int .i64 (rowv ((qf (qf (qf f))) 2)), .int .i64 (rowv ((qf (qf (qf f))) 3)), .int .i64 (rowv ((qf (qf (qf f))) 4)), .int .i64 (rowv ((qf (qf (qf f))) 5))]) (by simp [results, Try.results251, go_sem, d_c]) rfl ⟨rfl, ?_⟩
  exact below6 S3.out.1 (by omega)
set_option maxHeartbeats 2000000 in
theorem turn_f4 (f : Nat → Nat → Bool) (w : World) : Calls Try.prog 251 #[.agg #[.int .i64 (rowv (f 0)), .int .i64 (rowv (f 1)), .int .i64 (rowv (f 2)), .int .i64 (rowv (f 3)), .int .i64 (rowv (f 4)), .int .i64 (rowv (f 5))], .int .i64 4] w fun e w' => e = .returned (.agg #[.int .i64 (rowv (tf 4 f 0)), .int .i64 (rowv (tf 4 f 1)), .int .i64 (rowv (tf 4 f 2)), .int .i64 (rowv (tf 4 f 3)), .int .i64 (rowv (tf 4 f 4)), .int .i64 (rowv (tf 4 f 5))]) ∧ Below w.heap.size w w' := by
  show Calls Try.prog 251 #[.agg #[.int .i64 (rowv (f 0)), .int .i64 (rowv (f 1)), .int .i64 (rowv (f 2)), .int .i64 (rowv (f 3)), .int .i64 (rowv (f 4)), .int .i64 (rowv (f 5))], .int .i64 4] w fun e w' => e = .returned (.agg #[.int .i64 (rowv ((mf (f)) 0)), .int .i64 (rowv ((mf (f)) 1)), .int .i64 (rowv ((mf (f)) 2)), .int .i64 (rowv ((mf (f)) 3)), .int .i64 (rowv ((mf (f)) 4)), .int .i64 (rowv ((mf (f)) 5))]) ∧ Below w.heap.size w w'
  go_enter Try.func251, Try.ntmps251
  go_wp2_with fail
  have S0 := Lib.hid (Tt.start w f)
  generalize (World.alloc _ _ : World) = W0 at S0 ⊢
  refine wp_loop_rounds 1 ?_
  rw [rounds_succ]
  have c_c := fun j => cell_of_row W0 _ j _ _ _ S0.out.2.1
  have d_c := fun j => cell_of_row W0 _ j _ _ _ S0.out.2.2.1
  have d_f := fun j => frozen_of_row W0 _ j _ _ S0.out.2.2.1
  have HQ := Lib.hid (mirror_f (f))
  go_wp2_with fail
  refine (HQ.out _).mono ?_
  rintro e WM ⟨rfl, hb⟩
  have TM := Lib.hid (S0.out.below hb rfl)
  clear hb c_c d_c d_f HQ S0
  have d_c := fun j => cell_of_row WM _ j _ _ _ TM.out.2.2.1
  have d_f := fun j => frozen_of_row WM _ j _ _ TM.out.2.2.1
  go_wp2_with fail
  refine bodyPost_ret (v := .agg #[.int .i64 (rowv ((mf (f)) 0)), .int .i64 (rowv ((mf (f)) 1)), .int .i64 (rowv ((mf (f)) 2)), .int .i64 (rowv ((mf (f)) 3)), .int .i64 (rowv ((mf (f)) 4)), .int .i64 (rowv ((mf (f)) 5))]) (by simp [results, Try.results251, go_sem, d_c]) rfl ⟨rfl, ?_⟩
  exact below6 TM.out.1 (by omega)
set_option maxHeartbeats 2000000 in
theorem turn_f5 (f : Nat → Nat → Bool) (w : World) : Calls Try.prog 251 #[.agg #[.int .i64 (rowv (f 0)), .int .i64 (rowv (f 1)), .int .i64 (rowv (f 2)), .int .i64 (rowv (f 3)), .int .i64 (rowv (f 4)), .int .i64 (rowv (f 5))], .int .i64 5] w fun e w' => e = .returned (.agg #[.int .i64 (rowv (tf 5 f 0)), .int .i64 (rowv (tf 5 f 1)), .int .i64 (rowv (tf 5 f 2)), .int .i64 (rowv (tf 5 f 3)), .int .i64 (rowv (tf 5 f 4)), .int .i64 (rowv (tf 5 f 5))]) ∧ Below w.heap.size w w' := by
  show Calls Try.prog 251 #[.agg #[.int .i64 (rowv (f 0)), .int .i64 (rowv (f 1)), .int .i64 (rowv (f 2)), .int .i64 (rowv (f 3)), .int .i64 (rowv (f 4)), .int .i64 (rowv (f 5))], .int .i64 5] w fun e w' => e = .returned (.agg #[.int .i64 (rowv ((mf (qf f)) 0)), .int .i64 (rowv ((mf (qf f)) 1)), .int .i64 (rowv ((mf (qf f)) 2)), .int .i64 (rowv ((mf (qf f)) 3)), .int .i64 (rowv ((mf (qf f)) 4)), .int .i64 (rowv ((mf (qf f)) 5))]) ∧ Below w.heap.size w w'
  go_enter Try.func251, Try.ntmps251
  go_wp2_with fail
  have S0 := Lib.hid (Tt.start w f)
  generalize (World.alloc _ _ : World) = W0 at S0 ⊢
  refine wp_loop_rounds 2 ?_
  rw [rounds_succ]
  have c_c := fun j => cell_of_row W0 _ j _ _ _ S0.out.2.1
  have HQ := Lib.hid (quarter_f (f))
  go_wp2_with fail
  refine (HQ.out _).mono ?_
  rintro e W0a ⟨rfl, hb⟩
  have T0 := Lib.hid (S0.out.below hb rfl)
  clear hb c_c HQ S0
  have c_c := fun j => cell_of_row W0a _ j _ _ _ T0.out.2.1
  have c_f := fun j => frozen_of_row W0a _ j _ _ T0.out.2.1
  go_wp2_with fail
  have S1 := Lib.hid (T0.out.put (qf f))
  clear c_c c_f T0
  generalize (World.setCell _ _ _ : World) = W1 at S1 ⊢
  rw [rounds_succ]
  have c_c := fun j => cell_of_row W1 _ j _ _ _ S1.out.2.1
  have d_c := fun j => cell_of_row W1 _ j _ _ _ S1.out.2.2.1
  have d_f := fun j => frozen_of_row W1 _ j _ _ S1.out.2.2.1
  have HQ := Lib.hid (mirror_f (qf f))
  go_wp2_with fail
  refine (HQ.out _).mono ?_
  rintro e WM ⟨rfl, hb⟩
  have TM := Lib.hid (S1.out.below hb rfl)
  clear hb c_c d_c d_f HQ S1
  have d_c := fun j => cell_of_row WM _ j _ _ _ TM.out.2.2.1
  have d_f := fun j => frozen_of_row WM _ j _ _ TM.out.2.2.1
  go_wp2_with fail
  refine bodyPost_ret (v := .agg #[.int .i64 (rowv ((mf (qf f)) 0)), .int .i64 (rowv ((mf (qf f)) 1)), .int .i64 (rowv ((mf (qf f)) 2)), .int .i64 (rowv ((mf (qf f)) 3)), .int .i64 (rowv ((mf (qf f)) 4)), .int .i64 (rowv ((mf (qf f)) 5))]) (by simp [results, Try.results251, go_sem, d_c]) rfl ⟨rfl, ?_⟩
  exact below6 TM.out.1 (by omega)
set_option maxHeartbeats 2000000 in
theorem turn_f6 (f : Nat → Nat → Bool) (w : World) : Calls Try.prog 251 #[.agg #[.int .i64 (rowv (f 0)), .int .i64 (rowv (f 1)), .int .i64 (rowv (f 2)), .int .i64 (rowv (f 3)), .int .i64 (rowv (f 4)), .int .i64 (rowv (f 5))], .int .i64 6] w fun e w' => e = .returned (.agg #[.int .i64 (rowv (tf 6 f 0)), .int .i64 (rowv (tf 6 f 1)), .int .i64 (rowv (tf 6 f 2)), .int .i64 (rowv (tf 6 f 3)), .int .i64 (rowv (tf 6 f 4)), .int .i64 (rowv (tf 6 f 5))]) ∧ Below w.heap.size w w' := by
  show Calls Try.prog 251 #[.agg #[.int .i64 (rowv (f 0)), .int .i64 (rowv (f 1)), .int .i64 (rowv (f 2)), .int .i64 (rowv (f 3)), .int .i64 (rowv (f 4)), .int .i64 (rowv (f 5))], .int .i64 6] w fun e w' => e = .returned (.agg #[.int .i64 (rowv ((mf (qf (qf f))) 0)), .int .i64 (rowv ((mf (qf (qf f))) 1)), .int .i64 (rowv ((mf (qf (qf f))) 2)), .int .i64 (rowv ((mf (qf (qf f))) 3)), .int .i64 (rowv ((mf (qf (qf f))) 4)), .int .i64 (rowv ((mf (qf (qf f))) 5))]) ∧ Below w.heap.size w w'
  go_enter Try.func251, Try.ntmps251
  go_wp2_with fail
  have S0 := Lib.hid (Tt.start w f)
  generalize (World.alloc _ _ : World) = W0 at S0 ⊢
  refine wp_loop_rounds 3 ?_
  rw [rounds_succ]
  have c_c := fun j => cell_of_row W0 _ j _ _ _ S0.out.2.1
  have HQ := Lib.hid (quarter_f (f))
  go_wp2_with fail
  refine (HQ.out _).mono ?_
  rintro e W0a ⟨rfl, hb⟩
  have T0 := Lib.hid (S0.out.below hb rfl)
  clear hb c_c HQ S0
  have c_c := fun j => cell_of_row W0a _ j _ _ _ T0.out.2.1
  have c_f := fun j => frozen_of_row W0a _ j _ _ T0.out.2.1
  go_wp2_with fail
  have S1 := Lib.hid (T0.out.put (qf f))
  clear c_c c_f T0
  generalize (World.setCell _ _ _ : World) = W1 at S1 ⊢
  rw [rounds_succ]
  have c_c := fun j => cell_of_row W1 _ j _ _ _ S1.out.2.1
  have HQ := Lib.hid (quarter_f (qf f))
  go_wp2_with fail
  refine (HQ.out _).mono ?_
  rintro e W1a ⟨rfl, hb⟩
  have T1 := Lib.hid (S1.out.below hb rfl)
  clear hb c_c HQ S1
  have c_c := fun j => cell_of_row W1a _ j _ _ _ T1.out.2.1
  have c_f := fun j => frozen_of_row W1a _ j _ _ T1.out.2.1
  go_wp2_with fail
  have S2 := Lib.hid (T1.out.put (qf (qf f)))
  clear c_c c_f T1
  generalize (World.setCell _ _ _ : World) = W2 at S2 ⊢
  rw [rounds_succ]
  have c_c := fun j => cell_of_row W2 _ j _ _ _ S2.out.2.1
  have d_c := fun j => cell_of_row W2 _ j _ _ _ S2.out.2.2.1
  have d_f := fun j => frozen_of_row W2 _ j _ _ S2.out.2.2.1
  have HQ := Lib.hid (mirror_f (qf (qf f)))
  go_wp2_with fail
  refine (HQ.out _).mono ?_
  rintro e WM ⟨rfl, hb⟩
  have TM := Lib.hid (S2.out.below hb rfl)
  clear hb c_c d_c d_f HQ S2
  have d_c := fun j => cell_of_row WM _ j _ _ _ TM.out.2.2.1
  have d_f := fun j => frozen_of_row WM _ j _ _ TM.out.2.2.1
  go_wp2_with fail
  refine bodyPost_ret (v := .agg #[.int .i64 (rowv ((mf (qf (qf f))) 0)), .int .i64 (rowv ((mf (qf (qf f))) 1)), .int .i64 (rowv ((mf (qf (qf f))) 2)), .int .i64 (rowv ((mf (qf (qf f))) 3)), .int .i64 (rowv ((mf (qf (qf f))) 4)), .int .i64 (rowv ((mf (qf (qf f))) 5))]) (by simp [results, Try.results251, go_sem, d_c]) rfl ⟨rfl, ?_⟩
  exact below6 TM.out.1 (by omega)
set_option maxHeartbeats 2000000 in
theorem turn_f7 (f : Nat → Nat → Bool) (w : World) : Calls Try.prog 251 #[.agg #[.int .i64 (rowv (f 0)), .int .i64 (rowv (f 1)), .int .i64 (rowv (f 2)), .int .i64 (rowv (f 3)), .int .i64 (rowv (f 4)), .int .i64 (rowv (f 5))], .int .i64 7] w fun e w' => e = .returned (.agg #[.int .i64 (rowv (tf 7 f 0)), .int .i64 (rowv (tf 7 f 1)), .int .i64 (rowv (tf 7 f 2)), .int .i64 (rowv (tf 7 f 3)), .int .i64 (rowv (tf 7 f 4)), .int .i64 (rowv (tf 7 f 5))]) ∧ Below w.heap.size w w' := by
  show Calls Try.prog 251 #[.agg #[.int .i64 (rowv (f 0)), .int .i64 (rowv (f 1)), .int .i64 (rowv (f 2)), .int .i64 (rowv (f 3)), .int .i64 (rowv (f 4)), .int .i64 (rowv (f 5))], .int .i64 7] w fun e w' => e = .returned (.agg #[.int .i64 (rowv ((mf (qf (qf (qf f)))) 0)), .int .i64 (rowv ((mf (qf (qf (qf f)))) 1)), .int .i64 (rowv ((mf (qf (qf (qf f)))) 2)), .int .i64 (rowv ((mf (qf (qf (qf f)))) 3)), .int .i64 (rowv ((mf (qf (qf (qf f)))) 4)), .int .i64 (rowv ((mf (qf (qf (qf f)))) 5))]) ∧ Below w.heap.size w w'
  go_enter Try.func251, Try.ntmps251
  go_wp2_with fail
  have S0 := Lib.hid (Tt.start w f)
  generalize (World.alloc _ _ : World) = W0 at S0 ⊢
  refine wp_loop_rounds 4 ?_
  rw [rounds_succ]
  have c_c := fun j => cell_of_row W0 _ j _ _ _ S0.out.2.1
  have HQ := Lib.hid (quarter_f (f))
  go_wp2_with fail
  refine (HQ.out _).mono ?_
  rintro e W0a ⟨rfl, hb⟩
  have T0 := Lib.hid (S0.out.below hb rfl)
  clear hb c_c HQ S0
  have c_c := fun j => cell_of_row W0a _ j _ _ _ T0.out.2.1
  have c_f := fun j => frozen_of_row W0a _ j _ _ T0.out.2.1
  go_wp2_with fail
  have S1 := Lib.hid (T0.out.put (qf f))
  clear c_c c_f T0
  generalize (World.setCell _ _ _ : World) = W1 at S1 ⊢
  rw [rounds_succ]
  have c_c := fun j => cell_of_row W1 _ j _ _ _ S1.out.2.1
  have HQ := Lib.hid (quarter_f (qf f))
  go_wp2_with fail
  refine (HQ.out _).mono ?_
  rintro e W1a ⟨rfl, hb⟩
  have T1 := Lib.hid (S1.out.below hb rfl)
  clear hb c_c HQ S1
  have c_c := fun j => cell_of_row W1a _ j _ _ _ T1.out.2.1
  have c_f := fun j => frozen_of_row W1a _ j _ _ T1.out.2.1
  go_wp2_with fail
  have S2 := Lib.hid (T1.out.put (qf (qf f)))
  clear c_c c_f T1
  generalize (World.setCell _ _ _ : World) = W2 at S2 ⊢
  rw [rounds_succ]
  have c_c := fun j => cell_of_row W2 _ j _ _ _ S2.out.2.1
  have HQ := Lib.hid (quarter_f (qf (qf f)))
  go_wp2_with fail
  refine (HQ.out _).mono ?_
  rintro e W2a ⟨rfl, hb⟩
  have T2 := Lib.hid (S2.out.below hb rfl)
  clear hb c_c HQ S2
  have c_c := fun j => cell_of_row W2a _ j _ _ _ T2.out.2.1
  have c_f := fun j => frozen_of_row W2a _ j _ _ T2.out.2.1
  go_wp2_with fail
  have S3 := Lib.hid (T2.out.put (qf (qf (qf f))))
  clear c_c c_f T2
  generalize (World.setCell _ _ _ : World) = W3 at S3 ⊢
  rw [rounds_succ]
  have c_c := fun j => cell_of_row W3 _ j _ _ _ S3.out.2.1
  have d_c := fun j => cell_of_row W3 _ j _ _ _ S3.out.2.2.1
  have d_f := fun j => frozen_of_row W3 _ j _ _ S3.out.2.2.1
  have HQ := Lib.hid (mirror_f (qf (qf (qf f))))
  go_wp2_with fail
  refine (HQ.out _).mono ?_
  rintro e WM ⟨rfl, hb⟩
  have TM := Lib.hid (S3.out.below hb rfl)
  clear hb c_c d_c d_f HQ S3
  have d_c := fun j => cell_of_row WM _ j _ _ _ TM.out.2.2.1
  have d_f := fun j => frozen_of_row WM _ j _ _ TM.out.2.2.1
  go_wp2_with fail
  refine bodyPost_ret (v := .agg #[.int .i64 (rowv ((mf (qf (qf (qf f)))) 0)), .int .i64 (rowv ((mf (qf (qf (qf f)))) 1)), .int .i64 (rowv ((mf (qf (qf (qf f)))) 2)), .int .i64 (rowv ((mf (qf (qf (qf f)))) 3)), .int .i64 (rowv ((mf (qf (qf (qf f)))) 4)), .int .i64 (rowv ((mf (qf (qf (qf f)))) 5))]) (by simp [results, Try.results251, go_sem, d_c]) rfl ⟨rfl, ?_⟩
  exact below6 TM.out.1 (by omega)
theorem eight {k : Nat} (h : k < 8) : k = 0 ∨ k = 1 ∨ k = 2 ∨ k = 3 ∨ k = 4 ∨ k = 5 ∨ k = 6 ∨ k = 7 := by omega
theorem turn_f (f : Nat → Nat → Bool) {k : Nat} (hk : k < 8) (w : World) : Calls Try.prog 251 #[.agg #[.int .i64 (rowv (f 0)), .int .i64 (rowv (f 1)), .int .i64 (rowv (f 2)), .int .i64 (rowv (f 3)), .int .i64 (rowv (f 4)), .int .i64 (rowv (f 5))], .int .i64 (k : Int)] w fun e w' => e = .returned (.agg #[.int .i64 (rowv (tf k f 0)), .int .i64 (rowv (tf k f 1)), .int .i64 (rowv (tf k f 2)), .int .i64 (rowv (tf k f 3)), .int .i64 (rowv (tf k f 4)), .int .i64 (rowv (tf k f 5))]) ∧ Below w.heap.size w w' := by
  rcases eight hk with rfl | rfl | rfl | rfl | rfl | rfl | rfl | rfl
  · exact turn_f0 f w
  · exact turn_f1 f w
  · exact turn_f2 f w
  · exact turn_f3 f w
  · exact turn_f4 f w
  · exact turn_f5 f w
  · exact turn_f6 f w
  · exact turn_f7 f w
end Go.Proofs.Ytkjaaaefcmpokaa
