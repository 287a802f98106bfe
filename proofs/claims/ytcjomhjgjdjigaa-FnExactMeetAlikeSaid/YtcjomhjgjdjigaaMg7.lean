/- CONTRACTS: a sheet's meetings, the model's. -/
import Derived.Test.YtcjomhjgjdjigaaMi7
import Derived.WalkKit
import Derived.ProofKit
import Derived.OpenShut
import Derived.Lib.Hide
import Derived.WalkSpells
import Derived.Below
import Derived.BigQuiet
import Derived.LoopN
namespace Go.Proofs.Ytcjomhjgjdjigaa
open Go.ChangeShapes Go.WideShapes Go.ChangeAt Go.RowKit
set_option linter.unusedVariables false
def Mw7 (w : World) (f : Fn6) (g : Nat) (U : World) : Prop := ∃ m, Mx7 w f g m U
theorem SKn {w U : World} {f : Fn6} {g : Nat} {m : Nat → Int} (h : Mx7 w f g m U) : U.cell? ⟨w.heap.size, 0, none⟩ = some (.int .i64 (rowv (f 0))) ∧ U.cell? ⟨w.heap.size, 1, none⟩ = some (.int .i64 (rowv (f 1))) ∧ U.cell? ⟨w.heap.size, 2, none⟩ = some (.int .i64 (rowv (f 2))) ∧ U.cell? ⟨w.heap.size, 3, none⟩ = some (.int .i64 (rowv (f 3))) ∧ U.cell? ⟨w.heap.size, 4, none⟩ = some (.int .i64 (rowv (f 4))) ∧ U.cell? ⟨w.heap.size, 5, none⟩ = some (.int .i64 (rowv (f 5))) ∧ (∀ j, U.cell? ⟨g, j, none⟩ = if j < 36 then some (.int .i64 (wm U g j)) else none) ∧ (∀ j, U.frozen? ⟨g, j, none⟩ = false) ∧ Mw7 w f g U := by
  have h0 := fun j => cell_of_row U _ j _ _ _ h.1
  exact ⟨h0 0, h0 1, h0 2, h0 3, h0 4, h0 5, o36_wm h.2.2.1, fun j => frozen_of_row U _ j _ _ (by have := h.2.2.1; unfold o36 at this; exact this), m, h⟩
theorem zeros_put {w : World} {f : Fn6} {g : Nat} : ∀ (n o : Nat) {W : World}, Mx7 w f g (mt7 f 0) W → o + n ≤ 36 → Mx7 w f g (mt7 f 0) (W.setCells g o (List.replicate n (.int .i64 0)))
  | 0, _, _, h, _ => h
  | n + 1, o, W, h, hn => by
    rw [List.replicate_succ, World.setCells]
    refine zeros_put n (o + 1) ?_ (by omega)
    have h2 := h.put (show o < 36 by omega) 0
    have e : up36 (mt7 f 0) o 0 = mt7 f 0 := by
      funext j
      unfold up36 mt7
      by_cases hj : j = o
      · rw [if_pos hj, if_neg (by omega)]
      · rw [if_neg hj]
    rwa [e] at h2
theorem there_of {w U : World} {f : Fn6} {g : Nat} {m : Nat → Int} (h : Mx7 w f g m U) : U.there g 0 36 := by
  intro j hj
  refine ⟨?_, frozen_of_row U _ _ _ _ (by have q := h.2.2.1; unfold o36 at q; exact q)⟩
  rw [Nat.zero_add, o36_at h.2.2.1 hj]
  rfl
set_option maxRecDepth 20000 in
set_option maxHeartbeats 2000000 in
theorem lmeet_f (f : Fn6) (w : World) : Calls Try.prog 103 #[.agg #[.int .i64 (rowv (f 0)), .int .i64 (rowv (f 1)), .int .i64 (rowv (f 2)), .int .i64 (rowv (f 3)), .int .i64 (rowv (f 4)), .int .i64 (rowv (f 5))]] w fun e w' => e = .returned (v36 (mt7 f 36)) ∧ Below w.heap.size w w' := by
  have S0 : Hid (Mx7 w f (w.heap.size + 1 + 1) (mt7 f 0) (((w.alloc (o6 f)).alloc (o36 fun _ => 0)).alloc (o36 fun _ => 0))) := Lib.hid ⟨alloc_past (alloc_past (alloc_at rfl)), alloc_past (alloc_at (by simp)), alloc_at (by simp), by omega, by simp, by (repeat (first | exact Below.refl _ _ | assumption | refine Below.setCell ?_ (by first | (simp; done) | (simp; omega)) _ | refine Below.alloc ?_ (by first | (simp; done) | (simp; omega)) _ | refine Below.drew ?_))⟩
  have HT := Lib.hid (there_of S0.out)
  have S1 := Lib.hid (zeros_put 36 0 S0.out (by omega))
  clear S0
  rw [show List.replicate 36 (Value.int .i64 0) = [.int .i64 0, .int .i64 0, .int .i64 0, .int .i64 0, .int .i64 0, .int .i64 0, .int .i64 0, .int .i64 0, .int .i64 0, .int .i64 0, .int .i64 0, .int .i64 0, .int .i64 0, .int .i64 0, .int .i64 0, .int .i64 0, .int .i64 0, .int .i64 0, .int .i64 0, .int .i64 0, .int .i64 0, .int .i64 0, .int .i64 0, .int .i64 0, .int .i64 0, .int .i64 0, .int .i64 0, .int .i64 0, .int .i64 0, .int .i64 0, .int .i64 0, .int .i64 0, .int .i64 0, .int .i64 0, .int .i64 0, .int .i64 0] from rfl] at S1
  unfold o36 o6 at HT S1
  go_enter Try.func103, Try.ntmps103
  go_wp2_with (refine wpList_store_mid rfl 23 (.tmp 3) (.tmp 6) rfl (w.heap.size + 1 + 1) 0 #[.int .i64 0, .int .i64 0, .int .i64 0, .int .i64 0, .int .i64 0, .int .i64 0, .int .i64 0, .int .i64 0, .int .i64 0, .int .i64 0, .int .i64 0, .int .i64 0, .int .i64 0, .int .i64 0, .int .i64 0, .int .i64 0, .int .i64 0, .int .i64 0, .int .i64 0, .int .i64 0, .int .i64 0, .int .i64 0, .int .i64 0, .int .i64 0, .int .i64 0, .int .i64 0, .int .i64 0, .int .i64 0, .int .i64 0, .int .i64 0, .int .i64 0, .int .i64 0, .int .i64 0, .int .i64 0, .int .i64 0, .int .i64 0] rfl rfl HT.out (by kernel_rfl) (by kernel_rfl) ?_)
  clear HT
  generalize (World.setCells _ _ _ _ : World) = W1 at S1 ⊢
  go_loopw [4] (fun n wr => ∃ x : Nat, x ≤ 6 ∧ n = .int .i64 x ∧ Hid (Mx7 w f (w.heap.size + 1 + 1) (mt7 f (6 * x)) wr)) (fun n _ => 6 - (intOf n).toNat)
  case atStart => exact ⟨0, by omega, rfl, S1⟩
  case round =>
    obtain ⟨x, hx, rfl, HX⟩ := hrel
    by_cases hlx : x < 6
    · have hxi : (x : Int) < 6 := by omega
      have hlx2 : decide ((x : Int) < (6 : Int)) = true := decide_eq_true hxi
      go_wp2_with fail
      try rw [hlx2]
      clear hlx2
      go_loopw [5] (fun n wr => ∃ y : Nat, y ≤ 6 ∧ n = .int .i64 y ∧ Hid (Mx7 w f (w.heap.size + 1 + 1) (mt7 f (6 * x + y)) wr)) (fun n _ => 6 - (intOf n).toNat)
      case atStart => exact ⟨0, by omega, rfl, HX⟩
      case round =>
        obtain ⟨y, hy, rfl, HS⟩ := hrel
        by_cases hly : y < 6
        · have hyi : (y : Int) < 6 := by omega
          have hx0 : (0 : Int) ≤ x := by omega
          have hy0 : (0 : Int) ≤ y := by omega
          have hxy : x * 6 + y < 36 := by omega
          have H1 := Lib.hid (l2shift_7 f hlx hly)
          have H2 := Lib.hid (land_f f (sf x y f))
          have H3 := Lib.hid (lcount_s (af f (sf x y f)))
          have HS0 := mt7_step f (x * 6 + y)
          rw [show (x * 6 + y) / 6 = x by omega, show (x * 6 + y) % 6 = y by omega] at HS0
          have HST := Lib.hid HS0
          clear HS0
          obtain ⟨s, hs⟩ : ∃ s, s = pc36 (af f (sf x y f)) := ⟨_, rfl⟩
          rw [← hs] at H3 HST
          clear hs
          generalize af f (sf x y f) = q at *
          generalize sf x y f = p at *
          have hq := HS.out
          rw [show 6 * x + y = x * 6 + y by omega] at hq
          generalize mt7 f (x * 6 + y) = mm at hq HST
          clear HS HX S1
          go_wp2_with fail
          go_region_held3 (fun U => U.cell? ⟨w.heap.size, 0, none⟩ = some (.int .i64 (rowv (f 0))) ∧ U.cell? ⟨w.heap.size, 1, none⟩ = some (.int .i64 (rowv (f 1))) ∧ U.cell? ⟨w.heap.size, 2, none⟩ = some (.int .i64 (rowv (f 2))) ∧ U.cell? ⟨w.heap.size, 3, none⟩ = some (.int .i64 (rowv (f 3))) ∧ U.cell? ⟨w.heap.size, 4, none⟩ = some (.int .i64 (rowv (f 4))) ∧ U.cell? ⟨w.heap.size, 5, none⟩ = some (.int .i64 (rowv (f 5))) ∧ (∀ j, U.cell? ⟨w.heap.size + 1 + 1, j, none⟩ = if j < 36 then some (.int .i64 (wm U (w.heap.size + 1 + 1) j)) else none) ∧ (∀ j, U.frozen? ⟨w.heap.size + 1 + 1, j, none⟩ = false) ∧ Mw7 w f (w.heap.size + 1 + 1) U) (first | (with_reducible refine SKn (m := mm) ?_; (first | with_reducible assumption | (with_reducible refine Mx7.drew ?_; with_reducible assumption))) | (with_reducible refine SKn (m := up36 mm (x * 6 + y) s) ?_; (first | (with_reducible refine Mx7.put ?_ hxy _; (first | with_reducible assumption | (with_reducible refine Mx7.drew ?_; with_reducible assumption))) | (with_reducible refine Mx7.drew ?_; with_reducible refine Mx7.put ?_ hxy _; with_reducible assumption)))) (first | (go_at_call 133; with_reducible refine (H1.out _).mono ?_; rintro e w' ⟨rfl, hb'⟩; have hq : Mx7 w f (w.heap.size + 1 + 1) mm w' := Mx7.below (by (first | with_reducible assumption | (with_reducible refine Mx7.drew ?_; with_reducible assumption))) hb' rfl) | (go_at_call 94; with_reducible refine (H2.out _).mono ?_; rintro e w' ⟨rfl, hb'⟩; have hq : Mx7 w f (w.heap.size + 1 + 1) mm w' := Mx7.below (by (first | with_reducible assumption | (with_reducible refine Mx7.drew ?_; with_reducible assumption))) hb' rfl) | (go_at_call 83; with_reducible refine (H3.out _).mono ?_; rintro e w' ⟨rfl, hb'⟩; have hq : Mx7 w f (w.heap.size + 1 + 1) mm w' := Mx7.below (by (first | with_reducible assumption | (with_reducible refine Mx7.drew ?_; with_reducible assumption))) hb' rfl))
          all_goals
            have HJ := Lib.hid (hq.put hxy s)
            rename_i hS
            clear hS hq H1 H2 H3
            generalize (World.setCell _ _ _ : World) = X at HJ ⊢
            go_wp2_with fail
            go_roundw
            case rel => exact ⟨y + 1, by omega, by go_num, Lib.hid (by rw [show 6 * x + (y + 1) = x * 6 + y + 1 by omega, ← HST.out]; exact HJ.out)⟩
            case measure => simp [intOf]; omega
        · obtain rfl : y = 6 := by omega
          clear HX S1
          go_wp2_with fail
          go_roundw
          case rel => exact ⟨x + 1, by omega, by go_num, HS⟩
          case measure => simp [intOf]; omega
    · obtain rfl : x = 6 := by omega
      have q1 := HX.out.2.1
      have q2 := HX.out.2.2.1
      have hB := HX.out.2.2.2.2.2
      clear HX S1
      rw [show 6 * 6 = 36 from rfl] at q2
      obtain ⟨m, hm⟩ : ∃ m, m = mt7 f 36 := ⟨_, rfl⟩
      rw [← hm] at q2
      have HM := Lib.hid hm
      clear hm
      have hc : wr.rangeAt (w.heap.size + 1 + 1) 0 [.int .i64 (m 0), .int .i64 (m 1), .int .i64 (m 2), .int .i64 (m 3), .int .i64 (m 4), .int .i64 (m 5), .int .i64 (m 6), .int .i64 (m 7), .int .i64 (m 8), .int .i64 (m 9), .int .i64 (m 10), .int .i64 (m 11), .int .i64 (m 12), .int .i64 (m 13), .int .i64 (m 14), .int .i64 (m 15), .int .i64 (m 16), .int .i64 (m 17), .int .i64 (m 18), .int .i64 (m 19), .int .i64 (m 20), .int .i64 (m 21), .int .i64 (m 22), .int .i64 (m 23), .int .i64 (m 24), .int .i64 (m 25), .int .i64 (m 26), .int .i64 (m 27), .int .i64 (m 28), .int .i64 (m 29), .int .i64 (m 30), .int .i64 (m 31), .int .i64 (m 32), .int .i64 (m 33), .int .i64 (m 34), .int .i64 (m 35)] := by
        intro j v hv
        rw [Nat.zero_add, cell_of_row wr _ j _ _ _ (by unfold o36 at q2; exact q2)]
        simpa using hv
      have ht : wr.there (w.heap.size + 1) 0 36 := by
        intro j hj
        refine ⟨?_, frozen_of_row wr _ _ _ _ (by unfold o36 at q1; exact q1)⟩
        rw [Nat.zero_add, o36_at q1 hj]
        rfl
      have hc := Lib.hid hc
      have ht := Lib.hid ht
      clear q1 q2
      go_wp2_with (first | refine wpList_load_mid rfl 23 (.tmp 3) rfl (w.heap.size + 1 + 1) 0 rfl [.int .i64 (m 0), .int .i64 (m 1), .int .i64 (m 2), .int .i64 (m 3), .int .i64 (m 4), .int .i64 (m 5), .int .i64 (m 6), .int .i64 (m 7), .int .i64 (m 8), .int .i64 (m 9), .int .i64 (m 10), .int .i64 (m 11), .int .i64 (m 12), .int .i64 (m 13), .int .i64 (m 14), .int .i64 (m 15), .int .i64 (m 16), .int .i64 (m 17), .int .i64 (m 18), .int .i64 (m 19), .int .i64 (m 20), .int .i64 (m 21), .int .i64 (m 22), .int .i64 (m 23), .int .i64 (m 24), .int .i64 (m 25), .int .i64 (m 26), .int .i64 (m 27), .int .i64 (m 28), .int .i64 (m 29), .int .i64 (m 30), .int .i64 (m 31), .int .i64 (m 32), .int .i64 (m 33), .int .i64 (m 34), .int .i64 (m 35)] (.array 6 22) hc.out (by kernel_rfl) rfl (by kernel_rfl) ?_ | refine wpList_store_mid rfl 23 (.tmp 2) (.tmp 26) rfl (w.heap.size + 1) 0 #[.int .i64 (m 0), .int .i64 (m 1), .int .i64 (m 2), .int .i64 (m 3), .int .i64 (m 4), .int .i64 (m 5), .int .i64 (m 6), .int .i64 (m 7), .int .i64 (m 8), .int .i64 (m 9), .int .i64 (m 10), .int .i64 (m 11), .int .i64 (m 12), .int .i64 (m 13), .int .i64 (m 14), .int .i64 (m 15), .int .i64 (m 16), .int .i64 (m 17), .int .i64 (m 18), .int .i64 (m 19), .int .i64 (m 20), .int .i64 (m 21), .int .i64 (m 22), .int .i64 (m 23), .int .i64 (m 24), .int .i64 (m 25), .int .i64 (m 26), .int .i64 (m 27), .int .i64 (m 28), .int .i64 (m 29), .int .i64 (m 30), .int .i64 (m 31), .int .i64 (m 32), .int .i64 (m 33), .int .i64 (m 34), .int .i64 (m 35)] rfl rfl ht.out (by kernel_rfl) (by kernel_rfl) ?_)
      have hB' := below_cells (b := w.heap.size + 1) [.int .i64 (m 0), .int .i64 (m 1), .int .i64 (m 2), .int .i64 (m 3), .int .i64 (m 4), .int .i64 (m 5), .int .i64 (m 6), .int .i64 (m 7), .int .i64 (m 8), .int .i64 (m 9), .int .i64 (m 10), .int .i64 (m 11), .int .i64 (m 12), .int .i64 (m 13), .int .i64 (m 14), .int .i64 (m 15), .int .i64 (m 16), .int .i64 (m 17), .int .i64 (m 18), .int .i64 (m 19), .int .i64 (m 20), .int .i64 (m 21), .int .i64 (m 22), .int .i64 (m 23), .int .i64 (m 24), .int .i64 (m 25), .int .i64 (m 26), .int .i64 (m 27), .int .i64 (m 28), .int .i64 (m 29), .int .i64 (m 30), .int .i64 (m 31), .int .i64 (m 32), .int .i64 (m 33), .int .i64 (m 34), .int .i64 (m 35)] 0 hB (by omega)
      have hr := World.rangeAt_setCells_same wr (w.heap.size + 1) 0 [.int .i64 (m 0), .int .i64 (m 1), .int .i64 (m 2), .int .i64 (m 3), .int .i64 (m 4), .int .i64 (m 5), .int .i64 (m 6), .int .i64 (m 7), .int .i64 (m 8), .int .i64 (m 9), .int .i64 (m 10), .int .i64 (m 11), .int .i64 (m 12), .int .i64 (m 13), .int .i64 (m 14), .int .i64 (m 15), .int .i64 (m 16), .int .i64 (m 17), .int .i64 (m 18), .int .i64 (m 19), .int .i64 (m 20), .int .i64 (m 21), .int .i64 (m 22), .int .i64 (m 23), .int .i64 (m 24), .int .i64 (m 25), .int .i64 (m 26), .int .i64 (m 27), .int .i64 (m 28), .int .i64 (m 29), .int .i64 (m 30), .int .i64 (m 31), .int .i64 (m 32), .int .i64 (m 33), .int .i64 (m 34), .int .i64 (m 35)] ht.out
      generalize (World.setCells _ _ _ _ : World) = X at hB' hr ⊢
      have hl := run_loadVar_mid (P := Try.prog) X (w.heap.size + 1) 0 23 [.int .i64 (m 0), .int .i64 (m 1), .int .i64 (m 2), .int .i64 (m 3), .int .i64 (m 4), .int .i64 (m 5), .int .i64 (m 6), .int .i64 (m 7), .int .i64 (m 8), .int .i64 (m 9), .int .i64 (m 10), .int .i64 (m 11), .int .i64 (m 12), .int .i64 (m 13), .int .i64 (m 14), .int .i64 (m 15), .int .i64 (m 16), .int .i64 (m 17), .int .i64 (m 18), .int .i64 (m 19), .int .i64 (m 20), .int .i64 (m 21), .int .i64 (m 22), .int .i64 (m 23), .int .i64 (m 24), .int .i64 (m 25), .int .i64 (m 26), .int .i64 (m 27), .int .i64 (m 28), .int .i64 (m 29), .int .i64 (m 30), .int .i64 (m 31), .int .i64 (m 32), .int .i64 (m 33), .int .i64 (m 34), .int .i64 (m 35)] (.array 6 22) hr (by kernel_rfl) rfl (by kernel_rfl)
      rw [← HM.out]
      clear hr hc ht HM hB
      exact bodyPost_ret (v := v36 m) (results_cell1 (a := 2) (t := 23) rfl rfl hl) rfl ⟨rfl, hB'⟩
end Go.Proofs.Ytcjomhjgjdjigaa
