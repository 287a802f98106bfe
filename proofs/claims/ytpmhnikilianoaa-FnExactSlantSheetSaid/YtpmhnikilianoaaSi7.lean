/- CONTRACTS: SlantSheet of the code; the pair. -/
import Derived.Test.YtpmhnikilianoaaS7
import Derived.WalkKit
import Derived.ProofKit
import Derived.OpenShut
import Derived.Lib.Hide
import Derived.WalkSpells
import Derived.Below
import Derived.BigQuiet
import Derived.LoopN
namespace Go.Proofs.Ytpmhnikilianoaa
open Go.ChangeShapes Go.WideShapes Go.ChangeAt Go.RowKit
set_option linter.unusedVariables false
/-- Midway: the answer's room, the first row's sheet, and in block g the rows so far. -/
def Rt7 (w : World) (v : Int) (b : Nat → Bool) (x m g : Nat) (W : World) : Prop := KR 2 [(w.heap.size, .cells #[.int .i64 0, .int .i64 0, .int .i64 0, .int .i64 0, .int .i64 0, .int .i64 0] 28 (0, 0)), (w.heap.size + 1, .cells #[.int .i64 v, .int .i64 0, .int .i64 0, .int .i64 0, .int .i64 0, .int .i64 0] 28 (0, 0))] w W ∧ W.heap[g]? = some (o6 (sl7 b x m)) ∧ w.heap.size + 2 ≤ g ∧ g < W.heap.size
theorem Rt7.below {w W W' : World} {v : Int} {b : Nat → Bool} {x m g M : Nat} (h : Rt7 w v b x m g W) (hb : Below M W W') (hM : M = W.heap.size) : Rt7 w v b x m g W' := ⟨h.1.far hb hM, rowk h.2.1 hb hM, h.2.2.1, Nat.lt_of_lt_of_le h.2.2.2 hb.size⟩
theorem Rt7.put {w W : World} {v : Int} {b : Nat → Bool} {x m g : Nat} (h : Rt7 w v b x m g W) : Rt7 w v b x (m + 1) g ((((((W.setCell ⟨g, 0, none⟩ (.int .i64 (rowv (sl7 b x (m + 1) 0)))).setCell ⟨g, 1, none⟩ (.int .i64 (rowv (sl7 b x (m + 1) 1)))).setCell ⟨g, 2, none⟩ (.int .i64 (rowv (sl7 b x (m + 1) 2)))).setCell ⟨g, 3, none⟩ (.int .i64 (rowv (sl7 b x (m + 1) 3)))).setCell ⟨g, 4, none⟩ (.int .i64 (rowv (sl7 b x (m + 1) 4)))).setCell ⟨g, 5, none⟩ (.int .i64 (rowv (sl7 b x (m + 1) 5)))) := by
  obtain ⟨h1, h2, h3, h4⟩ := h
  exact ⟨h1.set h3 |>.set h3 |>.set h3 |>.set h3 |>.set h3 |>.set h3, set6a _ _ _ _ _ _ h2, h3, by simpa using h4⟩
theorem Rt7_c {w U : World} {v : Int} {b : Nat → Bool} {x m g : Nat} (h : Rt7 w v b x m g U) : ∀ j, U.cell? ⟨g, j, none⟩ = (#[.int .i64 (rowv (sl7 b x m 0)), .int .i64 (rowv (sl7 b x m 1)), .int .i64 (rowv (sl7 b x m 2)), .int .i64 (rowv (sl7 b x m 3)), .int .i64 (rowv (sl7 b x m 4)), .int .i64 (rowv (sl7 b x m 5))] : Array Value)[j]? := fun j => cell_of_row U _ j _ _ _ h.2.1
theorem Rt7_f {w U : World} {v : Int} {b : Nat → Bool} {x m g : Nat} (h : Rt7 w v b x m g U) : ∀ j, U.frozen? ⟨g, j, none⟩ = false := fun j => frozen_of_row U _ j _ _ h.2.1
theorem Rt7_v {w U : World} {v : Int} {b : Nat → Bool} {x m g : Nat} (h : Rt7 w v b x m g U) : ∀ j, U.cell? ⟨w.heap.size + 1, j, none⟩ = (#[.int .i64 v, .int .i64 0, .int .i64 0, .int .i64 0, .int .i64 0, .int .i64 0] : Array Value)[j]? := fun j => cell_of_row U _ j _ _ _ (h.1.row (g := w.heap.size + 1) (List.mem_cons_of_mem _ (List.mem_cons_self ..)))
theorem kr2s (w : World) (o o2 : Obj) : KR 2 [(w.heap.size, o), (w.heap.size + 1, o2)] w ((w.alloc o).alloc o2) := by
  refine ⟨?_, by simp, by (repeat (first | exact Below.refl _ _ | assumption | refine Below.setCell ?_ (by first | (simp; done) | (simp; omega)) _ | refine Below.alloc ?_ (by first | (simp; done) | (simp; omega)) _ | refine Below.drew ?_))⟩
  intro p hp
  simp only [List.mem_cons, List.not_mem_nil, or_false] at hp
  rcases hp with rfl | rfl
  · exact ⟨by simp, alloc_past (alloc_at rfl)⟩
  · exact ⟨by simp, alloc_at (by simp)⟩
theorem join_k (b : Nat → Bool) (x k : Nat) (hk : k < 6) (w : World) : Calls Try.prog 135 #[.agg #[.int .i64 (rowv (sl7 b x k 0)), .int .i64 (rowv (sl7 b x k 1)), .int .i64 (rowv (sl7 b x k 2)), .int .i64 (rowv (sl7 b x k 3)), .int .i64 (rowv (sl7 b x k 4)), .int .i64 (rowv (sl7 b x k 5))], .agg #[.int .i64 (rowv (sf ((k * x) % 6) k (fo7 b) 0)), .int .i64 (rowv (sf ((k * x) % 6) k (fo7 b) 1)), .int .i64 (rowv (sf ((k * x) % 6) k (fo7 b) 2)), .int .i64 (rowv (sf ((k * x) % 6) k (fo7 b) 3)), .int .i64 (rowv (sf ((k * x) % 6) k (fo7 b) 4)), .int .i64 (rowv (sf ((k * x) % 6) k (fo7 b) 5))]] w fun e w' => e = .returned (.agg #[.int .i64 (rowv (sl7 b x (k + 1) 0)), .int .i64 (rowv (sl7 b x (k + 1) 1)), .int .i64 (rowv (sl7 b x (k + 1) 2)), .int .i64 (rowv (sl7 b x (k + 1) 3)), .int .i64 (rowv (sl7 b x (k + 1) 4)), .int .i64 (rowv (sl7 b x (k + 1) 5))]) ∧ Below w.heap.size w w' := by
  have h := or_any (rowv (sl7 b x k 0)) (rowv (sl7 b x k 1)) (rowv (sl7 b x k 2)) (rowv (sl7 b x k 3)) (rowv (sl7 b x k 4)) (rowv (sl7 b x k 5)) (rowv (sf ((k * x) % 6) k (fo7 b) 0)) (rowv (sf ((k * x) % 6) k (fo7 b) 1)) (rowv (sf ((k * x) % 6) k (fo7 b) 2)) (rowv (sf ((k * x) % 6) k (fo7 b) 3)) (rowv (sf ((k * x) % 6) k (fo7 b) 4)) (rowv (sf ((k * x) % 6) k (fo7 b) 5)) w
  simp only [row_jf] at h
  rw [sl7_or b hk (show 0 < 6 by decide), sl7_or b hk (show 1 < 6 by decide), sl7_or b hk (show 2 < 6 by decide), sl7_or b hk (show 3 < 6 by decide), sl7_or b hk (show 4 < 6 by decide), sl7_or b hk (show 5 < 6 by decide)] at h
  exact h
set_option maxHeartbeats 4000000 in
theorem islan_yes (b : Nat → Bool) (x : Nat) (hx : x < 6) (w : World) : Calls Try.prog 48 #[.int .i64 (rowv b), .int .i64 (x : Int)] w fun e w' => e = .returned (.tuple #[.agg #[.int .i64 (rowv (sl7 b x 6 0)), .int .i64 (rowv (sl7 b x 6 1)), .int .i64 (rowv (sl7 b x 6 2)), .int .i64 (rowv (sl7 b x 6 3)), .int .i64 (rowv (sl7 b x 6 4)), .int .i64 (rowv (sl7 b x 6 5))], .bool true]) ∧ Below w.heap.size w w' := by
  have H0 := fun w => sheet_any (rowv b) 0 0 0 0 0 w
  rw [show (ok (rowv b) && ok 0 && ok 0 && ok 0 && ok 0 && ok 0) = true by rw [rowv_ok]; rfl] at H0
  have H0 := Lib.hid H0
  have H1 := fun w => rem_any (x : Int) (WalkArith.wf_i64 (by omega)) w
  rw [show (x : Int) % 6 = (x : Int) by omega] at H1
  have H1 := Lib.hid H1
  have HF := fun k hk => ishift_k (fo7 b) k x hk hx
  simp only [← (fo7_rows b).1, ← (fo7_rows b).2.1, ← (fo7_rows b).2.2.1, ← (fo7_rows b).2.2.2.1, ← (fo7_rows b).2.2.2.2.1, ← (fo7_rows b).2.2.2.2.2] at HF
  have HF := Lib.hid HF
  have HJ := Lib.hid (fun k hk => join_k b x k hk)
  have E1 : rowv (fo7 b 0) = rowv (sl7 b x 1 0) ∧ rowv (fo7 b 1) = rowv (sl7 b x 1 1) ∧ rowv (fo7 b 2) = rowv (sl7 b x 1 2) ∧ rowv (fo7 b 3) = rowv (sl7 b x 1 3) ∧ rowv (fo7 b 4) = rowv (sl7 b x 1 4) ∧ rowv (fo7 b 5) = rowv (sl7 b x 1 5) := ⟨sl7_1 b x (by decide), sl7_1 b x (by decide), sl7_1 b x (by decide), sl7_1 b x (by decide), sl7_1 b x (by decide), sl7_1 b x (by decide)⟩
  have hfo := fo7_rows b
  obtain ⟨v, hv⟩ : ∃ v, v = rowv b := ⟨_, rfl⟩
  have hz : Obj.cells #[.int .i64 v, .int .i64 0, .int .i64 0, .int .i64 0, .int .i64 0, .int .i64 0] 28 (0, 0) = o6 (sl7 b x 1) := by
    unfold o6
    rw [← E1.1, ← E1.2.1, ← E1.2.2.1, ← E1.2.2.2.1, ← E1.2.2.2.2.1, ← E1.2.2.2.2.2, ← hfo.1, ← hfo.2.1, ← hfo.2.2.1, ← hfo.2.2.2.1, ← hfo.2.2.2.2.1, ← hfo.2.2.2.2.2, hv]
  have HZ := Lib.hid hz
  rw [← hv] at H0 HF ⊢
  clear hv E1 hfo hz
  go_enter Try.func48, Try.ntmps48
  go_wp2_with fail
  generalize hW : (World.alloc _ _ : World) = W0
  have K0 : KR 2 [(w.heap.size, .cells #[.int .i64 0, .int .i64 0, .int .i64 0, .int .i64 0, .int .i64 0, .int .i64 0] 28 (0, 0)), (w.heap.size + 1, .cells #[.int .i64 v, .int .i64 0, .int .i64 0, .int .i64 0, .int .i64 0, .int .i64 0] 28 (0, 0))] w W0 := hW ▸ kr2s w _ _
  clear hW
  have v_c := fun j => cell_of_row W0 _ j _ _ _ (K0.row (g := w.heap.size + 1) (List.mem_cons_of_mem _ (List.mem_cons_self ..)))
  go_wp2_with fail
  refine (H0.out _).mono ?_
  rintro e W1 ⟨rfl, hb⟩
  have K1 := K0.far hb rfl
  clear hb K0 v_c
  go_wp2_with fail
  refine (H1.out _).mono ?_
  rintro e w1 ⟨rfl, hw⟩
  obtain rfl := hw.symm
  clear hw
  have v_c := fun j => cell_of_row W1 _ j _ _ _ (K1.row (g := w.heap.size + 1) (List.mem_cons_of_mem _ (List.mem_cons_self ..)))
  go_wp2_with fail
  have S0 : Hid (Rt7 w v b x 1 W1.heap.size (W1.alloc (.cells #[.int .i64 v, .int .i64 0, .int .i64 0, .int .i64 0, .int .i64 0, .int .i64 0] 28))) := Lib.hid ⟨K1.al, by rw [← HZ.out]; exact alloc_at rfl, K1.2.1, by simp⟩
  clear K1 v_c HZ H0 H1
  generalize (World.alloc _ _ : World) = W2 at S0 ⊢
  generalize W1.heap.size = g at S0 ⊢
  go_loopw [8] (fun c wr => ∃ k : Nat, 1 ≤ k ∧ k ≤ 6 ∧ c = .int .i64 k ∧ Hid (Rt7 w v b x k g wr)) (fun c _ => 6 - (intOf c).toNat)
  case atStart => exact ⟨1, by omega, by omega, rfl, S0⟩
  case round =>
    obtain ⟨k, hk1, hk, rfl, HS⟩ := hrel
    by_cases hlt : k < 6
    · have hlt' : (k : Int) < 6 := by omega
      have hk0 : (0 : Int) ≤ k := by omega
      have HFk := Lib.hid (HF.out k hlt)
      have HJk := Lib.hid (HJ.out k hlt)
      have HP := Lib.hid (fun (W : World) (h : Rt7 w v b x k g W) => h.put)
      go_wp2_with fail
      have HD := Lib.hid (HS.out.below (M := wr.heap.size) (Below.refl _ _).drew rfl)
      have d_c := Rt7_c HD.out
      have s_c := Rt7_v HD.out
      clear HS
      set_option maxRecDepth 8000 in
      go_region_with (first | (go_at_call 130; with_reducible refine (HFk.out _).mono ?_; rintro e w' ⟨rfl, hb'⟩; have HE := Lib.hid (HD.out.below hb' rfl); have e_c := Rt7_c HE.out) | (go_at_call 135; with_reducible refine (HJk.out _).mono ?_; rintro e w' ⟨rfl, hb'⟩; have HG := Lib.hid (HE.out.below hb' rfl); clear e_c d_c; have b_f := Rt7_f HG.out; have b_c := Rt7_c HG.out))
      all_goals
        have HI2 := Lib.hid (HP.out _ HG.out)
        clear HG HE HD b_f b_c s_c
        go_wp2_with fail
        go_roundw
        case rel => exact ⟨k + 1, by omega, by omega, by go_num, HI2⟩
        case measure => simp [intOf]; omega
    · obtain rfl : k = 6 := by omega
      have d_c := Rt7_c HS.out
      have qz1 := HS.out.1.row (g := w.heap.size) (o := .cells #[.int .i64 0, .int .i64 0, .int .i64 0, .int .i64 0, .int .i64 0, .int .i64 0] 28 (0, 0)) (List.mem_cons_self ..)
      have hB := HS.out.1.2.2
      have z_c := fun j => cell_of_row wr _ j _ _ _ qz1
      have z_f := fun j => frozen_of_row wr _ j _ _ qz1
      go_wp2_with fail
      have qr := set6a (.int .i64 (rowv (sl7 b x 6 0))) (.int .i64 (rowv (sl7 b x 6 1))) (.int .i64 (rowv (sl7 b x 6 2))) (.int .i64 (rowv (sl7 b x 6 3))) (.int .i64 (rowv (sl7 b x 6 4))) (.int .i64 (rowv (sl7 b x 6 5))) qz1
      have hB2 := below6 (v0 := .int .i64 (rowv (sl7 b x 6 0))) (v1 := .int .i64 (rowv (sl7 b x 6 1))) (v2 := .int .i64 (rowv (sl7 b x 6 2))) (v3 := .int .i64 (rowv (sl7 b x 6 3))) (v4 := .int .i64 (rowv (sl7 b x 6 4))) (v5 := .int .i64 (rowv (sl7 b x 6 5))) hB (Nat.le_refl w.heap.size)
      clear z_c z_f qz1 hB d_c HS
      generalize (World.setCell _ _ _ : World) = X at qr hB2 ⊢
      have x_c := fun j => cell_of_row X _ j _ _ _ qr
      exact bodyPost_ret (v := .tuple #[.agg #[.int .i64 (rowv (sl7 b x 6 0)), .int .i64 (rowv (sl7 b x 6 1)), .int .i64 (rowv (sl7 b x 6 2)), .int .i64 (rowv (sl7 b x 6 3)), .int .i64 (rowv (sl7 b x 6 4)), .int .i64 (rowv (sl7 b x 6 5))], .bool true]) (by simp [results, Try.results48, go_sem, x_c]) rfl ⟨rfl, hB2⟩
set_option maxHeartbeats 2000000 in
theorem islan_no0 (v c : Int) (hw : (Lit.int .i64 c).wf = true) (hv : ok v = false) (w : World) : Calls Try.prog 48 #[.int .i64 v, .int .i64 c] w fun e w' => e = .returned (.tuple #[.agg #[.int .i64 0, .int .i64 0, .int .i64 0, .int .i64 0, .int .i64 0, .int .i64 0], .bool false]) ∧ Below w.heap.size w w' := by
  have H0 := fun w => sheet_any v 0 0 0 0 0 w
  rw [show (ok v && ok 0 && ok 0 && ok 0 && ok 0 && ok 0) = false by rw [hv]; rfl] at H0
  have H0 := Lib.hid H0
  clear hv
  go_enter Try.func48, Try.ntmps48
  go_wp2_with fail
  generalize hW : (World.alloc _ _ : World) = W0
  have K0 : KR 2 [(w.heap.size, .cells #[.int .i64 0, .int .i64 0, .int .i64 0, .int .i64 0, .int .i64 0, .int .i64 0] 28 (0, 0)), (w.heap.size + 1, .cells #[.int .i64 v, .int .i64 0, .int .i64 0, .int .i64 0, .int .i64 0, .int .i64 0] 28 (0, 0))] w W0 := hW ▸ kr2s w _ _
  clear hW
  have v_c := fun j => cell_of_row W0 _ j _ _ _ (K0.row (g := w.heap.size + 1) (List.mem_cons_of_mem _ (List.mem_cons_self ..)))
  go_wp2_with fail
  refine (H0.out _).mono ?_
  rintro e W1 ⟨rfl, hb⟩
  have K1 := K0.far hb rfl
  clear hb K0 v_c
  have qz1 := K1.row (g := w.heap.size) (o := .cells #[.int .i64 0, .int .i64 0, .int .i64 0, .int .i64 0, .int .i64 0, .int .i64 0] 28 (0, 0)) (List.mem_cons_self ..)
  have hB := K1.2.2
  have z_c := fun j => cell_of_row W1 _ j _ _ _ qz1
  have z_f := fun j => frozen_of_row W1 _ j _ _ qz1
  go_wp2_with fail
  have qr := set6a (.int .i64 0) (.int .i64 0) (.int .i64 0) (.int .i64 0) (.int .i64 0) (.int .i64 0) qz1
  have hB2 := below6 (v0 := .int .i64 0) (v1 := .int .i64 0) (v2 := .int .i64 0) (v3 := .int .i64 0) (v4 := .int .i64 0) (v5 := .int .i64 0) hB (Nat.le_refl w.heap.size)
  clear z_c z_f qz1 hB
  generalize (World.setCell _ _ _ : World) = X at qr hB2 ⊢
  have x_c := fun j => cell_of_row X _ j _ _ _ qr
  exact bodyPost_ret (v := .tuple #[.agg #[.int .i64 0, .int .i64 0, .int .i64 0, .int .i64 0, .int .i64 0, .int .i64 0], .bool false]) (by simp [results, Try.results48, go_sem, x_c]) rfl ⟨rfl, hB2⟩
set_option maxHeartbeats 2000000 in
theorem islan_no1 (v c : Int) (hw : (Lit.int .i64 c).wf = true) (hv : ok v = true) (hc : ¬ (c = c % 6)) (w : World) : Calls Try.prog 48 #[.int .i64 v, .int .i64 c] w fun e w' => e = .returned (.tuple #[.agg #[.int .i64 0, .int .i64 0, .int .i64 0, .int .i64 0, .int .i64 0, .int .i64 0], .bool false]) ∧ Below w.heap.size w w' := by
  have H0 := fun w => sheet_any v 0 0 0 0 0 w
  rw [show (ok v && ok 0 && ok 0 && ok 0 && ok 0 && ok 0) = true by rw [hv]; rfl] at H0
  have H0 := Lib.hid H0
  have H1 := fun w => rem_any c hw w
  obtain ⟨d, hd⟩ : ∃ d, d = c % 6 := ⟨_, rfl⟩
  rw [← hd] at H1 hc
  have H1 := Lib.hid H1
  clear hd
  clear hv
  go_enter Try.func48, Try.ntmps48
  go_wp2_with fail
  generalize hW : (World.alloc _ _ : World) = W0
  have K0 : KR 2 [(w.heap.size, .cells #[.int .i64 0, .int .i64 0, .int .i64 0, .int .i64 0, .int .i64 0, .int .i64 0] 28 (0, 0)), (w.heap.size + 1, .cells #[.int .i64 v, .int .i64 0, .int .i64 0, .int .i64 0, .int .i64 0, .int .i64 0] 28 (0, 0))] w W0 := hW ▸ kr2s w _ _
  clear hW
  have v_c := fun j => cell_of_row W0 _ j _ _ _ (K0.row (g := w.heap.size + 1) (List.mem_cons_of_mem _ (List.mem_cons_self ..)))
  go_wp2_with fail
  refine (H0.out _).mono ?_
  rintro e W1 ⟨rfl, hb⟩
  have K1 := K0.far hb rfl
  clear hb K0 v_c
  have qz1 := K1.row (g := w.heap.size) (o := .cells #[.int .i64 0, .int .i64 0, .int .i64 0, .int .i64 0, .int .i64 0, .int .i64 0] 28 (0, 0)) (List.mem_cons_self ..)
  have hB := K1.2.2
  have z_c := fun j => cell_of_row W1 _ j _ _ _ qz1
  have z_f := fun j => frozen_of_row W1 _ j _ _ qz1
  go_wp2_with fail
  refine (H1.out _).mono ?_
  rintro e w1 ⟨rfl, hw1⟩
  obtain rfl := hw1.symm
  clear hw1
  go_wp2_with fail
  have qr := set6a (.int .i64 0) (.int .i64 0) (.int .i64 0) (.int .i64 0) (.int .i64 0) (.int .i64 0) qz1
  have hB2 := below6 (v0 := .int .i64 0) (v1 := .int .i64 0) (v2 := .int .i64 0) (v3 := .int .i64 0) (v4 := .int .i64 0) (v5 := .int .i64 0) hB (Nat.le_refl w.heap.size)
  clear z_c z_f qz1 hB
  generalize (World.setCell _ _ _ : World) = X at qr hB2 ⊢
  have x_c := fun j => cell_of_row X _ j _ _ _ qr
  exact bodyPost_ret (v := .tuple #[.agg #[.int .i64 0, .int .i64 0, .int .i64 0, .int .i64 0, .int .i64 0, .int .i64 0], .bool false]) (by simp [results, Try.results48, go_sem, x_c]) rfl ⟨rfl, hB2⟩
theorem slant_pair (a c : Int) (ha : (Lit.int .i64 a).wf = true) (hc : (Lit.int .i64 c).wf = true) : ∃ (r0 r1 r2 r3 r4 r5 : Int) (t : Bool), (∀ w, Calls Try.prog 47 #[.int .i64 a, .int .i64 c] w fun e w' => e = .returned (.tuple #[.agg #[.int .i64 r0, .int .i64 r1, .int .i64 r2, .int .i64 r3, .int .i64 r4, .int .i64 r5], .bool t]) ∧ Below w.heap.size w w') ∧ (∀ w, Calls Try.prog 48 #[.int .i64 a, .int .i64 c] w fun e w' => e = .returned (.tuple #[.agg #[.int .i64 r0, .int .i64 r1, .int .i64 r2, .int .i64 r3, .int .i64 r4, .int .i64 r5], .bool t]) ∧ Below w.heap.size w w') := by
  cases hv : ok a
  · refine ⟨0, 0, 0, 0, 0, 0, false, ?_, islan_no0 a c hc hv⟩
    exact sslan_no0 a c (Lib.hid (in63n a 0 63 hv))
  · by_cases h5 : 0 ≤ c ∧ c ≤ 5
    · obtain ⟨x, rfl⟩ : ∃ x : Nat, c = x := ⟨c.toNat, by omega⟩
      have hr := rowv_bits hv
      rw [hr]
      exact ⟨_, _, _, _, _, _, true, sslan_yes _ x (by omega), islan_yes _ x (by omega)⟩
    · have hb : (decide (0 ≤ c) && decide (c ≤ 5)) = false := by simp; omega
      refine ⟨0, 0, 0, 0, 0, 0, false, ?_, islan_no1 a c hc hv (by omega)⟩
      exact sslan_no1 a c (Lib.hid (in63 a 0 63 hv)) (Lib.hid (in63n c 0 5 hb))
end Go.Proofs.Ytpmhnikilianoaa
