/- CONTRACTS: FromTile, where rows or width are not valid; the pair. -/
import Derived.Test.YtpmhnikilianoaaGt7
import Derived.WalkKit
import Derived.ProofKit
import Derived.OpenShut
import Derived.Lib.Hide
import Derived.WalkSpells
import Derived.Below
import Derived.BigQuiet
import Derived.LoopN
namespace Go.Proofs.Ytpmhnikilianoaa
open Go.ChangeShapes Go.WideShapes Go.ChangeAt Go.RowKit
set_option linter.unusedVariables false
theorem okr_out {k : Nat} (hk : (k : Int) = 1 ∨ (k : Int) = 2 ∨ (k : Int) = 3 ∨ (k : Int) = 6) {r : Int} (h : okr k r = false) : (decide (0 ≤ r) && decide (r ≤ wrap64 (wrap64 (2 ^ k) - 1))) = false := by
  have h4 : k = 1 ∨ k = 2 ∨ k = 3 ∨ k = 6 := by omega
  unfold okr at h
  rcases h4 with rfl | rfl | rfl | rfl
  · rw [show wrap64 (wrap64 (2 ^ 1) - 1) = 2 ^ 1 - 1 by decide +kernel]; exact h
  · rw [show wrap64 (wrap64 (2 ^ 2) - 1) = 2 ^ 2 - 1 by decide +kernel]; exact h
  · rw [show wrap64 (wrap64 (2 ^ 3) - 1) = 2 ^ 3 - 1 by decide +kernel]; exact h
  · rw [show wrap64 (wrap64 (2 ^ 6) - 1) = 2 ^ 6 - 1 by decide +kernel]; exact h
theorem okr_fail {k : Nat} (hk : (k : Int) = 1 ∨ (k : Int) = 2 ∨ (k : Int) = 3 ∨ (k : Int) = 6) {r : Int} (h : okr k r = false) : r < 0 ∨ (¬ (r < 0) ∧ wrap64 (2 ^ k) ≤ r) := by
  unfold okr at h
  simp only [Bool.and_eq_false_iff, decide_eq_false_iff_not] at h
  have h4 : k = 1 ∨ k = 2 ∨ k = 3 ∨ k = 6 := by omega
  rcases h4 with rfl | rfl | rfl | rfl
  · rw [show wrap64 (2 ^ 1) = 2 by decide +kernel]; omega
  · rw [show wrap64 (2 ^ 2) = 4 by decide +kernel]; omega
  · rw [show wrap64 (2 ^ 3) = 8 by decide +kernel]; omega
  · rw [show wrap64 (2 ^ 6) = 64 by decide +kernel]; omega
set_option maxRecDepth 8000 in
set_option maxHeartbeats 4000000 in
theorem stile7_bad (z : List Int) (gz cap : Nat) (hn : dv (z.length : Int) = true) (k : Nat) (hk : dv (k : Int) = true) (N : Nat) (hN : N < z.length) (hgood : ∀ y (h : y < N), okr k (z[y]'(by omega)) = true) (hbad : okr k z[N] = false) (w : World) (hg : gz < w.heap.size) (ho : w.ownsRow 0 3 1 (.slice (some ⟨gz, 0, none⟩) z.length cap) z.length (iw z)) : Calls Try.prog 38 #[.slice (some ⟨gz, 0, none⟩) z.length cap, .int .i64 (k : Int)] w fun e w' => e = .returned (.tuple #[.agg #[.int .i64 0, .int .i64 0, .int .i64 0, .int .i64 0, .int .i64 0, .int .i64 0], .bool false]) ∧ Below w.heap.size w w' := by
  have HO := Lib.hid ho
  have HR := Lib.hid hgood
  have HBD := Lib.hid hbad
  have HD1 : Hid (∀ w, Calls Try.prog 126 #[.int .i64 (z.length : Int)] w fun e w' => e = .returned (.bool true) ∧ w' = w) := Lib.hid (fun w => hn ▸ ldv_any (z.length : Int) w)
  have HD2 : Hid (∀ w, Calls Try.prog 126 #[.int .i64 (k : Int)] w fun e w' => e = .returned (.bool true) ∧ w' = w) := Lib.hid (fun w => hk ▸ ldv_any (k : Int) w)
  have hn6 := dv_in hn
  have hk6 := dv_in hk
  have hz1 : 1 ≤ z.length ∧ z.length ≤ 6 := by omega
  have hz0 : ¬ ((z.length : Int) = 0) := by omega
  clear ho hgood hbad hn hk hn6
  have hN6 : N < 6 := by omega
  go_enter Try.func38, Try.ntmps38
  go_wp2_with fail
  refine (HD1.out _).mono ?_
  rintro e w1 ⟨rfl, rfl⟩
  go_wp2_with fail
  refine (HD2.out _).mono ?_
  rintro e w1 ⟨rfl, rfl⟩
  go_wp2_with fail
  have S0 : Hid (Rf7 w z gz cap (w.heap.size + 1) (fun _ => 0) ((w.alloc oz).alloc (ob7 fun _ => 0))) := Lib.hid ⟨alloc_past (alloc_at rfl), (HO.out.alloc _).alloc _, alloc_at (by simp), by omega, by simp, hg, by (repeat (first | exact Below.refl _ _ | assumption | refine Below.setCell ?_ (by first | (simp; done) | (simp; omega)) _ | refine Below.alloc ?_ (by first | (simp; done) | (simp; omega)) _ | refine Below.drew ?_))⟩
  clear HO HD1 HD2
  unfold oz ob7 at S0
  generalize (World.alloc _ _ : World) = W0 at S0 ⊢
  go_loopw [7] (fun c wr => ∃ y : Nat, y ≤ N ∧ c = .int .i64 y ∧ Hid (Rf7 w z gz cap (w.heap.size + 1) (fun j => if j < y then mrow k (z.getD (j % z.length) 0) 6 else 0) wr)) (fun c _ => 6 - (intOf c).toNat)
  case atStart => exact ⟨0, by omega, rfl, S0⟩
  case round =>
    obtain ⟨y, hy, rfl, HS⟩ := hrel
    by_cases hlyN : y < N
    · have hly : y < 6 := by omega
      have hly' : (y : Int) < 6 := by omega
      have hy0 : (0 : Int) ≤ y := by omega
      have hym : (y : Int).tmod (z.length : Int) = ((y % z.length : Nat) : Int) := by rw [Int.tmod_eq_emod_of_nonneg (by omega)]; rfl
      have hyl : y % z.length < z.length := Nat.mod_lt _ (by omega)
      have hyl1 : ((y % z.length : Nat) : Int) < (z.length : Int) := by omega
      have hyl0 : (0 : Int) ≤ ((y % z.length : Nat) : Int) := by omega
      have hrz : z.getD (y % z.length) 0 = z[y % z.length] := by rw [List.getD_eq_getElem?_getD, List.getElem?_eq_getElem hyl]; rfl
      have hmod : y % z.length = y := Nat.mod_eq_of_lt (by omega)
      have HRr : okr k z[y % z.length] = true := by simp only [hmod]; exact HR.out y hlyN
      clear hmod
      have a1 := own_at HS.out.2.1 (iw_at z _ hyl)
      generalize z[y % z.length] = r at hrz HRr a1
      obtain ⟨m, hm⟩ : ∃ m, m = y % z.length := ⟨_, rfl⟩
      rw [← hm] at hym hyl1 hyl0 a1
      clear hm hyl
      have HI : Hid (∀ w, Calls Try.prog 131 #[.int .i64 r, .int .i64 0, .int .i64 (wrap64 (wrap64 (2 ^ k) - 1))] w fun e w' => e = .returned (.bool true) ∧ w' = w) := Lib.hid (fun w => in63 r 0 _ (okr_in hk6 HRr) w)
      obtain ⟨F, hF⟩ : ∃ F : Nat → Int, F = fun j => if j < y then mrow k (z.getD (j % z.length) 0) 6 else 0 := ⟨_, rfl⟩
      rw [← hF] at HS
      have hFy : F y = 0 := by rw [hF]; simp
      have HQ := Lib.hid hrz
      have HF := Lib.hid hF
      clear hF
      go_wp2_with fail
      refine (HI.out _).mono ?_
      rintro e w1 ⟨rfl, hw⟩
      obtain rfl := hw.symm
      clear hw HI
      go_wp2_with fail
      have S1 : Hid (Rf7 w z gz cap (w.heap.size + 1) (up7 F y (mrow k r 0)) wr) := by
        have e : up7 F y (mrow k r 0) = F := by
          funext j
          unfold up7
          split
          · next h => rw [h, hFy]; rfl
          · rfl
        rw [e]
        exact HS
      clear HS hFy a1
      go_loopw [9] (fun c wr => ∃ x : Nat, x ≤ 6 ∧ c = .int .i64 x ∧ Hid (Rf7 w z gz cap (w.heap.size + 1) (up7 F y (mrow k r x)) wr)) (fun c _ => 6 - (intOf c).toNat)
      case atStart => exact ⟨0, by omega, rfl, S1⟩
      case round =>
        obtain ⟨x, hx, rfl, HX⟩ := hrel
        by_cases hlx : x < 6
        · have hlx' : (x : Int) < 6 := by omega
          have hx0 : (0 : Int) ≤ x := by omega
          have hk1 : 1 ≤ k ∧ k ≤ 6 := by omega
          have hk0 : ¬ ((k : Int) = 0) := by omega
          have hkn : ¬ (k = 0) := by omega
          have hxm : (x : Int).tmod (k : Int) = ((x % k : Nat) : Int) := by rw [Int.tmod_eq_emod_of_nonneg (by omega)]; rfl
          have hxl : ((x % k : Nat) : Int) < (k : Int) := by have := Nat.mod_lt x (show 0 < k by omega); omega
          have hxl0 : (0 : Int) ≤ ((x % k : Nat) : Int) := by omega
          have HN := Lib.hid (HX.out.drewF.put hly (mrow k r (x + 1)))
          have hms : mrow k r (x + 1) = bits .or .i64 (mrow k r x) (wrap64 (bits .and .i64 (r / 2 ^ (x % k)) 1 * 2 ^ x)) := rfl
          rw [hms] at HN
          have HM := Lib.hid hms
          clear hms
          have b_y : wr.cell? ⟨w.heap.size + 1, y, none⟩ = some (.int .i64 (mrow k r x)) := by
            rw [ob7_at HX.out.2.2.1 hly]
            simp [up7]
          have b_f := fun j => frozen_of_row wr (w.heap.size + 1) j _ _ HX.out.2.2.1
          generalize mrow k r x = acc at b_y HN HM
          generalize x % k = p at *
          go_wp2_with fail
          refine wp_region_still_tail 16 (by kernel_rfl) (by kernel_rfl) ?_
          simp only [List.take_succ_cons, List.take_zero, List.drop_succ_cons, List.drop_zero]
          repeat still_step
          refine wpStill_nil ?_
          change wpList _ _ _ _ _ wr.drew
          go_wp2_with fail
          clear b_y b_f
          go_roundw
          case rel =>
            refine ⟨x + 1, by omega, by go_num, ?_⟩
            rw [HM.out]
            rw [up7_up7] at HN
            exact HN
          case measure => simp [intOf]; omega
        · obtain rfl : x = 6 := by omega
          have HE : (fun j => if j < y + 1 then mrow k (z.getD (j % z.length) 0) 6 else 0) = up7 F y (mrow k r 6) := by
            funext j
            unfold up7
            rw [HF.out]
            by_cases hj : j = y
            · subst hj
              rw [if_pos (by omega), if_pos rfl, HQ.out]
            · rw [if_neg hj]
              by_cases hl : j < y
              · rw [if_pos (by omega)]; dsimp only; rw [if_pos hl]
              · rw [if_neg (by omega)]; dsimp only; rw [if_neg hl]
          go_wp2_with fail
          go_roundw
          case rel => exact ⟨y + 1, by omega, by go_num, by rw [HE]; exact HX⟩
          case measure => simp [intOf]; omega
    · obtain rfl : y = N := by omega
      have hly' : (y : Int) < 6 := by omega
      have hy0 : (0 : Int) ≤ y := by omega
      have hym : (y : Int).tmod (z.length : Int) = (y : Int) := by
        rw [Int.tmod_eq_emod_of_nonneg (by omega)]
        exact Int.emod_eq_of_lt (by omega) (by omega)
      have hyl1 : (y : Int) < (z.length : Int) := by omega
      have a1 := own_at HS.out.2.1 (iw_at z _ hN)
      have hbd := HBD.out
      generalize z[y] = r at hbd a1
      have HI : Hid (∀ w, Calls Try.prog 131 #[.int .i64 r, .int .i64 0, .int .i64 (wrap64 (wrap64 (2 ^ k) - 1))] w fun e w' => e = .returned (.bool false) ∧ w' = w) := Lib.hid (fun w => in63n r 0 _ (okr_out hk6 hbd) w)
      have qz1 := HS.out.1
      have hB := HS.out.2.2.2.2.2.2
      unfold oz at qz1
      clear hbd
      go_wp2_with fail
      refine (HI.out _).mono ?_
      rintro e w1 ⟨rfl, hw⟩
      obtain rfl := hw.symm
      clear hw HI a1
      have z_c := fun j => cell_of_row wr _ j _ _ _ qz1
      have z_f := fun j => frozen_of_row wr _ j _ _ qz1
      go_wp2_with fail
      have qr := set6a (.int .i64 0) (.int .i64 0) (.int .i64 0) (.int .i64 0) (.int .i64 0) (.int .i64 0) qz1
      have hB2 := below6 (v0 := .int .i64 0) (v1 := .int .i64 0) (v2 := .int .i64 0) (v3 := .int .i64 0) (v4 := .int .i64 0) (v5 := .int .i64 0) hB (Nat.le_refl w.heap.size)
      clear z_c z_f qz1 hB
      generalize (World.setCell _ _ _ : World) = X at qr hB2 ⊢
      have x_c := fun j => cell_of_row X _ j _ _ _ qr
      exact bodyPost_ret (v := .tuple #[.agg #[.int .i64 0, .int .i64 0, .int .i64 0, .int .i64 0, .int .i64 0, .int .i64 0], .bool false]) (by simp [results, Try.results38, go_sem, x_c]) rfl ⟨rfl, hB2⟩
set_option maxRecDepth 8000 in
set_option maxHeartbeats 4000000 in
theorem itile7_bad (z : List Int) (gz cap : Nat) (hn : dv (z.length : Int) = true) (k : Nat) (hk : dv (k : Int) = true) (N : Nat) (hN : N < z.length) (hgood : ∀ y (h : y < N), okr k (z[y]'(by omega)) = true) (hbad : okr k z[N] = false) (w : World) (hg : gz < w.heap.size) (ho : w.ownsRow 0 3 1 (.slice (some ⟨gz, 0, none⟩) z.length cap) z.length (iw z)) : Calls Try.prog 40 #[.slice (some ⟨gz, 0, none⟩) z.length cap, .int .i64 (k : Int)] w fun e w' => e = .returned (.tuple #[.agg #[.int .i64 0, .int .i64 0, .int .i64 0, .int .i64 0, .int .i64 0, .int .i64 0], .bool false]) ∧ Below w.heap.size w w' := by
  have HO := Lib.hid ho
  have HR := Lib.hid hgood
  have HBD := Lib.hid hbad
  have HD1 : Hid (∀ w, Calls Try.prog 129 #[.int .i64 (z.length : Int)] w fun e w' => e = .returned (.bool true) ∧ w' = w) := Lib.hid (fun w => hn ▸ idv_any (z.length : Int) w)
  have HD2 : Hid (∀ w, Calls Try.prog 129 #[.int .i64 (k : Int)] w fun e w' => e = .returned (.bool true) ∧ w' = w) := Lib.hid (fun w => hk ▸ idv_any (k : Int) w)
  have hn6 := dv_in hn
  have hk6 := dv_in hk
  have hz1 : 1 ≤ z.length ∧ z.length ≤ 6 := by omega
  have hz0 : ¬ ((z.length : Int) = 0) := by omega
  have hzn : ¬ (z.length = 0) := by omega
  clear ho hgood hbad hn hk hn6
  go_enter Try.func40, Try.ntmps40
  go_wp2_with fail
  refine (HD2.out _).mono ?_
  rintro e w1 ⟨rfl, rfl⟩
  go_wp2_with fail
  refine (HD1.out _).mono ?_
  rintro e w1 ⟨rfl, rfl⟩
  go_wp2_with fail
  have S0 : Hid (Rg7 w z gz cap (w.alloc oz)) := Lib.hid ⟨alloc_at rfl, HO.out.alloc _, by simp, by (repeat (first | exact Below.refl _ _ | assumption | refine Below.setCell ?_ (by first | (simp; done) | (simp; omega)) _ | refine Below.alloc ?_ (by first | (simp; done) | (simp; omega)) _ | refine Below.drew ?_))⟩
  clear HO HD1 HD2
  unfold oz at S0
  generalize (World.alloc _ _ : World) = W0 at S0 ⊢
  go_loopw [23] (fun c wr => ∃ i : Nat, i ≤ N ∧ c = .int .i64 i ∧ Hid (Rg7 w z gz cap wr)) (fun c _ => z.length - (intOf c).toNat)
  case atStart => exact ⟨0, by omega, rfl, S0⟩
  case round =>
    obtain ⟨i, hi, rfl, HS⟩ := hrel
    by_cases hliN : i < N
    · have hli : i < z.length := by omega
      have hli' : (i : Int) < z.length := by omega
      have hi0 : (0 : Int) ≤ i := by omega
      have a1 := own_at HS.out.2.1 (iw_at z i hli)
      obtain ⟨t1, t2⟩ := okr_test hk6 (HR.out i hliN)
      generalize z[i] = r at a1 t1 t2
      go_wp2_with fail
      clear a1 t1 t2
      go_roundw
      case rel => exact ⟨i + 1, by omega, by go_num, HS⟩
      case measure => simp [intOf]; omega
    · obtain rfl : i = N := by omega
      have hli' : (i : Int) < z.length := by omega
      have hi0 : (0 : Int) ≤ i := by omega
      have a1 := own_at HS.out.2.1 (iw_at z i hN)
      have hbd := okr_fail hk6 HBD.out
      generalize z[i] = r at a1 hbd
      have qz1 := HS.out.1
      have hB := HS.out.2.2.2
      unfold oz at qz1
      have z_c := fun j => cell_of_row wr _ j _ _ _ qz1
      have z_f := fun j => frozen_of_row wr _ j _ _ qz1
      rcases hbd with hbd | ⟨hbd0, hbd⟩
      all_goals
        go_wp2_with fail
        have qr := set6a (.int .i64 0) (.int .i64 0) (.int .i64 0) (.int .i64 0) (.int .i64 0) (.int .i64 0) qz1
        have hB2 := below6 (v0 := .int .i64 0) (v1 := .int .i64 0) (v2 := .int .i64 0) (v3 := .int .i64 0) (v4 := .int .i64 0) (v5 := .int .i64 0) hB (Nat.le_refl w.heap.size)
        clear z_c z_f qz1 hB
        generalize (World.setCell _ _ _ : World) = X at qr hB2 ⊢
        have x_c := fun j => cell_of_row X _ j _ _ _ qr
        exact bodyPost_ret (v := .tuple #[.agg #[.int .i64 0, .int .i64 0, .int .i64 0, .int .i64 0, .int .i64 0, .int .i64 0], .bool false]) (by simp [results, Try.results40, go_sem, x_c]) rfl ⟨rfl, hB2⟩
set_option maxHeartbeats 1000000 in
theorem stile7_no0 (gz cap : Nat) (n : Nat) (k : Int) (hd : dv (n : Int) = false) (w : World) : Calls Try.prog 38 #[.slice (some ⟨gz, 0, none⟩) n cap, .int .i64 k] w fun e w' => e = .returned (.tuple #[.agg #[.int .i64 0, .int .i64 0, .int .i64 0, .int .i64 0, .int .i64 0, .int .i64 0], .bool false]) ∧ Below w.heap.size w w' := by
  have HD : Hid (∀ w, Calls Try.prog 126 #[.int .i64 (n : Int)] w fun e w' => e = .returned (.bool false) ∧ w' = w) := Lib.hid (fun w => hd ▸ ldv_any (n : Int) w)
  clear hd
  go_enter Try.func38, Try.ntmps38
  go_wp2_with fail
  refine (HD.out _).mono ?_
  rintro e w1 ⟨rfl, rfl⟩
  go_wp2_with fail
  have hx : (w.alloc (.cells #[.int .i64 0, .int .i64 0, .int .i64 0, .int .i64 0, .int .i64 0, .int .i64 0] 28)).heap[w.heap.size]? = some (.cells #[.int .i64 0, .int .i64 0, .int .i64 0, .int .i64 0, .int .i64 0, .int .i64 0] 28 (0, 0)) := alloc_at rfl
  have hB : Below w.heap.size w (w.alloc (.cells #[.int .i64 0, .int .i64 0, .int .i64 0, .int .i64 0, .int .i64 0, .int .i64 0] 28)) := by (repeat (first | exact Below.refl _ _ | assumption | refine Below.setCell ?_ (by first | (simp; done) | (simp; omega)) _ | refine Below.alloc ?_ (by first | (simp; done) | (simp; omega)) _ | refine Below.drew ?_))
  generalize (World.alloc _ _ : World) = X at hx hB ⊢
  have x_c := fun j => cell_of_row X _ j _ _ _ hx
  exact bodyPost_ret (v := .tuple #[.agg #[.int .i64 0, .int .i64 0, .int .i64 0, .int .i64 0, .int .i64 0, .int .i64 0], .bool false]) (by simp [results, Try.results38, go_sem, x_c]) rfl ⟨rfl, hB⟩
set_option maxHeartbeats 1000000 in
theorem stile7_no1 (gz cap : Nat) (n : Nat) (k : Int) (hd : dv (n : Int) = true) (he : dv k = false) (w : World) : Calls Try.prog 38 #[.slice (some ⟨gz, 0, none⟩) n cap, .int .i64 k] w fun e w' => e = .returned (.tuple #[.agg #[.int .i64 0, .int .i64 0, .int .i64 0, .int .i64 0, .int .i64 0, .int .i64 0], .bool false]) ∧ Below w.heap.size w w' := by
  have HD : Hid (∀ w, Calls Try.prog 126 #[.int .i64 (n : Int)] w fun e w' => e = .returned (.bool true) ∧ w' = w) := Lib.hid (fun w => hd ▸ ldv_any (n : Int) w)
  have HE : Hid (∀ w, Calls Try.prog 126 #[.int .i64 k] w fun e w' => e = .returned (.bool false) ∧ w' = w) := Lib.hid (fun w => he ▸ ldv_any k w)
  clear hd he
  go_enter Try.func38, Try.ntmps38
  go_wp2_with fail
  refine (HD.out _).mono ?_
  rintro e w1 ⟨rfl, rfl⟩
  go_wp2_with fail
  refine (HE.out _).mono ?_
  rintro e w1 ⟨rfl, rfl⟩
  go_wp2_with fail
  have hx : (w.alloc (.cells #[.int .i64 0, .int .i64 0, .int .i64 0, .int .i64 0, .int .i64 0, .int .i64 0] 28)).heap[w.heap.size]? = some (.cells #[.int .i64 0, .int .i64 0, .int .i64 0, .int .i64 0, .int .i64 0, .int .i64 0] 28 (0, 0)) := alloc_at rfl
  have hB : Below w.heap.size w (w.alloc (.cells #[.int .i64 0, .int .i64 0, .int .i64 0, .int .i64 0, .int .i64 0, .int .i64 0] 28)) := by (repeat (first | exact Below.refl _ _ | assumption | refine Below.setCell ?_ (by first | (simp; done) | (simp; omega)) _ | refine Below.alloc ?_ (by first | (simp; done) | (simp; omega)) _ | refine Below.drew ?_))
  generalize (World.alloc _ _ : World) = X at hx hB ⊢
  have x_c := fun j => cell_of_row X _ j _ _ _ hx
  exact bodyPost_ret (v := .tuple #[.agg #[.int .i64 0, .int .i64 0, .int .i64 0, .int .i64 0, .int .i64 0, .int .i64 0], .bool false]) (by simp [results, Try.results38, go_sem, x_c]) rfl ⟨rfl, hB⟩
set_option maxHeartbeats 1000000 in
theorem itile7_no0 (gz cap : Nat) (n : Nat) (k : Int) (hd : dv k = false) (w : World) : Calls Try.prog 40 #[.slice (some ⟨gz, 0, none⟩) n cap, .int .i64 k] w fun e w' => e = .returned (.tuple #[.agg #[.int .i64 0, .int .i64 0, .int .i64 0, .int .i64 0, .int .i64 0, .int .i64 0], .bool false]) ∧ Below w.heap.size w w' := by
  have HD : Hid (∀ w, Calls Try.prog 129 #[.int .i64 k] w fun e w' => e = .returned (.bool false) ∧ w' = w) := Lib.hid (fun w => hd ▸ idv_any k w)
  clear hd
  go_enter Try.func40, Try.ntmps40
  go_wp2_with fail
  refine (HD.out _).mono ?_
  rintro e w1 ⟨rfl, rfl⟩
  go_wp2_with fail
  have hx : (w.alloc (.cells #[.int .i64 0, .int .i64 0, .int .i64 0, .int .i64 0, .int .i64 0, .int .i64 0] 28)).heap[w.heap.size]? = some (.cells #[.int .i64 0, .int .i64 0, .int .i64 0, .int .i64 0, .int .i64 0, .int .i64 0] 28 (0, 0)) := alloc_at rfl
  have hB : Below w.heap.size w (w.alloc (.cells #[.int .i64 0, .int .i64 0, .int .i64 0, .int .i64 0, .int .i64 0, .int .i64 0] 28)) := by (repeat (first | exact Below.refl _ _ | assumption | refine Below.setCell ?_ (by first | (simp; done) | (simp; omega)) _ | refine Below.alloc ?_ (by first | (simp; done) | (simp; omega)) _ | refine Below.drew ?_))
  generalize (World.alloc _ _ : World) = X at hx hB ⊢
  have x_c := fun j => cell_of_row X _ j _ _ _ hx
  exact bodyPost_ret (v := .tuple #[.agg #[.int .i64 0, .int .i64 0, .int .i64 0, .int .i64 0, .int .i64 0, .int .i64 0], .bool false]) (by simp [results, Try.results40, go_sem, x_c]) rfl ⟨rfl, hB⟩
set_option maxHeartbeats 1000000 in
theorem itile7_no1 (gz cap : Nat) (n : Nat) (k : Int) (hd : dv k = true) (he : dv (n : Int) = false) (w : World) : Calls Try.prog 40 #[.slice (some ⟨gz, 0, none⟩) n cap, .int .i64 k] w fun e w' => e = .returned (.tuple #[.agg #[.int .i64 0, .int .i64 0, .int .i64 0, .int .i64 0, .int .i64 0, .int .i64 0], .bool false]) ∧ Below w.heap.size w w' := by
  have HD : Hid (∀ w, Calls Try.prog 129 #[.int .i64 k] w fun e w' => e = .returned (.bool true) ∧ w' = w) := Lib.hid (fun w => hd ▸ idv_any k w)
  have HE : Hid (∀ w, Calls Try.prog 129 #[.int .i64 (n : Int)] w fun e w' => e = .returned (.bool false) ∧ w' = w) := Lib.hid (fun w => he ▸ idv_any (n : Int) w)
  clear hd he
  go_enter Try.func40, Try.ntmps40
  go_wp2_with fail
  refine (HD.out _).mono ?_
  rintro e w1 ⟨rfl, rfl⟩
  go_wp2_with fail
  refine (HE.out _).mono ?_
  rintro e w1 ⟨rfl, rfl⟩
  go_wp2_with fail
  have hx : (w.alloc (.cells #[.int .i64 0, .int .i64 0, .int .i64 0, .int .i64 0, .int .i64 0, .int .i64 0] 28)).heap[w.heap.size]? = some (.cells #[.int .i64 0, .int .i64 0, .int .i64 0, .int .i64 0, .int .i64 0, .int .i64 0] 28 (0, 0)) := alloc_at rfl
  have hB : Below w.heap.size w (w.alloc (.cells #[.int .i64 0, .int .i64 0, .int .i64 0, .int .i64 0, .int .i64 0, .int .i64 0] 28)) := by (repeat (first | exact Below.refl _ _ | assumption | refine Below.setCell ?_ (by first | (simp; done) | (simp; omega)) _ | refine Below.alloc ?_ (by first | (simp; done) | (simp; omega)) _ | refine Below.drew ?_))
  generalize (World.alloc _ _ : World) = X at hx hB ⊢
  have x_c := fun j => cell_of_row X _ j _ _ _ hx
  exact bodyPost_ret (v := .tuple #[.agg #[.int .i64 0, .int .i64 0, .int .i64 0, .int .i64 0, .int .i64 0, .int .i64 0], .bool false]) (by simp [results, Try.results40, go_sem, x_c]) rfl ⟨rfl, hB⟩
theorem first_bad (p : Int → Bool) : ∀ z : List Int, (∀ r ∈ z, p r = true) ∨ ∃ (N : Nat) (hN : N < z.length), (∀ y (h : y < N), p (z[y]'(by omega)) = true) ∧ p z[N] = false
  | [] => .inl (fun r h => by cases h)
  | a :: z => by
    cases ha : p a
    · exact .inr ⟨0, by simp, fun y h => by omega, ha⟩
    · rcases first_bad p z with h | ⟨N, hN, h1, h2⟩
      · refine .inl (fun r hr => ?_)
        rcases List.mem_cons.mp hr with rfl | hr
        · exact ha
        · exact h r hr
      · refine .inr ⟨N + 1, by simpa using hN, fun y hy => ?_, by simpa using h2⟩
        rcases y with _ | y
        · exact ha
        · simpa using h1 y (by omega)
theorem tile7_pair (z : List Int) (k0 : Int) : ∃ (r0 r1 r2 r3 r4 r5 : Int) (t : Bool), (∀ w gz cap, gz < w.heap.size → w.ownsRow 0 3 1 (.slice (some ⟨gz, 0, none⟩) z.length cap) z.length (iw z) → Calls Try.prog 38 #[.slice (some ⟨gz, 0, none⟩) z.length cap, .int .i64 k0] w fun e w' => e = .returned (.tuple #[.agg #[.int .i64 r0, .int .i64 r1, .int .i64 r2, .int .i64 r3, .int .i64 r4, .int .i64 r5], .bool t]) ∧ Below w.heap.size w w') ∧ (∀ w gz cap, gz < w.heap.size → w.ownsRow 0 3 1 (.slice (some ⟨gz, 0, none⟩) z.length cap) z.length (iw z) → Calls Try.prog 40 #[.slice (some ⟨gz, 0, none⟩) z.length cap, .int .i64 k0] w fun e w' => e = .returned (.tuple #[.agg #[.int .i64 r0, .int .i64 r1, .int .i64 r2, .int .i64 r3, .int .i64 r4, .int .i64 r5], .bool t]) ∧ Below w.heap.size w w') := by
  cases hn : dv (z.length : Int)
  · cases hk : dv k0
    · exact ⟨0, 0, 0, 0, 0, 0, false, fun w gz cap _ _ => stile7_no0 gz cap z.length k0 hn w, fun w gz cap _ _ => itile7_no0 gz cap z.length k0 hk w⟩
    · exact ⟨0, 0, 0, 0, 0, 0, false, fun w gz cap _ _ => stile7_no0 gz cap z.length k0 hn w, fun w gz cap _ _ => itile7_no1 gz cap z.length k0 hk hn w⟩
  · cases hk : dv k0
    · exact ⟨0, 0, 0, 0, 0, 0, false, fun w gz cap _ _ => stile7_no1 gz cap z.length k0 hn hk w, fun w gz cap _ _ => itile7_no0 gz cap z.length k0 hk w⟩
    · have h1 := dv_in hk
      obtain ⟨k, rfl⟩ : ∃ k : Nat, k0 = k := ⟨k0.toNat, by omega⟩
      rcases first_bad (okr k) z with h | ⟨N, hN, h2, h3⟩
      · exact ⟨_, _, _, _, _, _, true, fun w gz cap hg ho => stile7 z gz cap hn k hk h w hg ho, fun w gz cap hg ho => itile7 z gz cap hn k hk h w hg ho⟩
      · exact ⟨0, 0, 0, 0, 0, 0, false, fun w gz cap hg ho => stile7_bad z gz cap hn k hk N hN h2 h3 w hg ho, fun w gz cap hg ho => itile7_bad z gz cap hn k hk N hN h2 h3 w hg ho⟩
end Go.Proofs.Ytpmhnikilianoaa
