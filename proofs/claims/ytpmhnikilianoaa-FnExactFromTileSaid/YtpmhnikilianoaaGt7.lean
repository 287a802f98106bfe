/- CONTRACTS: FromTile of the code. -/
import Derived.Test.YtpmhnikilianoaaFt7
import Derived.WalkKit
import Derived.ProofKit
import Derived.OpenShut
import Derived.Lib.Hide
import Derived.WalkSpells
import Derived.Below
import Derived.BigQuiet
import Derived.LoopN
namespace Go.Proofs.Ytpmhnikilianoaa
open Go.ChangeShapes Go.WideShapes Go.ChangeAt Go.RowKit
set_option linter.unusedVariables false
/-- The code's row of a tile's row, t times w cells of it. -/
def irow (w : Nat) (r : Int) : Nat → Int
  | 0 => 0
  | t + 1 => bits .or .i64 (irow w r t) (wrap64 (r * 2 ^ (t * w)))
theorem row1 : ∀ r : Fin 2, mrow 1 ((r.val : Nat) : Int) 6 = irow 1 ((r.val : Nat) : Int) 6 := by decide +kernel
theorem row2 : ∀ r : Fin 4, mrow 2 ((r.val : Nat) : Int) 6 = irow 2 ((r.val : Nat) : Int) 3 := by decide +kernel
theorem row3 : ∀ r : Fin 8, mrow 3 ((r.val : Nat) : Int) 6 = irow 3 ((r.val : Nat) : Int) 2 := by decide +kernel
theorem row6 : ∀ r : Fin 64, mrow 6 ((r.val : Nat) : Int) 6 = irow 6 ((r.val : Nat) : Int) 1 := by decide +kernel
theorem rows_eq {k : Nat} (hk : (k : Int) = 1 ∨ (k : Int) = 2 ∨ (k : Int) = 3 ∨ (k : Int) = 6) {r : Int} (h : okr k r = true) : irow k r (6 / k) = mrow k r 6 := by
  unfold okr at h
  simp only [Bool.and_eq_true, decide_eq_true_eq] at h
  obtain ⟨n, rfl⟩ : ∃ n : Nat, r = n := ⟨r.toNat, by omega⟩
  have h4 : k = 1 ∨ k = 2 ∨ k = 3 ∨ k = 6 := by omega
  rcases h4 with rfl | rfl | rfl | rfl
  · exact (row1 ⟨n, by have := h.2; simp at this; omega⟩).symm
  · exact (row2 ⟨n, by have := h.2; simp at this; omega⟩).symm
  · exact (row3 ⟨n, by have := h.2; simp at this; omega⟩).symm
  · exact (row6 ⟨n, by have := h.2; simp at this; omega⟩).symm
theorem okr_test {k : Nat} (hk : (k : Int) = 1 ∨ (k : Int) = 2 ∨ (k : Int) = 3 ∨ (k : Int) = 6) {r : Int} (h : okr k r = true) : ¬ (r < 0) ∧ ¬ (wrap64 (2 ^ k) ≤ r) := by
  unfold okr at h
  simp only [Bool.and_eq_true, decide_eq_true_eq] at h
  have h4 : k = 1 ∨ k = 2 ∨ k = 3 ∨ k = 6 := by omega
  rcases h4 with rfl | rfl | rfl | rfl
  · rw [show wrap64 (2 ^ 1) = 2 by decide +kernel]; omega
  · rw [show wrap64 (2 ^ 2) = 4 by decide +kernel]; omega
  · rw [show wrap64 (2 ^ 3) = 8 by decide +kernel]; omega
  · rw [show wrap64 (2 ^ 6) = 64 by decide +kernel]; omega
/-- The first loop: the rows' numbers are looked at. -/
def Rg7 (w : World) (z : List Int) (gz cap : Nat) (W : World) : Prop := W.heap[w.heap.size]? = some oz ∧ W.ownsRow 0 3 1 (.slice (some ⟨gz, 0, none⟩) z.length cap) z.length (iw z) ∧ W.heap.size = w.heap.size + 1 ∧ Below w.heap.size w W
set_option maxRecDepth 8000 in
set_option maxHeartbeats 4000000 in
theorem itile7 (z : List Int) (gz cap : Nat) (hn : dv (z.length : Int) = true) (k : Nat) (hk : dv (k : Int) = true) (hr : ∀ r ∈ z, okr k r = true) (w : World) (hg : gz < w.heap.size) (ho : w.ownsRow 0 3 1 (.slice (some ⟨gz, 0, none⟩) z.length cap) z.length (iw z)) : Calls Try.prog 40 #[.slice (some ⟨gz, 0, none⟩) z.length cap, .int .i64 (k : Int)] w fun e w' => e = .returned (.tuple #[.agg #[.int .i64 (mrow k (z.getD (0 % z.length) 0) 6), .int .i64 (mrow k (z.getD (1 % z.length) 0) 6), .int .i64 (mrow k (z.getD (2 % z.length) 0) 6), .int .i64 (mrow k (z.getD (3 % z.length) 0) 6), .int .i64 (mrow k (z.getD (4 % z.length) 0) 6), .int .i64 (mrow k (z.getD (5 % z.length) 0) 6)], .bool true]) ∧ Below w.heap.size w w' := by
  have HO := Lib.hid ho
  have HR := Lib.hid hr
  have HD1 : Hid (∀ w, Calls Try.prog 129 #[.int .i64 (z.length : Int)] w fun e w' => e = .returned (.bool true) ∧ w' = w) := Lib.hid (fun w => hn ▸ idv_any (z.length : Int) w)
  have HD2 : Hid (∀ w, Calls Try.prog 129 #[.int .i64 (k : Int)] w fun e w' => e = .returned (.bool true) ∧ w' = w) := Lib.hid (fun w => hk ▸ idv_any (k : Int) w)
  have hn6 := dv_in hn
  have hk6 := dv_in hk
  have hz1 : 1 ≤ z.length ∧ z.length ≤ 6 := by omega
  have hz0 : ¬ ((z.length : Int) = 0) := by omega
  have hzn : ¬ (z.length = 0) := by omega
  clear ho hr hn hk hn6
  go_enter Try.func40, Try.ntmps40
  go_wp2_with fail
  refine (HD2.out _).mono ?_
  rintro e w1 ⟨rfl, rfl⟩
  go_wp2_with fail
  refine (HD1.out _).mono ?_
  rintro e w1 ⟨rfl, rfl⟩
  go_wp2_with fail
  have S0 : Hid (Rg7 w z gz cap (w.alloc oz)) := Lib.hid ⟨alloc_at rfl, HO.out.alloc _, by simp, by (repeat (first | exact Below.refl _ _ | assumption | refine Below.setCell ?_ (by first | (simp; done) | (simp; omega)) _ | refine Below.alloc ?_ (by first | (simp; done) | (simp; omega)) _ | refine Below.drew ?_))⟩
  clear HO HD1 HD2
  unfold oz at S0
  generalize (World.alloc _ _ : World) = W0 at S0 ⊢
  go_loopw [23] (fun c wr => ∃ i : Nat, i ≤ z.length ∧ c = .int .i64 i ∧ Hid (Rg7 w z gz cap wr)) (fun c _ => z.length - (intOf c).toNat)
  case atStart => exact ⟨0, by omega, rfl, S0⟩
  case round =>
    obtain ⟨i, hi, rfl, HS⟩ := hrel
    by_cases hli : i < z.length
    · have hli' : (i : Int) < z.length := by omega
      have hi0 : (0 : Int) ≤ i := by omega
      have a1 := own_at HS.out.2.1 (iw_at z i hli)
      obtain ⟨t1, t2⟩ := okr_test hk6 (HR.out _ (List.getElem_mem hli))
      generalize z[i] = r at a1 t1 t2
      go_wp2_with fail
      clear a1 t1 t2
      go_roundw
      case rel => exact ⟨i + 1, by omega, by go_num, HS⟩
      case measure => simp [intOf]; omega
    · obtain rfl : i = z.length := by omega
      go_wp2_with fail
      have S1 : Hid (Rf7 w z gz cap (w.heap.size + 1) (fun _ => 0) (wr.alloc (ob7 fun _ => 0))) := Lib.hid ⟨alloc_past HS.out.1, HS.out.2.1.alloc _, alloc_at HS.out.2.2.1.symm, by omega, by simp; rw [HS.out.2.2.1]; omega, hg, HS.out.2.2.2.alloc HS.out.2.2.2.size _⟩
      have hsz := HS.out.2.2.1
      rw [hsz]
      clear HS hsz
      unfold ob7 at S1
      generalize (World.alloc _ _ : World) = W1 at S1 ⊢
      have hk1 : 1 ≤ k ∧ k ≤ 6 := by omega
      have hk6n : 6 / k * k = 6 := by
        have h4 : k = 1 ∨ k = 2 ∨ k = 3 ∨ k = 6 := by omega
        rcases h4 with rfl | rfl | rfl | rfl <;> rfl
      obtain ⟨Q, hQ⟩ : ∃ Q, Q = 6 / k := ⟨_, rfl⟩
      rw [← hQ] at hk6n
      have HQ0 := Lib.hid hQ
      clear hQ
      go_loopw [37] (fun c wr => ∃ y : Nat, y ≤ 6 ∧ c = .int .i64 y ∧ Hid (Rf7 w z gz cap (w.heap.size + 1) (fun j => if j < y then mrow k (z.getD (j % z.length) 0) 6 else 0) wr)) (fun c _ => 6 - (intOf c).toNat)
      case atStart => exact ⟨0, by omega, rfl, S1⟩
      case round =>
        obtain ⟨y, hy, rfl, HS⟩ := hrel
        by_cases hly : y < 6
        · have hly' : (y : Int) < 6 := by omega
          have hly2 : decide ((y : Int) < (6 : Int)) = true := decide_eq_true hly'
          have hy0 : (0 : Int) ≤ y := by omega
          have hym : (y : Int).tmod (z.length : Int) = ((y % z.length : Nat) : Int) := by rw [Int.tmod_eq_emod_of_nonneg (by omega)]; rfl
          have hyl : y % z.length < z.length := Nat.mod_lt _ (by omega)
          have hyl1 : ((y % z.length : Nat) : Int) < (z.length : Int) := by omega
          have hyl0 : (0 : Int) ≤ ((y % z.length : Nat) : Int) := by omega
          have hrz : z.getD (y % z.length) 0 = z[y % z.length] := by rw [List.getD_eq_getElem?_getD, List.getElem?_eq_getElem hyl]; rfl
          have HRr := HR.out _ (List.getElem_mem hyl)
          have HA := Lib.hid (fun (W : World) (f : Nat → Int) (h : Rf7 w z gz cap (w.heap.size + 1) f W) => own_at h.2.1 (iw_at z _ hyl))
          have HQ := Lib.hid (hrz.trans rfl)
          have he6 := rows_eq hk6 HRr
          rw [← HQ0.out] at he6
          have HE6 := Lib.hid he6
          clear he6
          generalize z[y % z.length] = r at HQ HE6 HA
          clear hrz HRr
          obtain ⟨m, hm⟩ : ∃ m, m = y % z.length := ⟨_, rfl⟩
          rw [← hm] at hym hyl1 hyl0 HA
          clear hm hyl
          obtain ⟨F, hF⟩ : ∃ F : Nat → Int, F = fun j => if j < y then mrow k (z.getD (j % z.length) 0) 6 else 0 := ⟨_, rfl⟩
          rw [← hF] at HS
          have hFy : F y = 0 := by rw [hF]; simp
          have HF := Lib.hid hF
          clear hF
          go_wp2_with fail
          try rw [hly2]
          clear hly2
          have S2 : Hid (Rf7 w z gz cap (w.heap.size + 1) (up7 F y (irow k r 0)) wr) := by
            have e : up7 F y (irow k r 0) = F := by
              funext j
              unfold up7
              split
              · next h => rw [h, hFy]; rfl
              · rfl
            rw [e]
            exact HS
          clear HS hFy
          go_loopw [10] (fun c wr => ∃ t : Nat, t ≤ Q ∧ c = .int .i64 ((t * k : Nat) : Int) ∧ Hid (Rf7 w z gz cap (w.heap.size + 1) (up7 F y (irow k r t)) wr)) (fun c _ => 6 - (intOf c).toNat)
          case atStart => exact ⟨0, Nat.zero_le _, by simp, S2⟩
          case round =>
            obtain ⟨t, ht, rfl, HX⟩ := hrel
            by_cases hlt : t < Q
            · have hx6 : t * k + k ≤ 6 := by
                have h1 := Nat.mul_le_mul_right k (show t + 1 ≤ Q by omega)
                rw [Nat.add_mul, Nat.one_mul, hk6n] at h1
                exact h1
              have hsucc : (t + 1) * k = t * k + k := by rw [Nat.add_mul, Nat.one_mul]
              have HN := Lib.hid (HX.out.drewF.put hly (irow k r (t + 1)))
              have hms : irow k r (t + 1) = bits .or .i64 (irow k r t) (wrap64 (r * 2 ^ (t * k))) := rfl
              rw [hms] at HN
              have HM := Lib.hid hms
              clear hms
              have b_y : wr.cell? ⟨w.heap.size + 1, y, none⟩ = some (.int .i64 (irow k r t)) := by
                rw [ob7_at HX.out.2.2.1 hly]
                simp [up7]
              have b_f := fun j => frozen_of_row wr (w.heap.size + 1) j _ _ HX.out.2.2.1
              have a1 := HA.out _ _ HX.out
              have a2 := HA.out _ _ HX.out.drewF
              have HSU := Lib.hid hsucc
              clear hsucc
              generalize irow k r t = acc at b_y HN HM
              generalize t * k = x at *
              have hlx' : (x : Int) < 6 := by omega
              have hx0 : (0 : Int) ≤ x := by omega
              go_wp2_with fail
              refine wp_region_still_tail 16 (by kernel_rfl) (by kernel_rfl) ?_
              simp only [List.take_succ_cons, List.take_zero, List.drop_succ_cons, List.drop_zero]
              repeat still_step
              refine wpStill_nil ?_
              change wpList _ _ _ _ _ wr.drew
              go_wp2_with fail
              clear b_y b_f a1 a2
              go_roundw
              case rel =>
                refine ⟨t + 1, by omega, by rw [HSU.out]; go_num, ?_⟩
                rw [HM.out]
                rw [up7_up7] at HN
                exact HN
              case measure => simp [intOf]; omega
            · obtain rfl : t = Q := by omega
              have HX : Hid (Rf7 w z gz cap (w.heap.size + 1) (up7 F y (mrow k r 6)) wr) := by rw [← HE6.out]; exact HX
              have hx6 : ((t * k : Nat) : Int) = 6 := by rw [hk6n]; rfl
              rw [hx6]
              have HE : (fun j => if j < y + 1 then mrow k (z.getD (j % z.length) 0) 6 else 0) = up7 F y (mrow k r 6) := by
                funext j
                unfold up7
                rw [HF.out]
                by_cases hj : j = y
                · subst hj
                  rw [if_pos (by omega), if_pos rfl, HQ.out]
                · rw [if_neg hj]
                  by_cases hl : j < y
                  · rw [if_pos (by omega)]; dsimp only; rw [if_pos hl]
                  · rw [if_neg (by omega)]; dsimp only; rw [if_neg hl]
              go_wp2_with fail
              go_roundw
              case rel => exact ⟨y + 1, by omega, by go_num, by rw [HE]; exact HX⟩
              case measure => simp [intOf]; omega
        · obtain rfl : y = 6 := by omega
          have qg := HS.out.2.2.1
          have qz1 := HS.out.1
          have hB := HS.out.2.2.2.2.2.2
          obtain ⟨F, hF⟩ : ∃ F : Nat → Int, F = fun j => mrow k (z.getD (j % z.length) 0) 6 := ⟨_, rfl⟩
          have e6 : ob7 (fun j => if j < 6 then mrow k (z.getD (j % z.length) 0) 6 else 0) = ob7 F := by rw [hF]; rfl
          rw [e6] at qg
          have e7 : (F 0 = mrow k (z.getD (0 % z.length) 0) 6 ∧ F 1 = mrow k (z.getD (1 % z.length) 0) 6 ∧ F 2 = mrow k (z.getD (2 % z.length) 0) 6 ∧ F 3 = mrow k (z.getD (3 % z.length) 0) 6 ∧ F 4 = mrow k (z.getD (4 % z.length) 0) 6 ∧ F 5 = mrow k (z.getD (5 % z.length) 0) 6) := by rw [hF]; exact ⟨rfl, rfl, rfl, rfl, rfl, rfl⟩
          have HE := Lib.hid e7
          clear hF e6 e7 HS HR
          unfold oz at qz1
          have g_c := fun j => cell_of_row wr _ j _ _ _ qg
          have z_c := fun j => cell_of_row wr _ j _ _ _ qz1
          have z_f := fun j => frozen_of_row wr _ j _ _ qz1
          go_wp2_with fail
          have qr := set6a (.int .i64 (F 0)) (.int .i64 (F 1)) (.int .i64 (F 2)) (.int .i64 (F 3)) (.int .i64 (F 4)) (.int .i64 (F 5)) qz1
          have hB2 := below6 (v0 := .int .i64 (F 0)) (v1 := .int .i64 (F 1)) (v2 := .int .i64 (F 2)) (v3 := .int .i64 (F 3)) (v4 := .int .i64 (F 4)) (v5 := .int .i64 (F 5)) hB (Nat.le_refl w.heap.size)
          clear z_c z_f qz1 hB g_c qg
          generalize (World.setCell _ _ _ : World) = X at qr hB2 ⊢
          have x_c := fun j => cell_of_row X _ j _ _ _ qr
          obtain ⟨e0, e1, e2, e3, e4, e5⟩ := HE.out
          refine bodyPost_ret (v := .tuple #[.agg #[.int .i64 (F 0), .int .i64 (F 1), .int .i64 (F 2), .int .i64 (F 3), .int .i64 (F 4), .int .i64 (F 5)], .bool true]) (by simp [results, Try.results40, go_sem, x_c]) rfl ⟨?_, hB2⟩
          rw [e0, e1, e2, e3, e4, e5]
end Go.Proofs.Ytpmhnikilianoaa
