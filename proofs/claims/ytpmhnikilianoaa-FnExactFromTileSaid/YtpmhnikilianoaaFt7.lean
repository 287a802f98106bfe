/- CONTRACTS: FromTile, the model's. -/
import Derived.Test.YtpmhnikilianoaaZu7
import Derived.Test.YtpmhnikilianoaaI7
import Derived.Test.YtpmhnikilianoaaS7
import Derived.StillTailTactics
import Derived.WalkKit
import Derived.ProofKit
import Derived.OpenShut
import Derived.Lib.Hide
import Derived.WalkSpells
import Derived.Below
import Derived.BigQuiet
import Derived.LoopN
namespace Go.Proofs.Ytpmhnikilianoaa
open Go.ChangeShapes Go.WideShapes Go.ChangeAt Go.RowKit
set_option linter.unusedVariables false
/-- The model's row of a tile's row, x cells of it. -/
def mrow (w : Nat) (r : Int) : Nat → Int
  | 0 => 0
  | x + 1 => bits .or .i64 (mrow w r x) (wrap64 (bits .and .i64 (r / 2 ^ (x % w)) 1 * 2 ^ x))
def up7 (f : Nat → Int) (y : Nat) (v : Int) : Nat → Int := fun j => if j = y then v else f j
def ob7 (f : Nat → Int) : Obj := .cells #[.int .i64 (f 0), .int .i64 (f 1), .int .i64 (f 2), .int .i64 (f 3), .int .i64 (f 4), .int .i64 (f 5)] 28 (0, 0)
theorem up7_set {f : Nat → Int} {y : Nat} {v : Int} {W : World} {g : Nat} (hy : y < 6) (h : W.heap[g]? = some (ob7 f)) : (W.setCell ⟨g, y, none⟩ (.int .i64 v)).heap[g]? = some (ob7 (up7 f y v)) := by
  rw [heap_setCell_same W g y _ _ _ h]
  have h6 : y = 0 ∨ y = 1 ∨ y = 2 ∨ y = 3 ∨ y = 4 ∨ y = 5 := by omega
  rcases h6 with rfl | rfl | rfl | rfl | rfl | rfl <;> rfl
theorem up7_up7 (f : Nat → Int) (y : Nat) (a b : Int) : up7 (up7 f y a) y b = up7 f y b := by
  funext j
  unfold up7
  split <;> rfl
theorem ob7_at {f : Nat → Int} {W : World} {g y : Nat} (h : W.heap[g]? = some (ob7 f)) (hy : y < 6) : W.cell? ⟨g, y, none⟩ = some (.int .i64 (f y)) := by
  rw [cell_of_row W g y _ _ _ h]
  have h6 : y = 0 ∨ y = 1 ∨ y = 2 ∨ y = 3 ∨ y = 4 ∨ y = 5 := by omega
  rcases h6 with rfl | rfl | rfl | rfl | rfl | rfl <;> rfl
/-- Midway: the answer's room, the numbers' row, and in block g the sheet so far. -/
def Rf7 (w : World) (z : List Int) (gz cap g : Nat) (f : Nat → Int) (W : World) : Prop := W.heap[w.heap.size]? = some oz ∧ W.ownsRow 0 3 1 (.slice (some ⟨gz, 0, none⟩) z.length cap) z.length (iw z) ∧ W.heap[g]? = some (ob7 f) ∧ w.heap.size < g ∧ g < W.heap.size ∧ gz < w.heap.size ∧ Below w.heap.size w W
theorem Rf7.below {w W W' : World} {z : List Int} {gz cap g M : Nat} {f : Nat → Int} (h : Rf7 w z gz cap g f W) (hb : Below M W W') (hM : M = W.heap.size) : Rf7 w z gz cap g f W' := by
  obtain ⟨h1, h2, h3, h4, h5, h6, h7⟩ := h
  exact ⟨rowk h1 hb hM, h2.kept (grown_below hb hM) (.inr (by simp [Value.ownBlock])), rowk h3 hb hM, h4, Nat.lt_of_lt_of_le h5 hb.size, h6, below_of h7 hb (by omega)⟩
theorem Rf7.put {w W : World} {z : List Int} {gz cap g y : Nat} {f : Nat → Int} (h : Rf7 w z gz cap g f W) (hy : y < 6) (v : Int) : Rf7 w z gz cap g (up7 f y v) (W.setCell ⟨g, y, none⟩ (.int .i64 v)) := by
  obtain ⟨h1, h2, h3, h4, h5, h6, h7⟩ := h
  refine ⟨?_, h2.kept (grow_set W ⟨g, y, none⟩ _) (.inr (by simp only [Value.ownBlock, ne_eq, Option.some.injEq]; omega)), up7_set hy h3, h4, by simpa using h5, h6, h7.setCell (Nat.le_of_lt h4) _⟩
  rw [Below.heap_setCell _ _ _ _ (show w.heap.size ≠ g from Nat.ne_of_lt h4)]
  exact h1
/-- A row's number as the tile wants it. -/
def okr (w : Nat) (r : Int) : Bool := decide (0 ≤ r) && decide (r ≤ 2 ^ w - 1)
theorem okr_in {k : Nat} (hk : (k : Int) = 1 ∨ (k : Int) = 2 ∨ (k : Int) = 3 ∨ (k : Int) = 6) {r : Int} (h : okr k r = true) : (decide (0 ≤ r) && decide (r ≤ wrap64 (wrap64 (2 ^ k) - 1))) = true := by
  have h4 : k = 1 ∨ k = 2 ∨ k = 3 ∨ k = 6 := by omega
  unfold okr at h
  rcases h4 with rfl | rfl | rfl | rfl
  · rw [show wrap64 (wrap64 (2 ^ 1) - 1) = 2 ^ 1 - 1 by decide +kernel]; exact h
  · rw [show wrap64 (wrap64 (2 ^ 2) - 1) = 2 ^ 2 - 1 by decide +kernel]; exact h
  · rw [show wrap64 (wrap64 (2 ^ 3) - 1) = 2 ^ 3 - 1 by decide +kernel]; exact h
  · rw [show wrap64 (wrap64 (2 ^ 6) - 1) = 2 ^ 6 - 1 by decide +kernel]; exact h
theorem Rf7.drewF {w W : World} {z : List Int} {gz cap g : Nat} {f : Nat → Int} (h : Rf7 w z gz cap g f W) : Rf7 w z gz cap g f W.drew := h.below (M := W.heap.size) (Below.refl _ _).drew rfl
set_option maxRecDepth 8000 in
set_option maxHeartbeats 4000000 in
theorem stile7 (z : List Int) (gz cap : Nat) (hn : dv (z.length : Int) = true) (k : Nat) (hk : dv (k : Int) = true) (hr : ∀ r ∈ z, okr k r = true) (w : World) (hg : gz < w.heap.size) (ho : w.ownsRow 0 3 1 (.slice (some ⟨gz, 0, none⟩) z.length cap) z.length (iw z)) : Calls Try.prog 38 #[.slice (some ⟨gz, 0, none⟩) z.length cap, .int .i64 (k : Int)] w fun e w' => e = .returned (.tuple #[.agg #[.int .i64 (mrow k (z.getD (0 % z.length) 0) 6), .int .i64 (mrow k (z.getD (1 % z.length) 0) 6), .int .i64 (mrow k (z.getD (2 % z.length) 0) 6), .int .i64 (mrow k (z.getD (3 % z.length) 0) 6), .int .i64 (mrow k (z.getD (4 % z.length) 0) 6), .int .i64 (mrow k (z.getD (5 % z.length) 0) 6)], .bool true]) ∧ Below w.heap.size w w' := by
  have HO := Lib.hid ho
  have HR := Lib.hid hr
  have HD1 : Hid (∀ w, Calls Try.prog 126 #[.int .i64 (z.length : Int)] w fun e w' => e = .returned (.bool true) ∧ w' = w) := Lib.hid (fun w => hn ▸ ldv_any (z.length : Int) w)
  have HD2 : Hid (∀ w, Calls Try.prog 126 #[.int .i64 (k : Int)] w fun e w' => e = .returned (.bool true) ∧ w' = w) := Lib.hid (fun w => hk ▸ ldv_any (k : Int) w)
  have hn6 := dv_in hn
  have hk6 := dv_in hk
  have hz1 : 1 ≤ z.length ∧ z.length ≤ 6 := by omega
  have hz0 : ¬ ((z.length : Int) = 0) := by omega
  clear ho hr hn hk hn6
  go_enter Try.func38, Try.ntmps38
  go_wp2_with fail
  refine (HD1.out _).mono ?_
  rintro e w1 ⟨rfl, rfl⟩
  go_wp2_with fail
  refine (HD2.out _).mono ?_
  rintro e w1 ⟨rfl, rfl⟩
  go_wp2_with fail
  have S0 : Hid (Rf7 w z gz cap (w.heap.size + 1) (fun _ => 0) ((w.alloc oz).alloc (ob7 fun _ => 0))) := Lib.hid ⟨alloc_past (alloc_at rfl), (HO.out.alloc _).alloc _, alloc_at (by simp), by omega, by simp, hg, by (repeat (first | exact Below.refl _ _ | assumption | refine Below.setCell ?_ (by first | (simp; done) | (simp; omega)) _ | refine Below.alloc ?_ (by first | (simp; done) | (simp; omega)) _ | refine Below.drew ?_))⟩
  clear HO HD1 HD2
  unfold oz ob7 at S0
  generalize (World.alloc _ _ : World) = W0 at S0 ⊢
  go_loopw [7] (fun c wr => ∃ y : Nat, y ≤ 6 ∧ c = .int .i64 y ∧ Hid (Rf7 w z gz cap (w.heap.size + 1) (fun j => if j < y then mrow k (z.getD (j % z.length) 0) 6 else 0) wr)) (fun c _ => 6 - (intOf c).toNat)
  case atStart => exact ⟨0, by omega, rfl, S0⟩
  case round =>
    obtain ⟨y, hy, rfl, HS⟩ := hrel
    by_cases hly : y < 6
    · have hly' : (y : Int) < 6 := by omega
      have hy0 : (0 : Int) ≤ y := by omega
      have hym : (y : Int).tmod (z.length : Int) = ((y % z.length : Nat) : Int) := by rw [Int.tmod_eq_emod_of_nonneg (by omega)]; rfl
      have hyl : y % z.length < z.length := Nat.mod_lt _ (by omega)
      have hyl1 : ((y % z.length : Nat) : Int) < (z.length : Int) := by omega
      have hyl0 : (0 : Int) ≤ ((y % z.length : Nat) : Int) := by omega
      have hrz : z.getD (y % z.length) 0 = z[y % z.length] := by rw [List.getD_eq_getElem?_getD, List.getElem?_eq_getElem hyl]; rfl
      have HRr := HR.out _ (List.getElem_mem hyl)
      have a1 := own_at HS.out.2.1 (iw_at z _ hyl)
      generalize z[y % z.length] = r at hrz HRr a1
      obtain ⟨m, hm⟩ : ∃ m, m = y % z.length := ⟨_, rfl⟩
      rw [← hm] at hym hyl1 hyl0 a1
      clear hm hyl
      have HI : Hid (∀ w, Calls Try.prog 131 #[.int .i64 r, .int .i64 0, .int .i64 (wrap64 (wrap64 (2 ^ k) - 1))] w fun e w' => e = .returned (.bool true) ∧ w' = w) := Lib.hid (fun w => in63 r 0 _ (okr_in hk6 HRr) w)
      obtain ⟨F, hF⟩ : ∃ F : Nat → Int, F = fun j => if j < y then mrow k (z.getD (j % z.length) 0) 6 else 0 := ⟨_, rfl⟩
      rw [← hF] at HS
      have hFy : F y = 0 := by rw [hF]; simp
      have HQ := Lib.hid hrz
      have HF := Lib.hid hF
      clear hF
      go_wp2_with fail
      refine (HI.out _).mono ?_
      rintro e w1 ⟨rfl, hw⟩
      obtain rfl := hw.symm
      clear hw HI
      go_wp2_with fail
      have S1 : Hid (Rf7 w z gz cap (w.heap.size + 1) (up7 F y (mrow k r 0)) wr) := by
        have e : up7 F y (mrow k r 0) = F := by
          funext j
          unfold up7
          split
          · next h => rw [h, hFy]; rfl
          · rfl
        rw [e]
        exact HS
      clear HS hFy a1
      go_loopw [9] (fun c wr => ∃ x : Nat, x ≤ 6 ∧ c = .int .i64 x ∧ Hid (Rf7 w z gz cap (w.heap.size + 1) (up7 F y (mrow k r x)) wr)) (fun c _ => 6 - (intOf c).toNat)
      case atStart => exact ⟨0, by omega, rfl, S1⟩
      case round =>
        obtain ⟨x, hx, rfl, HX⟩ := hrel
        by_cases hlx : x < 6
        · have hlx' : (x : Int) < 6 := by omega
          have hx0 : (0 : Int) ≤ x := by omega
          have hk1 : 1 ≤ k ∧ k ≤ 6 := by omega
          have hk0 : ¬ ((k : Int) = 0) := by omega
          have hkn : ¬ (k = 0) := by omega
          have hxm : (x : Int).tmod (k : Int) = ((x % k : Nat) : Int) := by rw [Int.tmod_eq_emod_of_nonneg (by omega)]; rfl
          have hxl : ((x % k : Nat) : Int) < (k : Int) := by have := Nat.mod_lt x (show 0 < k by omega); omega
          have hxl0 : (0 : Int) ≤ ((x % k : Nat) : Int) := by omega
          have HN := Lib.hid (HX.out.drewF.put hly (mrow k r (x + 1)))
          have hms : mrow k r (x + 1) = bits .or .i64 (mrow k r x) (wrap64 (bits .and .i64 (r / 2 ^ (x % k)) 1 * 2 ^ x)) := rfl
          rw [hms] at HN
          have HM := Lib.hid hms
          clear hms
          have b_y : wr.cell? ⟨w.heap.size + 1, y, none⟩ = some (.int .i64 (mrow k r x)) := by
            rw [ob7_at HX.out.2.2.1 hly]
            simp [up7]
          have b_f := fun j => frozen_of_row wr (w.heap.size + 1) j _ _ HX.out.2.2.1
          generalize mrow k r x = acc at b_y HN HM
          generalize x % k = p at *
          go_wp2_with fail
          refine wp_region_still_tail 16 (by kernel_rfl) (by kernel_rfl) ?_
          simp only [List.take_succ_cons, List.take_zero, List.drop_succ_cons, List.drop_zero]
          repeat still_step
          refine wpStill_nil ?_
          change wpList _ _ _ _ _ wr.drew
          go_wp2_with fail
          clear b_y b_f
          go_roundw
          case rel =>
            refine ⟨x + 1, by omega, by go_num, ?_⟩
            rw [HM.out]
            rw [up7_up7] at HN
            exact HN
          case measure => simp [intOf]; omega
        · obtain rfl : x = 6 := by omega
          have HE : (fun j => if j < y + 1 then mrow k (z.getD (j % z.length) 0) 6 else 0) = up7 F y (mrow k r 6) := by
            funext j
            unfold up7
            rw [HF.out]
            by_cases hj : j = y
            · subst hj
              rw [if_pos (by omega), if_pos rfl, HQ.out]
            · rw [if_neg hj]
              by_cases hl : j < y
              · rw [if_pos (by omega)]; dsimp only; rw [if_pos hl]
              · rw [if_neg (by omega)]; dsimp only; rw [if_neg hl]
          go_wp2_with fail
          go_roundw
          case rel => exact ⟨y + 1, by omega, by go_num, by rw [HE]; exact HX⟩
          case measure => simp [intOf]; omega
    · obtain rfl : y = 6 := by omega
      have qg := HS.out.2.2.1
      have qz1 := HS.out.1
      have hB := HS.out.2.2.2.2.2.2
      obtain ⟨F, hF⟩ : ∃ F : Nat → Int, F = fun j => mrow k (z.getD (j % z.length) 0) 6 := ⟨_, rfl⟩
      have e6 : ob7 (fun j => if j < 6 then mrow k (z.getD (j % z.length) 0) 6 else 0) = ob7 F := by rw [hF]; rfl
      rw [e6] at qg
      have e7 : (F 0 = mrow k (z.getD (0 % z.length) 0) 6 ∧ F 1 = mrow k (z.getD (1 % z.length) 0) 6 ∧ F 2 = mrow k (z.getD (2 % z.length) 0) 6 ∧ F 3 = mrow k (z.getD (3 % z.length) 0) 6 ∧ F 4 = mrow k (z.getD (4 % z.length) 0) 6 ∧ F 5 = mrow k (z.getD (5 % z.length) 0) 6) := by rw [hF]; exact ⟨rfl, rfl, rfl, rfl, rfl, rfl⟩
      have HE := Lib.hid e7
      clear hF e6 e7 HS HR
      unfold oz at qz1
      have g_c := fun j => cell_of_row wr _ j _ _ _ qg
      have z_c := fun j => cell_of_row wr _ j _ _ _ qz1
      have z_f := fun j => frozen_of_row wr _ j _ _ qz1
      go_wp2_with fail
      have qr := set6a (.int .i64 (F 0)) (.int .i64 (F 1)) (.int .i64 (F 2)) (.int .i64 (F 3)) (.int .i64 (F 4)) (.int .i64 (F 5)) qz1
      have hB2 := below6 (v0 := .int .i64 (F 0)) (v1 := .int .i64 (F 1)) (v2 := .int .i64 (F 2)) (v3 := .int .i64 (F 3)) (v4 := .int .i64 (F 4)) (v5 := .int .i64 (F 5)) hB (Nat.le_refl w.heap.size)
      clear z_c z_f qz1 hB g_c qg
      generalize (World.setCell _ _ _ : World) = X at qr hB2 ⊢
      have x_c := fun j => cell_of_row X _ j _ _ _ qr
      obtain ⟨e0, e1, e2, e3, e4, e5⟩ := HE.out
      refine bodyPost_ret (v := .tuple #[.agg #[.int .i64 (F 0), .int .i64 (F 1), .int .i64 (F 2), .int .i64 (F 3), .int .i64 (F 4), .int .i64 (F 5)], .bool true]) (by simp [results, Try.results38, go_sem, x_c]) rfl ⟨?_, hB2⟩
      rw [e0, e1, e2, e3, e4, e5]
end Go.Proofs.Ytpmhnikilianoaa
