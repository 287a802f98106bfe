/- CONTRACTS: SheetOf, the model's. -/
import Derived.Test.YtjhokdccgachcaaZo
import Derived.WalkKit
import Derived.ProofKit
import Derived.OpenShut
import Derived.Lib.Hide
import Derived.WalkSpells
import Derived.Below
import Derived.BigQuiet
import Derived.LoopN
namespace Go.Proofs.Ytjhokdccgachcaa
open Go.ChangeShapes Go.WideShapes Go.ChangeAt Go.RowKit
set_option linter.unusedVariables false
set_option maxRecDepth 20000 in
set_option maxHeartbeats 1000000 in
theorem l2of_f (z : List (Int × Int)) (hz : z.length ≤ 1048576) (hok : ∀ i (h : i < z.length), okc (z[i]).1 (z[i]).2 = true) (g cap : Nat) (w : World) (hO : w.ownsRow 0 91 2 (.slice (some ⟨g, 0, none⟩) z.length cap) z.length (cw z)) : Calls Try.prog 121 #[.slice (some ⟨g, 0, none⟩) z.length cap] w fun e w' => e = .returned (.agg #[.int .i64 (rowv (fz z z.length 0)), .int .i64 (rowv (fz z z.length 1)), .int .i64 (rowv (fz z z.length 2)), .int .i64 (rowv (fz z z.length 3)), .int .i64 (rowv (fz z z.length 4)), .int .i64 (rowv (fz z z.length 5))]) ∧ Below w.heap.size w w' := by
  have HO := Lib.hid hO
  have HK := Lib.hid hok
  have hgw := (hO.lt g rfl).2
  clear hO hok
  go_enter Try.func121, Try.ntmps121
  go_wp2_with fail
  generalize hW : (World.alloc _ _ : World) = W0
  have hB0 : Below w.heap.size w W0 := by rw [← hW]; (repeat (first | exact Below.refl _ _ | assumption | refine Below.setCell ?_ (by first | (simp; done) | (simp; omega)) _ | refine Below.alloc ?_ (by first | (simp; done) | (simp; omega)) _ | refine Below.drew ?_))
  have q0 : W0.heap[(w.heap.size : Nat)]? = some oz := by
    rw [← hW]
    repeat (first | (refine alloc_at ?_; first | (simp; done) | (simp; omega)) | refine drew_row ?_ | refine alloc_past ?_ | assumption)
  have q1 : W0.heap[(w.heap.size + 1 : Nat)]? = some (o6 (fz z 0)) := by
    rw [← hW]
    repeat (first | (refine alloc_at ?_; first | (simp; done) | (simp; omega)) | refine drew_row ?_ | refine alloc_past ?_ | assumption)
  have S0 : Hid (Ro w 1 [(w.heap.size, oz)] z g cap (w.heap.size + 1) (fz z 0) W0) := Lib.hid ⟨⟨by simp [q0], by rw [← hW]; simp, hB0⟩, HO.out.kept (grown_below hB0 rfl) (.inr (by simp [Value.ownBlock])), q1, Nat.le_refl _, row_lt q1, by omega⟩
  clear hW hB0 q0 q1 hgw HO
  go_loopw [4] (fun c wr => ∃ i : Nat, i ≤ z.length ∧ c = .int .i64 i ∧ Hid (Ro w 1 [(w.heap.size, oz)] z g cap (w.heap.size + 1) (fz z i) wr)) (fun c _ => z.length - (intOf c).toNat)
  case atStart => exact ⟨0, by omega, rfl, S0⟩
  case round =>
    obtain ⟨i, hi, rfl, HS⟩ := hrel
    by_cases hlt : i < z.length
    · have hlt' : (i : Int) < z.length := by omega
      have hi0 : (0 : Int) ≤ i := by omega
      obtain ⟨p1, p2⟩ := cw_at z i hlt
      have a1 := own_at HS.out.2.1 p1
      have a2 := own_at HS.out.2.1 p2
      clear p1 p2
      have hokc := HK.out i hlt
      have HE := Lib.hid (fz_succ z hlt)
      generalize fz z i = F at HS HE
      generalize z[i] = c at a1 a2 hokc HE
      obtain ⟨c1, c2⟩ := c
      dsimp only at a1 a2 hokc HE
      obtain ⟨x, y, hx, hy, rfl, rfl⟩ := okc_nat hokc
      simp only [Int.toNat_natCast] at HE
      clear hokc
      have b_y := o6_at hy HS.out.2.2.1
      have b_f := fun j => frozen_of_row wr _ j _ _ HS.out.2.2.1
      have ho := orf_row F hx y
      have hy0 : (0 : Int) ≤ y := by omega
      have hy6 : (y : Int) < 6 := by omega
      have hx0 : (0 : Int) ≤ x := by omega
      have hx6 : (x : Int) < 6 := by omega
      go_wp2_with fail
      refine wp_region_still_tail 22 (by kernel_rfl) (by kernel_rfl) ?_
      simp only [List.take_succ_cons, List.take_zero, List.drop_succ_cons, List.drop_zero]
      repeat still_step
      refine wpStill_nil ?_
      change wpList _ _ _ _ _ wr.drew
      go_wp2_with fail
      have HD := Lib.hid ((HS.out.below (M := wr.heap.size) (Below.refl _ _).drew rfl).put (x := x) hy)
      clear HS a1 a2 b_y b_f ho
      go_roundw
      case rel => exact ⟨i + 1, by omega, by go_num, by rw [HE.out]; exact HD⟩
      case measure => simp [intOf]; omega
    · obtain rfl : i = z.length := by omega
      have d_c := fun j => cell_of_row wr _ j _ _ _ HS.out.2.2.1
      have z_c : ∀ j, wr.cell? ⟨w.heap.size, j, none⟩ = (#[.int .i64 0, .int .i64 0, .int .i64 0, .int .i64 0, .int .i64 0, .int .i64 0] : Array Value)[j]? := fun j => cell_of_row wr _ j _ _ _ (HS.out.1.row (g := w.heap.size) (o := oz) (by simp))
      have z_f : ∀ j, wr.frozen? ⟨w.heap.size, j, none⟩ = false := fun j => frozen_of_row wr _ j _ _ (HS.out.1.row (g := w.heap.size) (o := oz) (by simp))
      go_wp2_with fail
      refine bodyPost_ret (v := .agg #[.int .i64 (rowv (fz z z.length 0)), .int .i64 (rowv (fz z z.length 1)), .int .i64 (rowv (fz z z.length 2)), .int .i64 (rowv (fz z z.length 3)), .int .i64 (rowv (fz z z.length 4)), .int .i64 (rowv (fz z z.length 5))]) (by simp [results, Try.results121, go_sem, z_c]) rfl ⟨rfl, ?_⟩
      exact below6 HS.out.1.2.2 (by omega)
/-- Midway: the answer's block is white, the cells lie in a row of their own. -/
def Rs (w : World) (z : List (Int × Int)) (g cap : Nat) (W : World) : Prop := KR 1 [(w.heap.size, oz)] w W ∧ W.ownsRow 0 91 2 (.slice (some ⟨g, 0, none⟩) z.length cap) z.length (cw z)
theorem Rs.below {w W W' : World} {z : List (Int × Int)} {g cap M : Nat} (h : Rs w z g cap W) (hb : Below M W W') (hM : M = W.heap.size) : Rs w z g cap W' := ⟨h.1.far hb hM, h.2.kept (grown_below hb hM) (.inr (by simp [Value.ownBlock]))⟩
set_option maxRecDepth 8000 in
set_option maxHeartbeats 1000000 in
theorem ssf_yes (z : List (Int × Int)) (hz : z.length ≤ 1048576) (hok : ∀ i (h : i < z.length), okc (z[i]).1 (z[i]).2 = true) (g cap : Nat) (w : World) (hO : w.ownsRow 0 91 2 (.slice (some ⟨g, 0, none⟩) z.length cap) z.length (cw z)) : Calls Try.prog 63 #[.slice (some ⟨g, 0, none⟩) z.length cap] w fun e w' => e = .returned (.tuple #[.agg #[.int .i64 (rowv (fz z z.length 0)), .int .i64 (rowv (fz z z.length 1)), .int .i64 (rowv (fz z z.length 2)), .int .i64 (rowv (fz z z.length 3)), .int .i64 (rowv (fz z z.length 4)), .int .i64 (rowv (fz z z.length 5))], .bool true]) ∧ Below w.heap.size w w' := by
  have HO := Lib.hid hO
  have HK := Lib.hid hok
  clear hO hok
  go_enter Try.func63, Try.ntmps63
  go_wp2_with fail
  generalize hW : (World.alloc _ _ : World) = W0
  have hB0 : Below w.heap.size w W0 := by rw [← hW]; (repeat (first | exact Below.refl _ _ | assumption | refine Below.setCell ?_ (by first | (simp; done) | (simp; omega)) _ | refine Below.alloc ?_ (by first | (simp; done) | (simp; omega)) _ | refine Below.drew ?_))
  have q0 : W0.heap[(w.heap.size : Nat)]? = some oz := by
    rw [← hW]
    repeat (first | (refine alloc_at ?_; first | (simp; done) | (simp; omega)) | refine drew_row ?_ | refine alloc_past ?_ | assumption)
  have S0 : Hid (Rs w z g cap W0) := Lib.hid ⟨⟨by simp [q0], by rw [← hW]; simp, hB0⟩, HO.out.kept (grown_below hB0 rfl) (.inr (by simp [Value.ownBlock]))⟩
  clear hW hB0 q0 HO
  go_loopw [4] (fun c wr => ∃ i : Nat, i ≤ z.length ∧ c = .int .i64 i ∧ Hid (Rs w z g cap wr)) (fun c _ => z.length - (intOf c).toNat)
  case atStart => exact ⟨0, by omega, rfl, S0⟩
  case round =>
    obtain ⟨i, hi, rfl, HS⟩ := hrel
    by_cases hlt : i < z.length
    · have hltz : i < z.length := by omega
      have hlt' : (i : Int) < z.length := by omega
      have hi0 : (0 : Int) ≤ i := by omega
      obtain ⟨p1, p2⟩ := cw_at z i hltz
      have a1 := own_at HS.out.2 p1
      have a2 := own_at HS.out.2 p2
      clear p1 p2
      have HI : Hid (∀ w, Calls Try.prog 120 #[.agg #[.int .i64 (z[i]).1, .int .i64 (z[i]).2]] w fun e w' => e = .returned (.bool true) ∧ Below w.heap.size w w') := Lib.hid (fun w => by
        have h := l2cell_any (z[i]).1 (z[i]).2 w
        rw [HK.out i hlt] at h
        exact h)
      generalize z[i] = c at a1 a2 HI
      obtain ⟨c1, c2⟩ := c
      dsimp only at a1 a2 HI
      go_wp2_with fail
      refine (HI.out _).mono ?_
      rintro e Y ⟨rfl, hb⟩
      have HY := Lib.hid (HS.out.below hb rfl)
      clear hb HS a1 a2 HI
      go_wp2_with fail
      go_roundw
      case rel => exact ⟨i + 1, by omega, by go_num, HY⟩
      case measure => simp [intOf]; omega
    · obtain rfl : i = z.length := by omega
      have HL := Lib.hid (l2of_f z hz HK.out g cap wr HS.out.2)
      go_wp2_with fail
      refine HL.out.mono ?_
      rintro e Y ⟨rfl, hb⟩
      have HY := Lib.hid (HS.out.below hb rfl)
      clear hb HS HL
      have z_c : ∀ j, Y.cell? ⟨w.heap.size, j, none⟩ = (#[.int .i64 0, .int .i64 0, .int .i64 0, .int .i64 0, .int .i64 0, .int .i64 0] : Array Value)[j]? := fun j => cell_of_row Y _ j _ _ _ (HY.out.1.row (g := w.heap.size) (o := oz) (by simp))
      have z_f : ∀ j, Y.frozen? ⟨w.heap.size, j, none⟩ = false := fun j => frozen_of_row Y _ j _ _ (HY.out.1.row (g := w.heap.size) (o := oz) (by simp))
      go_wp2_with fail
      refine bodyPost_ret (v := .tuple #[.agg #[.int .i64 (rowv (fz z z.length 0)), .int .i64 (rowv (fz z z.length 1)), .int .i64 (rowv (fz z z.length 2)), .int .i64 (rowv (fz z z.length 3)), .int .i64 (rowv (fz z z.length 4)), .int .i64 (rowv (fz z z.length 5))], .bool true]) (by simp [results, Try.results63, go_sem, z_c]) rfl ⟨rfl, ?_⟩
      exact below6 HY.out.1.2.2 (by omega)
set_option maxRecDepth 8000 in
set_option maxHeartbeats 1000000 in
theorem ssf_no (z : List (Int × Int)) (hz : z.length ≤ 1048576) (N : Nat) (hN : N < z.length) (hok : ∀ i (h : i < N), okc (z[i]'(by omega)).1 (z[i]'(by omega)).2 = true) (hbad : okc (z[N]).1 (z[N]).2 = false) (g cap : Nat) (w : World) (hO : w.ownsRow 0 91 2 (.slice (some ⟨g, 0, none⟩) z.length cap) z.length (cw z)) : Calls Try.prog 63 #[.slice (some ⟨g, 0, none⟩) z.length cap] w fun e w' => e = .returned (.tuple #[.agg #[.int .i64 0, .int .i64 0, .int .i64 0, .int .i64 0, .int .i64 0, .int .i64 0], .bool false]) ∧ Below w.heap.size w w' := by
  have HO := Lib.hid hO
  have HK := Lib.hid hok
  clear hO hok
  go_enter Try.func63, Try.ntmps63
  go_wp2_with fail
  generalize hW : (World.alloc _ _ : World) = W0
  have hB0 : Below w.heap.size w W0 := by rw [← hW]; (repeat (first | exact Below.refl _ _ | assumption | refine Below.setCell ?_ (by first | (simp; done) | (simp; omega)) _ | refine Below.alloc ?_ (by first | (simp; done) | (simp; omega)) _ | refine Below.drew ?_))
  have q0 : W0.heap[(w.heap.size : Nat)]? = some oz := by
    rw [← hW]
    repeat (first | (refine alloc_at ?_; first | (simp; done) | (simp; omega)) | refine drew_row ?_ | refine alloc_past ?_ | assumption)
  have S0 : Hid (Rs w z g cap W0) := Lib.hid ⟨⟨by simp [q0], by rw [← hW]; simp, hB0⟩, HO.out.kept (grown_below hB0 rfl) (.inr (by simp [Value.ownBlock]))⟩
  clear hW hB0 q0 HO
  go_loopw [4] (fun c wr => ∃ i : Nat, i ≤ N ∧ c = .int .i64 i ∧ Hid (Rs w z g cap wr)) (fun c _ => z.length - (intOf c).toNat)
  case atStart => exact ⟨0, by omega, rfl, S0⟩
  case round =>
    obtain ⟨i, hi, rfl, HS⟩ := hrel
    by_cases hlt : i < N
    · have hltz : i < z.length := by omega
      have hlt' : (i : Int) < z.length := by omega
      have hi0 : (0 : Int) ≤ i := by omega
      obtain ⟨p1, p2⟩ := cw_at z i hltz
      have a1 := own_at HS.out.2 p1
      have a2 := own_at HS.out.2 p2
      clear p1 p2
      have HI : Hid (∀ w, Calls Try.prog 120 #[.agg #[.int .i64 (z[i]).1, .int .i64 (z[i]).2]] w fun e w' => e = .returned (.bool true) ∧ Below w.heap.size w w') := Lib.hid (fun w => by
        have h := l2cell_any (z[i]).1 (z[i]).2 w
        rw [HK.out i hlt] at h
        exact h)
      generalize z[i] = c at a1 a2 HI
      obtain ⟨c1, c2⟩ := c
      dsimp only at a1 a2 HI
      go_wp2_with fail
      refine (HI.out _).mono ?_
      rintro e Y ⟨rfl, hb⟩
      have HY := Lib.hid (HS.out.below hb rfl)
      clear hb HS a1 a2 HI
      go_wp2_with fail
      go_roundw
      case rel => exact ⟨i + 1, by omega, by go_num, HY⟩
      case measure => simp [intOf]; omega
    · obtain rfl : i = N := by omega
      have hlt' : (i : Int) < z.length := by omega
      have hi0 : (0 : Int) ≤ i := by omega
      obtain ⟨p1, p2⟩ := cw_at z i hN
      have a1 := own_at HS.out.2 p1
      have a2 := own_at HS.out.2 p2
      clear p1 p2
      have HI : Hid (∀ w, Calls Try.prog 120 #[.agg #[.int .i64 (z[i]).1, .int .i64 (z[i]).2]] w fun e w' => e = .returned (.bool false) ∧ Below w.heap.size w w') := Lib.hid (fun w => by
        have h := l2cell_any (z[i]).1 (z[i]).2 w
        rw [hbad] at h
        exact h)
      clear hbad
      generalize z[i] = c at a1 a2 HI
      obtain ⟨c1, c2⟩ := c
      dsimp only at a1 a2 HI
      go_wp2_with fail
      refine (HI.out _).mono ?_
      rintro e Y ⟨rfl, hb⟩
      have HY := Lib.hid (HS.out.below hb rfl)
      clear hb HS a1 a2 HI
      have z_c : ∀ j, Y.cell? ⟨w.heap.size, j, none⟩ = (#[.int .i64 0, .int .i64 0, .int .i64 0, .int .i64 0, .int .i64 0, .int .i64 0] : Array Value)[j]? := fun j => cell_of_row Y _ j _ _ _ (HY.out.1.row (g := w.heap.size) (o := oz) (by simp))
      have z_f : ∀ j, Y.frozen? ⟨w.heap.size, j, none⟩ = false := fun j => frozen_of_row Y _ j _ _ (HY.out.1.row (g := w.heap.size) (o := oz) (by simp))
      go_wp2_with fail
      refine bodyPost_ret (v := .tuple #[.agg #[.int .i64 0, .int .i64 0, .int .i64 0, .int .i64 0, .int .i64 0, .int .i64 0], .bool false]) (by simp [results, Try.results63, go_sem, z_c]) rfl ⟨rfl, ?_⟩
      exact below6 HY.out.1.2.2 (by omega)
/-- All cells are valid, or there is a first one that is not. -/
theorem first_bad (z : List (Int × Int)) : (∀ i (h : i < z.length), okc (z[i]).1 (z[i]).2 = true) ∨ ∃ N, ∃ hN : N < z.length, (∀ i (h : i < N), okc (z[i]'(by omega)).1 (z[i]'(by omega)).2 = true) ∧ okc (z[N]).1 (z[N]).2 = false := by
  have key : ∀ k, (hk : k ≤ z.length) → (∀ i (h : i < k), okc (z[i]'(by omega)).1 (z[i]'(by omega)).2 = true) ∨ ∃ N, ∃ hN : N < z.length, (∀ i (h : i < N), okc (z[i]'(by omega)).1 (z[i]'(by omega)).2 = true) ∧ okc (z[N]).1 (z[N]).2 = false := by
    intro k
    induction k with
    | zero => intro _; exact .inl fun i h => by omega
    | succ k ih =>
      intro hk
      rcases ih (by omega) with h | h
      · cases hq : okc (z[k]'(by omega)).1 (z[k]'(by omega)).2
        · exact .inr ⟨k, by omega, h, hq⟩
        · refine .inl fun i hi => ?_
          rcases Nat.lt_succ_iff_lt_or_eq.mp hi with h' | rfl
          · exact h i h'
          · exact hq
      · exact .inr h
  exact key z.length (Nat.le_refl _)
/-- Both answer alike. -/
theorem sheetof_pair (z : List (Int × Int)) (hz : z.length ≤ 1048576) (hwf : ∀ c ∈ z, (Lit.int .i64 c.1).wf = true ∧ (Lit.int .i64 c.2).wf = true) : ∃ (r0 r1 r2 r3 r4 r5 : Int) (t : Bool), (∀ (w : World) (g cap : Nat), w.ownsRow 0 91 2 (.slice (some ⟨g, 0, none⟩) z.length cap) z.length (cw z) → Calls Try.prog 63 #[.slice (some ⟨g, 0, none⟩) z.length cap] w fun e w' => e = .returned (.tuple #[.agg #[.int .i64 r0, .int .i64 r1, .int .i64 r2, .int .i64 r3, .int .i64 r4, .int .i64 r5], .bool t]) ∧ Below w.heap.size w w') ∧ (∀ (w : World) (g cap : Nat), w.ownsRow 0 91 2 (.slice (some ⟨g, 0, none⟩) z.length cap) z.length (cw z) → Calls Try.prog 65 #[.slice (some ⟨g, 0, none⟩) z.length cap] w fun e w' => e = .returned (.tuple #[.agg #[.int .i64 r0, .int .i64 r1, .int .i64 r2, .int .i64 r3, .int .i64 r4, .int .i64 r5], .bool t]) ∧ Below w.heap.size w w') := by
  rcases first_bad z with h | ⟨N, hN, h, hb⟩
  · exact ⟨_, _, _, _, _, _, true, fun w g cap hO => ssf_yes z hz h g cap w hO, fun w g cap hO => isf_yes z hz hwf h g cap w hO⟩
  · exact ⟨0, 0, 0, 0, 0, 0, false, fun w g cap hO => ssf_no z hz N hN h hb g cap w hO, fun w g cap hO => isf_no z hz hwf N hN h hb g cap w hO⟩
end Go.Proofs.Ytjhokdccgachcaa
