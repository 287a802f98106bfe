/- CONTRACTS: SheetOf, the code's. -/
import Derived.Test.YtbmfjcmlgndofaaZp
import Derived.Test.YtbmfjcmlgndofaaPi
import Derived.Test.YtbmfjcmlgndofaaSw5
import Derived.RegionTactic
import Derived.StillTailTactics
import Derived.WalkKit
import Derived.ProofKit
import Derived.OpenShut
import Derived.Lib.Hide
import Derived.WalkSpells
import Derived.Below
import Derived.BigQuiet
import Derived.LoopN
namespace Go.Proofs.Ytbmfjcmlgndofaa
open Go.ChangeShapes Go.WideShapes Go.ChangeAt Go.RowKit
set_option linter.unusedVariables false
/-- A sheet with one cell more. -/
def orf (x y : Nat) (F : Fn6) : Fn6 := fun j i => F j i || (j == y && i == x)
theorem orf_row (F : Fn6) {x : Nat} (hx : x < 6) (y : Nat) : bits .or .i64 (rowv (F y)) (wrap64 (2 ^ x)) = rowv (orf x y F y) := by
  rw [rowv_or (F y) hx]
  exact rowv_congr fun i _ => by simp [orf]
theorem orf_ne (F : Fn6) {x y j : Nat} (h : j ≠ y) : rowv (orf x y F j) = rowv (F j) := rowv_congr fun i _ => by simp [orf, h]
theorem orf_set {W : World} {F : Fn6} {g x y : Nat} (hy : y < 6) (h : W.heap[g]? = some (o6 F)) : (W.setCell ⟨g, y, none⟩ (.int .i64 (rowv (orf x y F y)))).heap[g]? = some (o6 (orf x y F)) := by
  have e := heap_setCell_same W g y _ 28 (.int .i64 (rowv (orf x y F y))) h
  rw [e]
  rcases six_n hy with rfl | rfl | rfl | rfl | rfl | rfl
  · unfold o6
    rw [orf_ne F (show (1 : Nat) ≠ 0 by decide), orf_ne F (show (2 : Nat) ≠ 0 by decide), orf_ne F (show (3 : Nat) ≠ 0 by decide), orf_ne F (show (4 : Nat) ≠ 0 by decide), orf_ne F (show (5 : Nat) ≠ 0 by decide)]
    rfl
  · unfold o6
    rw [orf_ne F (show (0 : Nat) ≠ 1 by decide), orf_ne F (show (2 : Nat) ≠ 1 by decide), orf_ne F (show (3 : Nat) ≠ 1 by decide), orf_ne F (show (4 : Nat) ≠ 1 by decide), orf_ne F (show (5 : Nat) ≠ 1 by decide)]
    rfl
  · unfold o6
    rw [orf_ne F (show (0 : Nat) ≠ 2 by decide), orf_ne F (show (1 : Nat) ≠ 2 by decide), orf_ne F (show (3 : Nat) ≠ 2 by decide), orf_ne F (show (4 : Nat) ≠ 2 by decide), orf_ne F (show (5 : Nat) ≠ 2 by decide)]
    rfl
  · unfold o6
    rw [orf_ne F (show (0 : Nat) ≠ 3 by decide), orf_ne F (show (1 : Nat) ≠ 3 by decide), orf_ne F (show (2 : Nat) ≠ 3 by decide), orf_ne F (show (4 : Nat) ≠ 3 by decide), orf_ne F (show (5 : Nat) ≠ 3 by decide)]
    rfl
  · unfold o6
    rw [orf_ne F (show (0 : Nat) ≠ 4 by decide), orf_ne F (show (1 : Nat) ≠ 4 by decide), orf_ne F (show (2 : Nat) ≠ 4 by decide), orf_ne F (show (3 : Nat) ≠ 4 by decide), orf_ne F (show (5 : Nat) ≠ 4 by decide)]
    rfl
  · unfold o6
    rw [orf_ne F (show (0 : Nat) ≠ 5 by decide), orf_ne F (show (1 : Nat) ≠ 5 by decide), orf_ne F (show (2 : Nat) ≠ 5 by decide), orf_ne F (show (3 : Nat) ≠ 5 by decide), orf_ne F (show (4 : Nat) ≠ 5 by decide)]
    rfl
theorem o6_at {W : World} {F : Fn6} {g y : Nat} (hy : y < 6) (h : W.heap[g]? = some (o6 F)) : W.cell? ⟨g, y, none⟩ = some (.int .i64 (rowv (F y))) := by
  have e := cell_of_row W g y _ _ _ h
  rw [e]
  rcases six_n hy with rfl | rfl | rfl | rfl | rfl | rfl <;> rfl
/-- The sheet of the first i cells. -/
def fz (z : List (Int × Int)) (i : Nat) : Fn6 := (z.take i).foldl (fun F c => orf c.1.toNat c.2.toNat F) zf
theorem fz_succ (z : List (Int × Int)) {i : Nat} (h : i < z.length) : fz z (i + 1) = orf (z[i]).1.toNat (z[i]).2.toNat (fz z i) := by
  unfold fz
  rw [List.take_add_one, List.getElem?_eq_getElem h, List.foldl_append]
  rfl
theorem okc_nat {a b : Int} (h : okc a b = true) : ∃ x y : Nat, x < 6 ∧ y < 6 ∧ a = x ∧ b = y := by
  simp only [okc, Bool.and_eq_true, decide_eq_true_eq] at h
  exact ⟨a.toNat, b.toNat, by omega, by omega, by omega, by omega⟩
/-- Midway: the cells in a row of their own; what is made so far in the block gb. -/
def Ro (w : World) (n : Nat) (rows : List (Nat × Obj)) (z : List (Int × Int)) (g cap gb : Nat) (F : Fn6) (W : World) : Prop :=
  KR n rows w W ∧ W.ownsRow 0 53 2 (.slice (some ⟨g, 0, none⟩) z.length cap) z.length (cw z) ∧ W.heap[gb]? = some (o6 F) ∧ w.heap.size + n ≤ gb ∧ gb < W.heap.size ∧ g ≠ gb
theorem Ro.below {w W W' : World} {n : Nat} {rows : List (Nat × Obj)} {z : List (Int × Int)} {g cap gb M : Nat} {F : Fn6} (h : Ro w n rows z g cap gb F W) (hb : Below M W W') (hM : M = W.heap.size) : Ro w n rows z g cap gb F W' := by
  obtain ⟨h1, h2, h3, h4, h5, h6⟩ := h
  exact ⟨h1.far hb hM, h2.kept (grown_below hb hM) (.inr (by simp [Value.ownBlock])), rowk h3 hb hM, h4, Nat.lt_of_lt_of_le h5 hb.size, h6⟩
theorem Ro.put {w W : World} {n : Nat} {rows : List (Nat × Obj)} {z : List (Int × Int)} {g cap gb x y : Nat} {F : Fn6} (hy : y < 6) (h : Ro w n rows z g cap gb F W) : Ro w n rows z g cap gb (orf x y F) (W.setCell ⟨gb, y, none⟩ (.int .i64 (rowv (orf x y F y)))) := by
  obtain ⟨h1, h2, h3, h4, h5, h6⟩ := h
  exact ⟨h1.set h4, h2.kept (grow_set W ⟨gb, y, none⟩ _) (.inr (by simp [Value.ownBlock, h6])), orf_set hy h3, h4, by simpa using h5, h6⟩
set_option maxRecDepth 8000 in
set_option maxHeartbeats 1000000 in
theorem isf_yes (z : List (Int × Int)) (hz : z.length ≤ 1048576) (hwf : ∀ c ∈ z, (Lit.int .i64 c.1).wf = true ∧ (Lit.int .i64 c.2).wf = true) (hok : ∀ i (h : i < z.length), okc (z[i]).1 (z[i]).2 = true) (g cap : Nat) (w : World) (hO : w.ownsRow 0 53 2 (.slice (some ⟨g, 0, none⟩) z.length cap) z.length (cw z)) : Calls Try.prog 131 #[.slice (some ⟨g, 0, none⟩) z.length cap] w fun e w' => e = .returned (.tuple #[.agg #[.int .i64 (rowv (fz z z.length 0)), .int .i64 (rowv (fz z z.length 1)), .int .i64 (rowv (fz z z.length 2)), .int .i64 (rowv (fz z z.length 3)), .int .i64 (rowv (fz z z.length 4)), .int .i64 (rowv (fz z z.length 5))], .bool true]) ∧ Below w.heap.size w w' := by
  have HO := Lib.hid hO
  have HK := Lib.hid hok
  have HW := Lib.hid hwf
  have hgw := (hO.lt g rfl).2
  clear hO hok hwf
  go_enter Try.func131, Try.ntmps131
  go_wp2_with fail
  generalize hW : (World.alloc _ _ : World) = W0
  have hB0 : Below w.heap.size w W0 := by rw [← hW]; (repeat (first | exact Below.refl _ _ | assumption | refine Below.setCell ?_ (by first | (simp; done) | (simp; omega)) _ | refine Below.alloc ?_ (by first | (simp; done) | (simp; omega)) _ | refine Below.drew ?_))
  have q0 : W0.heap[(w.heap.size : Nat)]? = some oz := by
    rw [← hW]
    repeat (first | (refine alloc_at ?_; first | (simp; done) | (simp; omega)) | refine drew_row ?_ | refine alloc_past ?_ | assumption)
  have q1 : W0.heap[(w.heap.size + 1 : Nat)]? = some (o6 (fz z 0)) := by
    rw [← hW]
    repeat (first | (refine alloc_at ?_; first | (simp; done) | (simp; omega)) | refine drew_row ?_ | refine alloc_past ?_ | assumption)
  have S0 : Hid (Ro w 1 [(w.heap.size, oz)] z g cap (w.heap.size + 1) (fz z 0) W0) := Lib.hid ⟨⟨by simp [q0], by rw [← hW]; simp, hB0⟩, HO.out.kept (grown_below hB0 rfl) (.inr (by simp [Value.ownBlock])), q1, Nat.le_refl _, row_lt q1, by omega⟩
  clear hW hB0 q0 q1 hgw HO
  go_loopw [9] (fun c wr => ∃ i : Nat, i ≤ z.length ∧ c = .int .i64 i ∧ Hid (Ro w 1 [(w.heap.size, oz)] z g cap (w.heap.size + 1) (fz z i) wr)) (fun c _ => z.length - (intOf c).toNat)
  case atStart => exact ⟨0, by omega, rfl, S0⟩
  case round =>
    obtain ⟨i, hi, rfl, HS⟩ := hrel
    by_cases hlt : i < z.length
    · have hltz : i < z.length := by omega
      have hlt' : (i : Int) < z.length := by omega
      have hi0 : (0 : Int) ≤ i := by omega
      obtain ⟨p1, p2⟩ := cw_at z i hltz
      have a1 := own_at HS.out.2.1 p1
      have a2 := own_at HS.out.2.1 p2
      clear p1 p2
      have hokc := HK.out i hlt
      have HE := Lib.hid (fz_succ z hltz)
      generalize fz z i = F at HS HE
      generalize z[i] = c at a1 a2 hokc HE
      obtain ⟨c1, c2⟩ := c
      dsimp only at a1 a2 hokc HE
      obtain ⟨x, y, hx, hy, rfl, rfl⟩ := okc_nat hokc
      simp only [Int.toNat_natCast] at HE
      have HI : Hid (∀ w, Calls Try.prog 215 #[.agg #[.int .i64 (x : Int), .int .i64 (y : Int)]] w fun e w' => e = .returned (.bool true) ∧ Below w.heap.size w w') := Lib.hid (fun w => by
        have h := iscell_any (x : Int) (y : Int) (WalkArith.wf_i64 (by omega)) (WalkArith.wf_i64 (by omega)) w
        rw [hokc] at h
        exact h)
      clear hokc
      go_wp2_with fail
      have HA := Lib.hid (HS.out.below (M := wr.heap.size) ((Below.refl _ _).alloc (Nat.le_refl _) (.cells #[.int .i64 (x : Int), .int .i64 (y : Int)] 53)) rfl)
      have hc : (wr.alloc (.cells #[.int .i64 (x : Int), .int .i64 (y : Int)] 53)).heap[wr.heap.size]? = some (.cells #[.int .i64 (x : Int), .int .i64 (y : Int)] 53 (0, 0)) := alloc_at rfl
      clear HS a1 a2
      generalize (World.alloc _ _ : World) = X at HA hc ⊢
      generalize wr.heap.size = gc at hc ⊢
      refine (HI.out _).mono ?_
      rintro e Y ⟨rfl, hb⟩
      have HY := Lib.hid (HA.out.below hb rfl)
      have hcY := rowk hc hb rfl
      clear hb HA hc HI
      have c_c := fun j => cell_of_row Y _ j _ _ _ hcY
      have b_y := o6_at hy HY.out.2.2.1
      have b_f := fun j => frozen_of_row Y _ j _ _ HY.out.2.2.1
      have ho := orf_row F hx y
      have hy0 : (0 : Int) ≤ y := by omega
      have hy6 : (y : Int) < 6 := by omega
      have hx0 : (0 : Int) ≤ x := by omega
      have hx6 : (x : Int) < 6 := by omega
      go_wp2_with fail
      refine wp_region_still_tail 11 (by kernel_rfl) (by kernel_rfl) ?_
      simp only [List.take_succ_cons, List.take_zero, List.drop_succ_cons, List.drop_zero]
      repeat still_step
      refine wpStill_nil ?_
      change wpList _ _ _ _ _ Y.drew
      go_wp2_with fail
      have HD := Lib.hid ((HY.out.below (M := Y.heap.size) (Below.refl _ _).drew rfl).put (x := x) hy)
      clear HY c_c b_y b_f ho hcY
      go_roundw
      case rel => exact ⟨i + 1, by omega, by go_num, by rw [HE.out]; exact HD⟩
      case measure => simp [intOf]; omega
    · obtain rfl : i = z.length := by omega
      have d_c := fun j => cell_of_row wr _ j _ _ _ HS.out.2.2.1
      have z_c : ∀ j, wr.cell? ⟨w.heap.size, j, none⟩ = (#[.int .i64 0, .int .i64 0, .int .i64 0, .int .i64 0, .int .i64 0, .int .i64 0] : Array Value)[j]? := fun j => cell_of_row wr _ j _ _ _ (HS.out.1.row (g := w.heap.size) (o := oz) (by simp))
      have z_f : ∀ j, wr.frozen? ⟨w.heap.size, j, none⟩ = false := fun j => frozen_of_row wr _ j _ _ (HS.out.1.row (g := w.heap.size) (o := oz) (by simp))
      go_wp2_with fail
      refine bodyPost_ret (v := .tuple #[.agg #[.int .i64 (rowv (fz z z.length 0)), .int .i64 (rowv (fz z z.length 1)), .int .i64 (rowv (fz z z.length 2)), .int .i64 (rowv (fz z z.length 3)), .int .i64 (rowv (fz z z.length 4)), .int .i64 (rowv (fz z z.length 5))], .bool true]) (by simp [results, Try.results131, go_sem, z_c]) rfl ⟨rfl, ?_⟩
      exact below6 HS.out.1.2.2 (by omega)
set_option maxRecDepth 8000 in
set_option maxHeartbeats 1000000 in
theorem isf_no (z : List (Int × Int)) (hz : z.length ≤ 1048576) (hwf : ∀ c ∈ z, (Lit.int .i64 c.1).wf = true ∧ (Lit.int .i64 c.2).wf = true) (N : Nat) (hN : N < z.length) (hok : ∀ i (h : i < N), okc (z[i]'(by omega)).1 (z[i]'(by omega)).2 = true) (hbad : okc (z[N]).1 (z[N]).2 = false) (g cap : Nat) (w : World) (hO : w.ownsRow 0 53 2 (.slice (some ⟨g, 0, none⟩) z.length cap) z.length (cw z)) : Calls Try.prog 131 #[.slice (some ⟨g, 0, none⟩) z.length cap] w fun e w' => e = .returned (.tuple #[.agg #[.int .i64 0, .int .i64 0, .int .i64 0, .int .i64 0, .int .i64 0, .int .i64 0], .bool false]) ∧ Below w.heap.size w w' := by
  have HO := Lib.hid hO
  have HK := Lib.hid hok
  have HW := Lib.hid hwf
  have hgw := (hO.lt g rfl).2
  clear hO hok hwf
  go_enter Try.func131, Try.ntmps131
  go_wp2_with fail
  generalize hW : (World.alloc _ _ : World) = W0
  have hB0 : Below w.heap.size w W0 := by rw [← hW]; (repeat (first | exact Below.refl _ _ | assumption | refine Below.setCell ?_ (by first | (simp; done) | (simp; omega)) _ | refine Below.alloc ?_ (by first | (simp; done) | (simp; omega)) _ | refine Below.drew ?_))
  have q0 : W0.heap[(w.heap.size : Nat)]? = some oz := by
    rw [← hW]
    repeat (first | (refine alloc_at ?_; first | (simp; done) | (simp; omega)) | refine drew_row ?_ | refine alloc_past ?_ | assumption)
  have q1 : W0.heap[(w.heap.size + 1 : Nat)]? = some (o6 (fz z 0)) := by
    rw [← hW]
    repeat (first | (refine alloc_at ?_; first | (simp; done) | (simp; omega)) | refine drew_row ?_ | refine alloc_past ?_ | assumption)
  have S0 : Hid (Ro w 1 [(w.heap.size, oz)] z g cap (w.heap.size + 1) (fz z 0) W0) := Lib.hid ⟨⟨by simp [q0], by rw [← hW]; simp, hB0⟩, HO.out.kept (grown_below hB0 rfl) (.inr (by simp [Value.ownBlock])), q1, Nat.le_refl _, row_lt q1, by omega⟩
  clear hW hB0 q0 q1 hgw HO
  go_loopw [9] (fun c wr => ∃ i : Nat, i ≤ N ∧ c = .int .i64 i ∧ Hid (Ro w 1 [(w.heap.size, oz)] z g cap (w.heap.size + 1) (fz z i) wr)) (fun c _ => z.length - (intOf c).toNat)
  case atStart => exact ⟨0, by omega, rfl, S0⟩
  case round =>
    obtain ⟨i, hi, rfl, HS⟩ := hrel
    by_cases hlt : i < N
    · have hltz : i < z.length := by omega
      have hlt' : (i : Int) < z.length := by omega
      have hi0 : (0 : Int) ≤ i := by omega
      obtain ⟨p1, p2⟩ := cw_at z i hltz
      have a1 := own_at HS.out.2.1 p1
      have a2 := own_at HS.out.2.1 p2
      clear p1 p2
      have hokc := HK.out i hlt
      have HE := Lib.hid (fz_succ z hltz)
      generalize fz z i = F at HS HE
      generalize z[i] = c at a1 a2 hokc HE
      obtain ⟨c1, c2⟩ := c
      dsimp only at a1 a2 hokc HE
      obtain ⟨x, y, hx, hy, rfl, rfl⟩ := okc_nat hokc
      simp only [Int.toNat_natCast] at HE
      have HI : Hid (∀ w, Calls Try.prog 215 #[.agg #[.int .i64 (x : Int), .int .i64 (y : Int)]] w fun e w' => e = .returned (.bool true) ∧ Below w.heap.size w w') := Lib.hid (fun w => by
        have h := iscell_any (x : Int) (y : Int) (WalkArith.wf_i64 (by omega)) (WalkArith.wf_i64 (by omega)) w
        rw [hokc] at h
        exact h)
      clear hokc
      go_wp2_with fail
      have HA := Lib.hid (HS.out.below (M := wr.heap.size) ((Below.refl _ _).alloc (Nat.le_refl _) (.cells #[.int .i64 (x : Int), .int .i64 (y : Int)] 53)) rfl)
      have hc : (wr.alloc (.cells #[.int .i64 (x : Int), .int .i64 (y : Int)] 53)).heap[wr.heap.size]? = some (.cells #[.int .i64 (x : Int), .int .i64 (y : Int)] 53 (0, 0)) := alloc_at rfl
      clear HS a1 a2
      generalize (World.alloc _ _ : World) = X at HA hc ⊢
      generalize wr.heap.size = gc at hc ⊢
      refine (HI.out _).mono ?_
      rintro e Y ⟨rfl, hb⟩
      have HY := Lib.hid (HA.out.below hb rfl)
      have hcY := rowk hc hb rfl
      clear hb HA hc HI
      have c_c := fun j => cell_of_row Y _ j _ _ _ hcY
      have b_y := o6_at hy HY.out.2.2.1
      have b_f := fun j => frozen_of_row Y _ j _ _ HY.out.2.2.1
      have ho := orf_row F hx y
      have hy0 : (0 : Int) ≤ y := by omega
      have hy6 : (y : Int) < 6 := by omega
      have hx0 : (0 : Int) ≤ x := by omega
      have hx6 : (x : Int) < 6 := by omega
      go_wp2_with fail
      refine wp_region_still_tail 11 (by kernel_rfl) (by kernel_rfl) ?_
      simp only [List.take_succ_cons, List.take_zero, List.drop_succ_cons, List.drop_zero]
      repeat still_step
      refine wpStill_nil ?_
      change wpList _ _ _ _ _ Y.drew
      go_wp2_with fail
      have HD := Lib.hid ((HY.out.below (M := Y.heap.size) (Below.refl _ _).drew rfl).put (x := x) hy)
      clear HY c_c b_y b_f ho hcY
      go_roundw
      case rel => exact ⟨i + 1, by omega, by go_num, by rw [HE.out]; exact HD⟩
      case measure => simp [intOf]; omega
    · obtain rfl : i = N := by omega
      have hlt' : (i : Int) < z.length := by omega
      have hi0 : (0 : Int) ≤ i := by omega
      obtain ⟨p1, p2⟩ := cw_at z i hN
      have a1 := own_at HS.out.2.1 p1
      have a2 := own_at HS.out.2.1 p2
      clear p1 p2
      obtain ⟨w1, w2⟩ := HW.out _ (List.getElem_mem hN)
      have HI : Hid (∀ w, Calls Try.prog 215 #[.agg #[.int .i64 (z[i]).1, .int .i64 (z[i]).2]] w fun e w' => e = .returned (.bool false) ∧ Below w.heap.size w w') := Lib.hid (fun w => by
        have h := iscell_any (z[i]).1 (z[i]).2 w1 w2 w
        rw [hbad] at h
        exact h)
      clear hbad w1 w2
      generalize z[i] = c at a1 a2 HI
      obtain ⟨c1, c2⟩ := c
      dsimp only at a1 a2 HI
      go_wp2_with fail
      have HA := Lib.hid (HS.out.below (M := wr.heap.size) ((Below.refl _ _).alloc (Nat.le_refl _) (.cells #[.int .i64 c1, .int .i64 c2] 53)) rfl)
      clear HS a1 a2
      generalize (World.alloc _ _ : World) = X at HA ⊢
      refine (HI.out _).mono ?_
      rintro e Y ⟨rfl, hb⟩
      have HY := Lib.hid (HA.out.below hb rfl)
      clear hb HA HI
      have z_c : ∀ j, Y.cell? ⟨w.heap.size, j, none⟩ = (#[.int .i64 0, .int .i64 0, .int .i64 0, .int .i64 0, .int .i64 0, .int .i64 0] : Array Value)[j]? := fun j => cell_of_row Y _ j _ _ _ (HY.out.1.row (g := w.heap.size) (o := oz) (by simp))
      have z_f : ∀ j, Y.frozen? ⟨w.heap.size, j, none⟩ = false := fun j => frozen_of_row Y _ j _ _ (HY.out.1.row (g := w.heap.size) (o := oz) (by simp))
      go_wp2_with fail
      refine bodyPost_ret (v := .tuple #[.agg #[.int .i64 0, .int .i64 0, .int .i64 0, .int .i64 0, .int .i64 0, .int .i64 0], .bool false]) (by simp [results, Try.results131, go_sem, z_c]) rfl ⟨rfl, ?_⟩
      exact below6 HY.out.1.2.2 (by omega)
end Go.Proofs.Ytbmfjcmlgndofaa
