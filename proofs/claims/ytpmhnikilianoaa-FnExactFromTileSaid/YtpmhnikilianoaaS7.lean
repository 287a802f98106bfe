/- CONTRACTS: SlantSheet, the model's and the code's. -/
import Derived.Test.YtpmhnikilianoaaQ7
import Derived.Test.YtpmhnikilianoaaKa7
import Derived.Test.YtpmhnikilianoaaO7
import Derived.Deep.RegionHeld3
import Derived.WalkKit
import Derived.ProofKit
import Derived.OpenShut
import Derived.Lib.Hide
import Derived.WalkSpells
import Derived.Below
import Derived.BigQuiet
import Derived.LoopN
namespace Go.Proofs.Ytpmhnikilianoaa
open Go.ChangeShapes Go.WideShapes Go.ChangeAt Go.RowKit
set_option linter.unusedVariables false
/-- The sheet with one row. -/
def fo7 (b : Nat → Bool) : Fn6 := fun j i => decide (j = 0) && b i
/-- The first m rows of the slanted sheet. -/
def sl7 (b : Nat → Bool) (x m : Nat) : Fn6 := fun j i => decide (j < m) && b ((i + 6 - (j * x) % 6) % 6)
theorem fo7_rows (b : Nat → Bool) : rowv b = rowv (fo7 b 0) ∧ (0 : Int) = rowv (fo7 b 1) ∧ (0 : Int) = rowv (fo7 b 2) ∧ (0 : Int) = rowv (fo7 b 3) ∧ (0 : Int) = rowv (fo7 b 4) ∧ (0 : Int) = rowv (fo7 b 5) := ⟨rowv_congr fun i _ => by simp [fo7], rfl, rfl, rfl, rfl, rfl⟩
theorem sl7_0 (b : Nat → Bool) (x r : Nat) : rowv (sl7 b x 0 r) = 0 := by
  have : sl7 b x 0 r = fun _ => false := by funext i; simp [sl7]
  rw [this]; rfl
theorem sl7_row (b : Nat → Bool) (x k : Nat) : rowv (sf ((k * x) % 6) 0 (fo7 b) 0) = rowv (sl7 b x (k + 1) k) := rowv_congr fun i _ => by simp [sf, fo7, sl7]
theorem sl7_keep (b : Nat → Bool) (x k r : Nat) (h : r ≠ k) : rowv (sl7 b x k r) = rowv (sl7 b x (k + 1) r) := rowv_congr fun i _ => by
  have e : decide (r < k) = decide (r < k + 1) := by
    rcases Nat.lt_or_ge r k with h1 | h1
    · rw [decide_eq_true h1, decide_eq_true (by omega)]
    · rw [decide_eq_false (by omega), decide_eq_false (by omega)]
  show (decide (r < k) && _) = (decide (r < k + 1) && _)
  rw [e]
/-- The code's step: a row more. -/
theorem sl7_or (b : Nat → Bool) {x k r : Nat} (hk : k < 6) (hr : r < 6) : rowv (jf (sl7 b x k) (sf ((k * x) % 6) k (fo7 b)) r) = rowv (sl7 b x (k + 1) r) := rowv_congr fun i hi => by
  show (sl7 b x k r i || fo7 b ((r + 6 - k) % 6) ((i + 6 - (k * x) % 6) % 6)) = sl7 b x (k + 1) r i
  unfold fo7 sl7
  by_cases h : r = k
  · subst h
    have e1 : (r + 6 - r) % 6 = 0 := by omega
    rw [e1]
    simp
  · have e1 : ¬ ((r + 6 - k) % 6 = 0) := by omega
    have e : decide (r < k) = decide (r < k + 1) := by
      rcases Nat.lt_or_ge r k with h1 | h1
      · rw [decide_eq_true h1, decide_eq_true (by omega)]
      · rw [decide_eq_false (by omega), decide_eq_false (by omega)]
    rw [decide_eq_false e1, e]
    simp
theorem sl7_1 (b : Nat → Bool) (x : Nat) {r : Nat} (hr : r < 6) : rowv (fo7 b r) = rowv (sl7 b x 1 r) := rowv_congr fun i hi => by
  unfold fo7 sl7
  by_cases h : r = 0
  · subst h
    simp
    rw [Nat.mod_eq_of_lt hi]
  · rw [decide_eq_false h, decide_eq_false (by omega)]
    rfl
theorem mul_lt (k x : Nat) (hk : k < 6) (hx : x < 6) : k * x ≤ 25 := Nat.mul_le_mul (show k ≤ 5 by omega) (show x ≤ 5 by omega)
theorem wrap_mul (k x : Nat) (hk : k < 6) (hx : x < 6) : wrap64 ((k : Int) * (x : Int)) = ((k * x : Nat) : Int) := by
  have h := mul_lt k x hk hx
  rw [← Int.natCast_mul]
  generalize k * x = m at *
  unfold wrap64
  omega
theorem wrap_mul2 (k x : Nat) (hk : k < 6) (hx : x < 6) : IntKind.i64.wrap ((k : Int) * (x : Int)) = ((k * x : Nat) : Int) := by
  have h := mul_lt k x hk hx
  rw [IntKind.wrap_i64, ← Int.natCast_mul]
  generalize k * x = m at *
  omega
theorem lshift_k (f : Fn6) (k x : Nat) (hk : k < 6) (hx : x < 6) (w : World) : Calls Try.prog 127 #[.agg #[.int .i64 (rowv (f 0)), .int .i64 (rowv (f 1)), .int .i64 (rowv (f 2)), .int .i64 (rowv (f 3)), .int .i64 (rowv (f 4)), .int .i64 (rowv (f 5))], .int .i64 (wrap64 ((k : Int) * (x : Int))), .int .i64 0] w fun e w' => e = .returned (.agg #[.int .i64 (rowv (sf ((k * x) % 6) 0 f 0)), .int .i64 (rowv (sf ((k * x) % 6) 0 f 1)), .int .i64 (rowv (sf ((k * x) % 6) 0 f 2)), .int .i64 (rowv (sf ((k * x) % 6) 0 f 3)), .int .i64 (rowv (sf ((k * x) % 6) 0 f 4)), .int .i64 (rowv (sf ((k * x) % 6) 0 f 5))]) ∧ Below w.heap.size w w' := by
  rw [wrap_mul k x hk hx]
  have h := mul_lt k x hk hx
  exact l2shift_f f ((k * x : Nat) : Int) 0 (WalkArith.wf_i64 (by omega)) (WalkArith.wf_i64 (by omega)) (Nat.mod_lt _ (by decide)) (by decide) (by omega) (by omega) w
theorem ishift_k (f : Fn6) (k x : Nat) (hk : k < 6) (hx : x < 6) (w : World) : Calls Try.prog 130 #[.agg #[.int .i64 (rowv (f 0)), .int .i64 (rowv (f 1)), .int .i64 (rowv (f 2)), .int .i64 (rowv (f 3)), .int .i64 (rowv (f 4)), .int .i64 (rowv (f 5))], .int .i64 (IntKind.i64.wrap ((k : Int) * (x : Int))), .int .i64 (k : Int)] w fun e w' => e = .returned (.agg #[.int .i64 (rowv (sf ((k * x) % 6) k f 0)), .int .i64 (rowv (sf ((k * x) % 6) k f 1)), .int .i64 (rowv (sf ((k * x) % 6) k f 2)), .int .i64 (rowv (sf ((k * x) % 6) k f 3)), .int .i64 (rowv (sf ((k * x) % 6) k f 4)), .int .i64 (rowv (sf ((k * x) % 6) k f 5))]) ∧ Below w.heap.size w w' := by
  rw [wrap_mul2 k x hk hx]
  have h := mul_lt k x hk hx
  exact shifted_f f ((k * x : Nat) : Int) (k : Int) (WalkArith.wf_i64 (by omega)) (WalkArith.wf_i64 (by omega)) (Nat.mod_lt _ (by decide)) hk (by omega) (by omega) w
theorem fd7 (b0 b1 b2 b3 b4 b5 : Int) (w : World) : (Instr.field 28 (.agg #[.int .i64 b0, .int .i64 b1, .int .i64 b2, .int .i64 b3, .int .i64 b4, .int .i64 b5]) 0).run Try.prog w = .ok (.agg #[.int .i64 b0, .int .i64 b1, .int .i64 b2, .int .i64 b3, .int .i64 b4, .int .i64 b5]) w := by kernel_rfl
/-- Midway: the answer's room, and in block g the rows so far. -/
def Rs7 (w : World) (b : Nat → Bool) (x m g : Nat) (W : World) : Prop := W.heap[w.heap.size]? = some oz ∧ W.heap[g]? = some (o6 (sl7 b x m)) ∧ w.heap.size < g ∧ g < W.heap.size ∧ Below w.heap.size w W
theorem Rs7.far {w W W' : World} {b : Nat → Bool} {x m g M : Nat} (h : Rs7 w b x m g W) (hb : Below M W W') (hM : M = W.heap.size) : Rs7 w b x m g W' := by
  obtain ⟨h1, h2, h3, h4, h5⟩ := h
  subst hM
  exact ⟨row_keep hb (by omega) h1, row_keep hb h4 h2, h3, Nat.lt_of_lt_of_le h4 hb.size, below_of h5 hb (by omega)⟩
theorem Rs7.store {w W : World} {b : Nat → Bool} {x k g : Nat} (h : Rs7 w b x k g W) (hk : k < 6) : Rs7 w b x (k + 1) g (W.setCell ⟨g, k, none⟩ (.int .i64 (rowv (sf ((k * x) % 6) 0 (fo7 b) 0)))) := by
  obtain ⟨h1, h2, h3, h4, h5⟩ := h
  refine ⟨?_, ?_, h3, by simpa using h4, h5.setCell (Nat.le_of_lt h3) _⟩
  · rw [Below.heap_setCell _ _ _ _ (show w.heap.size ≠ g from Nat.ne_of_lt h3)]; exact h1
  · rw [heap_setCell_same W g k _ _ _ h2]
    have h6 : k = 0 ∨ k = 1 ∨ k = 2 ∨ k = 3 ∨ k = 4 ∨ k = 5 := by omega
    rw [sl7_row]
    unfold o6
    rcases h6 with rfl | rfl | rfl | rfl | rfl | rfl
    · simp [sl7_keep b x 0 1, sl7_keep b x 0 2, sl7_keep b x 0 3, sl7_keep b x 0 4, sl7_keep b x 0 5]
    · simp [sl7_keep b x 1 0, sl7_keep b x 1 2, sl7_keep b x 1 3, sl7_keep b x 1 4, sl7_keep b x 1 5]
    · simp [sl7_keep b x 2 0, sl7_keep b x 2 1, sl7_keep b x 2 3, sl7_keep b x 2 4, sl7_keep b x 2 5]
    · simp [sl7_keep b x 3 0, sl7_keep b x 3 1, sl7_keep b x 3 2, sl7_keep b x 3 4, sl7_keep b x 3 5]
    · simp [sl7_keep b x 4 0, sl7_keep b x 4 1, sl7_keep b x 4 2, sl7_keep b x 4 3, sl7_keep b x 4 5]
    · simp [sl7_keep b x 5 0, sl7_keep b x 5 1, sl7_keep b x 5 2, sl7_keep b x 5 3, sl7_keep b x 5 4]
theorem in63 (s lo hi : Int) (h : (decide (lo ≤ s) && decide (s ≤ hi)) = true) (w : World) : Calls Try.prog 131 #[.int .i64 s, .int .i64 lo, .int .i64 hi] w fun e w' => e = .returned (.bool true) ∧ w' = w := by
  have := l1in_any s lo hi w
  rwa [h] at this
theorem in63n (s lo hi : Int) (h : (decide (lo ≤ s) && decide (s ≤ hi)) = false) (w : World) : Calls Try.prog 131 #[.int .i64 s, .int .i64 lo, .int .i64 hi] w fun e w' => e = .returned (.bool false) ∧ w' = w := by
  have := l1in_any s lo hi w
  rwa [h] at this
set_option maxHeartbeats 2000000 in
theorem sslan_yes (b : Nat → Bool) (x : Nat) (hx : x < 6) (w : World) : Calls Try.prog 47 #[.int .i64 (rowv b), .int .i64 (x : Int)] w fun e w' => e = .returned (.tuple #[.agg #[.int .i64 (rowv (sl7 b x 6 0)), .int .i64 (rowv (sl7 b x 6 1)), .int .i64 (rowv (sl7 b x 6 2)), .int .i64 (rowv (sl7 b x 6 3)), .int .i64 (rowv (sl7 b x 6 4)), .int .i64 (rowv (sl7 b x 6 5))], .bool true]) ∧ Below w.heap.size w w' := by
  have H0 := Lib.hid (in63 (rowv b) 0 63 (by have := row_in b; simp; omega))
  have H1 := Lib.hid (in63 (x : Int) 0 5 (by simp; omega))
  have HF := fun k hk => lshift_k (fo7 b) k x hk hx
  simp only [← (fo7_rows b).1, ← (fo7_rows b).2.1, ← (fo7_rows b).2.2.1, ← (fo7_rows b).2.2.2.1, ← (fo7_rows b).2.2.2.2.1, ← (fo7_rows b).2.2.2.2.2] at HF
  have HF := Lib.hid HF
  obtain ⟨v, hv⟩ : ∃ v, v = rowv b := ⟨_, rfl⟩
  rw [← hv] at H0 HF ⊢
  clear hv
  go_enter Try.func47, Try.ntmps47
  go_wp2_with fail
  refine (H0.out _).mono ?_
  rintro e w1 ⟨rfl, rfl⟩
  go_wp2_with fail
  refine (H1.out _).mono ?_
  rintro e w1 ⟨rfl, rfl⟩
  go_wp2_with fail
  generalize hW : (World.alloc _ _ : World) = W0
  have hz : oz = o6 (sl7 b x 0) := by unfold oz o6; simp only [sl7_0]
  have S0 : Hid (Rs7 w b x 0 (w.heap.size + 1) W0) := Lib.hid ⟨by rw [← hW]; exact alloc_past (alloc_at rfl), by rw [← hW, ← hz]; exact alloc_at (by simp), by omega, by rw [← hW]; simp, by rw [← hW]; (repeat (first | exact Below.refl _ _ | assumption | refine Below.setCell ?_ (by first | (simp; done) | (simp; omega)) _ | refine Below.alloc ?_ (by first | (simp; done) | (simp; omega)) _ | refine Below.drew ?_))⟩
  clear hW hz
  go_loopw [7] (fun c wr => ∃ k : Nat, k ≤ 6 ∧ c = .int .i64 k ∧ Hid (Rs7 w b x k (w.heap.size + 1) wr)) (fun c _ => 6 - (intOf c).toNat)
  case atStart => exact ⟨0, by omega, rfl, S0⟩
  case round =>
    obtain ⟨k, hk, rfl, HS⟩ := hrel
    by_cases hlt : k < 6
    · have hlt' : (k : Int) < 6 := by omega
      have hk0 : (0 : Int) ≤ k := by omega
      have HFk := Lib.hid (HF.out k hlt)
      have HST := Lib.hid (fun (W : World) (h : Rs7 w b x k (w.heap.size + 1) W) => h.store hlt)
      obtain ⟨r, hr⟩ : ∃ r, r = rowv (sf ((k * x) % 6) 0 (fo7 b) 0) := ⟨_, rfl⟩
      rw [← hr] at HST HFk
      clear hr
      go_wp2_with fail
      refine (HFk.out _).mono ?_
      rintro e W1 ⟨rfl, hb⟩
      have H2 := Lib.hid (HS.out.far hb rfl)
      have H3 := Lib.hid (HST.out _ H2.out)
      have g_f := fun j => frozen_of_row W1 _ j _ _ H2.out.2.1
      have g_c := fun j => cell_of_row W1 _ j _ _ _ H2.out.2.1
      obtain ⟨u, hu⟩ : ∃ u, W1.cell? ⟨w.heap.size + 1, k, none⟩ = some u := by
        rw [g_c k]
        have h6 : k = 0 ∨ k = 1 ∨ k = 2 ∨ k = 3 ∨ k = 4 ∨ k = 5 := by omega
        rcases h6 with rfl | rfl | rfl | rfl | rfl | rfl <;> exact ⟨_, rfl⟩
      clear g_c hb HS H2 HST H0 H1 HF HFk
      generalize rowv (sf ((k * x) % 6) 0 (fo7 b) 1) = z1
      generalize rowv (sf ((k * x) % 6) 0 (fo7 b) 2) = z2
      generalize rowv (sf ((k * x) % 6) 0 (fo7 b) 3) = z3
      generalize rowv (sf ((k * x) % 6) 0 (fo7 b) 4) = z4
      generalize rowv (sf ((k * x) % 6) 0 (fo7 b) 5) = z5
      have hix := ix0 r z1 z2 z3 z4 z5 W1
      have hfd := fd7 r z1 z2 z3 z4 z5 W1
      set_option maxRecDepth 8000 in
      go_wp2_with fail
      generalize (World.setCell _ _ _ : World) = X at H3 ⊢
      clear g_f hu
      go_roundw
      case rel => exact ⟨k + 1, by omega, by go_num, H3⟩
      case measure => simp [intOf]; omega
    · obtain rfl : k = 6 := by omega
      have s_c := fun j => cell_of_row wr _ j _ _ _ HS.out.2.1
      have qz1 := HS.out.1
      unfold oz at qz1
      have hB := HS.out.2.2.2.2
      have z_c := fun j => cell_of_row wr _ j _ _ _ qz1
      have z_f := fun j => frozen_of_row wr _ j _ _ qz1
      clear HF H0 H1
      set_option maxRecDepth 8000 in
      go_wp2_with fail
      have qr := set6a (.int .i64 (rowv (sl7 b x 6 0))) (.int .i64 (rowv (sl7 b x 6 1))) (.int .i64 (rowv (sl7 b x 6 2))) (.int .i64 (rowv (sl7 b x 6 3))) (.int .i64 (rowv (sl7 b x 6 4))) (.int .i64 (rowv (sl7 b x 6 5))) qz1
      have hB2 := below6 (v0 := .int .i64 (rowv (sl7 b x 6 0))) (v1 := .int .i64 (rowv (sl7 b x 6 1))) (v2 := .int .i64 (rowv (sl7 b x 6 2))) (v3 := .int .i64 (rowv (sl7 b x 6 3))) (v4 := .int .i64 (rowv (sl7 b x 6 4))) (v5 := .int .i64 (rowv (sl7 b x 6 5))) hB (Nat.le_refl w.heap.size)
      clear z_c z_f qz1 hB s_c HS
      generalize (World.setCell _ _ _ : World) = X at qr hB2 ⊢
      have x_c := fun j => cell_of_row X _ j _ _ _ qr
      exact bodyPost_ret (v := .tuple #[.agg #[.int .i64 (rowv (sl7 b x 6 0)), .int .i64 (rowv (sl7 b x 6 1)), .int .i64 (rowv (sl7 b x 6 2)), .int .i64 (rowv (sl7 b x 6 3)), .int .i64 (rowv (sl7 b x 6 4)), .int .i64 (rowv (sl7 b x 6 5))], .bool true]) (by simp [results, Try.results47, go_sem, x_c]) rfl ⟨rfl, hB2⟩
set_option maxHeartbeats 2000000 in
theorem sslan_no0 (a c : Int) (H0 : Hid (∀ w, Calls Try.prog 131 #[.int .i64 a, .int .i64 0, .int .i64 63] w fun e w' => e = .returned (.bool false) ∧ w' = w)) (w : World) : Calls Try.prog 47 #[.int .i64 a, .int .i64 c] w fun e w' => e = .returned (.tuple #[.agg #[.int .i64 0, .int .i64 0, .int .i64 0, .int .i64 0, .int .i64 0, .int .i64 0], .bool false]) ∧ Below w.heap.size w w' := by
  go_enter Try.func47, Try.ntmps47
  go_wp2_with fail
  refine (H0.out _).mono ?_
  rintro e w1 ⟨rfl, rfl⟩
  go_wp2_with fail
  have hx : (w.alloc (.cells #[.int .i64 0, .int .i64 0, .int .i64 0, .int .i64 0, .int .i64 0, .int .i64 0] 28)).heap[w.heap.size]? = some (.cells #[.int .i64 0, .int .i64 0, .int .i64 0, .int .i64 0, .int .i64 0, .int .i64 0] 28 (0, 0)) := alloc_at rfl
  have hB : Below w.heap.size w (w.alloc (.cells #[.int .i64 0, .int .i64 0, .int .i64 0, .int .i64 0, .int .i64 0, .int .i64 0] 28)) := by (repeat (first | exact Below.refl _ _ | assumption | refine Below.setCell ?_ (by first | (simp; done) | (simp; omega)) _ | refine Below.alloc ?_ (by first | (simp; done) | (simp; omega)) _ | refine Below.drew ?_))
  generalize (World.alloc _ _ : World) = X at hx hB ⊢
  have x_c := fun j => cell_of_row X _ j _ _ _ hx
  exact bodyPost_ret (v := .tuple #[.agg #[.int .i64 0, .int .i64 0, .int .i64 0, .int .i64 0, .int .i64 0, .int .i64 0], .bool false]) (by simp [results, Try.results47, go_sem, x_c]) rfl ⟨rfl, hB⟩
set_option maxHeartbeats 2000000 in
theorem sslan_no1 (a c : Int) (H0 : Hid (∀ w, Calls Try.prog 131 #[.int .i64 a, .int .i64 0, .int .i64 63] w fun e w' => e = .returned (.bool true) ∧ w' = w)) (H1 : Hid (∀ w, Calls Try.prog 131 #[.int .i64 c, .int .i64 0, .int .i64 5] w fun e w' => e = .returned (.bool false) ∧ w' = w)) (w : World) : Calls Try.prog 47 #[.int .i64 a, .int .i64 c] w fun e w' => e = .returned (.tuple #[.agg #[.int .i64 0, .int .i64 0, .int .i64 0, .int .i64 0, .int .i64 0, .int .i64 0], .bool false]) ∧ Below w.heap.size w w' := by
  go_enter Try.func47, Try.ntmps47
  go_wp2_with fail
  refine (H0.out _).mono ?_
  rintro e w1 ⟨rfl, rfl⟩
  go_wp2_with fail
  refine (H1.out _).mono ?_
  rintro e w1 ⟨rfl, rfl⟩
  go_wp2_with fail
  have hx : (w.alloc (.cells #[.int .i64 0, .int .i64 0, .int .i64 0, .int .i64 0, .int .i64 0, .int .i64 0] 28)).heap[w.heap.size]? = some (.cells #[.int .i64 0, .int .i64 0, .int .i64 0, .int .i64 0, .int .i64 0, .int .i64 0] 28 (0, 0)) := alloc_at rfl
  have hB : Below w.heap.size w (w.alloc (.cells #[.int .i64 0, .int .i64 0, .int .i64 0, .int .i64 0, .int .i64 0, .int .i64 0] 28)) := by (repeat (first | exact Below.refl _ _ | assumption | refine Below.setCell ?_ (by first | (simp; done) | (simp; omega)) _ | refine Below.alloc ?_ (by first | (simp; done) | (simp; omega)) _ | refine Below.drew ?_))
  generalize (World.alloc _ _ : World) = X at hx hB ⊢
  have x_c := fun j => cell_of_row X _ j _ _ _ hx
  exact bodyPost_ret (v := .tuple #[.agg #[.int .i64 0, .int .i64 0, .int .i64 0, .int .i64 0, .int .i64 0, .int .i64 0], .bool false]) (by simp [results, Try.results47, go_sem, x_c]) rfl ⟨rfl, hB⟩
end Go.Proofs.Ytpmhnikilianoaa
