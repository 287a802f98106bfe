/- PLAIN LEMMAS: sheets made cell by cell; CONTRACTS: the sheet of the cells with an ink, of the model. -/
import Derived.Test.YtcjomhjgjdjigaaPi
import Derived.Test.YtcjomhjgjdjigaaVp8
import Derived.WalkKit
import Derived.ProofKit
import Derived.OpenShut
import Derived.Lib.Hide
import Derived.WalkSpells
import Derived.Below
import Derived.BigQuiet
import Derived.LoopN
namespace Go.Proofs.Ytcjomhjgjdjigaa
open Go.ChangeShapes Go.WideShapes Go.ChangeAt Go.RowKit
set_option linter.unusedVariables false
/-- A sheet with one cell more. -/
def oc8 (x y : Nat) (F : Nat → Nat → Bool) : Nat → Nat → Bool := fun j i => F j i || (j == y && i == x)
theorem oc8_row (F : Nat → Nat → Bool) {x : Nat} (hx : x < 6) (y : Nat) : bits .or .i64 (rowv (F y)) (wrap64 (2 ^ x)) = rowv (oc8 x y F y) := by
  rw [rowv_or (F y) hx]
  exact rowv_congr fun i _ => by simp [oc8]
theorem oc8_ne (F : Nat → Nat → Bool) {x y j : Nat} (h : j ≠ y) : rowv (oc8 x y F j) = rowv (F j) := rowv_congr fun i _ => by simp [oc8, h]
theorem o6_congr {f g : Nat → Nat → Bool} (h : ∀ j, j < 6 → rowv (f j) = rowv (g j)) : o6 f = o6 g := by
  unfold o6
  rw [h 0 (by decide), h 1 (by decide), h 2 (by decide), h 3 (by decide), h 4 (by decide), h 5 (by decide)]
theorem oc8_set {W : World} {F : Nat → Nat → Bool} {g x y : Nat} (hy : y < 6) (h : W.heap[g]? = some (o6 F)) : (W.setCell ⟨g, y, none⟩ (.int .i64 (rowv (oc8 x y F y)))).heap[g]? = some (o6 (oc8 x y F)) := by
  have e := heap_setCell_same W g y _ 36 (.int .i64 (rowv (oc8 x y F y))) h
  rw [e]
  rcases six_n hy with rfl | rfl | rfl | rfl | rfl | rfl
  · unfold o6
    rw [oc8_ne F (show (1 : Nat) ≠ 0 by decide), oc8_ne F (show (2 : Nat) ≠ 0 by decide), oc8_ne F (show (3 : Nat) ≠ 0 by decide), oc8_ne F (show (4 : Nat) ≠ 0 by decide), oc8_ne F (show (5 : Nat) ≠ 0 by decide)]
    rfl
  · unfold o6
    rw [oc8_ne F (show (0 : Nat) ≠ 1 by decide), oc8_ne F (show (2 : Nat) ≠ 1 by decide), oc8_ne F (show (3 : Nat) ≠ 1 by decide), oc8_ne F (show (4 : Nat) ≠ 1 by decide), oc8_ne F (show (5 : Nat) ≠ 1 by decide)]
    rfl
  · unfold o6
    rw [oc8_ne F (show (0 : Nat) ≠ 2 by decide), oc8_ne F (show (1 : Nat) ≠ 2 by decide), oc8_ne F (show (3 : Nat) ≠ 2 by decide), oc8_ne F (show (4 : Nat) ≠ 2 by decide), oc8_ne F (show (5 : Nat) ≠ 2 by decide)]
    rfl
  · unfold o6
    rw [oc8_ne F (show (0 : Nat) ≠ 3 by decide), oc8_ne F (show (1 : Nat) ≠ 3 by decide), oc8_ne F (show (2 : Nat) ≠ 3 by decide), oc8_ne F (show (4 : Nat) ≠ 3 by decide), oc8_ne F (show (5 : Nat) ≠ 3 by decide)]
    rfl
  · unfold o6
    rw [oc8_ne F (show (0 : Nat) ≠ 4 by decide), oc8_ne F (show (1 : Nat) ≠ 4 by decide), oc8_ne F (show (2 : Nat) ≠ 4 by decide), oc8_ne F (show (3 : Nat) ≠ 4 by decide), oc8_ne F (show (5 : Nat) ≠ 4 by decide)]
    rfl
  · unfold o6
    rw [oc8_ne F (show (0 : Nat) ≠ 5 by decide), oc8_ne F (show (1 : Nat) ≠ 5 by decide), oc8_ne F (show (2 : Nat) ≠ 5 by decide), oc8_ne F (show (3 : Nat) ≠ 5 by decide), oc8_ne F (show (4 : Nat) ≠ 5 by decide)]
    rfl
theorem o8_at {W : World} {F : Nat → Nat → Bool} {g y : Nat} (hy : y < 6) (h : W.heap[g]? = some (o6 F)) : W.cell? ⟨g, y, none⟩ = some (.int .i64 (rowv (F y))) := by
  have e := cell_of_row W g y _ _ _ h
  rw [e]
  rcases six_n hy with rfl | rfl | rfl | rfl | rfl | rfl <;> rfl
theorem row_x8 {F : Nat → Nat → Bool} {x y : Nat} (hx : x < 6) (hF : F y x = false) (j : Nat) : (if (y : Int) = (j : Int) then bits .xor .i64 (rowv (F j)) (wrap64 (2 ^ (x : Int).toNat)) else rowv (F j)) = rowv (oc8 x y F j) := by
  by_cases e : y = j
  · subst e
    rw [if_pos rfl, Int.toNat_natCast, rowv_xor (F y) hx]
    refine rowv_congr fun i _ => ?_
    unfold oc8
    by_cases h : i = x
    · subst h; simp [hF]
    · have hb : (i == x) = false := by simpa using h
      simp [hb]
  · rw [if_neg (by omega), oc8_ne F (fun h => e h.symm)]
theorem lflip8 (F : Nat → Nat → Bool) {x y : Nat} (hx : x < 6) (hy : y < 6) (hF : F y x = false) (w : World) : Calls Try.prog 111 #[.agg #[.int .i64 (rowv (F 0)), .int .i64 (rowv (F 1)), .int .i64 (rowv (F 2)), .int .i64 (rowv (F 3)), .int .i64 (rowv (F 4)), .int .i64 (rowv (F 5))], .int .i64 (x : Int), .int .i64 (y : Int)] w fun e w' => e = .returned (.agg #[.int .i64 (rowv (oc8 x y F 0)), .int .i64 (rowv (oc8 x y F 1)), .int .i64 (rowv (oc8 x y F 2)), .int .i64 (rowv (oc8 x y F 3)), .int .i64 (rowv (oc8 x y F 4)), .int .i64 (rowv (oc8 x y F 5))]) ∧ Below w.heap.size w w' := by
  refine (l2flip_any (rowv (F 0)) (rowv (F 1)) (rowv (F 2)) (rowv (F 3)) (rowv (F 4)) (rowv (F 5)) (x : Int) (y : Int) ⟨by omega, by omega⟩ ⟨by omega, by omega⟩ w).mono ?_
  rintro e w' ⟨rfl, hb⟩
  have e0 := row_x8 hx hF 0
  have e1 := row_x8 hx hF 1
  have e2 := row_x8 hx hF 2
  have e3 := row_x8 hx hF 3
  have e4 := row_x8 hx hF 4
  have e5 := row_x8 hx hF 5
  exact ⟨by rw [← e0, ← e1, ← e2, ← e3, ← e4, ← e5]; rfl, hb⟩
/-- The cells among the first p that have the ink k. -/
def im8 (m : Nat → Int) (k : Int) (p : Nat) : Nat → Nat → Bool := fun y x => decide (6 * y + x < p) && decide (m (y * 6 + x) = k)
theorem im8_off (m : Nat → Int) (k : Int) (y x : Nat) : im8 m k (6 * y + x) y x = false := by simp [im8]
theorem im8_no {m : Nat → Int} {k : Int} {y x : Nat} (hx : x < 6) (h : ¬ m (y * 6 + x) = k) (j : Nat) : rowv (im8 m k (6 * y + x + 1) j) = rowv (im8 m k (6 * y + x) j) := by
  refine rowv_congr fun i hi => ?_
  unfold im8
  by_cases e : 6 * j + i = 6 * y + x
  · obtain rfl : j = y := by omega
    obtain rfl : i = x := by omega
    simp [h]
  · have : (6 * j + i < 6 * y + x + 1) = (6 * j + i < 6 * y + x) := by apply propext; omega
    rw [decide_eq_decide.mpr (Iff.of_eq this)]
theorem im8_yes {m : Nat → Int} {k : Int} {y x : Nat} (hx : x < 6) (h : m (y * 6 + x) = k) (j : Nat) : rowv (im8 m k (6 * y + x + 1) j) = rowv (oc8 x y (im8 m k (6 * y + x)) j) := by
  refine rowv_congr fun i hi => ?_
  unfold oc8 im8
  by_cases e : 6 * j + i = 6 * y + x
  · obtain rfl : j = y := by omega
    obtain rfl : i = x := by omega
    simp [h]
  · have h1 : (6 * j + i < 6 * y + x + 1) = (6 * j + i < 6 * y + x) := by apply propext; omega
    have h2 : (j == y && i == x) = false := by
      cases hq : (j == y && i == x)
      · rfl
      · simp only [Bool.and_eq_true, beq_iff_eq] at hq
        omega
    rw [decide_eq_decide.mpr (Iff.of_eq h1), h2, Bool.or_false]
theorem im8_zero (m : Nat → Int) (k : Int) : o6 (im8 m k 0) = oz := by
  have : ∀ j, rowv (im8 m k 0 j) = 0 := fun j => by
    have : rowv (im8 m k 0 j) = rowv fun _ => false := rowv_congr fun i _ => by simp [im8]
    rw [this]; rfl
  unfold o6 oz
  rw [this, this, this, this, this, this]
/-- Midway: rows known, and in the block gb the sheet that is made so far. -/
def Rm8 (w : World) (n : Nat) (rows : List (Nat × Obj)) (gb : Nat) (F : Nat → Nat → Bool) (U : World) : Prop := KR n rows w U ∧ U.heap[gb]? = some (o6 F) ∧ w.heap.size + n ≤ gb ∧ gb < U.heap.size
theorem Rm8.below {w W W' : World} {n : Nat} {rows : List (Nat × Obj)} {gb M : Nat} {F : Nat → Nat → Bool} (h : Rm8 w n rows gb F W) (hb : Below M W W') (hM : M = W.heap.size) : Rm8 w n rows gb F W' :=
  ⟨h.1.far hb hM, rowk h.2.1 hb hM, h.2.2.1, Nat.lt_of_lt_of_le h.2.2.2 hb.size⟩
theorem Rm8.put {w W : World} {n : Nat} {rows : List (Nat × Obj)} {gb x y : Nat} {F : Nat → Nat → Bool} (hy : y < 6) (h : Rm8 w n rows gb F W) : Rm8 w n rows gb (oc8 x y F) (W.setCell ⟨gb, y, none⟩ (.int .i64 (rowv (oc8 x y F y)))) :=
  ⟨h.1.set h.2.2.1, oc8_set hy h.2.1, h.2.2.1, by simpa using h.2.2.2⟩
theorem Rm8.put6 {w W : World} {n : Nat} {rows : List (Nat × Obj)} {gb : Nat} {F : Nat → Nat → Bool} (G : Nat → Nat → Bool) (h : Rm8 w n rows gb F W) : Rm8 w n rows gb G ((((((W.setCell ⟨gb, 0, none⟩ (.int .i64 (rowv (G 0)))).setCell ⟨gb, 1, none⟩ (.int .i64 (rowv (G 1)))).setCell ⟨gb, 2, none⟩ (.int .i64 (rowv (G 2)))).setCell ⟨gb, 3, none⟩ (.int .i64 (rowv (G 3)))).setCell ⟨gb, 4, none⟩ (.int .i64 (rowv (G 4)))).setCell ⟨gb, 5, none⟩ (.int .i64 (rowv (G 5)))) :=
  ⟨(((((h.1.set h.2.2.1).set h.2.2.1).set h.2.2.1).set h.2.2.1).set h.2.2.1).set h.2.2.1, set6a _ _ _ _ _ _ h.2.1, h.2.2.1, by simpa using h.2.2.2⟩
theorem Rm8.same {w W : World} {n : Nat} {rows : List (Nat × Obj)} {gb : Nat} {F G : Nat → Nat → Bool} (h : Rm8 w n rows gb F W) (e : ∀ j, j < 6 → rowv (G j) = rowv (F j)) : Rm8 w n rows gb G W := ⟨h.1, by rw [o6_congr e]; exact h.2.1, h.2.2⟩
set_option maxRecDepth 8000 in
set_option maxHeartbeats 1000000 in
theorem sink_f (m : Nat → Int) (k : Int) (w : World) : Calls Try.prog 80 #[pv m, .int .i64 k] w fun e w' => e = .returned (.agg #[.int .i64 (rowv (im8 m k 36 0)), .int .i64 (rowv (im8 m k 36 1)), .int .i64 (rowv (im8 m k 36 2)), .int .i64 (rowv (im8 m k 36 3)), .int .i64 (rowv (im8 m k 36 4)), .int .i64 (rowv (im8 m k 36 5))]) ∧ Below w.heap.size w w' := by
  go_enter Try.func80, Try.ntmps80
  go_wp2_with ((with_reducible refine wpB36 m ?_ ?_); rfl)
  generalize hW : (World.alloc _ _ : World) = W1
  have S0 : Hid (Rm8 w 2 [(w.heap.size, pb 27 m), (w.heap.size + 1, oz)] (w.heap.size + 1 + 1) (im8 m k (6 * 0)) W1) := by
    rw [← hW]
    refine Lib.hid ⟨⟨?_, by simp, by (repeat (first | exact Below.refl _ _ | assumption | refine Below.setCell ?_ (by first | (simp; done) | (simp; omega)) _ | refine Below.alloc ?_ (by first | (simp; done) | (simp; omega)) _ | refine Below.drew ?_))⟩, ?_, by omega, by simp⟩
    · intro p hp
      simp only [List.mem_cons, List.mem_nil_iff, or_false] at hp
      rcases hp with rfl | rfl
      · exact ⟨by simp, alloc_past (alloc_past (alloc_at rfl))⟩
      · exact ⟨by simp, alloc_past (alloc_at (by simp))⟩
    · rw [Nat.mul_zero, im8_zero]
      exact alloc_at (by simp)
  clear hW
  go_loopw [6] (fun c wr => ∃ y : Nat, y ≤ 6 ∧ c = .int .i64 y ∧ Hid (Rm8 w 2 [(w.heap.size, pb 27 m), (w.heap.size + 1, oz)] (w.heap.size + 1 + 1) (im8 m k (6 * y)) wr)) (fun c _ => 6 - (intOf c).toNat)
  case atStart => exact ⟨0, by omega, rfl, S0⟩
  case round =>
    obtain ⟨y, hy, rfl, HS⟩ := hrel
    by_cases hlt : y < 6
    · have hlt' : (y : Int) < 6 := by omega
      have hlt2 : decide ((y : Int) < 6) = true := decide_eq_true hlt'
      go_wp2_with fail
      try rw [hlt2]
      clear hlt2
      go_loopw [7] (fun c wr => ∃ x : Nat, x ≤ 6 ∧ c = .int .i64 x ∧ Hid (Rm8 w 2 [(w.heap.size, pb 27 m), (w.heap.size + 1, oz)] (w.heap.size + 1 + 1) (im8 m k (6 * y + x)) wr)) (fun c _ => 6 - (intOf c).toNat)
      case atStart => exact ⟨0, by omega, rfl, HS⟩
      case round =>
        obtain ⟨x, hx, rfl, HT⟩ := hrel
        by_cases hlx : x < 6
        · have hlx' : (x : Int) < 6 := by omega
          have hy0 : (0 : Int) ≤ y := by omega
          have hx0 : (0 : Int) ≤ x := by omega
          have c0 := pb_cell (HT.out.1.row (g := w.heap.size) (o := pb 27 m) (by simp)) (y * 6 + x)
          rw [if_pos (by omega)] at c0
          have HN := Lib.hid (im8_no (m := m) (k := k) (y := y) hlx)
          have HY := Lib.hid (im8_yes (m := m) (k := k) (y := y) hlx)
          have HF := Lib.hid (lflip8 (im8 m k (6 * y + x)) hlx hlt (im8_off m k y x))
          generalize m (y * 6 + x) = v at c0 HN HY
          by_cases hv : v = k
          · have hq : (v == k) = true := by simpa using hv
            have HV := Lib.hid hv
            clear hv
            have g_c := fun j => cell_of_row wr _ j _ _ _ HT.out.2.1
            go_wp2_with fail
            refine (HF.out _).mono ?_
            rintro e W2 ⟨rfl, hb⟩
            have HE := Lib.hid (HT.out.below hb rfl)
            clear hb HT g_c c0
            have g_c := fun j => cell_of_row W2 _ j _ _ _ HE.out.2.1
            have g_f := fun j => frozen_of_row W2 _ j _ _ HE.out.2.1
            go_wp2_with fail
            have HJ := Lib.hid ((HE.out.put6 (oc8 x y (im8 m k (6 * y + x)))).same (G := im8 m k (6 * y + x + 1)) fun j _ => HY.out HV.out j)
            clear g_c g_f HE
            generalize (World.setCell _ _ _ : World) = X at HJ ⊢
            go_roundw
            case rel => exact ⟨x + 1, by omega, by go_num, HJ⟩
            case measure => simp [intOf]; omega
          · have hq : (v == k) = false := by simpa using hv
            have HV := Lib.hid hv
            clear hv
            go_wp2_with fail
            have HJ := Lib.hid (HT.out.same (G := im8 m k (6 * y + x + 1)) fun j _ => HN.out HV.out j)
            go_roundw
            case rel => exact ⟨x + 1, by omega, by go_num, HJ⟩
            case measure => simp [intOf]; omega
        · obtain rfl : x = 6 := by omega
          go_wp2_with fail
          go_roundw
          case rel => exact ⟨y + 1, by omega, by go_num, Lib.hid HT.out⟩
          case measure => simp [intOf]; omega
    · obtain rfl : y = 6 := by omega
      have d_c := fun j => cell_of_row wr _ j _ _ _ HS.out.2.1
      have hz := HS.out.1.row (g := w.heap.size + 1) (o := oz) (by simp)
      have z_c := fun j => cell_of_row wr _ j _ _ _ hz
      have z_f := fun j => frozen_of_row wr _ j _ _ hz
      clear hz
      go_wp2_with fail
      refine bodyPost_ret (v := .agg #[.int .i64 (rowv (im8 m k 36 0)), .int .i64 (rowv (im8 m k 36 1)), .int .i64 (rowv (im8 m k 36 2)), .int .i64 (rowv (im8 m k 36 3)), .int .i64 (rowv (im8 m k 36 4)), .int .i64 (rowv (im8 m k 36 5))]) (by simp [results, Try.results80, go_sem, z_c]) rfl ⟨rfl, ?_⟩
      exact below6 HS.out.1.2.2 (by omega)
end Go.Proofs.Ytcjomhjgjdjigaa
