/- CONTRACTS: what turns make of shifts, in the model and in the code. -/
import Derived.Test.YtpgfmigbjffemaaNn
import Derived.Test.YtpgfmigbjffemaaNu
import Derived.WalkKit
import Derived.ProofKit
import Derived.OpenShut
import Derived.Lib.Hide
import Derived.WalkSpells
import Derived.Below
import Derived.BigQuiet
import Derived.LoopN
namespace Go.Proofs.Ytpgfmigbjffemaa
open Go.ChangeShapes Go.WideShapes Go.ChangeAt Go.RowKit
set_option linter.unusedVariables false
set_option linter.unusedSimpArgs false
def neg6 (z : Nat) : Nat := (6 - z) % 6
/-- What the turn k makes of a shift by x and y. -/
def vec (k x y : Nat) : Nat × Nat := if k = 0 then (x, y) else if k = 1 then (neg6 y, x) else if k = 2 then (neg6 x, neg6 y) else if k = 3 then (y, neg6 x) else if k = 4 then (neg6 x, y) else if k = 5 then (y, x) else if k = 6 then (x, neg6 y) else (neg6 y, neg6 x)
theorem neg6_lt (z : Nat) : neg6 z < 6 := by unfold neg6; omega
theorem neg6_neg6 {z : Nat} (h : z < 6) : neg6 (neg6 z) = z := by unfold neg6; omega
theorem vec_lt {k x y : Nat} (hk : k < 8) (hx : x < 6) (hy : y < 6) : (vec k x y).1 < 6 ∧ (vec k x y).2 < 6 := by
  rcases eight hk with rfl | rfl | rfl | rfl | rfl | rfl | rfl | rfl
  all_goals simp [vec, hx, hy, neg6_lt]
theorem wrap_neg {z : Nat} (h : z < 6) : wrap64 (-(z : Int)) = -(z : Int) := by unfold wrap64; omega
theorem mod_neg {z : Nat} (h : z < 6) (w : World) : Calls Try.prog 155 #[.int .i64 (-(z : Int))] w fun e w' => e = .returned (.int .i64 (neg6 z : Int)) ∧ w' = w := by
  have H := l2mod_any (-(z : Int)) (WalkArith.wf_i64 (by omega)) w
  rw [show (-(z : Int)) % 6 = (neg6 z : Int) by unfold neg6; omega] at H
  exact H
theorem lvec_0 {x y : Nat} (hx : x < 6) (hy : y < 6) (w : World) : Calls Try.prog 151 #[.int .i64 0, .int .i64 (x : Int), .int .i64 (y : Int)] w fun e w' => e = .returned (.tuple #[.int .i64 ((x : Nat) : Int), .int .i64 ((y : Nat) : Int)]) ∧ w' = w := by
  have ex := neg6_neg6 hx
  have ey := neg6_neg6 hy
  have wx := wrap_neg (neg6_lt x)
  have wy := wrap_neg (neg6_lt y)
  have wyy := wrap_neg (neg6_lt (neg6 y))
  have EX := Lib.hid ex
  have EY := Lib.hid ey
  clear ex ey
  go_enter Try.func151, Try.ntmps151
  go_wp2_with fail
  refine wp_loop_rounds 1 ?_
  rw [rounds_succ]
  go_wp2_with fail
  have e1 : (x : Nat) = x := by simp only [EX.out, EY.out]
  have e2 : (y : Nat) = y := by simp only [EX.out, EY.out]
  refine bodyPost_ret (v := .tuple #[.int .i64 ((x : Nat) : Int), .int .i64 ((y : Nat) : Int)]) (by simp [results, Try.results151, go_sem]) rfl ⟨by rw [e1, e2], rfl⟩
theorem lvec_1 {x y : Nat} (hx : x < 6) (hy : y < 6) (w : World) : Calls Try.prog 151 #[.int .i64 1, .int .i64 (x : Int), .int .i64 (y : Int)] w fun e w' => e = .returned (.tuple #[.int .i64 ((neg6 y : Nat) : Int), .int .i64 ((x : Nat) : Int)]) ∧ w' = w := by
  have ex := neg6_neg6 hx
  have ey := neg6_neg6 hy
  have HN0 := Lib.hid (mod_neg (show y < 6 by first | omega | exact neg6_lt _))
  have wx := wrap_neg (neg6_lt x)
  have wy := wrap_neg (neg6_lt y)
  have wyy := wrap_neg (neg6_lt (neg6 y))
  have EX := Lib.hid ex
  have EY := Lib.hid ey
  clear ex ey
  go_enter Try.func151, Try.ntmps151
  go_wp2_with fail
  refine wp_loop_rounds 2 ?_
  rw [rounds_succ]
  go_wp2_with fail
  refine (HN0.out _).mono ?_
  rintro e w1 ⟨rfl, rfl⟩
  go_wp2_with fail
  try rw [rounds_succ]
  try go_wp2_with fail
  have e1 : (neg6 y : Nat) = neg6 y := by simp only [EX.out, EY.out]
  have e2 : (x : Nat) = x := by simp only [EX.out, EY.out]
  refine bodyPost_ret (v := .tuple #[.int .i64 ((neg6 y : Nat) : Int), .int .i64 ((x : Nat) : Int)]) (by simp [results, Try.results151, go_sem]) rfl ⟨by rw [e1, e2], rfl⟩
theorem lvec_2 {x y : Nat} (hx : x < 6) (hy : y < 6) (w : World) : Calls Try.prog 151 #[.int .i64 2, .int .i64 (x : Int), .int .i64 (y : Int)] w fun e w' => e = .returned (.tuple #[.int .i64 ((neg6 x : Nat) : Int), .int .i64 ((neg6 y : Nat) : Int)]) ∧ w' = w := by
  have ex := neg6_neg6 hx
  have ey := neg6_neg6 hy
  have HN0 := Lib.hid (mod_neg (show y < 6 by first | omega | exact neg6_lt _))
  have HN1 := Lib.hid (mod_neg (show x < 6 by first | omega | exact neg6_lt _))
  have wx := wrap_neg (neg6_lt x)
  have wy := wrap_neg (neg6_lt y)
  have wyy := wrap_neg (neg6_lt (neg6 y))
  have EX := Lib.hid ex
  have EY := Lib.hid ey
  clear ex ey
  go_enter Try.func151, Try.ntmps151
  go_wp2_with fail
  refine wp_loop_rounds 3 ?_
  rw [rounds_succ]
  go_wp2_with fail
  refine (HN0.out _).mono ?_
  rintro e w1 ⟨rfl, rfl⟩
  go_wp2_with fail
  try rw [rounds_succ]
  try go_wp2_with fail
  refine (HN1.out _).mono ?_
  rintro e w1 ⟨rfl, rfl⟩
  go_wp2_with fail
  try rw [rounds_succ]
  try go_wp2_with fail
  have e1 : (neg6 x : Nat) = neg6 x := by simp only [EX.out, EY.out]
  have e2 : (neg6 y : Nat) = neg6 y := by simp only [EX.out, EY.out]
  refine bodyPost_ret (v := .tuple #[.int .i64 ((neg6 x : Nat) : Int), .int .i64 ((neg6 y : Nat) : Int)]) (by simp [results, Try.results151, go_sem]) rfl ⟨by rw [e1, e2], rfl⟩
theorem lvec_3 {x y : Nat} (hx : x < 6) (hy : y < 6) (w : World) : Calls Try.prog 151 #[.int .i64 3, .int .i64 (x : Int), .int .i64 (y : Int)] w fun e w' => e = .returned (.tuple #[.int .i64 ((y : Nat) : Int), .int .i64 ((neg6 x : Nat) : Int)]) ∧ w' = w := by
  have ex := neg6_neg6 hx
  have ey := neg6_neg6 hy
  have HN0 := Lib.hid (mod_neg (show y < 6 by first | omega | exact neg6_lt _))
  have HN1 := Lib.hid (mod_neg (show x < 6 by first | omega | exact neg6_lt _))
  have HN2 := Lib.hid (mod_neg (show neg6 y < 6 by first | omega | exact neg6_lt _))
  have wx := wrap_neg (neg6_lt x)
  have wy := wrap_neg (neg6_lt y)
  have wyy := wrap_neg (neg6_lt (neg6 y))
  have EX := Lib.hid ex
  have EY := Lib.hid ey
  clear ex ey
  go_enter Try.func151, Try.ntmps151
  go_wp2_with fail
  refine wp_loop_rounds 4 ?_
  rw [rounds_succ]
  go_wp2_with fail
  refine (HN0.out _).mono ?_
  rintro e w1 ⟨rfl, rfl⟩
  go_wp2_with fail
  try rw [rounds_succ]
  try go_wp2_with fail
  refine (HN1.out _).mono ?_
  rintro e w1 ⟨rfl, rfl⟩
  go_wp2_with fail
  try rw [rounds_succ]
  try go_wp2_with fail
  refine (HN2.out _).mono ?_
  rintro e w1 ⟨rfl, rfl⟩
  go_wp2_with fail
  try rw [rounds_succ]
  try go_wp2_with fail
  have e1 : (neg6 (neg6 y) : Nat) = y := by simp only [EX.out, EY.out]
  have e2 : (neg6 x : Nat) = neg6 x := by simp only [EX.out, EY.out]
  refine bodyPost_ret (v := .tuple #[.int .i64 ((neg6 (neg6 y) : Nat) : Int), .int .i64 ((neg6 x : Nat) : Int)]) (by simp [results, Try.results151, go_sem]) rfl ⟨by rw [e1, e2], rfl⟩
theorem lvec_4 {x y : Nat} (hx : x < 6) (hy : y < 6) (w : World) : Calls Try.prog 151 #[.int .i64 4, .int .i64 (x : Int), .int .i64 (y : Int)] w fun e w' => e = .returned (.tuple #[.int .i64 ((neg6 x : Nat) : Int), .int .i64 ((y : Nat) : Int)]) ∧ w' = w := by
  have ex := neg6_neg6 hx
  have ey := neg6_neg6 hy
  have HM := Lib.hid (mod_neg (show x < 6 by first | omega | exact neg6_lt _))
  have wx := wrap_neg (neg6_lt x)
  have wy := wrap_neg (neg6_lt y)
  have wyy := wrap_neg (neg6_lt (neg6 y))
  have EX := Lib.hid ex
  have EY := Lib.hid ey
  clear ex ey
  go_enter Try.func151, Try.ntmps151
  go_wp2_with fail
  refine wp_loop_rounds 1 ?_
  rw [rounds_succ]
  go_wp2_with fail
  refine (HM.out _).mono ?_
  rintro e w1 ⟨rfl, rfl⟩
  go_wp2_with fail
  have e1 : (neg6 (x) : Nat) = neg6 x := by simp only [EX.out, EY.out]
  have e2 : (y : Nat) = y := by simp only [EX.out, EY.out]
  refine bodyPost_ret (v := .tuple #[.int .i64 ((neg6 (x) : Nat) : Int), .int .i64 ((y : Nat) : Int)]) (by simp [results, Try.results151, go_sem]) rfl ⟨by rw [e1, e2], rfl⟩
theorem lvec_5 {x y : Nat} (hx : x < 6) (hy : y < 6) (w : World) : Calls Try.prog 151 #[.int .i64 5, .int .i64 (x : Int), .int .i64 (y : Int)] w fun e w' => e = .returned (.tuple #[.int .i64 ((y : Nat) : Int), .int .i64 ((x : Nat) : Int)]) ∧ w' = w := by
  have ex := neg6_neg6 hx
  have ey := neg6_neg6 hy
  have HN0 := Lib.hid (mod_neg (show y < 6 by first | omega | exact neg6_lt _))
  have HM := Lib.hid (mod_neg (show neg6 y < 6 by first | omega | exact neg6_lt _))
  have wx := wrap_neg (neg6_lt x)
  have wy := wrap_neg (neg6_lt y)
  have wyy := wrap_neg (neg6_lt (neg6 y))
  have EX := Lib.hid ex
  have EY := Lib.hid ey
  clear ex ey
  go_enter Try.func151, Try.ntmps151
  go_wp2_with fail
  refine wp_loop_rounds 2 ?_
  rw [rounds_succ]
  go_wp2_with fail
  refine (HN0.out _).mono ?_
  rintro e w1 ⟨rfl, rfl⟩
  go_wp2_with fail
  try rw [rounds_succ]
  try go_wp2_with fail
  refine (HM.out _).mono ?_
  rintro e w1 ⟨rfl, rfl⟩
  go_wp2_with fail
  have e1 : (neg6 (neg6 y) : Nat) = y := by simp only [EX.out, EY.out]
  have e2 : (x : Nat) = x := by simp only [EX.out, EY.out]
  refine bodyPost_ret (v := .tuple #[.int .i64 ((neg6 (neg6 y) : Nat) : Int), .int .i64 ((x : Nat) : Int)]) (by simp [results, Try.results151, go_sem]) rfl ⟨by rw [e1, e2], rfl⟩
theorem lvec_6 {x y : Nat} (hx : x < 6) (hy : y < 6) (w : World) : Calls Try.prog 151 #[.int .i64 6, .int .i64 (x : Int), .int .i64 (y : Int)] w fun e w' => e = .returned (.tuple #[.int .i64 ((x : Nat) : Int), .int .i64 ((neg6 y : Nat) : Int)]) ∧ w' = w := by
  have ex := neg6_neg6 hx
  have ey := neg6_neg6 hy
  have HN0 := Lib.hid (mod_neg (show y < 6 by first | omega | exact neg6_lt _))
  have HN1 := Lib.hid (mod_neg (show x < 6 by first | omega | exact neg6_lt _))
  have HM := Lib.hid (mod_neg (show neg6 x < 6 by first | omega | exact neg6_lt _))
  have wx := wrap_neg (neg6_lt x)
  have wy := wrap_neg (neg6_lt y)
  have wyy := wrap_neg (neg6_lt (neg6 y))
  have EX := Lib.hid ex
  have EY := Lib.hid ey
  clear ex ey
  go_enter Try.func151, Try.ntmps151
  go_wp2_with fail
  refine wp_loop_rounds 3 ?_
  rw [rounds_succ]
  go_wp2_with fail
  refine (HN0.out _).mono ?_
  rintro e w1 ⟨rfl, rfl⟩
  go_wp2_with fail
  try rw [rounds_succ]
  try go_wp2_with fail
  refine (HN1.out _).mono ?_
  rintro e w1 ⟨rfl, rfl⟩
  go_wp2_with fail
  try rw [rounds_succ]
  try go_wp2_with fail
  refine (HM.out _).mono ?_
  rintro e w1 ⟨rfl, rfl⟩
  go_wp2_with fail
  have e1 : (neg6 (neg6 x) : Nat) = x := by simp only [EX.out, EY.out]
  have e2 : (neg6 y : Nat) = neg6 y := by simp only [EX.out, EY.out]
  refine bodyPost_ret (v := .tuple #[.int .i64 ((neg6 (neg6 x) : Nat) : Int), .int .i64 ((neg6 y : Nat) : Int)]) (by simp [results, Try.results151, go_sem]) rfl ⟨by rw [e1, e2], rfl⟩
theorem lvec_7 {x y : Nat} (hx : x < 6) (hy : y < 6) (w : World) : Calls Try.prog 151 #[.int .i64 7, .int .i64 (x : Int), .int .i64 (y : Int)] w fun e w' => e = .returned (.tuple #[.int .i64 ((neg6 y : Nat) : Int), .int .i64 ((neg6 x : Nat) : Int)]) ∧ w' = w := by
  have ex := neg6_neg6 hx
  have ey := neg6_neg6 hy
  have HN0 := Lib.hid (mod_neg (show y < 6 by first | omega | exact neg6_lt _))
  have HN1 := Lib.hid (mod_neg (show x < 6 by first | omega | exact neg6_lt _))
  have HN2 := Lib.hid (mod_neg (show neg6 y < 6 by first | omega | exact neg6_lt _))
  have HM := Lib.hid (mod_neg (show neg6 (neg6 y) < 6 by first | omega | exact neg6_lt _))
  have wx := wrap_neg (neg6_lt x)
  have wy := wrap_neg (neg6_lt y)
  have wyy := wrap_neg (neg6_lt (neg6 y))
  have EX := Lib.hid ex
  have EY := Lib.hid ey
  clear ex ey
  go_enter Try.func151, Try.ntmps151
  go_wp2_with fail
  refine wp_loop_rounds 4 ?_
  rw [rounds_succ]
  go_wp2_with fail
  refine (HN0.out _).mono ?_
  rintro e w1 ⟨rfl, rfl⟩
  go_wp2_with fail
  try rw [rounds_succ]
  try go_wp2_with fail
  refine (HN1.out _).mono ?_
  rintro e w1 ⟨rfl, rfl⟩
  go_wp2_with fail
  try rw [rounds_succ]
  try go_wp2_with fail
  refine (HN2.out _).mono ?_
  rintro e w1 ⟨rfl, rfl⟩
  go_wp2_with fail
  try rw [rounds_succ]
  try go_wp2_with fail
  refine (HM.out _).mono ?_
  rintro e w1 ⟨rfl, rfl⟩
  go_wp2_with fail
  have e1 : (neg6 (neg6 (neg6 y)) : Nat) = neg6 y := by simp only [EX.out, EY.out]
  have e2 : (neg6 x : Nat) = neg6 x := by simp only [EX.out, EY.out]
  refine bodyPost_ret (v := .tuple #[.int .i64 ((neg6 (neg6 (neg6 y)) : Nat) : Int), .int .i64 ((neg6 x : Nat) : Int)]) (by simp [results, Try.results151, go_sem]) rfl ⟨by rw [e1, e2], rfl⟩
theorem lvec_f {k x y : Nat} (hk : k < 8) (hx : x < 6) (hy : y < 6) (w : World) : Calls Try.prog 151 #[.int .i64 (k : Int), .int .i64 (x : Int), .int .i64 (y : Int)] w fun e w' => e = .returned (.tuple #[.int .i64 ((vec k x y).1 : Int), .int .i64 ((vec k x y).2 : Int)]) ∧ w' = w := by
  rcases eight hk with rfl | rfl | rfl | rfl | rfl | rfl | rfl | rfl
  · exact lvec_0 hx hy w
  · exact lvec_1 hx hy w
  · exact lvec_2 hx hy w
  · exact lvec_3 hx hy w
  · exact lvec_4 hx hy w
  · exact lvec_5 hx hy w
  · exact lvec_6 hx hy w
  · exact lvec_7 hx hy w
theorem vec_dst {k x y : Nat} (hk : k < 8) (hx : x < 6) (hy : y < 6) : (((dst k x y).1 : Int) - ((dst k 0 0).1 : Int)) % 6 = ((vec k x y).1 : Int) ∧ (((dst k x y).2 : Int) - ((dst k 0 0).2 : Int)) % 6 = ((vec k x y).2 : Int) := by
  rcases eight hk with rfl | rfl | rfl | rfl | rfl | rfl | rfl | rfl
  all_goals
    simp only [dst, vec, neg6]
    simp
    constructor <;> omega
theorem cvec_f {k x y : Nat} (hk : k < 8) (hx : x < 6) (hy : y < 6) (w : World) : Calls Try.prog 152 #[.int .i64 (k : Int), .int .i64 (x : Int), .int .i64 (y : Int)] w fun e w' => e = .returned (.agg #[.int .i64 ((vec k x y).1 : Int), .int .i64 ((vec k x y).2 : Int)]) ∧ Below w.heap.size w w' := by
  have H1 := Lib.hid (tcell_f hk (show 0 < 6 by decide) (show 0 < 6 by decide))
  have H2 := Lib.hid (tcell_f hk hx hy)
  have l1 := (only_src hk (show 0 < 6 by decide) (show 0 < 6 by decide)).2
  have l2 := (only_src hk hy hx).2
  have hv := vec_dst hk hx hy
  have HA := Lib.hid (around_any (((dst k x y).1 : Int) - ((dst k 0 0).1 : Int)) (((dst k x y).2 : Int) - ((dst k 0 0).2 : Int)) (WalkArith.wf_i64 (by omega)) (WalkArith.wf_i64 (by omega)))
  rw [hv.1, hv.2] at HA
  clear hv
  generalize dst k x y = d at H2 l2 HA
  generalize dst k 0 0 = d0 at H1 l1 HA
  generalize vec k x y = v at HA ⊢
  obtain ⟨d1, d2⟩ := d
  obtain ⟨c1, c2⟩ := d0
  obtain ⟨v1, v2⟩ := v
  simp only at H1 H2 HA l1 l2 ⊢
  have e1 : wrap64 ((d1 : Int) - c1) = d1 - c1 := by unfold wrap64; omega
  have e2 : wrap64 ((d2 : Int) - c2) = d2 - c2 := by unfold wrap64; omega
  clear l1 l2
  go_enter Try.func152, Try.ntmps152
  go_wp2_with fail
  have hq0 : (w.alloc (.cells #[.int .i64 0, .int .i64 0] 44)).heap[w.heap.size]? = some (.cells #[.int .i64 0, .int .i64 0] 44 (0, 0)) := alloc_at rfl
  have hB0 : Below w.heap.size w (w.alloc (.cells #[.int .i64 0, .int .i64 0] 44)) := by (repeat (first | exact Below.refl _ _ | assumption | refine Below.setCell ?_ (by first | (simp; done) | (simp; omega)) _ | refine Below.alloc ?_ (by first | (simp; done) | (simp; omega)) _ | refine Below.drew ?_))
  refine (H1.out _).mono ?_
  rintro e w1 ⟨rfl, hb⟩
  have hq1 := rowk hq0 hb rfl
  have hB1 := below_of hB0 hb hB0.size
  clear hb hq0 hB0 H1
  go_wp2_with fail
  refine (H2.out _).mono ?_
  rintro e w2 ⟨rfl, hb⟩
  have hq2 := rowk hq1 hb rfl
  have hB2 := below_of hB1 hb hB1.size
  clear hb hq1 hB1 H2
  go_wp2_with fail
  refine (HA.out _).mono ?_
  rintro e w3 ⟨rfl, hb⟩
  have hq3 := rowk (alloc_past (alloc_past hq2)) hb rfl
  have hB3 := below_of ((hB2.alloc hB2.size _).alloc (by simp; exact Nat.le_trans hB2.size (Nat.le_succ _)) _) hb (by simp; exact Nat.le_trans hB2.size (by omega))
  clear hb hq2 hB2 HA
  have c_c := fun k => cell_of_row w3 _ k _ _ _ hq3
  have c_f := fun k => frozen_of_row w3 _ k _ _ hq3
  go_wp2_with fail
  refine bodyPost_ret (v := .agg #[.int .i64 (v1 : Int), .int .i64 (v2 : Int)]) (by simp [results, Try.results152, go_sem, c_c]) rfl ⟨rfl, ?_⟩
  exact below2 hB3 (Nat.le_refl _)
end Go.Proofs.Ytpgfmigbjffemaa
