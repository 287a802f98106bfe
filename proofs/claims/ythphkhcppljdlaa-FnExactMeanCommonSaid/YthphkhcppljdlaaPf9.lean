/- THE PAIRS: chances and means of presses, the model's and the code's. -/
import Derived.Test.YthphkhcppljdlaaTe9
import Derived.Test.YthphkhcppljdlaaMx7
import Derived.Test.YthphkhcppljdlaaFs
import Derived.Test.YthphkhcppljdlaaPb
import Derived.Test.YthphkhcppljdlaaWc
import Derived.Test.YthphkhcppljdlaaSz
import Derived.WalkKit
import Derived.ProofKit
import Derived.OpenShut
import Derived.Lib.Hide
import Derived.WalkSpells
import Derived.Below
import Derived.BigQuiet
import Derived.LoopN
namespace Go.Proofs.Ythphkhcppljdlaa
open Go.ChangeShapes Go.WideShapes Go.ChangeAt Go.RowKit
set_option linter.unusedVariables false
theorem w_mul {a b : Nat} (h : a * b ≤ 4611686018427387904) : wrap64 ((a : Int) * (b : Int)) = ((a * b : Nat) : Int) := by rw [← Int.natCast_mul]; exact wr9 (by omega) (by omega)
theorem w_add {a b : Nat} (h : a + b ≤ 4611686018427387904) : wrap64 ((a : Int) + (b : Int)) = ((a + b : Nat) : Int) := by rw [← Int.natCast_add]; exact wr9 (by omega) (by omega)
theorem w_36 {h : Nat} (hh : h ≤ 36) : wrap64 (36 - (h : Int)) = ((36 - h : Nat) : Int) := by rw [wr9 (by omega) (by omega)]; omega
theorem w_sub {a b : Nat} (h : b ≤ a) (h2 : a ≤ 4611686018427387904) : wrap64 ((a : Int) - (b : Int)) = ((a - b : Nat) : Int) := by rw [wr9 (by omega) (by omega)]; omega
theorem i_w {z v : Int} (h : wrap64 z = v) : IntKind.i64.wrap z = v := by unfold wrap64 at h; rw [IntKind.wrap_i64]; exact h
theorem isb_y (f : Fn6) {x y : Nat} (hx : x < 6) (hy : y < 6) : Hid (∀ w, Calls Try.prog 59 #[.agg #[.int .i64 (rowv (f 0)), .int .i64 (rowv (f 1)), .int .i64 (rowv (f 2)), .int .i64 (rowv (f 3)), .int .i64 (rowv (f 4)), .int .i64 (rowv (f 5))], .agg #[.int .i64 (x : Int), .int .i64 (y : Int)]] w fun e w' => e = .returned (.tuple #[.bool (f y x), .bool true]) ∧ Below w.heap.size w w') := Lib.hid (fun w => iblack_yes (rowv (f 0)) (rowv (f 1)) (rowv (f 2)) (rowv (f 3)) (rowv (f 4)) (rowv (f 5)) (x : Int) (y : Int) (f y x) (sh_ai (rowv (f 0)) (rowv (f 1)) (rowv (f 2)) (rowv (f 3)) (rowv (f 4)) (rowv (f 5)) (sh_of f)) (ce_i _ _ (WalkArith.wf_i64 (by omega)) (WalkArith.wf_i64 (by omega)) (by simp [okc]; omega)) (Lib.hid (fun w => cell_black f hy hx ▸ has_any (rowv (f 0)) (rowv (f 1)) (rowv (f 2)) (rowv (f 3)) (rowv (f 4)) (rowv (f 5)) (x : Int) (y : Int) (by omega) (by omega) w)) w)
theorem get_y (f : Fn6) {x y : Nat} (hx : x < 6) (hy : y < 6) : Hid (∀ w, Calls Try.prog 93 #[.agg #[.int .i64 (rowv (f 0)), .int .i64 (rowv (f 1)), .int .i64 (rowv (f 2)), .int .i64 (rowv (f 3)), .int .i64 (rowv (f 4)), .int .i64 (rowv (f 5))], .int .i64 (x : Int), .int .i64 (y : Int)] w fun e w' => e = .returned (.bool (f y x)) ∧ Below w.heap.size w w') := Lib.hid (fun w => cell_black f hy hx ▸ get_any (rowv (f 0)) (rowv (f 1)) (rowv (f 2)) (rowv (f 3)) (rowv (f 4)) (rowv (f 5)) (x : Int) (y : Int) (by omega) (by omega) w)
theorem pc_nat (g : Fn6) : ∃ h : Nat, pc36 g = (h : Int) ∧ h ≤ 36 := by
  have := pc36_bd g
  exact ⟨(pc36 g).toNat, by omega, by omega⟩
theorem pressed_f {k h a b m : Nat} (hk : k < 3) (hh : h ≤ 36) (hab : a + b ≤ 36) (hm : m < 6) (w : World) : Calls Try.prog 205 #[.agg #[.int .i64 (((tn9 k h (a, b) m).1 : Nat) : Int), .int .i64 (((tn9 k h (a, b) m).2 : Nat) : Int)], .int .i64 (k : Int), .int .i64 (h : Int)] w fun e w' => e = .returned (.agg #[.int .i64 (((tn9 k h (a, b) (m + 1)).1 : Nat) : Int), .int .i64 (((tn9 k h (a, b) (m + 1)).2 : Nat) : Int)]) ∧ Below w.heap.size w w' := by
  obtain ⟨b1, b2, b3⟩ := tn9_le (k := k) (n := m) hh hab (by omega)
  have c3 := (tn9_le (k := k) (n := m + 1) hh hab (by omega)).2.2
  have es : tn9 k h (a, b) (m + 1) = tk9 k h (tn9 k h (a, b) m) := rfl
  rw [es] at c3 ⊢
  clear es
  generalize tn9 k h (a, b) m = p at *
  obtain ⟨x, y⟩ := p
  dsimp only at b1 b2 b3 ⊢
  have m1 : x * (36 - h) ≤ 78364164096 * 36 := Nat.mul_le_mul b1 (by omega)
  have m2 : y * (36 - h) ≤ 78364164096 * 36 := Nat.mul_le_mul b2 (by omega)
  have m3 : x * h ≤ 78364164096 * 36 := Nat.mul_le_mul b1 hh
  have m4 : y * h ≤ 78364164096 * 36 := Nat.mul_le_mul b2 hh
  have m5 : (x + y) * h ≤ 78364164096 * 36 := Nat.mul_le_mul b3 hh
  obtain rfl | rfl | rfl : k = 0 ∨ k = 1 ∨ k = 2 := by omega
  · exact pressed0_go (x : Int) y h y x _ _ _ _ _ _ _ (Lib.hid (tal0_f _ _)) (w_36 hh) (w_mul (by omega)) (w_mul (by omega)) (w_add (by omega)) (w_mul (by omega)) (w_mul (by omega)) (w_add (by omega)) w
  · exact pressed1_go (x : Int) y h 0 ((x + y : Nat) : Int) _ _ 0 _ _ _ _ (Lib.hid (tal1_f _ _ _ (w_add (by omega)))) (w_36 hh) (w_mul (by omega)) (by rw [Int.zero_mul]; exact wr9 (by omega) (by omega)) (by rw [Int.add_zero]; exact wr9 (by omega) (by omega)) (w_mul (by omega)) (w_mul (by omega)) (w_add (by omega)) w
  · exact pressed2_go (x : Int) y h ((x + y : Nat) : Int) 0 _ _ _ _ _ 0 _ (Lib.hid (tal2_f _ _ _ (w_add (by omega)))) (w_36 hh) (w_mul (by omega)) (w_mul (by omega)) (w_add (by omega)) (w_mul (by omega)) (by rw [Int.zero_mul]; exact wr9 (by omega) (by omega)) (by rw [Int.add_zero]; exact wr9 (by omega) (by omega)) w
theorem mb_f (g : Fn6) {k h a b n : Nat} (hp : pc36 g = (h : Int)) (hk : k < 3) (hh : h ≤ 36) (hab : a + b ≤ 36) (hn : n ≤ 6) : Hid (∀ w, Calls Try.prog 166 #[.int .i64 (k : Int), .agg #[.int .i64 (a : Int), .int .i64 (b : Int)], .agg #[.int .i64 (rowv (g 0)), .int .i64 (rowv (g 1)), .int .i64 (rowv (g 2)), .int .i64 (rowv (g 3)), .int .i64 (rowv (g 4)), .int .i64 (rowv (g 5))], .int .i64 (n : Int)] w fun e w' => e = .returned (.tuple #[.agg #[.int .i64 (cut9 (tn9 k h (a, b) n).2 (36 ^ n)).1, .int .i64 (cut9 (tn9 k h (a, b) n).2 (36 ^ n)).2], .bool true]) ∧ Below w.heap.size w w') :=
  Lib.hid (fun w => mb_y (rowv (g 0)) (rowv (g 1)) (rowv (g 2)) (rowv (g 3)) (rowv (g 4)) (rowv (g 5)) (k : Int) k h a b n (fd36 g) _ _ _ hn (sh_ai (rowv (g 0)) (rowv (g 1)) (rowv (g 2)) (rowv (g 3)) (rowv (g 4)) (rowv (g 5)) (sh_of g)) (Lib.hid (fieldof_s g)) (Lib.hid (fun w => hp ▸ fsize_s g w)) (Lib.hid (fun m hm w => pressed_f hk hh hab (by omega) w)) (sb9 (lists_f hn)) (Lib.hid (frac_f (pow36_pos n) (by have := (tn9_le (k := k) (n := n) hh hab hn).2.1; omega) (by have := pow36 hn; omega))) w)
theorem cnt_h (g : Fn6) {h : Nat} (hp : pc36 g = (h : Int)) : Hid (∀ w, Calls Try.prog 91 #[.agg #[.int .i64 (rowv (g 0)), .int .i64 (rowv (g 1)), .int .i64 (rowv (g 2)), .int .i64 (rowv (g 3)), .int .i64 (rowv (g 4)), .int .i64 (rowv (g 5))]] w fun e w' => e = .returned (.int .i64 (h : Int)) ∧ Below w.heap.size w w') := Lib.hid (fun w => hp ▸ lcount_s g w)
theorem in_h {n lo hi : Int} {b : Bool} (h : (decide (lo ≤ n) && decide (n ≤ hi)) = b) : Hid (∀ w, Calls Try.prog 107 #[.int .i64 n, .int .i64 lo, .int .i64 hi] w fun e w' => e = .returned (.bool b) ∧ Below w.heap.size w w') := sb9 (fun w => h ▸ l1in_any n lo hi w)
theorem cut_h {a b : Nat} (hb : 0 < b) (h1 : a ≤ 4611686018427387904) (h2 : b ≤ 4611686018427387904) : Hid (∀ w, Calls Try.prog 94 #[.int .i64 (a : Int), .int .i64 (b : Int)] w fun e w' => e = .returned (.agg #[.int .i64 (cut9 a b).1, .int .i64 (cut9 a b).2]) ∧ Below w.heap.size w w') := Lib.hid (lcut_f hb h1 h2)
theorem good_h (f g : Fn6) {n : Nat} (hn : n ≤ 6) : Hid (∀ w, Calls Try.prog 88 #[.agg #[.int .i64 (rowv (f 0)), .int .i64 (rowv (f 1)), .int .i64 (rowv (f 2)), .int .i64 (rowv (f 3)), .int .i64 (rowv (f 4)), .int .i64 (rowv (f 5))], .agg #[.int .i64 (rowv (g 0)), .int .i64 (rowv (g 1)), .int .i64 (rowv (g 2)), .int .i64 (rowv (g 3)), .int .i64 (rowv (g 4)), .int .i64 (rowv (g 5))], .int .i64 (n : Int)] w fun e w' => e = .returned (.bool true) ∧ Below w.heap.size w w') := Lib.hid (fun w => lgood_yes (rowv (f 0)) (rowv (f 1)) (rowv (f 2)) (rowv (f 3)) (rowv (f 4)) (rowv (f 5)) (rowv (g 0)) (rowv (g 1)) (rowv (g 2)) (rowv (g 3)) (rowv (g 4)) (rowv (g 5)) (n : Int) true (sh_as (rowv (f 0)) (rowv (f 1)) (rowv (f 2)) (rowv (f 3)) (rowv (f 4)) (rowv (f 5)) (sh_of f)) (sh_as (rowv (g 0)) (rowv (g 1)) (rowv (g 2)) (rowv (g 3)) (rowv (g 4)) (rowv (g 5)) (sh_of g)) (in_h (by simp; omega)) w)
theorem ch_f (f g : Fn6) {k h x y n : Nat} (hp : pc36 g = (h : Int)) (hk : k < 3) (hh : h ≤ 36) (hx : x < 6) (hy : y < 6) (hn : n ≤ 6) : Hid (∀ w, Calls Try.prog 96 #[.int .i64 (k : Int), .agg #[.int .i64 (rowv (f 0)), .int .i64 (rowv (f 1)), .int .i64 (rowv (f 2)), .int .i64 (rowv (f 3)), .int .i64 (rowv (f 4)), .int .i64 (rowv (f 5))], .agg #[.int .i64 (rowv (g 0)), .int .i64 (rowv (g 1)), .int .i64 (rowv (g 2)), .int .i64 (rowv (g 3)), .int .i64 (rowv (g 4)), .int .i64 (rowv (g 5))], .agg #[.int .i64 (x : Int), .int .i64 (y : Int)], .int .i64 (n : Int)] w fun e w' => e = .returned (.tuple #[.agg #[.int .i64 (cut9 (tn9 k h (if f y x then (0, 1) else (1, 0)) n).2 (36 ^ n)).1, .int .i64 (cut9 (tn9 k h (if f y x then (0, 1) else (1, 0)) n).2 (36 ^ n)).2], .bool true]) ∧ Below w.heap.size w w') := by
  have HB := isb_y f hx hy
  cases hb : f y x
  · rw [hb] at HB
    exact Lib.hid (fun w => cb_w (rowv (f 0)) (rowv (f 1)) (rowv (f 2)) (rowv (f 3)) (rowv (f 4)) (rowv (f 5)) (rowv (g 0)) (rowv (g 1)) (rowv (g 2)) (rowv (g 3)) (rowv (g 4)) (rowv (g 5)) (k : Int) (x : Int) (y : Int) (n : Int) _ _ true HB (mb_f g (a := 1) (b := 0) hp hk hh (by omega) hn) w)
  · rw [hb] at HB
    exact Lib.hid (fun w => cb_b (rowv (f 0)) (rowv (f 1)) (rowv (f 2)) (rowv (f 3)) (rowv (f 4)) (rowv (f 5)) (rowv (g 0)) (rowv (g 1)) (rowv (g 2)) (rowv (g 3)) (rowv (g 4)) (rowv (g 5)) (k : Int) (x : Int) (y : Int) (n : Int) _ _ true HB (mb_f g (a := 0) (b := 1) hp hk hh (by omega) hn) w)
theorem isz_y (f : Fn6) {s : Nat} (hp : pc36 f = (s : Int)) : Hid (∀ w, Calls Try.prog 56 #[.agg #[.int .i64 (rowv (f 0)), .int .i64 (rowv (f 1)), .int .i64 (rowv (f 2)), .int .i64 (rowv (f 3)), .int .i64 (rowv (f 4)), .int .i64 (rowv (f 5))]] w fun e w' => e = .returned (.tuple #[.int .i64 (s : Int), .bool true]) ∧ Below w.heap.size w w') := Lib.hid (fun w => hp ▸ isize_yes (rowv (f 0)) (rowv (f 1)) (rowv (f 2)) (rowv (f 3)) (rowv (f 4)) (rowv (f 5)) ⟨row_in (f 0), row_in (f 1), row_in (f 2), row_in (f 3), row_in (f 4), row_in (f 5)⟩ (sh_ai (rowv (f 0)) (rowv (f 1)) (rowv (f 2)) (rowv (f 3)) (rowv (f 4)) (rowv (f 5)) (sh_of f)) w)
theorem isz_n (a0 a1 a2 a3 a4 a5 : Int) (h : (ok a0 && ok a1 && ok a2 && ok a3 && ok a4 && ok a5) = false) : Hid (∀ w, Calls Try.prog 56 #[.agg #[.int .i64 a0, .int .i64 a1, .int .i64 a2, .int .i64 a3, .int .i64 a4, .int .i64 a5]] w fun e w' => e = .returned (.tuple #[.int .i64 0, .bool false]) ∧ Below w.heap.size w w') := Lib.hid (fun w => isize_no0 a0 a1 a2 a3 a4 a5 (sh_ai a0 a1 a2 a3 a4 a5 h) w)
theorem me_f (f g : Fn6) {k h s n : Nat} (hs : pc36 f = (s : Int)) (hp : pc36 g = (h : Int)) (hk : k < 3) (hh : h ≤ 36) (hs36 : s ≤ 36) (hn : n ≤ 6) : Hid (∀ w, Calls Try.prog 97 #[.int .i64 (k : Int), .agg #[.int .i64 (rowv (f 0)), .int .i64 (rowv (f 1)), .int .i64 (rowv (f 2)), .int .i64 (rowv (f 3)), .int .i64 (rowv (f 4)), .int .i64 (rowv (f 5))], .agg #[.int .i64 (rowv (g 0)), .int .i64 (rowv (g 1)), .int .i64 (rowv (g 2)), .int .i64 (rowv (g 3)), .int .i64 (rowv (g 4)), .int .i64 (rowv (g 5))], .int .i64 (n : Int)] w fun e w' => e = .returned (.tuple #[.agg #[.int .i64 (cut9 (tn9 k h (36 - s, s) n).2 (36 ^ n)).1, .int .i64 (cut9 (tn9 k h (36 - s, s) n).2 (36 ^ n)).2], .bool true]) ∧ Below w.heap.size w w') :=
  Lib.hid (fun w => ms_y (rowv (f 0)) (rowv (f 1)) (rowv (f 2)) (rowv (f 3)) (rowv (f 4)) (rowv (f 5)) (rowv (g 0)) (rowv (g 1)) (rowv (g 2)) (rowv (g 3)) (rowv (g 4)) (rowv (g 5)) (k : Int) (n : Int) (s : Int) ((36 - s : Nat) : Int) _ _ true (w_36 hs36) (i_w (w_36 hs36)) (isz_y f hs) (mb_f g (a := 36 - s) (b := s) hp hk hh (by omega) hn) w)
theorem mb_bad (b0 b1 b2 b3 b4 b5 : Int) (K ta tb n : Int) (h : (ok b0 && ok b1 && ok b2 && ok b3 && ok b4 && ok b5) = false ∨ n < 0 ∨ 6 < n) : Hid (∀ w, Calls Try.prog 166 #[.int .i64 K, .agg #[.int .i64 ta, .int .i64 tb], .agg #[.int .i64 b0, .int .i64 b1, .int .i64 b2, .int .i64 b3, .int .i64 b4, .int .i64 b5], .int .i64 n] w fun e w' => e = .returned (.tuple #[.agg #[.int .i64 0, .int .i64 0], .bool false]) ∧ Below w.heap.size w w') := by
  cases hb : (ok b0 && ok b1 && ok b2 && ok b3 && ok b4 && ok b5)
  · exact Lib.hid (fun w => mb_n0 b0 b1 b2 b3 b4 b5 K ta tb n (sh_ai b0 b1 b2 b3 b4 b5 hb) w)
  · rcases h with h | h | h
    · rw [hb] at h; cases h
    · exact Lib.hid (fun w => mb_n1 b0 b1 b2 b3 b4 b5 K ta tb n h (sh_ai b0 b1 b2 b3 b4 b5 hb) w)
    · exact Lib.hid (fun w => mb_n2 b0 b1 b2 b3 b4 b5 K ta tb n h (by omega) (sh_ai b0 b1 b2 b3 b4 b5 hb) w)
theorem good_bad (a0 a1 a2 a3 a4 a5 : Int) (b0 b1 b2 b3 b4 b5 : Int) (n : Int) (h : (ok a0 && ok a1 && ok a2 && ok a3 && ok a4 && ok a5) = false ∨ (ok b0 && ok b1 && ok b2 && ok b3 && ok b4 && ok b5) = false ∨ n < 0 ∨ 6 < n) : Hid (∀ w, Calls Try.prog 88 #[.agg #[.int .i64 a0, .int .i64 a1, .int .i64 a2, .int .i64 a3, .int .i64 a4, .int .i64 a5], .agg #[.int .i64 b0, .int .i64 b1, .int .i64 b2, .int .i64 b3, .int .i64 b4, .int .i64 b5], .int .i64 n] w fun e w' => e = .returned (.bool false) ∧ Below w.heap.size w w') := by
  cases ha : (ok a0 && ok a1 && ok a2 && ok a3 && ok a4 && ok a5)
  · exact Lib.hid (fun w => lgood_no0 a0 a1 a2 a3 a4 a5 b0 b1 b2 b3 b4 b5 n (sh_as a0 a1 a2 a3 a4 a5 ha) w)
  · cases hb : (ok b0 && ok b1 && ok b2 && ok b3 && ok b4 && ok b5)
    · exact Lib.hid (fun w => lgood_no1 a0 a1 a2 a3 a4 a5 b0 b1 b2 b3 b4 b5 n (sh_as a0 a1 a2 a3 a4 a5 ha) (sh_as b0 b1 b2 b3 b4 b5 hb) w)
    · refine Lib.hid (fun w => lgood_yes a0 a1 a2 a3 a4 a5 b0 b1 b2 b3 b4 b5 n false (sh_as a0 a1 a2 a3 a4 a5 ha) (sh_as b0 b1 b2 b3 b4 b5 hb) (in_h ?_) w)
      rcases h with h | h | h | h
      · rw [ha] at h; cases h
      · rw [hb] at h; cases h
      · simp; omega
      · simp; omega
theorem cb_bad (a0 a1 a2 a3 a4 a5 : Int) (b0 b1 b2 b3 b4 b5 : Int) (K x y n : Int) (hx : (Lit.int .i64 x).wf = true) (hy : (Lit.int .i64 y).wf = true) (h : (ok a0 && ok a1 && ok a2 && ok a3 && ok a4 && ok a5) = false ∨ okc x y = false ∨ (ok b0 && ok b1 && ok b2 && ok b3 && ok b4 && ok b5) = false ∨ n < 0 ∨ 6 < n) : Hid (∀ w, Calls Try.prog 96 #[.int .i64 K, .agg #[.int .i64 a0, .int .i64 a1, .int .i64 a2, .int .i64 a3, .int .i64 a4, .int .i64 a5], .agg #[.int .i64 b0, .int .i64 b1, .int .i64 b2, .int .i64 b3, .int .i64 b4, .int .i64 b5], .agg #[.int .i64 x, .int .i64 y], .int .i64 n] w fun e w' => e = .returned (.tuple #[.agg #[.int .i64 0, .int .i64 0], .bool false]) ∧ Below w.heap.size w w') := by
  cases ha : (ok a0 && ok a1 && ok a2 && ok a3 && ok a4 && ok a5)
  · exact Lib.hid (fun w => cb_n a0 a1 a2 a3 a4 a5 b0 b1 b2 b3 b4 b5 K x y n (Lib.hid (fun w => iblack_no0 a0 a1 a2 a3 a4 a5 x y (sh_ai a0 a1 a2 a3 a4 a5 ha) w)) w)
  · cases hc : okc x y
    · exact Lib.hid (fun w => cb_n a0 a1 a2 a3 a4 a5 b0 b1 b2 b3 b4 b5 K x y n (Lib.hid (fun w => iblack_no1 a0 a1 a2 a3 a4 a5 x y (sh_ai a0 a1 a2 a3 a4 a5 ha) (ce_i x y hx hy hc) w)) w)
    · have hM : (ok b0 && ok b1 && ok b2 && ok b3 && ok b4 && ok b5) = false ∨ n < 0 ∨ 6 < n := by
        rcases h with h | h | h
        · rw [ha] at h; cases h
        · rw [hc] at h; cases h
        · exact h
      obtain ⟨f, rfl, rfl, rfl, rfl, rfl, rfl⟩ := sheet_bits a0 a1 a2 a3 a4 a5 ha
      obtain ⟨x', rfl⟩ : ∃ z : Nat, x = (z : Int) := ⟨x.toNat, by have := okc_in hc; omega⟩
      obtain ⟨y', rfl⟩ : ∃ z : Nat, y = (z : Int) := ⟨y.toNat, by have := okc_in hc; omega⟩
      have HB := isb_y f (show x' < 6 by have := okc_in hc; omega) (show y' < 6 by have := okc_in hc; omega)
      cases hb : f y' x'
      · rw [hb] at HB
        exact Lib.hid (fun w => cb_w (rowv (f 0)) (rowv (f 1)) (rowv (f 2)) (rowv (f 3)) (rowv (f 4)) (rowv (f 5)) b0 b1 b2 b3 b4 b5 K x' y' n 0 0 false HB (mb_bad b0 b1 b2 b3 b4 b5 K 1 0 n hM) w)
      · rw [hb] at HB
        exact Lib.hid (fun w => cb_b (rowv (f 0)) (rowv (f 1)) (rowv (f 2)) (rowv (f 3)) (rowv (f 4)) (rowv (f 5)) b0 b1 b2 b3 b4 b5 K x' y' n 0 0 false HB (mb_bad b0 b1 b2 b3 b4 b5 K 0 1 n hM) w)
theorem ms_bad (a0 a1 a2 a3 a4 a5 : Int) (b0 b1 b2 b3 b4 b5 : Int) (K n : Int) (h : (ok a0 && ok a1 && ok a2 && ok a3 && ok a4 && ok a5) = false ∨ (ok b0 && ok b1 && ok b2 && ok b3 && ok b4 && ok b5) = false ∨ n < 0 ∨ 6 < n) : Hid (∀ w, Calls Try.prog 97 #[.int .i64 K, .agg #[.int .i64 a0, .int .i64 a1, .int .i64 a2, .int .i64 a3, .int .i64 a4, .int .i64 a5], .agg #[.int .i64 b0, .int .i64 b1, .int .i64 b2, .int .i64 b3, .int .i64 b4, .int .i64 b5], .int .i64 n] w fun e w' => e = .returned (.tuple #[.agg #[.int .i64 0, .int .i64 0], .bool false]) ∧ Below w.heap.size w w') := by
  cases ha : (ok a0 && ok a1 && ok a2 && ok a3 && ok a4 && ok a5)
  · exact Lib.hid (fun w => ms_n a0 a1 a2 a3 a4 a5 b0 b1 b2 b3 b4 b5 K n (isz_n a0 a1 a2 a3 a4 a5 ha) w)
  · have hM : (ok b0 && ok b1 && ok b2 && ok b3 && ok b4 && ok b5) = false ∨ n < 0 ∨ 6 < n := by
      rcases h with h | h
      · rw [ha] at h; cases h
      · exact h
    obtain ⟨f, rfl, rfl, rfl, rfl, rfl, rfl⟩ := sheet_bits a0 a1 a2 a3 a4 a5 ha
    obtain ⟨s, hs, hs36⟩ := pc_nat f
    exact Lib.hid (fun w => ms_y (rowv (f 0)) (rowv (f 1)) (rowv (f 2)) (rowv (f 3)) (rowv (f 4)) (rowv (f 5)) b0 b1 b2 b3 b4 b5 K n (s : Int) ((36 - s : Nat) : Int) 0 0 false (w_36 hs36) (i_w (w_36 hs36)) (isz_y f hs) (mb_bad b0 b1 b2 b3 b4 b5 K _ _ n hM) w)
theorem ct_pair (a0 a1 a2 a3 a4 a5 : Int) (b0 b1 b2 b3 b4 b5 : Int) (x y : Int) (n : Int)(hx : (Lit.int .i64 x).wf = true) (hy : (Lit.int .i64 y).wf = true) : ∃ (r0 r1 : Int) (t : Bool), (∀ w, Calls Try.prog 23 #[.agg #[.int .i64 a0, .int .i64 a1, .int .i64 a2, .int .i64 a3, .int .i64 a4, .int .i64 a5], .agg #[.int .i64 b0, .int .i64 b1, .int .i64 b2, .int .i64 b3, .int .i64 b4, .int .i64 b5], .agg #[.int .i64 x, .int .i64 y], .int .i64 n] w fun e w' => e = .returned (.tuple #[.agg #[.int .i64 r0, .int .i64 r1], .bool t]) ∧ Below w.heap.size w w') ∧ (∀ w, Calls Try.prog 26 #[.agg #[.int .i64 a0, .int .i64 a1, .int .i64 a2, .int .i64 a3, .int .i64 a4, .int .i64 a5], .agg #[.int .i64 b0, .int .i64 b1, .int .i64 b2, .int .i64 b3, .int .i64 b4, .int .i64 b5], .agg #[.int .i64 x, .int .i64 y], .int .i64 n] w fun e w' => e = .returned (.tuple #[.agg #[.int .i64 r0, .int .i64 r1], .bool t]) ∧ Below w.heap.size w w') := by
  by_cases hg : (ok a0 && ok a1 && ok a2 && ok a3 && ok a4 && ok a5) = false ∨ (ok b0 && ok b1 && ok b2 && ok b3 && ok b4 && ok b5) = false ∨ n < 0 ∨ 6 < n
  · exact ⟨0, 0, false, fun w => sct_n0 a0 a1 a2 a3 a4 a5 b0 b1 b2 b3 b4 b5 x y n (good_bad a0 a1 a2 a3 a4 a5 b0 b1 b2 b3 b4 b5 n hg) w, fun w => ict_a a0 a1 a2 a3 a4 a5 b0 b1 b2 b3 b4 b5 x y n 0 0 false (cb_bad a0 a1 a2 a3 a4 a5 b0 b1 b2 b3 b4 b5 _ x y n hx hy (by rcases hg with h | h; exact .inl h; exact .inr (.inr h))) w⟩
  · have ha : (ok a0 && ok a1 && ok a2 && ok a3 && ok a4 && ok a5) = true := by cases h : (ok a0 && ok a1 && ok a2 && ok a3 && ok a4 && ok a5) <;> simp_all
    have hb : (ok b0 && ok b1 && ok b2 && ok b3 && ok b4 && ok b5) = true := by cases h : (ok b0 && ok b1 && ok b2 && ok b3 && ok b4 && ok b5) <;> simp_all
    have hn0 : 0 ≤ n ∧ n ≤ 6 := by
      constructor
      · exact Int.not_lt.mp fun h => hg (.inr (.inr (.inl h)))
      · exact Int.not_lt.mp fun h => hg (.inr (.inr (.inr h)))
    clear hg
    obtain ⟨f, rfl, rfl, rfl, rfl, rfl, rfl⟩ := sheet_bits a0 a1 a2 a3 a4 a5 ha
    obtain ⟨g, rfl, rfl, rfl, rfl, rfl, rfl⟩ := sheet_bits b0 b1 b2 b3 b4 b5 hb
    obtain ⟨m, rfl⟩ : ∃ z : Nat, n = (z : Int) := ⟨n.toNat, by omega⟩
    have hm : m ≤ 6 := by omega
    cases hc : okc x y
    · exact ⟨0, 0, false, fun w => sct_n1 (rowv (f 0)) (rowv (f 1)) (rowv (f 2)) (rowv (f 3)) (rowv (f 4)) (rowv (f 5)) (rowv (g 0)) (rowv (g 1)) (rowv (g 2)) (rowv (g 3)) (rowv (g 4)) (rowv (g 5)) x y m (good_h f g hm) (ce_s x y hc) w, fun w => ict_a (rowv (f 0)) (rowv (f 1)) (rowv (f 2)) (rowv (f 3)) (rowv (f 4)) (rowv (f 5)) (rowv (g 0)) (rowv (g 1)) (rowv (g 2)) (rowv (g 3)) (rowv (g 4)) (rowv (g 5)) x y m 0 0 false (cb_bad (rowv (f 0)) (rowv (f 1)) (rowv (f 2)) (rowv (f 3)) (rowv (f 4)) (rowv (f 5)) (rowv (g 0)) (rowv (g 1)) (rowv (g 2)) (rowv (g 3)) (rowv (g 4)) (rowv (g 5)) _ x y m hx hy (.inr (.inl hc))) w⟩
    · obtain ⟨x', rfl⟩ : ∃ z : Nat, x = (z : Int) := ⟨x.toNat, by have := okc_in hc; omega⟩
      obtain ⟨y', rfl⟩ : ∃ z : Nat, y = (z : Int) := ⟨y.toNat, by have := okc_in hc; omega⟩
      have hx6 : x' < 6 := by have := okc_in hc; omega
      have hy6 : y' < 6 := by have := okc_in hc; omega
      obtain ⟨h, hp, hh⟩ := pc_nat g
      have HM := ch_f f g (k := 0) hp (by omega) hh hx6 hy6 hm
      have HT := get_y f hx6 hy6
      have hp6 := pow36 hm
      have hp0 := pow36_pos m
      refine ⟨_, _, true, fun w => ?_, fun w => ict_a (rowv (f 0)) (rowv (f 1)) (rowv (f 2)) (rowv (f 3)) (rowv (f 4)) (rowv (f 5)) (rowv (g 0)) (rowv (g 1)) (rowv (g 2)) (rowv (g 3)) (rowv (g 4)) (rowv (g 5)) x' y' m _ _ true HM w⟩
      cases hfb : f y' x'
      · rw [hfb] at HT
        simp only [Bool.false_eq_true, if_false]
        exact sct_w (rowv (f 0)) (rowv (f 1)) (rowv (f 2)) (rowv (f 3)) (rowv (f 4)) (rowv (f 5)) (rowv (g 0)) (rowv (g 1)) (rowv (g 2)) (rowv (g 3)) (rowv (g 4)) (rowv (g 5)) x' y' m h _ _ _ _ (good_h f g hm) (ce_s _ _ hc) (cnt_h g hp) (sb9 (lodd_f hh hm)) (sb9 (lpow_f (x := 36) (by omega) hm)) HT (cut_h hp0 (by have := odd_le (n := m) hh; omega) (by omega)) w
      · rw [hfb] at HT
        simp only [if_true]
        rw [num_tb hh]
        have ho := odd_le (n := m) hh
        exact sct_b (rowv (f 0)) (rowv (f 1)) (rowv (f 2)) (rowv (f 3)) (rowv (f 4)) (rowv (f 5)) (rowv (g 0)) (rowv (g 1)) (rowv (g 2)) (rowv (g 3)) (rowv (g 4)) (rowv (g 5)) x' y' m h _ _ _ _ _ (w_sub ho (by omega)) (i_w (w_sub ho (by omega))) (good_h f g hm) (ce_s _ _ hc) (cnt_h g hp) (sb9 (lodd_f hh hm)) (sb9 (lpow_f (x := 36) (by omega) hm)) HT (cut_h hp0 (by omega) (by omega)) w
theorem ci_pair (a0 a1 a2 a3 a4 a5 : Int) (b0 b1 b2 b3 b4 b5 : Int) (x y : Int) (n : Int)(hx : (Lit.int .i64 x).wf = true) (hy : (Lit.int .i64 y).wf = true) : ∃ (r0 r1 : Int) (t : Bool), (∀ w, Calls Try.prog 30 #[.agg #[.int .i64 a0, .int .i64 a1, .int .i64 a2, .int .i64 a3, .int .i64 a4, .int .i64 a5], .agg #[.int .i64 b0, .int .i64 b1, .int .i64 b2, .int .i64 b3, .int .i64 b4, .int .i64 b5], .agg #[.int .i64 x, .int .i64 y], .int .i64 n] w fun e w' => e = .returned (.tuple #[.agg #[.int .i64 r0, .int .i64 r1], .bool t]) ∧ Below w.heap.size w w') ∧ (∀ w, Calls Try.prog 31 #[.agg #[.int .i64 a0, .int .i64 a1, .int .i64 a2, .int .i64 a3, .int .i64 a4, .int .i64 a5], .agg #[.int .i64 b0, .int .i64 b1, .int .i64 b2, .int .i64 b3, .int .i64 b4, .int .i64 b5], .agg #[.int .i64 x, .int .i64 y], .int .i64 n] w fun e w' => e = .returned (.tuple #[.agg #[.int .i64 r0, .int .i64 r1], .bool t]) ∧ Below w.heap.size w w') := by
  by_cases hg : (ok a0 && ok a1 && ok a2 && ok a3 && ok a4 && ok a5) = false ∨ (ok b0 && ok b1 && ok b2 && ok b3 && ok b4 && ok b5) = false ∨ n < 0 ∨ 6 < n
  · exact ⟨0, 0, false, fun w => sci_n0 a0 a1 a2 a3 a4 a5 b0 b1 b2 b3 b4 b5 x y n (good_bad a0 a1 a2 a3 a4 a5 b0 b1 b2 b3 b4 b5 n hg) w, fun w => ici_a a0 a1 a2 a3 a4 a5 b0 b1 b2 b3 b4 b5 x y n 0 0 false (cb_bad a0 a1 a2 a3 a4 a5 b0 b1 b2 b3 b4 b5 _ x y n hx hy (by rcases hg with h | h; exact .inl h; exact .inr (.inr h))) w⟩
  · have ha : (ok a0 && ok a1 && ok a2 && ok a3 && ok a4 && ok a5) = true := by cases h : (ok a0 && ok a1 && ok a2 && ok a3 && ok a4 && ok a5) <;> simp_all
    have hb : (ok b0 && ok b1 && ok b2 && ok b3 && ok b4 && ok b5) = true := by cases h : (ok b0 && ok b1 && ok b2 && ok b3 && ok b4 && ok b5) <;> simp_all
    have hn0 : 0 ≤ n ∧ n ≤ 6 := by
      constructor
      · exact Int.not_lt.mp fun h => hg (.inr (.inr (.inl h)))
      · exact Int.not_lt.mp fun h => hg (.inr (.inr (.inr h)))
    clear hg
    obtain ⟨f, rfl, rfl, rfl, rfl, rfl, rfl⟩ := sheet_bits a0 a1 a2 a3 a4 a5 ha
    obtain ⟨g, rfl, rfl, rfl, rfl, rfl, rfl⟩ := sheet_bits b0 b1 b2 b3 b4 b5 hb
    obtain ⟨m, rfl⟩ : ∃ z : Nat, n = (z : Int) := ⟨n.toNat, by omega⟩
    have hm : m ≤ 6 := by omega
    cases hc : okc x y
    · exact ⟨0, 0, false, fun w => sci_n1 (rowv (f 0)) (rowv (f 1)) (rowv (f 2)) (rowv (f 3)) (rowv (f 4)) (rowv (f 5)) (rowv (g 0)) (rowv (g 1)) (rowv (g 2)) (rowv (g 3)) (rowv (g 4)) (rowv (g 5)) x y m (good_h f g hm) (ce_s x y hc) w, fun w => ici_a (rowv (f 0)) (rowv (f 1)) (rowv (f 2)) (rowv (f 3)) (rowv (f 4)) (rowv (f 5)) (rowv (g 0)) (rowv (g 1)) (rowv (g 2)) (rowv (g 3)) (rowv (g 4)) (rowv (g 5)) x y m 0 0 false (cb_bad (rowv (f 0)) (rowv (f 1)) (rowv (f 2)) (rowv (f 3)) (rowv (f 4)) (rowv (f 5)) (rowv (g 0)) (rowv (g 1)) (rowv (g 2)) (rowv (g 3)) (rowv (g 4)) (rowv (g 5)) _ x y m hx hy (.inr (.inl hc))) w⟩
    · obtain ⟨x', rfl⟩ : ∃ z : Nat, x = (z : Int) := ⟨x.toNat, by have := okc_in hc; omega⟩
      obtain ⟨y', rfl⟩ : ∃ z : Nat, y = (z : Int) := ⟨y.toNat, by have := okc_in hc; omega⟩
      have hx6 : x' < 6 := by have := okc_in hc; omega
      have hy6 : y' < 6 := by have := okc_in hc; omega
      obtain ⟨h, hp, hh⟩ := pc_nat g
      have HM := ch_f f g (k := 1) hp (by omega) hh hx6 hy6 hm
      have HT := get_y f hx6 hy6
      have hp6 := pow36 hm
      have hp0 := pow36_pos m
      refine ⟨_, _, true, fun w => ?_, fun w => ici_a (rowv (f 0)) (rowv (f 1)) (rowv (f 2)) (rowv (f 3)) (rowv (f 4)) (rowv (f 5)) (rowv (g 0)) (rowv (g 1)) (rowv (g 2)) (rowv (g 3)) (rowv (g 4)) (rowv (g 5)) x' y' m _ _ true HM w⟩
      cases hfb : f y' x'
      · rw [hfb] at HT
        simp only [Bool.false_eq_true, if_false]
        rw [num_iw hh]
        have ho : (36 - h) ^ m ≤ 36 ^ m := Nat.pow_le_pow_left (by omega) m
        exact sci_w (rowv (f 0)) (rowv (f 1)) (rowv (f 2)) (rowv (f 3)) (rowv (f 4)) (rowv (f 5)) (rowv (g 0)) (rowv (g 1)) (rowv (g 2)) (rowv (g 3)) (rowv (g 4)) (rowv (g 5)) x' y' m h _ _ _ _ _ _ (w_36 hh) (i_w (w_36 hh)) (w_sub ho (by omega)) (i_w (w_sub ho (by omega))) (good_h f g hm) (ce_s _ _ hc) HT (sb9 (lpow_f (x := 36) (by omega) hm)) (cnt_h g hp) (sb9 (lpow_f (by omega) hm)) (cut_h hp0 (by omega) (by omega)) w
      · rw [hfb] at HT
        simp only [if_true]
        rw [num_ib hh, cut_one hp0]
        exact sci_b (rowv (f 0)) (rowv (f 1)) (rowv (f 2)) (rowv (f 3)) (rowv (f 4)) (rowv (f 5)) (rowv (g 0)) (rowv (g 1)) (rowv (g 2)) (rowv (g 3)) (rowv (g 4)) (rowv (g 5)) x' y' m (good_h f g hm) (ce_s _ _ hc) HT w
theorem mt_pair (a0 a1 a2 a3 a4 a5 : Int) (b0 b1 b2 b3 b4 b5 : Int) (n : Int) : ∃ (r0 r1 : Int) (t : Bool), (∀ w, Calls Try.prog 28 #[.agg #[.int .i64 a0, .int .i64 a1, .int .i64 a2, .int .i64 a3, .int .i64 a4, .int .i64 a5], .agg #[.int .i64 b0, .int .i64 b1, .int .i64 b2, .int .i64 b3, .int .i64 b4, .int .i64 b5], .int .i64 n] w fun e w' => e = .returned (.tuple #[.agg #[.int .i64 r0, .int .i64 r1], .bool t]) ∧ Below w.heap.size w w') ∧ (∀ w, Calls Try.prog 29 #[.agg #[.int .i64 a0, .int .i64 a1, .int .i64 a2, .int .i64 a3, .int .i64 a4, .int .i64 a5], .agg #[.int .i64 b0, .int .i64 b1, .int .i64 b2, .int .i64 b3, .int .i64 b4, .int .i64 b5], .int .i64 n] w fun e w' => e = .returned (.tuple #[.agg #[.int .i64 r0, .int .i64 r1], .bool t]) ∧ Below w.heap.size w w') := by
  by_cases hg : (ok a0 && ok a1 && ok a2 && ok a3 && ok a4 && ok a5) = false ∨ (ok b0 && ok b1 && ok b2 && ok b3 && ok b4 && ok b5) = false ∨ n < 0 ∨ 6 < n
  · exact ⟨0, 0, false, fun w => smt_n a0 a1 a2 a3 a4 a5 b0 b1 b2 b3 b4 b5 n (good_bad a0 a1 a2 a3 a4 a5 b0 b1 b2 b3 b4 b5 n hg) w, fun w => imt_a a0 a1 a2 a3 a4 a5 b0 b1 b2 b3 b4 b5 n 0 0 false (ms_bad a0 a1 a2 a3 a4 a5 b0 b1 b2 b3 b4 b5 _ n hg) w⟩
  · have ha : (ok a0 && ok a1 && ok a2 && ok a3 && ok a4 && ok a5) = true := by cases h : (ok a0 && ok a1 && ok a2 && ok a3 && ok a4 && ok a5) <;> simp_all
    have hb : (ok b0 && ok b1 && ok b2 && ok b3 && ok b4 && ok b5) = true := by cases h : (ok b0 && ok b1 && ok b2 && ok b3 && ok b4 && ok b5) <;> simp_all
    have hn0 : 0 ≤ n ∧ n ≤ 6 := by
      constructor
      · exact Int.not_lt.mp fun h => hg (.inr (.inr (.inl h)))
      · exact Int.not_lt.mp fun h => hg (.inr (.inr (.inr h)))
    clear hg
    obtain ⟨f, rfl, rfl, rfl, rfl, rfl, rfl⟩ := sheet_bits a0 a1 a2 a3 a4 a5 ha
    obtain ⟨g, rfl, rfl, rfl, rfl, rfl, rfl⟩ := sheet_bits b0 b1 b2 b3 b4 b5 hb
    obtain ⟨m, rfl⟩ : ∃ z : Nat, n = (z : Int) := ⟨n.toNat, by omega⟩
    have hm : m ≤ 6 := by omega
    obtain ⟨h, hp, hh⟩ := pc_nat g
    obtain ⟨s, hs, hs36⟩ := pc_nat f
    have HM := me_f f g (k := 0) hs hp (by omega) hh hs36 hm
    have hp6 := pow36 hm
    have hp0 := pow36_pos m
    refine ⟨_, _, true, fun w => ?_, fun w => imt_a (rowv (f 0)) (rowv (f 1)) (rowv (f 2)) (rowv (f 3)) (rowv (f 4)) (rowv (f 5)) (rowv (g 0)) (rowv (g 1)) (rowv (g 2)) (rowv (g 3)) (rowv (g 4)) (rowv (g 5)) m _ _ true HM w⟩
    rw [num_tm hh]
    have ho := odd_le (n := m) hh
    have p1 : s * (36 ^ m - (tn9 0 h (1, 0) m).2) ≤ 36 * 2176782336 := Nat.mul_le_mul hs36 (by omega)
    have p2 : (36 - s) * (tn9 0 h (1, 0) m).2 ≤ 36 * 2176782336 := Nat.mul_le_mul (by omega) (by omega)
    exact smt_y (rowv (f 0)) (rowv (f 1)) (rowv (f 2)) (rowv (f 3)) (rowv (f 4)) (rowv (f 5)) (rowv (g 0)) (rowv (g 1)) (rowv (g 2)) (rowv (g 3)) (rowv (g 4)) (rowv (g 5)) m h s _ _ _ _ _ _ _ _ _ (w_sub ho (by omega)) (i_w (w_sub ho (by omega))) (w_mul (by omega)) (i_w (w_mul (by omega))) (w_36 hs36) (i_w (w_36 hs36)) (w_mul (by omega)) (i_w (w_mul (by omega))) (w_add (by omega)) (i_w (w_add (by omega))) (good_h f g hm) (cnt_h f hs) (cnt_h g hp) (sb9 (lodd_f hh hm)) (sb9 (lpow_f (x := 36) (by omega) hm)) (cut_h hp0 (by omega) (by omega)) w
theorem mi_pair (a0 a1 a2 a3 a4 a5 : Int) (b0 b1 b2 b3 b4 b5 : Int) (n : Int) : ∃ (r0 r1 : Int) (t : Bool), (∀ w, Calls Try.prog 32 #[.agg #[.int .i64 a0, .int .i64 a1, .int .i64 a2, .int .i64 a3, .int .i64 a4, .int .i64 a5], .agg #[.int .i64 b0, .int .i64 b1, .int .i64 b2, .int .i64 b3, .int .i64 b4, .int .i64 b5], .int .i64 n] w fun e w' => e = .returned (.tuple #[.agg #[.int .i64 r0, .int .i64 r1], .bool t]) ∧ Below w.heap.size w w') ∧ (∀ w, Calls Try.prog 33 #[.agg #[.int .i64 a0, .int .i64 a1, .int .i64 a2, .int .i64 a3, .int .i64 a4, .int .i64 a5], .agg #[.int .i64 b0, .int .i64 b1, .int .i64 b2, .int .i64 b3, .int .i64 b4, .int .i64 b5], .int .i64 n] w fun e w' => e = .returned (.tuple #[.agg #[.int .i64 r0, .int .i64 r1], .bool t]) ∧ Below w.heap.size w w') := by
  by_cases hg : (ok a0 && ok a1 && ok a2 && ok a3 && ok a4 && ok a5) = false ∨ (ok b0 && ok b1 && ok b2 && ok b3 && ok b4 && ok b5) = false ∨ n < 0 ∨ 6 < n
  · exact ⟨0, 0, false, fun w => smi_n a0 a1 a2 a3 a4 a5 b0 b1 b2 b3 b4 b5 n (good_bad a0 a1 a2 a3 a4 a5 b0 b1 b2 b3 b4 b5 n hg) w, fun w => imi_a a0 a1 a2 a3 a4 a5 b0 b1 b2 b3 b4 b5 n 0 0 false (ms_bad a0 a1 a2 a3 a4 a5 b0 b1 b2 b3 b4 b5 _ n hg) w⟩
  · have ha : (ok a0 && ok a1 && ok a2 && ok a3 && ok a4 && ok a5) = true := by cases h : (ok a0 && ok a1 && ok a2 && ok a3 && ok a4 && ok a5) <;> simp_all
    have hb : (ok b0 && ok b1 && ok b2 && ok b3 && ok b4 && ok b5) = true := by cases h : (ok b0 && ok b1 && ok b2 && ok b3 && ok b4 && ok b5) <;> simp_all
    have hn0 : 0 ≤ n ∧ n ≤ 6 := by
      constructor
      · exact Int.not_lt.mp fun h => hg (.inr (.inr (.inl h)))
      · exact Int.not_lt.mp fun h => hg (.inr (.inr (.inr h)))
    clear hg
    obtain ⟨f, rfl, rfl, rfl, rfl, rfl, rfl⟩ := sheet_bits a0 a1 a2 a3 a4 a5 ha
    obtain ⟨g, rfl, rfl, rfl, rfl, rfl, rfl⟩ := sheet_bits b0 b1 b2 b3 b4 b5 hb
    obtain ⟨m, rfl⟩ : ∃ z : Nat, n = (z : Int) := ⟨n.toNat, by omega⟩
    have hm : m ≤ 6 := by omega
    obtain ⟨h, hp, hh⟩ := pc_nat g
    obtain ⟨s, hs, hs36⟩ := pc_nat f
    have HM := me_f f g (k := 1) hs hp (by omega) hh hs36 hm
    have hp6 := pow36 hm
    have hp0 := pow36_pos m
    refine ⟨_, _, true, fun w => ?_, fun w => imi_a (rowv (f 0)) (rowv (f 1)) (rowv (f 2)) (rowv (f 3)) (rowv (f 4)) (rowv (f 5)) (rowv (g 0)) (rowv (g 1)) (rowv (g 2)) (rowv (g 3)) (rowv (g 4)) (rowv (g 5)) m _ _ true HM w⟩
    rw [num_im hh hs36]
    have ho : (36 - h) ^ m ≤ 36 ^ m := Nat.pow_le_pow_left (by omega) m
    have p1 : 36 * 36 ^ m ≤ 36 * 2176782336 := Nat.mul_le_mul_left 36 hp6
    have p2 : (36 - s) * (36 - h) ^ m ≤ 36 * 36 ^ m := Nat.mul_le_mul (by omega) ho
    exact smi_y (rowv (f 0)) (rowv (f 1)) (rowv (f 2)) (rowv (f 3)) (rowv (f 4)) (rowv (f 5)) (rowv (g 0)) (rowv (g 1)) (rowv (g 2)) (rowv (g 3)) (rowv (g 4)) (rowv (g 5)) m h _ _ s _ _ _ _ _ _ _ (w_36 hh) (i_w (w_36 hh)) (w_mul (a := 36) (by omega)) (i_w (w_mul (a := 36) (by omega))) (w_36 hs36) (i_w (w_36 hs36)) (w_mul (by omega)) (i_w (w_mul (by omega))) (w_sub p2 (by omega)) (i_w (w_sub p2 (by omega))) (good_h f g hm) (cnt_h f hs) (cnt_h g hp) (sb9 (lpow_f (x := 36) (by omega) hm)) (sb9 (lpow_f (by omega) hm)) (cut_h hp0 (by omega) (by omega)) w
theorem mw_pair (a0 a1 a2 a3 a4 a5 : Int) (b0 b1 b2 b3 b4 b5 : Int) (n : Int) : ∃ (r0 r1 : Int) (t : Bool), (∀ w, Calls Try.prog 34 #[.agg #[.int .i64 a0, .int .i64 a1, .int .i64 a2, .int .i64 a3, .int .i64 a4, .int .i64 a5], .agg #[.int .i64 b0, .int .i64 b1, .int .i64 b2, .int .i64 b3, .int .i64 b4, .int .i64 b5], .int .i64 n] w fun e w' => e = .returned (.tuple #[.agg #[.int .i64 r0, .int .i64 r1], .bool t]) ∧ Below w.heap.size w w') ∧ (∀ w, Calls Try.prog 35 #[.agg #[.int .i64 a0, .int .i64 a1, .int .i64 a2, .int .i64 a3, .int .i64 a4, .int .i64 a5], .agg #[.int .i64 b0, .int .i64 b1, .int .i64 b2, .int .i64 b3, .int .i64 b4, .int .i64 b5], .int .i64 n] w fun e w' => e = .returned (.tuple #[.agg #[.int .i64 r0, .int .i64 r1], .bool t]) ∧ Below w.heap.size w w') := by
  by_cases hg : (ok a0 && ok a1 && ok a2 && ok a3 && ok a4 && ok a5) = false ∨ (ok b0 && ok b1 && ok b2 && ok b3 && ok b4 && ok b5) = false ∨ n < 0 ∨ 6 < n
  · exact ⟨0, 0, false, fun w => smw_n a0 a1 a2 a3 a4 a5 b0 b1 b2 b3 b4 b5 n (good_bad a0 a1 a2 a3 a4 a5 b0 b1 b2 b3 b4 b5 n hg) w, fun w => imw_a a0 a1 a2 a3 a4 a5 b0 b1 b2 b3 b4 b5 n 0 0 false (ms_bad a0 a1 a2 a3 a4 a5 b0 b1 b2 b3 b4 b5 _ n hg) w⟩
  · have ha : (ok a0 && ok a1 && ok a2 && ok a3 && ok a4 && ok a5) = true := by cases h : (ok a0 && ok a1 && ok a2 && ok a3 && ok a4 && ok a5) <;> simp_all
    have hb : (ok b0 && ok b1 && ok b2 && ok b3 && ok b4 && ok b5) = true := by cases h : (ok b0 && ok b1 && ok b2 && ok b3 && ok b4 && ok b5) <;> simp_all
    have hn0 : 0 ≤ n ∧ n ≤ 6 := by
      constructor
      · exact Int.not_lt.mp fun h => hg (.inr (.inr (.inl h)))
      · exact Int.not_lt.mp fun h => hg (.inr (.inr (.inr h)))
    clear hg
    obtain ⟨f, rfl, rfl, rfl, rfl, rfl, rfl⟩ := sheet_bits a0 a1 a2 a3 a4 a5 ha
    obtain ⟨g, rfl, rfl, rfl, rfl, rfl, rfl⟩ := sheet_bits b0 b1 b2 b3 b4 b5 hb
    obtain ⟨m, rfl⟩ : ∃ z : Nat, n = (z : Int) := ⟨n.toNat, by omega⟩
    have hm : m ≤ 6 := by omega
    obtain ⟨h, hp, hh⟩ := pc_nat g
    obtain ⟨s, hs, hs36⟩ := pc_nat f
    have HM := me_f f g (k := 2) hs hp (by omega) hh hs36 hm
    have hp6 := pow36 hm
    have hp0 := pow36_pos m
    refine ⟨_, _, true, fun w => ?_, fun w => imw_a (rowv (f 0)) (rowv (f 1)) (rowv (f 2)) (rowv (f 3)) (rowv (f 4)) (rowv (f 5)) (rowv (g 0)) (rowv (g 1)) (rowv (g 2)) (rowv (g 3)) (rowv (g 4)) (rowv (g 5)) m _ _ true HM w⟩
    rw [tn9_wipe]
    have ho : (36 - h) ^ m ≤ 36 ^ m := Nat.pow_le_pow_left (by omega) m
    have p2 : s * (36 - h) ^ m ≤ 36 * 2176782336 := Nat.mul_le_mul hs36 (by omega)
    exact smw_y (rowv (f 0)) (rowv (f 1)) (rowv (f 2)) (rowv (f 3)) (rowv (f 4)) (rowv (f 5)) (rowv (g 0)) (rowv (g 1)) (rowv (g 2)) (rowv (g 3)) (rowv (g 4)) (rowv (g 5)) m h _ _ s _ _ _ _ (w_36 hh) (i_w (w_36 hh)) (w_mul (by omega)) (i_w (w_mul (by omega))) (good_h f g hm) (cnt_h f hs) (cnt_h g hp) (sb9 (lpow_f (x := 36) (by omega) hm)) (sb9 (lpow_f (by omega) hm)) (cut_h hp0 (by omega) (by omega)) w
theorem mc_pair (a0 a1 a2 a3 a4 a5 : Int) (b0 b1 b2 b3 b4 b5 : Int) : ∃ (r0 r1 : Int) (t : Bool), (∀ w, Calls Try.prog 40 #[.agg #[.int .i64 a0, .int .i64 a1, .int .i64 a2, .int .i64 a3, .int .i64 a4, .int .i64 a5], .agg #[.int .i64 b0, .int .i64 b1, .int .i64 b2, .int .i64 b3, .int .i64 b4, .int .i64 b5]] w fun e w' => e = .returned (.tuple #[.agg #[.int .i64 r0, .int .i64 r1], .bool t]) ∧ Below w.heap.size w w') ∧ (∀ w, Calls Try.prog 41 #[.agg #[.int .i64 a0, .int .i64 a1, .int .i64 a2, .int .i64 a3, .int .i64 a4, .int .i64 a5], .agg #[.int .i64 b0, .int .i64 b1, .int .i64 b2, .int .i64 b3, .int .i64 b4, .int .i64 b5]] w fun e w' => e = .returned (.tuple #[.agg #[.int .i64 r0, .int .i64 r1], .bool t]) ∧ Below w.heap.size w w') := by
  cases ha : (ok a0 && ok a1 && ok a2 && ok a3 && ok a4 && ok a5)
  · exact ⟨0, 0, false, fun w => smc_n0 a0 a1 a2 a3 a4 a5 b0 b1 b2 b3 b4 b5 (sh_as a0 a1 a2 a3 a4 a5 ha) w, fun w => imc_n0 a0 a1 a2 a3 a4 a5 b0 b1 b2 b3 b4 b5 (sh_ai a0 a1 a2 a3 a4 a5 ha) w⟩
  · cases hb : (ok b0 && ok b1 && ok b2 && ok b3 && ok b4 && ok b5)
    · exact ⟨0, 0, false, fun w => smc_n1 a0 a1 a2 a3 a4 a5 b0 b1 b2 b3 b4 b5 (sh_as a0 a1 a2 a3 a4 a5 ha) (sh_as b0 b1 b2 b3 b4 b5 hb) w, fun w => imc_n1 a0 a1 a2 a3 a4 a5 b0 b1 b2 b3 b4 b5 (sh_ai a0 a1 a2 a3 a4 a5 ha) (sh_ai b0 b1 b2 b3 b4 b5 hb) w⟩
    · obtain ⟨f, rfl, rfl, rfl, rfl, rfl, rfl⟩ := sheet_bits a0 a1 a2 a3 a4 a5 ha
      obtain ⟨g, rfl, rfl, rfl, rfl, rfl, rfl⟩ := sheet_bits b0 b1 b2 b3 b4 b5 hb
      obtain ⟨h, hp, hh⟩ := pc_nat g
      obtain ⟨s, hs, hs36⟩ := pc_nat f
      have p2 : s * h ≤ 36 * 36 := Nat.mul_le_mul hs36 hh
      refine ⟨_, _, true, fun w => smc_y (rowv (f 0)) (rowv (f 1)) (rowv (f 2)) (rowv (f 3)) (rowv (f 4)) (rowv (f 5)) (rowv (g 0)) (rowv (g 1)) (rowv (g 2)) (rowv (g 3)) (rowv (g 4)) (rowv (g 5)) h s _ _ _ (w_mul (by omega)) (i_w (w_mul (by omega))) (sh_as (rowv (f 0)) (rowv (f 1)) (rowv (f 2)) (rowv (f 3)) (rowv (f 4)) (rowv (f 5)) (sh_of f)) (sh_as (rowv (g 0)) (rowv (g 1)) (rowv (g 2)) (rowv (g 3)) (rowv (g 4)) (rowv (g 5)) (sh_of g)) (cnt_h f hs) (cnt_h g hp) (cut_h (b := 36) (by omega) (by omega) (by omega)) w, fun w => imc_y (rowv (f 0)) (rowv (f 1)) (rowv (f 2)) (rowv (f 3)) (rowv (f 4)) (rowv (f 5)) (rowv (g 0)) (rowv (g 1)) (rowv (g 2)) (rowv (g 3)) (rowv (g 4)) (rowv (g 5)) (fd36 f) (fd36 g) h s _ _ _ (w_mul (by omega)) (i_w (w_mul (by omega))) (sh_ai (rowv (f 0)) (rowv (f 1)) (rowv (f 2)) (rowv (f 3)) (rowv (f 4)) (rowv (f 5)) (sh_of f)) (sh_ai (rowv (g 0)) (rowv (g 1)) (rowv (g 2)) (rowv (g 3)) (rowv (g 4)) (rowv (g 5)) (sh_of g)) (Lib.hid (fieldof_s f)) (Lib.hid (fieldof_s g)) (Lib.hid (fun w => hs ▸ fsize_s f w)) (Lib.hid (fun w => hp ▸ fsize_s g w)) (Lib.hid (frac_f (b := 36) (by omega) (by omega) (by omega))) w⟩
end Go.Proofs.Ythphkhcppljdlaa
