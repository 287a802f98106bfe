/- BUNDLES: what shifts and flips of any sheets answer, and what comes of what they answered. -/
import Derived.Test.YtpgfmigbjffemaaFq
import Derived.Test.YtpgfmigbjffemaaWc
import Derived.Test.YtpgfmigbjffemaaSi
import Derived.WalkKit
import Derived.ProofKit
import Derived.OpenShut
import Derived.Lib.Hide
import Derived.WalkSpells
import Derived.Below
import Derived.BigQuiet
import Derived.LoopN
namespace Go.Proofs.Ytpgfmigbjffemaa
open Go.ChangeShapes Go.WideShapes Go.ChangeAt Go.RowKit
set_option linter.unusedVariables false
set_option linter.unusedSimpArgs false
theorem pc_rot8 : ∀ (a : Fin 64) (x : Fin 6), pc (rot ((a.val : Nat) : Int) ((x.val : Nat) : Int)) = pc ((a.val : Nat) : Int) := by decide +kernel
theorem pc_rotv (g : Nat → Bool) {x : Nat} (h : x < 6) : pc (rot (rowv g) (x : Int)) = pc (rowv g) := by
  obtain ⟨n, hn⟩ := Int.eq_ofNat_of_zero_le (row_in g).1
  rw [hn]
  exact pc_rot8 ⟨n, by have := (row_in g).2; omega⟩ ⟨x, h⟩
theorem size_sf (f : Nat → Nat → Bool) {x y : Nat} (hx : x < 6) (hy : y < 6) : pc (rowv (sf x y f 0)) + pc (rowv (sf x y f 1)) + pc (rowv (sf x y f 2)) + pc (rowv (sf x y f 3)) + pc (rowv (sf x y f 4)) + pc (rowv (sf x y f 5)) = pc (rowv (f 0)) + pc (rowv (f 1)) + pc (rowv (f 2)) + pc (rowv (f 3)) + pc (rowv (f 4)) + pc (rowv (f 5)) := by
  have e : ∀ r : Nat, pc (rowv (sf x y f r)) = pc (rowv (f ((r + 6 - y) % 6))) := fun r => by
    rw [show rowv (sf x y f r) = rot (rowv (f ((r + 6 - y) % 6))) (x : Int) from (rowv_rot _ hx).symm, pc_rotv _ hx]
  rw [e 0, e 1, e 2, e 3, e 4, e 5]
  rcases six_n hy with rfl | rfl | rfl | rfl | rfl | rfl
  all_goals
    first
    | (simp only [Nat.reduceAdd, Nat.reduceSub, Nat.reduceMod]; done)
    | (simp only [Nat.reduceAdd, Nat.reduceSub, Nat.reduceMod]; omega)
theorem sf_back (f : Nat → Nat → Bool) {x y u v : Nat} (hx : x < 6) (hy : y < 6) (hu : u < 6) (hv : v < 6) (ex : (x + u) % 6 = 0) (ey : (y + v) % 6 = 0) {r : Nat} (hr : r < 6) : rowv (sf u v (sf x y f) r) = rowv (f r) :=
  rowv_congr fun i hi => by
    show f (((r + 6 - v) % 6 + 6 - y) % 6) (((i + 6 - u) % 6 + 6 - x) % 6) = f r i
    rw [show ((r + 6 - v) % 6 + 6 - y) % 6 = r by omega, show ((i + 6 - u) % 6 + 6 - x) % 6 = i by omega]
theorem shift_all (a0 a1 a2 a3 a4 a5 : Int) (x y : Int) (hx : (Lit.int .i64 x).wf = true) (hy : (Lit.int .i64 y).wf = true) (hy6 : -6 ≤ y ∧ y ≤ 8) : ∃ (g0 g1 g2 g3 g4 g5 : Int) (q : Bool), (∀ w, Calls Try.prog 47 #[.agg #[.int .i64 a0, .int .i64 a1, .int .i64 a2, .int .i64 a3, .int .i64 a4, .int .i64 a5], .int .i64 x, .int .i64 y] w fun e w' => e = .returned (.tuple #[.agg #[.int .i64 g0, .int .i64 g1, .int .i64 g2, .int .i64 g3, .int .i64 g4, .int .i64 g5], .bool q]) ∧ Below w.heap.size w w') ∧ (∀ w, Calls Try.prog 48 #[.agg #[.int .i64 a0, .int .i64 a1, .int .i64 a2, .int .i64 a3, .int .i64 a4, .int .i64 a5], .int .i64 x, .int .i64 y] w fun e w' => e = .returned (.tuple #[.agg #[.int .i64 g0, .int .i64 g1, .int .i64 g2, .int .i64 g3, .int .i64 g4, .int .i64 g5], .bool q]) ∧ Below w.heap.size w w') ∧ (∀ w, Calls Try.prog 49 #[.agg #[.int .i64 a0, .int .i64 a1, .int .i64 a2, .int .i64 a3, .int .i64 a4, .int .i64 a5]] w fun e w' => e = .returned (.bool q) ∧ Below w.heap.size w w') ∧ (q = true → ∃ m : Int, (∀ w, Calls Try.prog 55 #[.agg #[.int .i64 a0, .int .i64 a1, .int .i64 a2, .int .i64 a3, .int .i64 a4, .int .i64 a5]] w fun e w' => e = .returned (.tuple #[.int .i64 m, .bool true]) ∧ Below w.heap.size w w') ∧ (∀ w, Calls Try.prog 55 #[.agg #[.int .i64 g0, .int .i64 g1, .int .i64 g2, .int .i64 g3, .int .i64 g4, .int .i64 g5]] w fun e w' => e = .returned (.tuple #[.int .i64 m, .bool true]) ∧ Below w.heap.size w w') ∧ (-1000 < x → x < 1000 → (∀ w, Calls Try.prog 47 #[.agg #[.int .i64 g0, .int .i64 g1, .int .i64 g2, .int .i64 g3, .int .i64 g4, .int .i64 g5], .int .i64 (-x), .int .i64 (-y)] w fun e w' => e = .returned (.tuple #[.agg #[.int .i64 a0, .int .i64 a1, .int .i64 a2, .int .i64 a3, .int .i64 a4, .int .i64 a5], .bool true]) ∧ Below w.heap.size w w') ∧ (∀ w, Calls Try.prog 47 #[.agg #[.int .i64 a0, .int .i64 a1, .int .i64 a2, .int .i64 a3, .int .i64 a4, .int .i64 a5], .int .i64 (x + 6), .int .i64 (y - 6)] w fun e w' => e = .returned (.tuple #[.agg #[.int .i64 g0, .int .i64 g1, .int .i64 g2, .int .i64 g3, .int .i64 g4, .int .i64 g5], .bool true]) ∧ Below w.heap.size w w'))) := by
  cases hv : (ok a0 && ok a1 && ok a2 && ok a3 && ok a4 && ok a5)
  · exact ⟨0, 0, 0, 0, 0, 0, false, ishift_no0 a0 a1 a2 a3 a4 a5 x y (sh_ai a0 a1 a2 a3 a4 a5 hv), sshift_no0 a0 a1 a2 a3 a4 a5 x y (sh_as a0 a1 a2 a3 a4 a5 hv), fun w => hv ▸ sheet_any a0 a1 a2 a3 a4 a5 w, by simp⟩
  · have hi := sh_ai a0 a1 a2 a3 a4 a5 hv
    have hs := sh_as a0 a1 a2 a3 a4 a5 hv
    obtain ⟨f, rfl, rfl, rfl, rfl, rfl, rfl⟩ := sheet_bits a0 a1 a2 a3 a4 a5 hv
    obtain ⟨X, eX⟩ : ∃ X : Nat, x % 6 = X := ⟨(x % 6).toNat, by omega⟩
    obtain ⟨Y, eY⟩ : ∃ Y : Nat, y % 6 = Y := ⟨(y % 6).toNat, by omega⟩
    have hX : X < 6 := by omega
    have hY : Y < 6 := by omega
    have gi := sh_ai _ _ _ _ _ _ (sh_of (sf X Y f))
    refine ⟨_, _, _, _, _, _, true, ishift_yes _ _ _ _ _ _ x y _ _ _ _ _ _ hi (Lib.hid (shifted_f f x y hx hy hX hY eX eY)), sshift_yes _ _ _ _ _ _ x y _ _ _ _ _ _ hs (Lib.hid (l2shift_f f x y hx hy hX hY eX eY)), hi.out, fun _ => ⟨_, isize_yes _ _ _ _ _ _ ⟨row_in (f 0), row_in (f 1), row_in (f 2), row_in (f 3), row_in (f 4), row_in (f 5)⟩ hi, ?_, fun h1 h2 => ⟨?_, ?_⟩⟩⟩
    · have h := isize_yes (rowv (sf X Y f 0)) (rowv (sf X Y f 1)) (rowv (sf X Y f 2)) (rowv (sf X Y f 3)) (rowv (sf X Y f 4)) (rowv (sf X Y f 5)) ⟨row_in (sf X Y f 0), row_in (sf X Y f 1), row_in (sf X Y f 2), row_in (sf X Y f 3), row_in (sf X Y f 4), row_in (sf X Y f 5)⟩ gi
      rw [size_sf f hX hY] at h
      exact h
    · obtain ⟨U, eU⟩ : ∃ U : Nat, (-x) % 6 = U := ⟨((-x) % 6).toNat, by omega⟩
      obtain ⟨V, eV⟩ : ∃ V : Nat, (-y) % 6 = V := ⟨((-y) % 6).toNat, by omega⟩
      have h := shifted_f (sf X Y f) (-x) (-y) (WalkArith.wf_i64 (by omega)) (WalkArith.wf_i64 (by omega)) (show U < 6 by omega) (show V < 6 by omega) eU eV
      have e : ∀ r, r < 6 → rowv (sf U V (sf X Y f) r) = rowv (f r) := fun r hr => sf_back f hX hY (by omega) (by omega) (by omega) (by omega) hr
      rw [e 0 (by decide), e 1 (by decide), e 2 (by decide), e 3 (by decide), e 4 (by decide), e 5 (by decide)] at h
      exact ishift_yes _ _ _ _ _ _ (-x) (-y) _ _ _ _ _ _ gi (Lib.hid h)
    · exact ishift_yes _ _ _ _ _ _ (x + 6) (y - 6) _ _ _ _ _ _ hi (Lib.hid (shifted_f f (x + 6) (y - 6) (WalkArith.wf_i64 (by omega)) (WalkArith.wf_i64 (by omega)) hX hY (by omega) (by omega)))
/-- A sheet with one cell of the other color. -/
def fl (x y : Nat) (f : Nat → Nat → Bool) : Nat → Nat → Bool := fun j i => Bool.xor (f j i) (j == y && i == x)
theorem fl_other (f : Nat → Nat → Bool) (x : Nat) {y r : Nat} (h : r ≠ y) : rowv (fl x y f r) = rowv (f r) := rowv_congr fun i _ => by
  have e : (r == y) = false := by simp [h]
  show Bool.xor (f r i) (r == y && i == x) = f r i
  rw [e]
  cases f r i <;> rfl
theorem fl_same (f : Nat → Nat → Bool) {x : Nat} (y : Nat) (h : x < 6) : rowv (fl x y f y) = bits .xor .i64 (rowv (f y)) (wrap64 (2 ^ ((x : Int)).toNat)) := by
  rw [Int.toNat_natCast, rowv_xor _ h]
  exact rowv_congr fun i _ => by simp [fl]
theorem fl_fl (f : Nat → Nat → Bool) (x y r : Nat) : rowv (fl x y (fl x y f) r) = rowv (f r) := rowv_congr fun i _ => by
  show Bool.xor (Bool.xor (f r i) (r == y && i == x)) (r == y && i == x) = f r i
  cases f r i <;> cases (r == y && i == x) <;> rfl
theorem iflip_f (f : Nat → Nat → Bool) {x y : Nat} (hx : x < 6) (hy : y < 6) : (∀ w, Calls Try.prog 51 #[.agg #[.int .i64 (rowv (f 0)), .int .i64 (rowv (f 1)), .int .i64 (rowv (f 2)), .int .i64 (rowv (f 3)), .int .i64 (rowv (f 4)), .int .i64 (rowv (f 5))], .agg #[.int .i64 (x : Int), .int .i64 (y : Int)]] w fun e w' => e = .returned (.tuple #[.agg #[.int .i64 (rowv (fl x y f 0)), .int .i64 (rowv (fl x y f 1)), .int .i64 (rowv (fl x y f 2)), .int .i64 (rowv (fl x y f 3)), .int .i64 (rowv (fl x y f 4)), .int .i64 (rowv (fl x y f 5))], .bool true]) ∧ Below w.heap.size w w') := by
  have hi := sh_ai _ _ _ _ _ _ (sh_of f)
  have hc := ce_i (x : Int) (y : Int) (WalkArith.wf_i64 (by omega)) (WalkArith.wf_i64 (by omega)) (show okc (x : Int) (y : Int) = true by simp [okc]; omega)
  have hx' : 0 ≤ (x : Int) ∧ (x : Int) ≤ 5 := by omega
  rcases six_n hy with rfl | rfl | rfl | rfl | rfl | rfl
  · rw [fl_same f 0 hx, fl_other f x (show 1 ≠ 0 by decide), fl_other f x (show 2 ≠ 0 by decide), fl_other f x (show 3 ≠ 0 by decide), fl_other f x (show 4 ≠ 0 by decide), fl_other f x (show 5 ≠ 0 by decide)]
    exact iflip_yes0 _ _ _ _ _ _ (x : Int) hx' hi hc
  · rw [fl_other f x (show 0 ≠ 1 by decide), fl_same f 1 hx, fl_other f x (show 2 ≠ 1 by decide), fl_other f x (show 3 ≠ 1 by decide), fl_other f x (show 4 ≠ 1 by decide), fl_other f x (show 5 ≠ 1 by decide)]
    exact iflip_yes1 _ _ _ _ _ _ (x : Int) hx' hi hc
  · rw [fl_other f x (show 0 ≠ 2 by decide), fl_other f x (show 1 ≠ 2 by decide), fl_same f 2 hx, fl_other f x (show 3 ≠ 2 by decide), fl_other f x (show 4 ≠ 2 by decide), fl_other f x (show 5 ≠ 2 by decide)]
    exact iflip_yes2 _ _ _ _ _ _ (x : Int) hx' hi hc
  · rw [fl_other f x (show 0 ≠ 3 by decide), fl_other f x (show 1 ≠ 3 by decide), fl_other f x (show 2 ≠ 3 by decide), fl_same f 3 hx, fl_other f x (show 4 ≠ 3 by decide), fl_other f x (show 5 ≠ 3 by decide)]
    exact iflip_yes3 _ _ _ _ _ _ (x : Int) hx' hi hc
  · rw [fl_other f x (show 0 ≠ 4 by decide), fl_other f x (show 1 ≠ 4 by decide), fl_other f x (show 2 ≠ 4 by decide), fl_other f x (show 3 ≠ 4 by decide), fl_same f 4 hx, fl_other f x (show 5 ≠ 4 by decide)]
    exact iflip_yes4 _ _ _ _ _ _ (x : Int) hx' hi hc
  · rw [fl_other f x (show 0 ≠ 5 by decide), fl_other f x (show 1 ≠ 5 by decide), fl_other f x (show 2 ≠ 5 by decide), fl_other f x (show 3 ≠ 5 by decide), fl_other f x (show 4 ≠ 5 by decide), fl_same f 5 hx]
    exact iflip_yes5 _ _ _ _ _ _ (x : Int) hx' hi hc
theorem sflip_f (f : Nat → Nat → Bool) {x y : Nat} (hx : x < 6) (hy : y < 6) : (∀ w, Calls Try.prog 52 #[.agg #[.int .i64 (rowv (f 0)), .int .i64 (rowv (f 1)), .int .i64 (rowv (f 2)), .int .i64 (rowv (f 3)), .int .i64 (rowv (f 4)), .int .i64 (rowv (f 5))], .agg #[.int .i64 (x : Int), .int .i64 (y : Int)]] w fun e w' => e = .returned (.tuple #[.agg #[.int .i64 (rowv (fl x y f 0)), .int .i64 (rowv (fl x y f 1)), .int .i64 (rowv (fl x y f 2)), .int .i64 (rowv (fl x y f 3)), .int .i64 (rowv (fl x y f 4)), .int .i64 (rowv (fl x y f 5))], .bool true]) ∧ Below w.heap.size w w') := by
  have hi := sh_as _ _ _ _ _ _ (sh_of f)
  have hc := ce_s (x : Int) (y : Int) (show okc (x : Int) (y : Int) = true by simp [okc]; omega)
  have hx' : 0 ≤ (x : Int) ∧ (x : Int) ≤ 5 := by omega
  have hy' : 0 ≤ (y : Int) ∧ (y : Int) ≤ 5 := by omega
  have h := l2flip_any (rowv (f 0)) (rowv (f 1)) (rowv (f 2)) (rowv (f 3)) (rowv (f 4)) (rowv (f 5)) (x : Int) (y : Int) hx' hy'
  have e : ∀ r : Nat, (if (y : Int) = (r : Int) then bits .xor .i64 (rowv (f r)) (wrap64 (2 ^ ((x : Int)).toNat)) else rowv (f r)) = rowv (fl x y f r) := fun r => by
    split
    · rename_i e
      obtain rfl : y = r := by omega
      exact (fl_same f y hx).symm
    · rename_i e
      exact (fl_other f x (by omega)).symm
  have e0 := e 0; have e1 := e 1; have e2 := e 2; have e3 := e 3; have e4 := e 4; have e5 := e 5
  simp only [Int.ofNat_zero, Int.cast_ofNat_Int, Int.ofNat_one, Int.natCast_one, Int.natCast_zero] at e0 e1 e2 e3 e4 e5
  rw [e0, e1, e2, e3, e4, e5] at h
  exact sflip_yes _ _ _ _ _ _ (x : Int) (y : Int) _ _ _ _ _ _ hi hc (Lib.hid h)
theorem black_f (f : Nat → Nat → Bool) {x y : Nat} (hx : x < 6) (hy : y < 6) : (∀ w, Calls Try.prog 53 #[.agg #[.int .i64 (rowv (f 0)), .int .i64 (rowv (f 1)), .int .i64 (rowv (f 2)), .int .i64 (rowv (f 3)), .int .i64 (rowv (f 4)), .int .i64 (rowv (f 5))], .agg #[.int .i64 (x : Int), .int .i64 (y : Int)]] w fun e w' => e = .returned (.tuple #[.bool (f y x), .bool true]) ∧ Below w.heap.size w w') ∧ (∀ w, Calls Try.prog 54 #[.agg #[.int .i64 (rowv (f 0)), .int .i64 (rowv (f 1)), .int .i64 (rowv (f 2)), .int .i64 (rowv (f 3)), .int .i64 (rowv (f 4)), .int .i64 (rowv (f 5))], .agg #[.int .i64 (x : Int), .int .i64 (y : Int)]] w fun e w' => e = .returned (.tuple #[.bool (f y x), .bool true]) ∧ Below w.heap.size w w') := by
  have ei : okc (x : Int) (y : Int) = true := by simp [okc]; omega
  exact ⟨iblack_yes _ _ _ _ _ _ (x : Int) (y : Int) _ (sh_ai _ _ _ _ _ _ (sh_of f)) (ce_i (x : Int) (y : Int) (WalkArith.wf_i64 (by omega)) (WalkArith.wf_i64 (by omega)) ei) (Lib.hid (has_f f hy hx)), sblack_yes _ _ _ _ _ _ (x : Int) (y : Int) _ (sh_as _ _ _ _ _ _ (sh_of f)) (ce_s (x : Int) (y : Int) ei) (Lib.hid (get_f f hy hx))⟩
theorem flip_all (a0 a1 a2 a3 a4 a5 : Int) (x y : Int) (hx : (Lit.int .i64 x).wf = true) (hy : (Lit.int .i64 y).wf = true) : ∃ (c0 c1 c2 c3 c4 c5 : Int) (k r : Bool), (∀ w, Calls Try.prog 51 #[.agg #[.int .i64 a0, .int .i64 a1, .int .i64 a2, .int .i64 a3, .int .i64 a4, .int .i64 a5], .agg #[.int .i64 x, .int .i64 y]] w fun e w' => e = .returned (.tuple #[.agg #[.int .i64 c0, .int .i64 c1, .int .i64 c2, .int .i64 c3, .int .i64 c4, .int .i64 c5], .bool r]) ∧ Below w.heap.size w w') ∧ (∀ w, Calls Try.prog 52 #[.agg #[.int .i64 a0, .int .i64 a1, .int .i64 a2, .int .i64 a3, .int .i64 a4, .int .i64 a5], .agg #[.int .i64 x, .int .i64 y]] w fun e w' => e = .returned (.tuple #[.agg #[.int .i64 c0, .int .i64 c1, .int .i64 c2, .int .i64 c3, .int .i64 c4, .int .i64 c5], .bool r]) ∧ Below w.heap.size w w') ∧ (∀ w, Calls Try.prog 53 #[.agg #[.int .i64 a0, .int .i64 a1, .int .i64 a2, .int .i64 a3, .int .i64 a4, .int .i64 a5], .agg #[.int .i64 x, .int .i64 y]] w fun e w' => e = .returned (.tuple #[.bool k, .bool r]) ∧ Below w.heap.size w w') ∧ (∀ w, Calls Try.prog 54 #[.agg #[.int .i64 a0, .int .i64 a1, .int .i64 a2, .int .i64 a3, .int .i64 a4, .int .i64 a5], .agg #[.int .i64 x, .int .i64 y]] w fun e w' => e = .returned (.tuple #[.bool k, .bool r]) ∧ Below w.heap.size w w') ∧ (r = true → (∀ w, Calls Try.prog 53 #[.agg #[.int .i64 c0, .int .i64 c1, .int .i64 c2, .int .i64 c3, .int .i64 c4, .int .i64 c5], .agg #[.int .i64 x, .int .i64 y]] w fun e w' => e = .returned (.tuple #[.bool (!k), .bool true]) ∧ Below w.heap.size w w') ∧ (∀ w, Calls Try.prog 51 #[.agg #[.int .i64 c0, .int .i64 c1, .int .i64 c2, .int .i64 c3, .int .i64 c4, .int .i64 c5], .agg #[.int .i64 x, .int .i64 y]] w fun e w' => e = .returned (.tuple #[.agg #[.int .i64 a0, .int .i64 a1, .int .i64 a2, .int .i64 a3, .int .i64 a4, .int .i64 a5], .bool true]) ∧ Below w.heap.size w w')) := by
  cases hv : (ok a0 && ok a1 && ok a2 && ok a3 && ok a4 && ok a5)
  · exact ⟨0, 0, 0, 0, 0, 0, false, false, iflip_no0 a0 a1 a2 a3 a4 a5 x y (sh_ai a0 a1 a2 a3 a4 a5 hv), sflip_no0 a0 a1 a2 a3 a4 a5 x y (sh_as a0 a1 a2 a3 a4 a5 hv), iblack_no0 a0 a1 a2 a3 a4 a5 x y (sh_ai a0 a1 a2 a3 a4 a5 hv), sblack_no0 a0 a1 a2 a3 a4 a5 x y (sh_as a0 a1 a2 a3 a4 a5 hv), by simp⟩
  · cases hc : okc x y
    · exact ⟨0, 0, 0, 0, 0, 0, false, false, iflip_no1 a0 a1 a2 a3 a4 a5 x y (sh_ai a0 a1 a2 a3 a4 a5 hv) (ce_i x y hx hy hc), sflip_no1 a0 a1 a2 a3 a4 a5 x y (sh_as a0 a1 a2 a3 a4 a5 hv) (ce_s x y hc), iblack_no1 a0 a1 a2 a3 a4 a5 x y (sh_ai a0 a1 a2 a3 a4 a5 hv) (ce_i x y hx hy hc), sblack_no1 a0 a1 a2 a3 a4 a5 x y (sh_as a0 a1 a2 a3 a4 a5 hv) (ce_s x y hc), by simp⟩
    · obtain ⟨hX, hY⟩ := okc_in hc
      obtain ⟨X, rfl⟩ := Int.eq_ofNat_of_zero_le hX.1
      obtain ⟨Y, rfl⟩ := Int.eq_ofNat_of_zero_le hY.1
      have hX6 : X < 6 := by omega
      have hY6 : Y < 6 := by omega
      obtain ⟨f, rfl, rfl, rfl, rfl, rfl, rfl⟩ := sheet_bits a0 a1 a2 a3 a4 a5 hv
      refine ⟨_, _, _, _, _, _, _, true, iflip_f f hX6 hY6, sflip_f f hX6 hY6, (black_f f hX6 hY6).1, (black_f f hX6 hY6).2, fun _ => ⟨?_, ?_⟩⟩
      · have h := (black_f (fl X Y f) hX6 hY6).1
        rw [show fl X Y f Y X = !(f Y X) by simp [fl]] at h
        exact h
      · have h := iflip_f (fl X Y f) hX6 hY6
        rw [fl_fl f X Y 0, fl_fl f X Y 1, fl_fl f X Y 2, fl_fl f X Y 3, fl_fl f X Y 4, fl_fl f X Y 5] at h
        exact h
end Go.Proofs.Ytpgfmigbjffemaa
