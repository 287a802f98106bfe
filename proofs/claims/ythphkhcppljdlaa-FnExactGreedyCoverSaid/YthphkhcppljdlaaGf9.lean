/- MERGED, for one claim's sake: Gp1, Gq1, Gr1, Gq2, Gs1, Gt1, Gt2, Gt3. -/
import Derived.Test.YthphkhcppljdlaaFe7
import Derived.Test.YthphkhcppljdlaaSp5
import Derived.Test.YthphkhcppljdlaaCs5
import Derived.Test.YthphkhcppljdlaaRl6
import Derived.Test.YthphkhcppljdlaaGe9
import Derived.Test.YthphkhcppljdlaaSz
import Derived.Test.YthphkhcppljdlaaOb6
import Derived.Laws.Bits64b
import Derived.WalkKit
import Derived.ProofKit
import Derived.OpenShut
import Derived.Lib.Hide
import Derived.WalkSpells
import Derived.Below
import Derived.BigQuiet
import Derived.LoopN
import Derived.Deep.RegionHeld3
import Derived.RegionTactic
import Derived.OwnWalk
import Derived.Maps.AppendAt
namespace Go.Proofs.Ythphkhcppljdlaa
open Go.ChangeShapes Go.WideShapes Go.ChangeAt Go.RowKit
set_option linter.unusedVariables false
/- Gp1 -/
theorem xor_step6 (x m : Nat) : x ^^^ m = (x % 64 ^^^ m % 64) + 64 * (x / 64 ^^^ m / 64) := by
  have h1 : (x ^^^ m) % 2 ^ 6 = x % 2 ^ 6 ^^^ m % 2 ^ 6 := Nat.xor_mod_two_pow
  have h2 : (x ^^^ m) / 2 ^ 6 = x / 2 ^ 6 ^^^ m / 2 ^ 6 := Nat.xor_div_two_pow
  have h3 := Nat.mod_add_div (x ^^^ m) (2 ^ 6)
  rw [h1, h2] at h3
  exact h3.symm
theorem xor_pair6 (a b c d : Nat) (hb : b < 64) (hd : d < 64) : (a * 64 + b) ^^^ (c * 64 + d) = (a ^^^ c) * 64 + (b ^^^ d) := by
  rw [xor_step6]
  rw [show (a * 64 + b) % 64 = b by omega, show (c * 64 + d) % 64 = d by omega, show (a * 64 + b) / 64 = a by omega, show (c * 64 + d) / 64 = c by omega]
  omega
/-- No cell is black. -/
def wh9 (s : Fn6) : Bool := rowv (s 0) == 0 && rowv (s 1) == 0 && rowv (s 2) == 0 && rowv (s 3) == 0 && rowv (s 4) == 0 && rowv (s 5) == 0
theorem r6_xn : ∀ (b0 b1 b2 b3 b4 b5 c0 c1 c2 c3 c4 c5 : Bool), ((r6 b0 b1 b2 b3 b4 b5).toNat ^^^ (r6 c0 c1 c2 c3 c4 c5).toNat) = (r6 (Bool.xor b0 c0) (Bool.xor b1 c1) (Bool.xor b2 c2) (Bool.xor b3 c3) (Bool.xor b4 c4) (Bool.xor b5 c5)).toNat := by decide +kernel
theorem row_xn (f g : Fn6) (r : Nat) : (rowv (f r)).toNat ^^^ (rowv (g r)).toNat = (rowv (xf f g r)).toNat := r6_xn _ _ _ _ _ _ _ _ _ _ _ _
theorem fd_lt (f : Fn6) : fd36 f < 68719476736 := by
  have h0 := (row_nat f 0).2; have h1 := (row_nat f 1).2; have h2 := (row_nat f 2).2; have h3 := (row_nat f 3).2; have h4 := (row_nat f 4).2; have h5 := (row_nat f 5).2
  unfold fd36 six7
  omega
theorem fd_xor (f g : Fn6) : fd36 f ^^^ fd36 g = fd36 (xf f g) := by
  unfold fd36 six7
  rw [xor_pair6 _ _ _ _ (row_nat f 5).2 (row_nat g 5).2, xor_pair6 _ _ _ _ (row_nat f 4).2 (row_nat g 4).2, xor_pair6 _ _ _ _ (row_nat f 3).2 (row_nat g 3).2, xor_pair6 _ _ _ _ (row_nat f 2).2 (row_nat g 2).2, xor_pair6 _ _ _ _ (row_nat f 1).2 (row_nat g 1).2]
  rw [row_xn, row_xn, row_xn, row_xn, row_xn, row_xn]
theorem fd_x (f g : Fn6) : bits .xor .u64 ((fd36 f : Nat) : Int) ((fd36 g : Nat) : Int) = ((fd36 (xf f g) : Nat) : Int) := by
  have h1 := fd_lt f
  have h2 := fd_lt g
  rw [bits_xor_u64_nat _ _ (by omega) (by omega), fd_xor]
theorem fd_zero (f : Fn6) : (((fd36 f : Nat) : Int) == 0) = wh9 f := by
  have e0 := row_nat f 0; have e1 := row_nat f 1; have e2 := row_nat f 2; have e3 := row_nat f 3; have e4 := row_nat f 4; have e5 := row_nat f 5
  rw [Bool.eq_iff_iff]
  unfold wh9
  simp only [beq_iff_eq, Bool.and_eq_true]
  unfold fd36 six7
  constructor
  · intro h
    refine ⟨⟨⟨⟨⟨?_, ?_⟩, ?_⟩, ?_⟩, ?_⟩, ?_⟩ <;> omega
  · rintro ⟨⟨⟨⟨⟨h0, h1⟩, h2⟩, h3⟩, h4⟩, h5⟩
    rw [h0, h1, h2, h3, h4, h5]
    rfl
/-- The cells of one sheet without those of another one. -/
def an (f g : Fn6) : Fn6 := fun j i => f j i && !g j i
theorem and_step6 (x m : Nat) : x &&& m = (x % 64 &&& m % 64) + 64 * (x / 64 &&& m / 64) := by
  have h1 : (x &&& m) % 2 ^ 6 = x % 2 ^ 6 &&& m % 2 ^ 6 := Nat.and_mod_two_pow
  have h2 : (x &&& m) / 2 ^ 6 = x / 2 ^ 6 &&& m / 2 ^ 6 := Nat.and_div_two_pow
  have h3 := Nat.mod_add_div (x &&& m) (2 ^ 6)
  rw [h1, h2] at h3
  exact h3.symm
theorem and_pair6 (a b c d : Nat) (hb : b < 64) (hd : d < 64) : (a * 64 + b) &&& (c * 64 + d) = (a &&& c) * 64 + (b &&& d) := by
  rw [and_step6]
  rw [show (a * 64 + b) % 64 = b by omega, show (c * 64 + d) % 64 = d by omega, show (a * 64 + b) / 64 = a by omega, show (c * 64 + d) / 64 = c by omega]
  omega
theorem r6_andn : ∀ (b0 b1 b2 b3 b4 b5 c0 c1 c2 c3 c4 c5 : Bool), ((r6 b0 b1 b2 b3 b4 b5).toNat &&& (r6 c0 c1 c2 c3 c4 c5).toNat) = (r6 (b0 && c0) (b1 && c1) (b2 && c2) (b3 && c3) (b4 && c4) (b5 && c5)).toNat := by decide +kernel
theorem row_andn (f g : Fn6) (r : Nat) : (rowv (f r)).toNat &&& (rowv (g r)).toNat = (rowv (af f g r)).toNat := r6_andn _ _ _ _ _ _ _ _ _ _ _ _
theorem fd_and (f g : Fn6) : fd36 f &&& fd36 g = fd36 (af f g) := by
  unfold fd36 six7
  rw [and_pair6 _ _ _ _ (row_nat f 5).2 (row_nat g 5).2, and_pair6 _ _ _ _ (row_nat f 4).2 (row_nat g 4).2, and_pair6 _ _ _ _ (row_nat f 3).2 (row_nat g 3).2, and_pair6 _ _ _ _ (row_nat f 2).2 (row_nat g 2).2, and_pair6 _ _ _ _ (row_nat f 1).2 (row_nat g 1).2]
  rw [row_andn, row_andn, row_andn, row_andn, row_andn, row_andn]
theorem fd_a (f g : Fn6) : bits .and .u64 ((fd36 f : Nat) : Int) ((fd36 g : Nat) : Int) = ((fd36 (af f g) : Nat) : Int) := by
  have h1 := fd_lt f
  have h2 := fd_lt g
  rw [bits_and_u64_nat _ _ (by omega) (by omega), fd_and]
theorem andn_xor (x y : BitVec 64) : x &&& ~~~y = x ^^^ (x &&& y) := by
  apply BitVec.eq_of_getLsbD_eq
  intro i hi
  simp only [BitVec.getLsbD_and, BitVec.getLsbD_not, BitVec.getLsbD_xor, hi, decide_true, Bool.true_and]
  cases x.getLsbD i <;> cases y.getLsbD i <;> rfl
theorem bits_andNot_u64_nat (a b : Nat) (ha : a < 18446744073709551616) (hb : b < 18446744073709551616) : bits .andNot .u64 (a : Int) (b : Int) = ((a ^^^ (a &&& b) : Nat) : Int) := by
  have hy : a &&& b < 2 ^ 64 := Nat.and_lt_two_pow _ (by omega)
  have hx : a ^^^ (a &&& b) < 2 ^ 64 := Nat.xor_lt_two_pow (by omega) hy
  have h1 : (BitVec.ofInt 64 (a : Int)).toNat = a := by
    rw [BitVec.ofInt_natCast, BitVec.toNat_ofNat]; exact Nat.mod_eq_of_lt (by omega)
  have h2 : (BitVec.ofInt 64 (b : Int)).toNat = b := by
    rw [BitVec.ofInt_natCast, BitVec.toNat_ofNat]; exact Nat.mod_eq_of_lt (by omega)
  show IntKind.u64.wrap ((BitVec.ofInt 64 (a : Int) &&& ~~~BitVec.ofInt 64 (b : Int)).toNat : Int) = _
  rw [andn_xor, BitVec.toNat_xor, BitVec.toNat_and, h1, h2, IntKind.wrap_u64]
  omega
theorem fd_an (f g : Fn6) : bits .andNot .u64 ((fd36 f : Nat) : Int) ((fd36 g : Nat) : Int) = ((fd36 (an f g) : Nat) : Int) := by
  have h1 := fd_lt f
  have h2 := fd_lt g
  rw [bits_andNot_u64_nat _ _ (by omega) (by omega), fd_and, fd_xor, show xf f (af f g) = an f g from ?_]
  funext j i
  show Bool.xor (f j i) (f j i && g j i) = (f j i && !g j i)
  cases f j i <;> cases g j i <;> rfl
def bn (b : Bool) : Int := if b then 1 else 0
theorem pc_r6 : ∀ (b0 b1 b2 b3 b4 b5 : Bool), pc (r6 b0 b1 b2 b3 b4 b5) = bn b0 + bn b1 + bn b2 + bn b3 + bn b4 + bn b5 := by decide +kernel
theorem pc_row (g : Nat → Bool) : pc (rowv g) = bn (g 0) + bn (g 1) + bn (g 2) + bn (g 3) + bn (g 4) + bn (g 5) := pc_r6 _ _ _ _ _ _
/-- A part of a sheet on its 36 cells. -/
def Pt (f g : Fn6) : Prop := ∀ j i, j < 6 → i < 6 → f j i = true → g j i = true
theorem bn_or {b p s l : Bool} (hb : b = (s && !l)) (hp : p = true → s = true) : bn (b || p) = bn b + bn (p && l) := by
  subst hb
  cases p
  · simp [bn]
  · have h := hp rfl
    subst h
    cases l <;> rfl
theorem pc_or (s L p : Fn6) (hp : Pt p s) {r : Nat} (hr : r < 6) : pc (rowv (jf (an s L) p r)) = pc (rowv (an s L r)) + pc (rowv (af p L r)) := by
  rw [pc_row, pc_row, pc_row]
  have h : ∀ i, i < 6 → bn (jf (an s L) p r i) = bn (an s L r i) + bn (af p L r i) := fun i hi => bn_or rfl (hp r i hr hi)
  rw [h 0 (by decide), h 1 (by decide), h 2 (by decide), h 3 (by decide), h 4 (by decide), h 5 (by decide)]
  omega
theorem pc36_or (s L p : Fn6) (hp : Pt p s) : pc36 (jf (an s L) p) = pc36 (an s L) + pc36 (af p L) := by
  unfold pc36
  rw [pc_or s L p hp (r := 0) (by decide), pc_or s L p hp (r := 1) (by decide), pc_or s L p hp (r := 2) (by decide), pc_or s L p hp (r := 3) (by decide), pc_or s L p hp (r := 4) (by decide), pc_or s L p hp (r := 5) (by decide)]
  omega
theorem pc_an (L p : Fn6) (r : Nat) : pc (rowv (an L p r)) = pc (rowv (L r)) - pc (rowv (af p L r)) := by
  rw [pc_row, pc_row, pc_row]
  have h : ∀ i, bn (an L p r i) = bn (L r i) - bn (af p L r i) := fun i => by
    show bn (L r i && !p r i) = bn (L r i) - bn (p r i && L r i)
    cases L r i <;> cases p r i <;> rfl
  rw [h 0, h 1, h 2, h 3, h 4, h 5]
  omega
theorem pc36_an (L p : Fn6) : pc36 (an L p) = pc36 L - pc36 (af p L) := by
  unfold pc36
  rw [pc_an, pc_an, pc_an, pc_an, pc_an, pc_an]
  omega
theorem row_step (s L p : Fn6) (hp : Pt p s) {r : Nat} (hr : r < 6) : rowv (jf (an s L) p r) = rowv (an s (an L p) r) := rowv_congr fun i hi => by
  have h := hp r i hr hi
  show ((s r i && !L r i) || p r i) = (s r i && !(L r i && !p r i))
  generalize s r i = a at h ⊢
  generalize L r i = b
  generalize p r i = c at h ⊢
  cases c
  · cases a <;> cases b <;> rfl
  · rw [h rfl]
    cases b <;> rfl
theorem wh_iff (L : Fn6) : wh9 L = true ↔ ∀ j i, j < 6 → i < 6 → L j i = false := by
  have hz : rowv (fun _ => false) = 0 := rfl
  unfold wh9
  simp only [Bool.and_eq_true, beq_iff_eq]
  constructor
  · rintro ⟨⟨⟨⟨⟨h0, h1⟩, h2⟩, h3⟩, h4⟩, h5⟩ j i hj hi
    rw [← hz] at h0 h1 h2 h3 h4 h5
    rcases six_n hj with rfl | rfl | rfl | rfl | rfl | rfl
    · exact rowv_inj h0 i hi
    · exact rowv_inj h1 i hi
    · exact rowv_inj h2 i hi
    · exact rowv_inj h3 i hi
    · exact rowv_inj h4 i hi
    · exact rowv_inj h5 i hi
  · intro h
    exact ⟨⟨⟨⟨⟨rowv_congr (h := fun _ => false) fun i hi => h 0 i (by decide) hi, rowv_congr (h := fun _ => false) fun i hi => h 1 i (by decide) hi⟩, rowv_congr (h := fun _ => false) fun i hi => h 2 i (by decide) hi⟩, rowv_congr (h := fun _ => false) fun i hi => h 3 i (by decide) hi⟩, rowv_congr (h := fun _ => false) fun i hi => h 4 i (by decide) hi⟩, rowv_congr (h := fun _ => false) fun i hi => h 5 i (by decide) hi⟩
theorem pc36_pos {f : Fn6} {j i : Nat} (hj : j < 6) (hi : i < 6) (h : f j i = true) : 1 ≤ pc36 f := by
  have hb : ∀ b, 0 ≤ bn b := fun b => by cases b <;> decide
  have hr : ∀ r, 0 ≤ pc (rowv (f r)) := fun r => by
    rw [pc_row]
    have := hb (f r 0); have := hb (f r 1); have := hb (f r 2); have := hb (f r 3); have := hb (f r 4); have := hb (f r 5)
    omega
  have hp : 1 ≤ pc (rowv (f j)) := by
    rw [pc_row]
    have h0 := hb (f j 0); have h1 := hb (f j 1); have h2 := hb (f j 2); have h3 := hb (f j 3); have h4 := hb (f j 4); have h5 := hb (f j 5)
    have e : bn (f j i) = 1 := by rw [h]; rfl
    rcases six_n hi with rfl | rfl | rfl | rfl | rfl | rfl <;> omega
  have h0 := hr 0; have h1 := hr 1; have h2 := hr 2; have h3 := hr 3; have h4 := hr 4; have h5 := hr 5
  unfold pc36
  rcases six_n hj with rfl | rfl | rfl | rfl | rfl | rfl <;> omega
/-- The place of the first greatest one among the numbers 0 to k. -/
def mxi (F : Nat → Int) : Nat → Nat
  | 0 => 0
  | k + 1 => if F (mxi F k) < F (k + 1) then k + 1 else mxi F k
theorem mxi_le (F : Nat → Int) : ∀ k, mxi F k ≤ k
  | 0 => Nat.le_refl _
  | k + 1 => by
    have := mxi_le F k
    show (if F (mxi F k) < F (k + 1) then k + 1 else mxi F k) ≤ k + 1
    split <;> omega
theorem mxi_max (F : Nat → Int) : ∀ k i, i ≤ k → F i ≤ F (mxi F k)
  | 0, i, h => by
    obtain rfl : i = 0 := by omega
    exact Int.le_refl _
  | k + 1, i, h => by
    have ih := mxi_max F k
    show F i ≤ F (if F (mxi F k) < F (k + 1) then k + 1 else mxi F k)
    by_cases hi : i = k + 1
    · subst hi
      split <;> omega
    · have := ih i (by omega)
      split <;> omega
theorem mxi_shift (F G : Nat → Int) (c : Int) : ∀ k, (∀ i, i ≤ k → G i = c + F i) → mxi G k = mxi F k
  | 0, _ => rfl
  | k + 1, h => by
    have ih := mxi_shift F G c k (fun i hi => h i (by omega))
    show (if G (mxi G k) < G (k + 1) then k + 1 else mxi G k) = (if F (mxi F k) < F (k + 1) then k + 1 else mxi F k)
    rw [ih, h (mxi F k) (by have := mxi_le F k; omega), h (k + 1) (Nat.le_refl _)]
    by_cases hc : F (mxi F k) < F (k + 1)
    · rw [if_pos hc, if_pos (by omega)]
    · rw [if_neg hc, if_neg (by omega)]
/-- The cell at a place, the press there. -/
def lc (l : List (Nat × Nat)) (i : Nat) : Nat × Nat := l.getD i (0, 0)
def pr (p : Fn6) (l : List (Nat × Nat)) (i : Nat) : Fn6 := sf (lc l i).1 (lc l i).2 p
/-- The best place when L is left, what is left step by step, the cells taken. -/
def bi (p : Fn6) (l : List (Nat × Nat)) (L : Fn6) : Nat := mxi (fun i => pc36 (af (pr p l i) L)) (l.length - 1)
def gl (p : Fn6) (l : List (Nat × Nat)) (s : Fn6) : Nat → Fn6
  | 0 => s
  | k + 1 => an (gl p l s k) (pr p l (bi p l (gl p l s k)))
def gc (p : Fn6) (l : List (Nat × Nat)) (s : Fn6) : Nat → List (Nat × Nat)
  | 0 => []
  | k + 1 => gc p l s k ++ [lc l (bi p l (gl p l s k))]
theorem gc_len (p : Fn6) (l : List (Nat × Nat)) (s : Fn6) : ∀ k, (gc p l s k).length = k
  | 0 => rfl
  | k + 1 => by simp [gc, gc_len p l s k]
theorem gl_sub (p : Fn6) (l : List (Nat × Nat)) (s : Fn6) : ∀ k, Pt (gl p l s k) s
  | 0 => fun _ _ _ _ h => h
  | k + 1 => fun j i hj hi h => gl_sub p l s k j i hj hi (by
    have h2 : (gl p l s k j i && !pr p l (bi p l (gl p l s k)) j i) = true := h
    rw [Bool.and_eq_true] at h2
    exact h2.1)
/-- Each black cell of s is made by a press of the list. -/
def Cv (p : Fn6) (l : List (Nat × Nat)) (s : Fn6) : Prop := ∀ j i, j < 6 → i < 6 → s j i = true → ∃ k, k < l.length ∧ pr p l k j i = true
theorem gl_down (p : Fn6) (l : List (Nat × Nat)) (s : Fn6) (hc : Cv p l s) {k : Nat} (hw : wh9 (gl p l s k) = false) : 0 < l.length ∧ pc36 (gl p l s (k + 1)) ≤ pc36 (gl p l s k) - 1 := by
  have hx : ∃ j i, j < 6 ∧ i < 6 ∧ gl p l s k j i = true := by
    apply Classical.byContradiction
    intro hn
    have : wh9 (gl p l s k) = true := (wh_iff _).mpr fun j i hj hi => by
      cases hb : gl p l s k j i
      · rfl
      · exact absurd ⟨j, i, hj, hi, hb⟩ hn
    rw [hw] at this
    exact absurd this (by decide)
  obtain ⟨j, i, hj, hi, hb⟩ := hx
  obtain ⟨m, hm, hq⟩ := hc j i hj hi (gl_sub p l s k j i hj hi hb)
  have h1 : 1 ≤ pc36 (af (pr p l m) (gl p l s k)) := pc36_pos hj hi (by show (_ && _) = true; rw [hq, hb]; rfl)
  have h2 := mxi_max (fun i => pc36 (af (pr p l i) (gl p l s k))) (l.length - 1) m (by omega)
  refine ⟨by omega, ?_⟩
  show pc36 (an (gl p l s k) (pr p l (bi p l (gl p l s k)))) ≤ _
  rw [pc36_an]
  have h3 : pc36 (af (pr p l m) (gl p l s k)) ≤ pc36 (af (pr p l (bi p l (gl p l s k))) (gl p l s k)) := h2
  omega
theorem gl_end (p : Fn6) (l : List (Nat × Nat)) (s : Fn6) (hc : Cv p l s) : ∀ (n k : Nat), pc36 (gl p l s k) ≤ n → ∃ K, k ≤ K ∧ K ≤ k + n ∧ wh9 (gl p l s K) = true ∧ ∀ m, k ≤ m → m < K → wh9 (gl p l s m) = false
  | n, k, h => by
    cases hw : wh9 (gl p l s k)
    · obtain ⟨_, hd⟩ := gl_down p l s hc hw
      have h0 := (pc36_bd (gl p l s (k + 1))).1
      match n, h with
      | 0, h => omega
      | n + 1, h =>
        obtain ⟨K, h1, h2, h3, h4⟩ := gl_end p l s hc n (k + 1) (by omega)
        refine ⟨K, by omega, by omega, h3, fun m hm hmK => ?_⟩
        by_cases e : m = k
        · rw [e]
          exact hw
        · exact h4 m (by omega) hmK
    · exact ⟨k, Nat.le_refl _, by omega, hw, fun m h1 h2 => absurd h1 (by omega)⟩
theorem gl_stop (p : Fn6) (l : List (Nat × Nat)) (s : Fn6) (hc : Cv p l s) : ∃ K, K ≤ 36 ∧ wh9 (gl p l s K) = true ∧ ∀ m, m < K → wh9 (gl p l s m) = false ∧ 0 < l.length := by
  obtain ⟨K, _, h2, h3, h4⟩ := gl_end p l s hc 36 0 (pc36_bd s).2
  exact ⟨K, by omega, h3, fun m hm => ⟨h4 m (by omega) hm, (gl_down p l s hc (h4 m (by omega) hm)).1⟩⟩
/- Gq1 -/
theorem isnan_1 (a : Int) (w : World) : Calls Try.prog 201 #[.int .i64 a] w fun e w' => e = .returned (.bool false) ∧ w' = w := by
  go_enter Try.func201, Try.ntmps201
  go_wp2_with fail
  go_ret
  exact ⟨by simp, rfl⟩
/-- -1, 0 or 1. -/
def sg1 (a b : Int) : Int := if a < b then -1 else if b < a then 1 else 0
theorem cmpint_1 (a b : Int) (w : World) : Calls Try.prog 160 #[.int .i64 a, .int .i64 b] w fun e w' => e = .returned (.int .i64 (sg1 a b)) ∧ w' = w := by
  have H1 := Lib.hid (isnan_1 a)
  have H2 := Lib.hid (isnan_1 b)
  rcases Int.lt_trichotomy a b with h | h | h
  · have e : sg1 a b = -1 := by unfold sg1; rw [if_pos h]
    rw [e]
    go_enter Try.func160, Try.ntmps160
    go_wp2_with fail
    refine (H1.out _).mono ?_
    rintro e w' ⟨rfl, rfl⟩
    go_wp2_with fail
    refine (H2.out _).mono ?_
    rintro e w' ⟨rfl, rfl⟩
    go_wp2_with fail
    go_ret
    exact ⟨rfl, rfl⟩
  · subst h
    have e : sg1 a a = 0 := by unfold sg1; simp
    have hn : ¬ (a < a) := by omega
    rw [e]
    go_enter Try.func160, Try.ntmps160
    go_wp2_with fail
    refine (H1.out _).mono ?_
    rintro e w' ⟨rfl, rfl⟩
    go_wp2_with fail
    refine (H2.out _).mono ?_
    rintro e w' ⟨rfl, rfl⟩
    go_wp2_with fail
    go_ret
    exact ⟨rfl, rfl⟩
  · have hn : ¬ (a < b) := by omega
    have e : sg1 a b = 1 := by unfold sg1; rw [if_neg hn, if_pos h]
    rw [e]
    go_enter Try.func160, Try.ntmps160
    go_wp2_with fail
    refine (H1.out _).mono ?_
    rintro e w' ⟨rfl, rfl⟩
    go_wp2_with fail
    refine (H2.out _).mono ?_
    rintro e w' ⟨rfl, rfl⟩
    go_wp2_with fail
    go_ret
    exact ⟨rfl, rfl⟩
/-- A press, a field in a box of its own. -/
def o3 (x y : Nat) (f : Fn6) : Obj := .cells #[.int .i64 (x : Int), .int .i64 (y : Int), .int .u64 ((fd36 f : Nat) : Int)] 159 (0, 0)
def o1 (f : Fn6) : Obj := .cells #[.int .u64 ((fd36 f : Nat) : Int)] 104 (0, 0)
/-- Rows known and the box of what is left. -/
def Kc (w : World) (x y x2 y2 bx : Nat) (F G L : Fn6) (U : World) : Prop := KR 2 [(w.heap.size, o3 x y F), (w.heap.size + 1, o3 x2 y2 G)] w U ∧ U.heap[bx]? = some (o1 L)
theorem Kc.far {w U V : World} {x y x2 y2 bx M : Nat} {F G L : Fn6} (h : Kc w x y x2 y2 bx F G L U) (hb : Below M U V) (hM : M = U.heap.size) : Kc w x y x2 y2 bx F G L V := ⟨h.1.far hb hM, rowk h.2 hb hM⟩
theorem Kc.drew {w U : World} {x y x2 y2 bx : Nat} {F G L : Fn6} (h : Kc w x y x2 y2 bx F G L U) : Kc w x y x2 y2 bx F G L U.drew := ⟨h.1.drew, rowk h.2 (Below.refl U.heap.size U).drew rfl⟩
theorem SKc {w U : World} {x y x2 y2 bx : Nat} {F G L : Fn6} (h : Kc w x y x2 y2 bx F G L U) : U.cell? ⟨w.heap.size, 2, none⟩ = some (.int .u64 ((fd36 F : Nat) : Int)) ∧ U.cell? ⟨w.heap.size + 1, 2, none⟩ = some (.int .u64 ((fd36 G : Nat) : Int)) ∧ U.cell? ⟨bx, 0, none⟩ = some (.int .u64 ((fd36 L : Nat) : Int)) ∧ Kc w x y x2 y2 bx F G L U :=
  ⟨cell_of_row U _ 2 _ _ _ (h.1.row (g := w.heap.size) (o := o3 x y F) (List.mem_cons_self ..)), cell_of_row U _ 2 _ _ _ (h.1.row (g := w.heap.size + 1) (o := o3 x2 y2 G) (List.mem_cons_of_mem _ (List.mem_cons_self ..))), cell_of_row U _ 0 _ _ _ h.2, h⟩
theorem two_boxes2 (w : World) (o o2 : Obj) {W0 : World} (hB0 : Below w.heap.size w W0) (q0 : W0.heap[w.heap.size]? = some o) (q1 : W0.heap[w.heap.size + 1]? = some o2) (hs : w.heap.size + 2 ≤ W0.heap.size) : KR 2 [(w.heap.size, o), (w.heap.size + 1, o2)] w W0 := ⟨by simp [q0, q1], hs, hB0⟩
set_option maxHeartbeats 1000000 in
theorem clo_f (F G L : Fn6) (x y x2 y2 bx : Nat) (w : World) (hx : w.heap[bx]? = some (o1 L)) : Calls Try.prog 159 #[.agg #[.int .i64 (x : Int), .int .i64 (y : Int), .int .u64 ((fd36 F : Nat) : Int)], .agg #[.int .i64 (x2 : Int), .int .i64 (y2 : Int), .int .u64 ((fd36 G : Nat) : Int)], .pointer (some ⟨bx, 0, none⟩)] w fun e w' => e = .returned (.int .i64 (sg1 (pc36 (af F L)) (pc36 (af G L)))) ∧ Below w.heap.size w w' := by
  have hlt := row_lt hx
  have H1 := Lib.hid (fsize_s (af F L))
  have H2 := Lib.hid (fsize_s (af G L))
  have H3 := Lib.hid (cmpint_1 (pc36 (af F L)) (pc36 (af G L)))
  have e1 := fd_a F L
  have e2 := fd_a G L
  go_enter Try.func159, Try.ntmps159
  go_wp2_with fail
  generalize hW : (World.alloc _ _ : World) = W0
  have hk : Kc w x y x2 y2 bx F G L W0 := by
    rw [← hW]
    exact ⟨two_boxes2 w _ _ (by (repeat (first | exact Below.refl _ _ | assumption | refine Below.setCell ?_ (by first | (simp; done) | (simp; omega)) _ | refine Below.alloc ?_ (by first | (simp; done) | (simp; omega)) _ | refine Below.drew ?_))) (alloc_past (alloc_at rfl)) (alloc_at (by simp)) (by simp), rowk (N := w.heap.size) hx (by (repeat (first | exact Below.refl _ _ | assumption | refine Below.setCell ?_ (by first | (simp; done) | (simp; omega)) _ | refine Below.alloc ?_ (by first | (simp; done) | (simp; omega)) _ | refine Below.drew ?_))) rfl⟩
  clear hW hx
  set_option maxRecDepth 8000 in
  go_region_held3 (fun U => U.cell? ⟨w.heap.size, 2, none⟩ = some (.int .u64 ((fd36 F : Nat) : Int)) ∧ U.cell? ⟨w.heap.size + 1, 2, none⟩ = some (.int .u64 ((fd36 G : Nat) : Int)) ∧ U.cell? ⟨bx, 0, none⟩ = some (.int .u64 ((fd36 L : Nat) : Int)) ∧ Kc w x y x2 y2 bx F G L U) (with_reducible refine SKc ?_; (first | with_reducible assumption | (with_reducible refine Kc.drew ?_; with_reducible assumption))) (first | (go_at_call 104; first | (with_reducible refine (H1.out _).mono ?_; rintro e w' ⟨rfl, hb'⟩; have hk : Kc w x y x2 y2 bx F G L w' := Kc.far (by (first | with_reducible assumption | (with_reducible refine Kc.drew ?_; with_reducible assumption))) hb' rfl) | (with_reducible refine (H2.out _).mono ?_; rintro e w' ⟨rfl, hb'⟩; have hk : Kc w x y x2 y2 bx F G L w' := Kc.far (by (first | with_reducible assumption | (with_reducible refine Kc.drew ?_; with_reducible assumption))) hb' rfl)) | (go_at_call 160; with_reducible refine (H3.out _).mono ?_; rintro e w' ⟨rfl, rfl⟩))
  all_goals
    go_wp2_with fail
    go_ret
    exact ⟨rfl, hk.1.2.2⟩
/- Gr1 -/
/-- Presses as numbers, their row. -/
def tv (T : List (Nat × Nat × Nat)) : List Value := T.flatMap fun c => [.int .i64 (c.1 : Int), .int .i64 (c.2.1 : Int), .int .u64 (c.2.2 : Int)]
theorem tv_at : ∀ (T : List (Nat × Nat × Nat)) (k : Nat) (h : k < T.length), (tv T)[k * 3]? = some (.int .i64 (T[k].1 : Int)) ∧ (tv T)[k * 3 + 1]? = some (.int .i64 (T[k].2.1 : Int)) ∧ (tv T)[k * 3 + 2]? = some (.int .u64 (T[k].2.2 : Int)) := by
  intro T
  induction T with
  | nil => intro k h; simp at h
  | cons a l ih =>
    intro k h
    have e : tv (a :: l) = .int .i64 (a.1 : Int) :: .int .i64 (a.2.1 : Int) :: .int .u64 (a.2.2 : Int) :: tv l := rfl
    rcases k with _ | k
    · rw [e]; exact ⟨rfl, rfl, rfl⟩
    · have := ih k (by simpa using h)
      rw [e, show (k + 1) * 3 = k * 3 + 1 + 1 + 1 by omega]
      simp only [List.getElem?_cons_succ, List.getElem_cons_succ]
      exact this
theorem tv_set (x y f : Nat) : ∀ (T : List (Nat × Nat × Nat)) (i : Nat), i < T.length → (((tv T).set (i * 3) (.int .i64 (x : Int))).set (i * 3 + 1) (.int .i64 (y : Int))).set (i * 3 + 2) (.int .u64 (f : Int)) = tv (T.set i (x, y, f))
  | [], _, h => by simp at h
  | a :: T, 0, _ => rfl
  | a :: T, i + 1, h => by
    have ih := tv_set x y f T i (by simpa using h)
    have e : ∀ k, (i + 1) * 3 + k = (i * 3 + k) + 3 := fun k => by omega
    have e0 : (i + 1) * 3 = i * 3 + 3 := by omega
    rw [e 1, e 2, e0]
    show Value.int .i64 (a.1 : Int) :: .int .i64 (a.2.1 : Int) :: .int .u64 (a.2.2 : Int) :: _ = .int .i64 (a.1 : Int) :: .int .i64 (a.2.1 : Int) :: .int .u64 (a.2.2 : Int) :: tv (T.set i (x, y, f))
    rw [← ih]
    rfl
theorem tv_white : ∀ n : Nat, tv (List.replicate n (0, 0, 0)) = ((List.replicate n [Value.int .i64 0, .int .i64 0, .int .u64 0]).flatten)
  | 0 => rfl
  | n + 1 => by
    have ih := tv_white n
    simp only [List.replicate_succ, List.flatten_cons]
    rw [← ih]
    rfl
/-- A press at a cell, as numbers. -/
def tp (p : Fn6) (c : Nat × Nat) : Nat × Nat × Nat := (c.1, c.2, fd36 (sf c.1 c.2 p))
/-- The first i presses; the others are zero yet. -/
def pt (p : Fn6) (l : List (Nat × Nat)) (i : Nat) : List (Nat × Nat × Nat) := (l.take i).map (tp p) ++ List.replicate (l.length - i) (0, 0, 0)
theorem pt_len (p : Fn6) (l : List (Nat × Nat)) {i : Nat} (h : i ≤ l.length) : (pt p l i).length = l.length := by
  simp only [pt, List.length_append, List.length_map, List.length_take, List.length_replicate]
  omega
theorem pt_end (p : Fn6) (l : List (Nat × Nat)) : pt p l l.length = l.map (tp p) := by simp [pt]
theorem pt_at (p : Fn6) (l : List (Nat × Nat)) {i : Nat} (h : i < l.length) : (pt p l i)[i]? = some (0, 0, 0) := by
  unfold pt
  have e1 : ((l.take i).map (tp p)).length = i := by simp; omega
  rw [List.getElem?_append_right (by omega), e1, Nat.sub_self, show l.length - i = (l.length - (i + 1)) + 1 by omega, List.replicate_succ]
  rfl
theorem pt_set (p : Fn6) (l : List (Nat × Nat)) {i : Nat} (h : i < l.length) : (pt p l i).set i (tp p l[i]) = pt p l (i + 1) := by
  unfold pt
  have e1 : ((l.take i).map (tp p)).length = i := by simp; omega
  have e2 : l.length - i = (l.length - (i + 1)) + 1 := by omega
  rw [List.set_append_right _ _ (by omega), e1, Nat.sub_self, e2, List.replicate_succ, List.set_cons_zero, List.take_add_one, List.getElem?_eq_getElem h, List.map_append, List.append_assoc]
  rfl
theorem made3 (a b c : Value) : ∀ m, (madeCells #[a, b, c] (m * 3)).toList = (List.replicate m [a, b, c]).flatten
  | 0 => by simp [madeCells]
  | m + 1 => by
    have ih := made3 a b c m
    simp only [madeCells, Array.toList_map, Array.toList_range] at ih ⊢
    rw [show (m + 1) * 3 = 3 + m * 3 by omega, List.range_add, List.map_append, List.map_map, List.replicate_succ, List.flatten_cons, ← ih]
    refine congr (congrArg _ rfl) ?_
    apply List.map_congr_left
    intro k _
    show (#[a, b, c] : Array Value)[(3 + k) % 3]! = (#[a, b, c] : Array Value)[k % 3]!
    rw [Nat.add_mod_left]
theorem info3 : (Try.prog.info? 159).map (fun i => (i.zero, i.size, i.bytes)) = some (some (.agg #[.int .i64 0, .int .i64 0, .int .u64 0]), 3, 24) := by kernel_rfl
/-- Midway: i of the presses are made. -/
def Ro (w : World) (s p : Fn6) (l : List (Nat × Nat)) (g cap gs i : Nat) (W : World) : Prop :=
  KR 2 [(w.heap.size, o6 p), (w.heap.size + 1, o6 s)] w W ∧ W.ownsRow 0 25 2 (.slice (some ⟨g, 0, none⟩) l.length cap) l.length (cv l) ∧ W.ownsRow w.heap.size 159 3 (.slice (some ⟨gs, 0, none⟩) l.length l.length) l.length (tv (pt p l i)) ∧ w.heap.size + 2 ≤ gs ∧ g ≠ gs ∧ i ≤ l.length
theorem Ro.below {w W W' : World} {s p : Fn6} {l : List (Nat × Nat)} {g cap gs i M : Nat} (h : Ro w s p l g cap gs i W) (hb : Below M W W') (hM : M = W.heap.size) : Ro w s p l g cap gs i W' := by
  obtain ⟨h1, h2, h3, h4, h5, h6⟩ := h
  exact ⟨h1.far hb hM, h2.kept (grown_below hb hM) (.inr (by simp [Value.ownBlock])), h3.kept (grown_below hb hM) (.inr (by simp [Value.ownBlock])), h4, h5, h6⟩
theorem Ro.put {w W : World} {s p : Fn6} {l : List (Nat × Nat)} {g cap gs i : Nat} (h : Ro w s p l g cap gs i W) (hi : i < l.length) : Ro w s p l g cap gs (i + 1) (((W.setCell ⟨gs, i * 3, none⟩ (.int .i64 ((l[i].1 : Nat) : Int))).setCell ⟨gs, i * 3 + 1, none⟩ (.int .i64 ((l[i].2 : Nat) : Int))).setCell ⟨gs, i * 3 + 2, none⟩ (.int .u64 ((fd36 (sf (l[i]).1 (l[i]).2 p) : Nat) : Int))) := by
  obtain ⟨h1, h2, h3, h4, h5, h6⟩ := h
  have hk : ∀ (U : World) (j : Nat) (u : Value), U.ownsRow 0 25 2 (.slice (some ⟨g, 0, none⟩) l.length cap) l.length (cv l) → (U.setCell ⟨gs, j, none⟩ u).ownsRow 0 25 2 (.slice (some ⟨g, 0, none⟩) l.length cap) l.length (cv l) := fun U j u h => h.kept (grow_set U ⟨gs, j, none⟩ u) (.inr (by simp [Value.ownBlock, h5]))
  have e := tv_set l[i].1 l[i].2 (fd36 (sf (l[i]).1 (l[i]).2 p)) (pt p l i) i (by rw [pt_len p l h6]; exact hi)
  rw [show ((l[i].1, l[i].2, fd36 (sf (l[i]).1 (l[i]).2 p)) : Nat × Nat × Nat) = tp p l[i] from rfl, pt_set p l hi] at e
  refine ⟨h1.set h4 |>.set h4 |>.set h4, hk _ _ _ (hk _ _ _ (hk _ _ _ h2)), ?_, h4, h5, hi⟩
  rw [← e]
  exact (((h3.stored _ _).1.stored _ _).1.stored _ _).1
theorem Ro.cells {w W : World} {s p : Fn6} {l : List (Nat × Nat)} {g cap gs i : Nat} (h : Ro w s p l g cap gs i W) (hi : i < l.length) : W.cell? ⟨gs, i * 3, none⟩ = some (.int .i64 0) ∧ W.cell? ⟨gs, i * 3 + 1, none⟩ = some (.int .i64 0) ∧ W.cell? ⟨gs, i * 3 + 2, none⟩ = some (.int .u64 0) ∧ ∀ j, W.frozen? ⟨gs, j, none⟩ = false := by
  obtain ⟨h1, h2, h3, h4, h5, h6⟩ := h
  have hl : i < (pt p l i).length := by rw [pt_len p l h6]; exact hi
  obtain ⟨p0, p1, p2⟩ := tv_at (pt p l i) i hl
  have e : (pt p l i)[i] = (0, 0, 0) := by
    have := pt_at p l hi
    rw [List.getElem?_eq_getElem hl] at this
    exact Option.some.inj this
  rw [e] at p0 p1 p2
  exact ⟨own_at h3 p0, own_at h3 p1, own_at h3 p2, fun j => h3.frozenAt j⟩
theorem tv_made (n : Nat) : (madeCells #[.int .i64 0, .int .i64 0, .int .u64 0] (n * 3)).toList = tv (List.replicate n (0, 0, 0)) := by rw [made3, tv_white]
/-- What is answered: the open presses, in a row of their own. -/
def OPost (p : Fn6) (l : List (Nat × Nat)) (w : World) (e : Ending) (w' : World) : Prop := ∃ (g cap : Nat), e = .returned (.slice (some ⟨g, 0, none⟩) l.length cap) ∧ w'.ownsRow w.heap.size 159 3 (.slice (some ⟨g, 0, none⟩) l.length cap) l.length (tv (l.map (tp p))) ∧ Below w.heap.size w w'
/-- Midway in a round, with the cell in a block. -/
def Qx (w : World) (s p : Fn6) (l : List (Nat × Nat)) (g cap gs i gc x y : Nat) (U : World) : Prop := Ro w s p l g cap gs i U ∧ U.heap[gc]? = some (oc x y)
theorem Qx.below {w W W' : World} {s p : Fn6} {l : List (Nat × Nat)} {g cap gs i gc x y M : Nat} (h : Qx w s p l g cap gs i gc x y W) (hb : Below M W W') (hM : M = W.heap.size) : Qx w s p l g cap gs i gc x y W' := ⟨h.1.below hb hM, rowk h.2 hb hM⟩
theorem Qx.a {w U : World} {s p : Fn6} {l : List (Nat × Nat)} {g cap gs i gc x y : Nat} (h : Qx w s p l g cap gs i gc x y U) : ∀ j, U.cell? ⟨w.heap.size, j, none⟩ = (#[.int .i64 (rowv (p 0)), .int .i64 (rowv (p 1)), .int .i64 (rowv (p 2)), .int .i64 (rowv (p 3)), .int .i64 (rowv (p 4)), .int .i64 (rowv (p 5))] : Array Value)[j]? := fun j => cell_of_row U _ j _ _ _ (h.1.1.row (g := w.heap.size) (o := o6 p) (List.mem_cons_self ..))
theorem Qx.r {w U : World} {s p : Fn6} {l : List (Nat × Nat)} {g cap gs i gc x y : Nat} (h : Qx w s p l g cap gs i gc x y U) : Ro w s p l g cap gs i U := h.1
theorem Qx.c {w U : World} {s p : Fn6} {l : List (Nat × Nat)} {g cap gs i gc x y : Nat} (h : Qx w s p l g cap gs i gc x y U) : ∀ j, U.cell? ⟨gc, j, none⟩ = (#[.int .i64 (x : Int), .int .i64 (y : Int)] : Array Value)[j]? := fun j => cell_of_row U _ j _ _ _ h.2
/-- A number in a cell, as it stands. -/
def wk (U : World) (g j : Nat) : Int := intOf ((U.cell? ⟨g, j, none⟩).getD undef)
theorem wk_i {U : World} {g j : Nat} {n : Int} {k : IntKind} (h : U.cell? ⟨g, j, none⟩ = some (.int k n)) : U.cell? ⟨g, j, none⟩ = some (.int k (wk U g j)) := by
  unfold wk
  rw [h]
  rfl
/-- Midway in a round: the row of presses holds any numbers, the cell lies in a block. -/
def Qt (w : World) (s p : Fn6) (l : List (Nat × Nat)) (g cap gs i gc x y : Nat) (T : List (Nat × Nat × Nat)) (U : World) : Prop :=
  KR 2 [(w.heap.size, o6 p), (w.heap.size + 1, o6 s)] w U ∧ U.heap[gc]? = some (oc x y) ∧ U.ownsRow 0 25 2 (.slice (some ⟨g, 0, none⟩) l.length cap) l.length (cv l) ∧ U.ownsRow w.heap.size 159 3 (.slice (some ⟨gs, 0, none⟩) l.length l.length) l.length (tv T) ∧ w.heap.size + 2 ≤ gs ∧ g ≠ gs ∧ gc ≠ gs ∧ T.length = l.length ∧ i < l.length
theorem Qt.below {w W W' : World} {s p : Fn6} {l : List (Nat × Nat)} {g cap gs i gc x y M : Nat} {T : List (Nat × Nat × Nat)} (h : Qt w s p l g cap gs i gc x y T W) (hb : Below M W W') (hM : M = W.heap.size) : Qt w s p l g cap gs i gc x y T W' := by
  obtain ⟨h1, h2, h3, h4, h5⟩ := h
  exact ⟨h1.far hb hM, rowk h2 hb hM, h3.kept (grown_below hb hM) (.inr (by simp [Value.ownBlock])), h4.kept (grown_below hb hM) (.inr (by simp [Value.ownBlock])), h5⟩
theorem Qt.drew {w W : World} {s p : Fn6} {l : List (Nat × Nat)} {g cap gs i gc x y : Nat} {T : List (Nat × Nat × Nat)} (h : Qt w s p l g cap gs i gc x y T W) : Qt w s p l g cap gs i gc x y T W.drew := h.below (M := W.heap.size) (Below.refl _ _).drew rfl
theorem Qt.put {w W : World} {s p : Fn6} {l : List (Nat × Nat)} {g cap gs i gc x y : Nat} {T : List (Nat × Nat × Nat)} (h : Qt w s p l g cap gs i gc x y T W) (f : Nat) : Qt w s p l g cap gs i gc x y (T.set i (x, y, f)) (((W.setCell ⟨gs, i * 3, none⟩ (.int .i64 (x : Int))).setCell ⟨gs, i * 3 + 1, none⟩ (.int .i64 (y : Int))).setCell ⟨gs, i * 3 + 2, none⟩ (.int .u64 (f : Int))) := by
  obtain ⟨h1, h2, h3, h4, h5, h6, h7, h8, h9⟩ := h
  have hk : ∀ (U : World) (j : Nat) (u : Value), U.ownsRow 0 25 2 (.slice (some ⟨g, 0, none⟩) l.length cap) l.length (cv l) → (U.setCell ⟨gs, j, none⟩ u).ownsRow 0 25 2 (.slice (some ⟨g, 0, none⟩) l.length cap) l.length (cv l) := fun U j u h => h.kept (grow_set U ⟨gs, j, none⟩ u) (.inr (by simp [Value.ownBlock, h6]))
  refine ⟨h1.set h5 |>.set h5 |>.set h5, ?_, hk _ _ _ (hk _ _ _ (hk _ _ _ h3)), ?_, h5, h6, h7, by simpa using h8, h9⟩
  · rw [Below.heap_setCell _ _ _ _ h7, Below.heap_setCell _ _ _ _ h7, Below.heap_setCell _ _ _ _ h7]
    exact h2
  · rw [← tv_set x y f T i (by omega)]
    exact (((h4.stored _ _).1.stored _ _).1.stored _ _).1
/-- The same, the numbers unsaid. -/
def Qe (w : World) (s p : Fn6) (l : List (Nat × Nat)) (g cap gs i gc x y : Nat) (U : World) : Prop := ∃ T, Qt w s p l g cap gs i gc x y T U
theorem SKt {w U : World} {s p : Fn6} {l : List (Nat × Nat)} {g cap gs i gc x y : Nat} {T : List (Nat × Nat × Nat)} (h : Qt w s p l g cap gs i gc x y T U) : U.cell? ⟨w.heap.size, 0, none⟩ = some (.int .i64 (rowv (p 0))) ∧ U.cell? ⟨w.heap.size, 1, none⟩ = some (.int .i64 (rowv (p 1))) ∧ U.cell? ⟨w.heap.size, 2, none⟩ = some (.int .i64 (rowv (p 2))) ∧ U.cell? ⟨w.heap.size, 3, none⟩ = some (.int .i64 (rowv (p 3))) ∧ U.cell? ⟨w.heap.size, 4, none⟩ = some (.int .i64 (rowv (p 4))) ∧ U.cell? ⟨w.heap.size, 5, none⟩ = some (.int .i64 (rowv (p 5))) ∧ U.cell? ⟨gc, 0, none⟩ = some (.int .i64 (x : Int)) ∧ U.cell? ⟨gc, 1, none⟩ = some (.int .i64 (y : Int)) ∧ U.cell? ⟨gs, i * 3, none⟩ = some (.int .i64 (wk U gs (i * 3))) ∧ U.cell? ⟨gs, i * 3 + 1, none⟩ = some (.int .i64 (wk U gs (i * 3 + 1))) ∧ U.cell? ⟨gs, i * 3 + 2, none⟩ = some (.int .u64 (wk U gs (i * 3 + 2))) ∧ (∀ j, U.frozen? ⟨gs, j, none⟩ = false) ∧ Qe w s p l g cap gs i gc x y U := by
  have h0 := fun j => cell_of_row U _ j _ _ _ (h.1.row (g := w.heap.size) (o := o6 p) (List.mem_cons_self ..))
  have h2 := fun j => cell_of_row U _ j _ _ _ h.2.1
  have h4 := h.2.2.2.1
  have h8 := h.2.2.2.2.2.2.2
  obtain ⟨p0, p1, p2⟩ := tv_at T i (by omega)
  exact ⟨h0 0, h0 1, h0 2, h0 3, h0 4, h0 5, h2 0, h2 1, wk_i (own_at h4 p0), wk_i (own_at h4 p1), wk_i (own_at h4 p2), fun j => h4.frozenAt j, T, h⟩
theorem Qt.ro {w U : World} {s p : Fn6} {l : List (Nat × Nat)} {g cap gs i gc x y j : Nat} {T : List (Nat × Nat × Nat)} (h : Qt w s p l g cap gs i gc x y T U) (hT : T = pt p l j) (hj : j ≤ l.length) : Ro w s p l g cap gs j U := by
  obtain ⟨h1, h2, h3, h4, h5, h6, h7, h8, h9⟩ := h
  subst hT
  exact ⟨h1, h3, h4, h5, h6, hj⟩
theorem Ro.qt {w W : World} {s p : Fn6} {l : List (Nat × Nat)} {g cap gs i x y : Nat} (h : Ro w s p l g cap gs i W) (hi : i < l.length) : Qt w s p l g cap gs i W.heap.size x y (pt p l i) (W.alloc (oc x y)) := by
  have h2 := h.below ((Below.refl W.heap.size W).alloc (Nat.le_refl _) (oc x y)) rfl
  obtain ⟨h1, h3, h4, h5, h6, h7⟩ := h2
  have hl := (h.2.2.1.lt gs rfl).2
  exact ⟨h1, alloc_at rfl, h3, h4, h5, h6, by omega, pt_len p l h7, hi⟩
set_option maxHeartbeats 1000000 in
theorem opresses_f (p s : Fn6) (w : World) : Calls Try.prog 157 #[.agg #[.int .i64 (rowv (p 0)), .int .i64 (rowv (p 1)), .int .i64 (rowv (p 2)), .int .i64 (rowv (p 3)), .int .i64 (rowv (p 4)), .int .i64 (rowv (p 5))], .agg #[.int .i64 (rowv (s 0)), .int .i64 (rowv (s 1)), .int .i64 (rowv (s 2)), .int .i64 (rowv (s 3)), .int .i64 (rowv (s 4)), .int .i64 (rowv (s 5))]] w (OPost p (bl (shr s p) 36) w) := by
  have HF := Lib.hid (iopen6_yes p s)
  have hl36 := bl_len (shr s p) 36
  have HLm := Lib.hid (bl_lt (shr s p) 36 (Nat.le_refl _))
  generalize bl (shr s p) 36 = l at HF hl36 HLm ⊢
  obtain ⟨i0, hi, hz⟩ : ∃ i0, Try.prog.info? 159 = some i0 ∧ (i0.zero, i0.size, i0.bytes) = (some (.agg #[.int .i64 0, .int .i64 0, .int .u64 0]), 3, 24) := by
    have h := info3
    cases hh : Try.prog.info? 159 with
    | none => rw [hh] at h; simp at h
    | some i0 => rw [hh] at h; exact ⟨i0, rfl, by simpa using h⟩
  simp only [Prod.mk.injEq] at hz
  obtain ⟨hz0, hz1, hz2⟩ := hz
  go_enter Try.func157, Try.ntmps157
  go_wp2_with fail
  generalize hW : (World.alloc _ _ : World) = W0
  have K0 : KR 2 [(w.heap.size, o6 p), (w.heap.size + 1, o6 s)] w W0 := by
    rw [← hW]
    exact two_boxes w _ _ (by (repeat (first | exact Below.refl _ _ | assumption | refine Below.setCell ?_ (by first | (simp; done) | (simp; omega)) _ | refine Below.alloc ?_ (by first | (simp; done) | (simp; omega)) _ | refine Below.drew ?_))) (alloc_past (alloc_at rfl)) (alloc_at (by simp)) (by simp)
  clear hW
  have a_c := fun j => cell_of_row W0 _ j _ _ _ (K0.row (g := w.heap.size) (o := o6 p) (by simp))
  have b_c := fun j => cell_of_row W0 _ j _ _ _ (K0.row (g := w.heap.size + 1) (o := o6 s) (by simp))
  go_wp2_with fail
  refine (HF.out _).mono ?_
  rintro e W1 hp
  obtain ⟨g, cap, rfl, ho, hb⟩ := LPb.out hp
  have K1 := K0.far hb rfl
  have hg := (ho.lt g rfl).2
  have ho0 := own_mono ho (Nat.zero_le _)
  clear hb K0 ho a_c b_c hp
  go_wp2_with (refine wpList_make_full _ rfl _ _ 156 rfl w.heap.size 159 i0 (.agg #[.int .i64 0, .int .i64 0, .int .u64 0]) 3 Try.underlying156 hi hz0 hz1 .i64 .i64 _ _ l.length rfl rfl rfl rfl (by rw [hz2]; omega) (by unfold maxLen; omega) (by have := K1.le; omega) ?_)
  intro W2 hown hgr
  have S0 : Hid (Ro w s p l g cap W1.heap.size 0 W2) := Lib.hid ⟨K1.far ((Below.refl W1.heap.size W1).grown hgr (Nat.le_refl _) (by simp)) rfl, ho0.kept hgr (.inr (by simp [Value.ownBlock])), by
    have e : (madeCells #[.int .i64 0, .int .i64 0, .int .u64 0] (l.length * 3)).toList = tv (pt p l 0) := by
      rw [tv_made]
      exact congrArg tv (by simp [pt])
    rw [← e]
    exact hown, K1.le, by omega, Nat.zero_le _⟩
  clear hown hgr K1 ho0 hi hz0 hz1 hz2
  generalize W1.heap.size = gs at S0 ⊢
  clear hg W1 HF
  go_wp2_with fail
  go_loopw [21] (fun c wr => ∃ i : Nat, i ≤ l.length ∧ c = .int .i64 i ∧ Hid (Ro w s p l g cap gs i wr)) (fun c _ => l.length - (intOf c).toNat)
  case atStart => exact ⟨0, by omega, rfl, S0⟩
  case round =>
    obtain ⟨i, hi, rfl, HS⟩ := hrel
    by_cases hlt : i < l.length
    · have hlt' : (i : Int) < l.length := by omega
      have hi0 : (0 : Int) ≤ i := by omega
      have hi2 : i ≤ 36 := by omega
      obtain ⟨p1, p2⟩ := cv_at l i hlt
      have a1 := own_at HS.out.2.1 p1
      have a2 := own_at HS.out.2.1 p2
      clear p1 p2
      obtain ⟨m1, m2⟩ := HLm.out _ (List.getElem_mem hlt)
      have HF := Lib.hid (shifted_m p m1 m2)
      have HG := Lib.hid (fieldof_s (sf (l[i]).1 (l[i]).2 p))
      have HQ := Lib.hid (show Qt w s p l g cap gs i wr.heap.size l[i].1 l[i].2 (pt p l i) (wr.alloc (oc l[i].1 l[i].2)) from HS.out.qt hlt)
      have HP := Lib.hid (show (pt p l i).set i (l[i].1, l[i].2, fd36 (sf l[i].1 l[i].2 p)) = pt p l (i + 1) from pt_set p l hlt)
      generalize l[i] = c at a1 a2 HF HP HG HQ
      obtain ⟨x, y⟩ := c
      dsimp only at HP HF HG HQ a1 a2
      go_wp2_with fail
      have hq : Qt w s p l g cap gs i wr.heap.size x y (pt p l i) (wr.alloc (oc x y)) := HQ.out
      clear HS a1 a2 HQ
      generalize hW1 : wr.alloc (Obj.cells #[.int .i64 (x : Int), .int .i64 (y : Int)] 25) = W1
      rw [show wr.alloc (oc x y) = W1 from hW1] at hq
      clear hW1
      generalize wr.heap.size = gc at hq ⊢
      obtain ⟨T, hT⟩ : ∃ T, T = pt p l i := ⟨_, rfl⟩
      rw [← hT] at hq
      have HTe := Lib.hid hT
      clear hT
      obtain ⟨fd, hfd⟩ : ∃ fd, fd = fd36 (sf x y p) := ⟨_, rfl⟩
      have HFd := Lib.hid hfd
      rw [← hfd] at HG
      clear hfd
      set_option maxRecDepth 8000 in
      go_region_held3 (fun U => U.cell? ⟨w.heap.size, 0, none⟩ = some (.int .i64 (rowv (p 0))) ∧ U.cell? ⟨w.heap.size, 1, none⟩ = some (.int .i64 (rowv (p 1))) ∧ U.cell? ⟨w.heap.size, 2, none⟩ = some (.int .i64 (rowv (p 2))) ∧ U.cell? ⟨w.heap.size, 3, none⟩ = some (.int .i64 (rowv (p 3))) ∧ U.cell? ⟨w.heap.size, 4, none⟩ = some (.int .i64 (rowv (p 4))) ∧ U.cell? ⟨w.heap.size, 5, none⟩ = some (.int .i64 (rowv (p 5))) ∧ U.cell? ⟨gc, 0, none⟩ = some (.int .i64 (x : Int)) ∧ U.cell? ⟨gc, 1, none⟩ = some (.int .i64 (y : Int)) ∧ U.cell? ⟨gs, i * 3, none⟩ = some (.int .i64 (wk U gs (i * 3))) ∧ U.cell? ⟨gs, i * 3 + 1, none⟩ = some (.int .i64 (wk U gs (i * 3 + 1))) ∧ U.cell? ⟨gs, i * 3 + 2, none⟩ = some (.int .u64 (wk U gs (i * 3 + 2))) ∧ (∀ j, U.frozen? ⟨gs, j, none⟩ = false) ∧ Qe w s p l g cap gs i gc x y U) (first | (with_reducible refine SKt (T := T) ?_; (first | with_reducible assumption | (with_reducible refine Qt.drew ?_; with_reducible assumption))) | (with_reducible refine SKt (T := T.set i (x, y, fd)) ?_; (first | (with_reducible refine Qt.put ?_ fd; (first | with_reducible assumption | (with_reducible refine Qt.drew ?_; with_reducible assumption))) | (with_reducible refine Qt.drew ?_; with_reducible refine Qt.put ?_ fd; (first | with_reducible assumption | (with_reducible refine Qt.drew ?_; with_reducible assumption)))))) (first | (go_at_call 111; with_reducible refine (HF.out _).mono ?_; rintro e w' ⟨rfl, hb'⟩; have hq : Qt w s p l g cap gs i gc x y T w' := Qt.below (by (first | with_reducible assumption | (with_reducible refine Qt.drew ?_; with_reducible assumption))) hb' rfl) | (go_at_call 103; with_reducible refine (HG.out _).mono ?_; rintro e w' ⟨rfl, hb'⟩; have hq : Qt w s p l g cap gs i gc x y T w' := Qt.below (by (first | with_reducible assumption | (with_reducible refine Qt.drew ?_; with_reducible assumption))) hb' rfl))
      all_goals
        have HJ := Lib.hid (hq.put fd)
        rename_i hS
        clear hS hq HF HG
        generalize (World.setCell _ _ _ : World) = X at HJ ⊢
        go_wp2_with fail
        go_roundw
        case rel => exact ⟨i + 1, by omega, by go_num, Lib.hid (HJ.out.ro (by rw [HTe.out, HFd.out]; exact HP.out) hlt)⟩
        case measure => simp [intOf]; omega
    · obtain rfl : i = l.length := by omega
      obtain ⟨h1, h2, h3, h4, h5, h6⟩ := HS.out
      rw [pt_end] at h3
      have HO := Lib.hid h3
      have HB := Lib.hid h1.2.2
      clear h1 h2 h3 HS
      go_wp2_with fail
      go_ret
      exact ⟨gs, _, rfl, HO.out, HB.out⟩
/- Gq2 -/
theorem mxi_s (F : Nat → Int) (k : Nat) (h : F (mxi F k) < F (k + 1)) : mxi F (k + 1) = k + 1 := if_pos h
theorem mxi_n (F : Nat → Int) (k : Nat) (h : ¬ F (mxi F k) < F (k + 1)) : mxi F (k + 1) = mxi F k := if_neg h
theorem sg1_p {a b : Int} (h : a < b) : sg1 b a = 1 := by unfold sg1; rw [if_neg (by omega), if_pos h]
theorem sg1_n {a b : Int} (h : ¬ a < b) : sg1 b a = 0 ∨ sg1 b a = -1 := by
  unfold sg1
  by_cases h2 : b < a
  · rw [if_pos h2]; exact .inr rfl
  · rw [if_neg h2, if_neg h]; exact .inl rfl
/-- Midway: the greatest one so far lies in a block. -/
def Rm (w : World) (p L : Fn6) (l : List (Nat × Nat)) (g cap bx x y : Nat) (f : Fn6) (W : World) : Prop :=
  KR 1 [(w.heap.size, .cells #[.int .i64 0, .int .i64 0, .int .u64 0] 159 (0, 0))] w W ∧ W.heap[w.heap.size + 1]? = some (o3 x y f) ∧ W.ownsRow 0 159 3 (.slice (some ⟨g, 0, none⟩) l.length cap) l.length (tv (l.map (tp p))) ∧ W.heap[bx]? = some (o1 L) ∧ g < w.heap.size ∧ bx < w.heap.size
theorem Rm.below {w W W' : World} {p L : Fn6} {l : List (Nat × Nat)} {g cap bx x y M : Nat} {f : Fn6} (h : Rm w p L l g cap bx x y f W) (hb : Below M W W') (hM : M = W.heap.size) : Rm w p L l g cap bx x y f W' := by
  obtain ⟨h1, h2, h3, h4, h5⟩ := h
  exact ⟨h1.far hb hM, rowk h2 hb hM, h3.kept (grown_below hb hM) (.inr (by simp [Value.ownBlock])), rowk h4 hb hM, h5⟩
theorem Rm.drew {w W : World} {p L : Fn6} {l : List (Nat × Nat)} {g cap bx x y : Nat} {f : Fn6} (h : Rm w p L l g cap bx x y f W) : Rm w p L l g cap bx x y f W.drew := h.below (M := W.heap.size) (Below.refl _ _).drew rfl
theorem set3 {k : Nat} {W : World} {v0 v1 v2 : Value} {t : TypeId} (u0 u1 u2 : Value) (h : W.heap[k]? = some (Obj.cells #[v0, v1, v2] t (0, 0))) : (((W.setCell ⟨k, 0, none⟩ u0).setCell ⟨k, 1, none⟩ u1).setCell ⟨k, 2, none⟩ u2).heap[k]? = some (Obj.cells #[u0, u1, u2] t (0, 0)) := by
  have e0 := heap_setCell_same W k 0 _ t u0 h
  have e1 := heap_setCell_same _ k 1 _ t u1 e0
  have e2 := heap_setCell_same _ k 2 _ t u2 e1
  exact e2
theorem Rm.put {w W : World} {p L : Fn6} {l : List (Nat × Nat)} {g cap bx x y : Nat} {f : Fn6} (h : Rm w p L l g cap bx x y f W) (x2 y2 : Nat) (f2 : Fn6) : Rm w p L l g cap bx x2 y2 f2 (((W.setCell ⟨w.heap.size + 1, 0, none⟩ (.int .i64 (x2 : Int))).setCell ⟨w.heap.size + 1, 1, none⟩ (.int .i64 (y2 : Int))).setCell ⟨w.heap.size + 1, 2, none⟩ (.int .u64 ((fd36 f2 : Nat) : Int))) := by
  obtain ⟨h1, h2, h3, h4, h5, h6⟩ := h
  have hk : ∀ (U : World) (j : Nat) (u : Value), U.ownsRow 0 159 3 (.slice (some ⟨g, 0, none⟩) l.length cap) l.length (tv (l.map (tp p))) → (U.setCell ⟨w.heap.size + 1, j, none⟩ u).ownsRow 0 159 3 (.slice (some ⟨g, 0, none⟩) l.length cap) l.length (tv (l.map (tp p))) := fun U j u h => h.kept (grow_set U ⟨w.heap.size + 1, j, none⟩ u) (.inr (by simp [Value.ownBlock]; omega))
  refine ⟨h1.set (Nat.le_refl _) |>.set (Nat.le_refl _) |>.set (Nat.le_refl _), set3 _ _ _ h2, hk _ _ _ (hk _ _ _ (hk _ _ _ h3)), ?_, h5, h6⟩
  have hne : bx ≠ w.heap.size + 1 := by omega
  rw [Below.heap_setCell _ _ _ _ hne, Below.heap_setCell _ _ _ _ hne, Below.heap_setCell _ _ _ _ hne]
  exact h4
theorem lc_at (l : List (Nat × Nat)) {i : Nat} (h : i < l.length) : lc l i = l[i] := by
  unfold lc
  rw [List.getD_eq_getElem?_getD, List.getElem?_eq_getElem h]
  rfl
theorem tvp_at (p : Fn6) (l : List (Nat × Nat)) {i : Nat} (h : i < l.length) : (tv (l.map (tp p)))[i * 3]? = some (.int .i64 ((lc l i).1 : Int)) ∧ (tv (l.map (tp p)))[i * 3 + 1]? = some (.int .i64 ((lc l i).2 : Int)) ∧ (tv (l.map (tp p)))[i * 3 + 2]? = some (.int .u64 ((fd36 (pr p l i) : Nat) : Int)) := by
  have e := tv_at (l.map (tp p)) i (by simpa using h)
  rw [List.getElem_map] at e
  unfold pr
  rw [lc_at l h]
  exact e
theorem Rm.bx {w W : World} {p L : Fn6} {l : List (Nat × Nat)} {g cap bx x y : Nat} {f : Fn6} (h : Rm w p L l g cap bx x y f W) : W.heap[bx]? = some (o1 L) := h.2.2.2.1
theorem SKm1 {w U : World} {p L : Fn6} {l : List (Nat × Nat)} {g cap bx X Y i x y : Nat} {G f : Fn6} (ht : (tv (l.map (tp p)))[i * 3]? = some (.int .i64 (x : Int)) ∧ (tv (l.map (tp p)))[i * 3 + 1]? = some (.int .i64 (y : Int)) ∧ (tv (l.map (tp p)))[i * 3 + 2]? = some (.int .u64 ((fd36 f : Nat) : Int))) (h : Rm w p L l g cap bx X Y G U) : U.cell? ⟨g, i * 3, none⟩ = some (.int .i64 (x : Int)) ∧ U.cell? ⟨g, i * 3 + 1, none⟩ = some (.int .i64 (y : Int)) ∧ U.cell? ⟨g, i * 3 + 2, none⟩ = some (.int .u64 ((fd36 f : Nat) : Int)) ∧ U.cell? ⟨w.heap.size + 1, 0, none⟩ = some (.int .i64 (X : Int)) ∧ U.cell? ⟨w.heap.size + 1, 1, none⟩ = some (.int .i64 (Y : Int)) ∧ U.cell? ⟨w.heap.size + 1, 2, none⟩ = some (.int .u64 ((fd36 G : Nat) : Int)) ∧ Rm w p L l g cap bx X Y G U :=
  have h3 := h.2.2.1
  have h2 := fun j => cell_of_row U _ j _ _ _ h.2.1
  ⟨own_at h3 ht.1, own_at h3 ht.2.1, own_at h3 ht.2.2, h2 0, h2 1, h2 2, h⟩
theorem Rm.fr {w W : World} {p L : Fn6} {l : List (Nat × Nat)} {g cap bx x y : Nat} {f : Fn6} (h : Rm w p L l g cap bx x y f W) : ∀ j, W.frozen? ⟨w.heap.size + 1, j, none⟩ = false := fun j => frozen_of_row W _ j _ _ h.2.1
theorem Rm.z {w W : World} {p L : Fn6} {l : List (Nat × Nat)} {g cap bx x y : Nat} {f : Fn6} (h : Rm w p L l g cap bx x y f W) : W.heap[w.heap.size]? = some (.cells #[.int .i64 0, .int .i64 0, .int .u64 0] 159 (0, 0)) := h.1.row (List.mem_cons_self ..)
theorem Rm.start {w : World} {p L : Fn6} {l : List (Nat × Nat)} {g cap bx x y : Nat} {f : Fn6} (hO : w.ownsRow 0 159 3 (.slice (some ⟨g, 0, none⟩) l.length cap) l.length (tv (l.map (tp p)))) (hx : w.heap[bx]? = some (o1 L)) (hg : g < w.heap.size) (hbx : bx < w.heap.size) : Rm w p L l g cap bx x y f ((w.alloc (.cells #[.int .i64 0, .int .i64 0, .int .u64 0] 159 (0, 0))).alloc (o3 x y f)) := by
  have hB : Below w.heap.size w ((w.alloc (.cells #[.int .i64 0, .int .i64 0, .int .u64 0] 159 (0, 0))).alloc (o3 x y f)) := by (repeat (first | exact Below.refl _ _ | assumption | refine Below.setCell ?_ (by first | (simp; done) | (simp; omega)) _ | refine Below.alloc ?_ (by first | (simp; done) | (simp; omega)) _ | refine Below.drew ?_))
  have q0 : ((w.alloc (.cells #[.int .i64 0, .int .i64 0, .int .u64 0] 159 (0, 0))).alloc (o3 x y f)).heap[w.heap.size]? = some (.cells #[.int .i64 0, .int .i64 0, .int .u64 0] 159 (0, 0)) := alloc_past (alloc_at rfl)
  refine ⟨⟨?_, by simp, hB⟩, alloc_at (by simp), hO.kept (grown_below hB rfl) (.inr (by simp [Value.ownBlock])), rowk hx hB rfl, hg, hbx⟩
  intro q hq
  obtain rfl : q = _ := by simpa using hq
  exact ⟨by show w.heap.size < w.heap.size + 1; omega, q0⟩
set_option maxHeartbeats 1000000 in
theorem maxf_f (p L : Fn6) (l : List (Nat × Nat)) (hl : 0 < l.length) (hlen : l.length ≤ 36) (g cap bx : Nat) (w : World) (hO : w.ownsRow 0 159 3 (.slice (some ⟨g, 0, none⟩) l.length cap) l.length (tv (l.map (tp p)))) (hx : w.heap[bx]? = some (o1 L)) : Calls Try.prog 158 #[.slice (some ⟨g, 0, none⟩) l.length cap, .func (.func 159) #[] #[.pointer (some ⟨bx, 0, none⟩)]] w fun e w' => e = .returned (.agg #[.int .i64 ((lc l (bi p l L)).1 : Int), .int .i64 ((lc l (bi p l L)).2 : Int), .int .u64 ((fd36 (pr p l (bi p l L)) : Nat) : Int)]) ∧ Below w.heap.size w w' := by
  have hbx := row_lt hx
  have hg := (hO.lt g rfl).2
  have t0 := tvp_at p l hl
  have a0 := own_at hO t0.1
  have a1 := own_at hO t0.2.1
  have a2 := own_at hO t0.2.2
  have hn1 : ¬ (l.length : Int) < 1 := by omega
  clear t0
  have HO := Lib.hid hO
  have HX := Lib.hid hx
  clear hO hx
  rw [show (0 * 3 : Nat) = 0 from rfl] at a0
  rw [show (0 * 3 + 1 : Nat) = 1 from rfl] at a1
  rw [show (0 * 3 + 2 : Nat) = 2 from rfl] at a2
  obtain ⟨F, hF⟩ : ∃ F : Nat → Int, F = fun i => pc36 (af (pr p l i) L) := ⟨_, rfl⟩
  have hbi : bi p l L = mxi F (l.length - 1) := by rw [hF]; rfl
  have HF := Lib.hid hF
  rw [hbi]
  clear hbi hF
  go_enter Try.func158, Try.ntmps158
  go_wp2_with fail
  have S0 : Hid (Rm w p L l g cap bx (lc l (mxi F 0)).1 (lc l (mxi F 0)).2 (pr p l (mxi F 0)) ((w.alloc (.cells #[.int .i64 0, .int .i64 0, .int .u64 0] 159 (0, 0))).alloc (o3 (lc l 0).1 (lc l 0).2 (pr p l 0)))) := Lib.hid (Rm.start HO.out HX.out hg hbx)
  unfold o3 at S0
  generalize (World.alloc (World.alloc w _) _ : World) = W0 at S0 ⊢
  clear a0 a1 a2 HO HX
  go_loopw [6] (fun n wr => ∃ k : Nat, k + 1 ≤ l.length ∧ n = .int .i64 ((k + 1 : Nat) : Int) ∧ Hid (Rm w p L l g cap bx (lc l (mxi F k)).1 (lc l (mxi F k)).2 (pr p l (mxi F k)) wr)) (fun n _ => l.length - (intOf n).toNat)
  case atStart => exact ⟨0, by omega, rfl, S0⟩
  case round =>
    obtain ⟨t, ht, rfl, HS⟩ := hrel
    by_cases hlt : t + 1 < l.length
    · obtain ⟨i, hi⟩ : ∃ i, i = t + 1 := ⟨_, rfl⟩
      have HI := Lib.hid hi
      have hil : i < l.length := by omega
      have htv := tvp_at p l hil
      have HYes := Lib.hid (mxi_s F t)
      have HNo := Lib.hid (mxi_n F t)
      rw [← hi] at HYes HNo ⊢
      have hlt' : (i : Int) < l.length := by omega
      have hi0 : (0 : Int) ≤ i := by omega
      have hi2 : i ≤ 36 := by omega
      obtain ⟨v, hv⟩ : ∃ v, v = sg1 (F i) (F (mxi F t)) := ⟨_, rfl⟩
      have hcs : (v = 1 ∧ mxi F i = i) ∨ (v = 0 ∧ mxi F i = mxi F t) ∨ (v = -1 ∧ mxi F i = mxi F t) := by
        by_cases hc : F (mxi F t) < F i
        · exact .inl ⟨hv.trans (sg1_p hc), HYes.out hc⟩
        · rcases sg1_n hc with h | h
          · exact .inr (.inl ⟨hv.trans h, HNo.out hc⟩)
          · exact .inr (.inr ⟨hv.trans h, HNo.out hc⟩)
      have HCs := Lib.hid hcs
      have HK : Hid (∀ w2 : World, w2.heap[bx]? = some (o1 L) → Calls Try.prog 159 #[.agg #[.int .i64 ((lc l i).1 : Int), .int .i64 ((lc l i).2 : Int), .int .u64 ((fd36 (pr p l i) : Nat) : Int)], .agg #[.int .i64 ((lc l (mxi F t)).1 : Int), .int .i64 ((lc l (mxi F t)).2 : Int), .int .u64 ((fd36 (pr p l (mxi F t)) : Nat) : Int)], .pointer (some ⟨bx, 0, none⟩)] w2 fun e w' => e = .returned (.int .i64 v) ∧ Below w2.heap.size w2 w') := Lib.hid fun w2 h2 => by
        have h := clo_f (pr p l i) (pr p l (mxi F t)) L (lc l i).1 (lc l i).2 (lc l (mxi F t)).1 (lc l (mxi F t)).2 bx w2 h2
        rw [hv, HF.out]
        rw [HF.out] at h
        exact h
      clear hv hcs HYes HNo hi
      have hq : Rm w p L l g cap bx (lc l (mxi F t)).1 (lc l (mxi F t)).2 (pr p l (mxi F t)) wr := HS.out
      clear HS
      have HE : Hid (mxi F i = i → (lc l (mxi F i)).1 = (lc l i).1 ∧ (lc l (mxi F i)).2 = (lc l i).2 ∧ pr p l (mxi F i) = pr p l i) := Lib.hid fun h => by rw [h]; exact ⟨rfl, rfl, rfl⟩
      have HE2 : Hid (mxi F i = mxi F t → (lc l (mxi F i)).1 = (lc l (mxi F t)).1 ∧ (lc l (mxi F i)).2 = (lc l (mxi F t)).2 ∧ pr p l (mxi F i) = pr p l (mxi F t)) := Lib.hid fun h => by rw [h]; exact ⟨rfl, rfl, rfl⟩
      generalize (lc l i).1 = x at *
      generalize (lc l i).2 = y at *
      generalize pr p l i = f at *
      generalize (lc l (mxi F t)).1 = X at *
      generalize (lc l (mxi F t)).2 = Y at *
      generalize pr p l (mxi F t) = G at *
      go_wp2_with fail
      set_option maxRecDepth 8000 in
      go_region_held3 (fun U => U.cell? ⟨g, i * 3, none⟩ = some (.int .i64 (x : Int)) ∧ U.cell? ⟨g, i * 3 + 1, none⟩ = some (.int .i64 (y : Int)) ∧ U.cell? ⟨g, i * 3 + 2, none⟩ = some (.int .u64 ((fd36 f : Nat) : Int)) ∧ U.cell? ⟨w.heap.size + 1, 0, none⟩ = some (.int .i64 (X : Int)) ∧ U.cell? ⟨w.heap.size + 1, 1, none⟩ = some (.int .i64 (Y : Int)) ∧ U.cell? ⟨w.heap.size + 1, 2, none⟩ = some (.int .u64 ((fd36 G : Nat) : Int)) ∧ Rm w p L l g cap bx X Y G U) (with_reducible refine SKm1 htv ?_; (first | with_reducible assumption | (with_reducible refine Rm.drew ?_; with_reducible assumption))) (first | (go_at_call 159; refine (HK.out _ (Rm.bx (w := w) (p := p) (L := L) (l := l) (g := g) (cap := cap) (x := X) (y := Y) (f := G) (by (first | with_reducible assumption | (with_reducible refine Rm.drew ?_; with_reducible assumption))))).mono ?_; rintro e w' ⟨rfl, hb'⟩; have hq : Rm w p L l g cap bx X Y G w' := Rm.below (by (first | with_reducible assumption | (with_reducible refine Rm.drew ?_; with_reducible assumption))) hb' rfl))
      all_goals
        have HJ := Lib.hid hq
        obtain ⟨c0, c1, c2, b0, b1, b2, _⟩ := SKm1 htv hq
        have b_f := Rm.fr hq
        rename_i hS _
        clear hS hq HK htv S0
        rcases HCs.out with ⟨hv, he⟩ | ⟨hv, he⟩ | ⟨hv, he⟩
        · subst hv
          obtain ⟨e1, e2, e3⟩ := HE.out he
          have HI2 := Lib.hid (HJ.out.put x y f)
          clear HCs HE HE2 he HJ
          have HEs := Lib.hid (And.intro e1 (And.intro e2 e3))
          clear e1 e2 e3
          go_wp2_with fail
          go_roundw
          case rel => exact ⟨i, by omega, by go_num, by rw [HEs.out.1, HEs.out.2.1, HEs.out.2.2]; exact HI2⟩
          case measure => have := HI.out; simp [intOf]; omega
        · subst hv
          have HEs := Lib.hid (HE2.out he)
          clear HCs HE HE2 he
          go_wp2_with fail
          go_roundw
          case rel => exact ⟨i, by omega, by go_num, by rw [HEs.out.1, HEs.out.2.1, HEs.out.2.2]; exact HJ⟩
          case measure => have := HI.out; simp [intOf]; omega
        · subst hv
          have HEs := Lib.hid (HE2.out he)
          clear HCs HE HE2 he
          go_wp2_with fail
          go_roundw
          case rel => exact ⟨i, by omega, by go_num, by rw [HEs.out.1, HEs.out.2.1, HEs.out.2.2]; exact HJ⟩
          case measure => have := HI.out; simp [intOf]; omega
    · have hE : l.length - 1 = t := by omega
      have hE2 := Lib.hid (show (lc l (mxi F (l.length - 1))).1 = (lc l (mxi F t)).1 ∧ (lc l (mxi F (l.length - 1))).2 = (lc l (mxi F t)).2 ∧ pr p l (mxi F (l.length - 1)) = pr p l (mxi F t) by rw [hE]; exact ⟨rfl, rfl, rfl⟩)
      have hnl : ¬ (((t + 1 : Nat) : Int) < (l.length : Int)) := by omega
      obtain ⟨N, hN⟩ : ∃ N : Int, N = ((t + 1 : Nat) : Int) := ⟨_, rfl⟩
      rw [← hN] at hnl ⊢
      clear hE hN S0
      generalize (lc l (mxi F t)).1 = X at *
      generalize (lc l (mxi F t)).2 = Y at *
      generalize pr p l (mxi F t) = G at *
      have b_c := fun j => cell_of_row wr _ j _ _ _ HS.out.2.1
      have z_c := fun j => cell_of_row wr _ j _ _ _ HS.out.z
      have z_f := fun j => frozen_of_row wr _ j _ _ HS.out.z
      go_wp2_with fail
      have qx := set3 (.int .i64 (X : Int)) (.int .i64 (Y : Int)) (.int .u64 ((fd36 G : Nat) : Int)) HS.out.z
      have hB : Below w.heap.size w (((wr.setCell ⟨w.heap.size, 0, none⟩ (.int .i64 (X : Int))).setCell ⟨w.heap.size, 1, none⟩ (.int .i64 (Y : Int))).setCell ⟨w.heap.size, 2, none⟩ (.int .u64 ((fd36 G : Nat) : Int))) := by
        have hb := HS.out.1.2.2
        (repeat (first | exact Below.refl _ _ | assumption | refine Below.setCell ?_ (by first | (simp; done) | (simp; omega)) _ | refine Below.alloc ?_ (by first | (simp; done) | (simp; omega)) _ | refine Below.drew ?_))
      generalize (World.setCell _ _ _ : World) = Xw at qx hB ⊢
      have x_c := fun j => cell_of_row Xw _ j _ _ _ qx
      exact bodyPost_ret (v := .agg #[.int .i64 (X : Int), .int .i64 (Y : Int), .int .u64 ((fd36 G : Nat) : Int)]) (by simp [results, Try.results158, go_sem, x_c]) rfl ⟨by rw [hE2.out.1, hE2.out.2.1, hE2.out.2.2], hB⟩
/- Gs1 -/
set_option maxHeartbeats 1000000 in
theorem ican_t (a0 a1 a2 a3 a4 a5 : Int) (b0 b1 b2 b3 b4 b5 : Int) (r : Bool) (HF : Hid (∀ w, Calls Try.prog 200 #[.agg #[.int .i64 a0, .int .i64 a1, .int .i64 a2, .int .i64 a3, .int .i64 a4, .int .i64 a5], .agg #[.int .i64 b0, .int .i64 b1, .int .i64 b2, .int .i64 b3, .int .i64 b4, .int .i64 b5]] w fun e w' => e = .returned (.tuple #[.bool r, .bool true]) ∧ Below w.heap.size w w')) (w : World) : Calls Try.prog 156 #[.agg #[.int .i64 a0, .int .i64 a1, .int .i64 a2, .int .i64 a3, .int .i64 a4, .int .i64 a5], .agg #[.int .i64 b0, .int .i64 b1, .int .i64 b2, .int .i64 b3, .int .i64 b4, .int .i64 b5]] w fun e w' => e = .returned (.bool r) ∧ Below w.heap.size w w' := by
  go_enter Try.func156, Try.ntmps156
  go_wp2_with fail
  generalize hW : (World.alloc _ _ : World) = W0
  have K0 : KR 2 [(w.heap.size, os a0 a1 a2 a3 a4 a5), (w.heap.size + 1, os b0 b1 b2 b3 b4 b5)] w W0 := by
    rw [← hW]
    exact two_boxes w _ _ (by (repeat (first | exact Below.refl _ _ | assumption | refine Below.setCell ?_ (by first | (simp; done) | (simp; omega)) _ | refine Below.alloc ?_ (by first | (simp; done) | (simp; omega)) _ | refine Below.drew ?_))) (alloc_past (alloc_at rfl)) (alloc_at (by simp)) (by simp)
  clear hW
  have a_c := fun j => cell_of_row W0 _ j _ _ _ (K0.row (g := w.heap.size) (o := os a0 a1 a2 a3 a4 a5) (by simp))
  have b_c := fun j => cell_of_row W0 _ j _ _ _ (K0.row (g := w.heap.size + 1) (o := os b0 b1 b2 b3 b4 b5) (by simp))
  go_wp2_with fail
  refine (HF.out _).mono ?_
  rintro e W1 ⟨rfl, hb⟩
  have HB := Lib.hid (K0.far hb rfl).2.2
  clear hb K0 a_c b_c
  go_wp2_with fail
  go_ret
  exact ⟨rfl, HB.out⟩
set_option maxHeartbeats 1000000 in
theorem ican_f (a0 a1 a2 a3 a4 a5 : Int) (b0 b1 b2 b3 b4 b5 : Int) (r : Bool) (HF : Hid (∀ w, Calls Try.prog 200 #[.agg #[.int .i64 a0, .int .i64 a1, .int .i64 a2, .int .i64 a3, .int .i64 a4, .int .i64 a5], .agg #[.int .i64 b0, .int .i64 b1, .int .i64 b2, .int .i64 b3, .int .i64 b4, .int .i64 b5]] w fun e w' => e = .returned (.tuple #[.bool r, .bool false]) ∧ Below w.heap.size w w')) (w : World) : Calls Try.prog 156 #[.agg #[.int .i64 a0, .int .i64 a1, .int .i64 a2, .int .i64 a3, .int .i64 a4, .int .i64 a5], .agg #[.int .i64 b0, .int .i64 b1, .int .i64 b2, .int .i64 b3, .int .i64 b4, .int .i64 b5]] w fun e w' => e = .returned (.bool false) ∧ Below w.heap.size w w' := by
  go_enter Try.func156, Try.ntmps156
  go_wp2_with fail
  generalize hW : (World.alloc _ _ : World) = W0
  have K0 : KR 2 [(w.heap.size, os a0 a1 a2 a3 a4 a5), (w.heap.size + 1, os b0 b1 b2 b3 b4 b5)] w W0 := by
    rw [← hW]
    exact two_boxes w _ _ (by (repeat (first | exact Below.refl _ _ | assumption | refine Below.setCell ?_ (by first | (simp; done) | (simp; omega)) _ | refine Below.alloc ?_ (by first | (simp; done) | (simp; omega)) _ | refine Below.drew ?_))) (alloc_past (alloc_at rfl)) (alloc_at (by simp)) (by simp)
  clear hW
  have a_c := fun j => cell_of_row W0 _ j _ _ _ (K0.row (g := w.heap.size) (o := os a0 a1 a2 a3 a4 a5) (by simp))
  have b_c := fun j => cell_of_row W0 _ j _ _ _ (K0.row (g := w.heap.size + 1) (o := os b0 b1 b2 b3 b4 b5) (by simp))
  go_wp2_with fail
  refine (HF.out _).mono ?_
  rintro e W1 ⟨rfl, hb⟩
  have HB := Lib.hid (K0.far hb rfl).2.2
  clear hb K0 a_c b_c
  go_wp2_with fail
  go_ret
  exact ⟨rfl, HB.out⟩
/-- Midway: what is taken, the presses, what is left. -/
def Rs (w : World) (p s : Fn6) (l : List (Nat × Nat)) (gp cap bx : Nat) (xs : List (Nat × Nat)) (v : Value) (L : Fn6) (W : World) : Prop :=
  Rl 2 [(w.heap.size, o6 p), (w.heap.size + 1, o6 s)] w xs v W ∧ W.ownsRow 0 159 3 (.slice (some ⟨gp, 0, none⟩) l.length cap) l.length (tv (l.map (tp p))) ∧ W.heap[bx]? = some (o1 L) ∧ v.ownBlock ≠ some gp ∧ v.ownBlock ≠ some bx ∧ gp ≠ bx ∧ w.heap.size + 2 ≤ bx
theorem Rs.below {w W W' : World} {p s L : Fn6} {l xs : List (Nat × Nat)} {gp cap bx M : Nat} {v : Value} (h : Rs w p s l gp cap bx xs v L W) (hb : Below M W W') (hM : M = W.heap.size) : Rs w p s l gp cap bx xs v L W' := by
  obtain ⟨h1, h2, h3, h4⟩ := h
  exact ⟨h1.below hb hM, h2.kept (grown_below hb hM) (.inr (by simp [Value.ownBlock])), rowk h3 hb hM, h4⟩
theorem Rs.alloc {w W : World} {p s L : Fn6} {l xs : List (Nat × Nat)} {gp cap bx : Nat} {v : Value} (h : Rs w p s l gp cap bx xs v L W) (o : Obj) : Rs w p s l gp cap bx xs v L (W.alloc o) := h.below (M := W.heap.size) ((Below.refl _ _).alloc (Nat.le_refl _) o) rfl
theorem Rs.snoc {w W w1 : World} {p s L : Fn6} {l xs : List (Nat × Nat)} {gp cap bx x y : Nat} {v v' : Value} (h : Rs w p s l gp cap bx xs v L W) (hown : w1.ownsRow (w.heap.size + 2) 25 2 v' (xs.length + 1) (cv xs ++ [.int .i64 (x : Int), .int .i64 (y : Int)])) (hg : W.grownBy w1 v.ownBlock) (hn : v' = .slice none 0 0 ↔ v = .slice none 0 0 ∧ 1 = 0) (hat : v'.ownBlock = v.ownBlock ∨ v'.ownBlock = some W.heap.size) : Rs w p s l gp cap bx (xs ++ [(x, y)]) v' L w1 := by
  obtain ⟨h1, h2, h3, h4, h5, h6, h7⟩ := h
  have hb := row_lt h3
  have hp := (h2.lt gp rfl).2
  refine ⟨h1.snoc hown hg hn, h2.kept hg (.inr (fun e => h4 (by rw [← e]; rfl))), ?_, ?_, ?_, h6, h7⟩
  · rw [hg.block bx hb (fun e => h5 e.symm)]
    exact h3
  · rcases hat with e | e
    · rw [e]; exact h4
    · rw [e]; simp; omega
  · rcases hat with e | e
    · rw [e]; exact h5
    · rw [e]; simp; omega
theorem Rs.next {w W : World} {p s L : Fn6} {l xs : List (Nat × Nat)} {gp cap bx : Nat} {v : Value} (h : Rs w p s l gp cap bx xs v L W) (L2 : Fn6) : Rs w p s l gp cap W.heap.size xs v L2 ((W.setCell ⟨bx, 0, none⟩ (.int .u64 ((fd36 L2 : Nat) : Int))).alloc (o1 L2)) := by
  obtain ⟨⟨h1, g, c, hv, ho⟩, h2, h3, h4, h5, h6, h7⟩ := h
  have hb := row_lt h3
  have hp := (h2.lt gp rfl).2
  have hgr := grow_set W ⟨bx, 0, none⟩ (.int .u64 ((fd36 L2 : Nat) : Int))
  have hs : (W.setCell ⟨bx, 0, none⟩ (.int .u64 ((fd36 L2 : Nat) : Int))).heap.size = W.heap.size := by simp
  have hvl : v.ownBlock = some g := by rw [hv]; rfl
  have hgl := (ho.lt g hvl).2
  have A := (Below.refl (W.setCell ⟨bx, 0, none⟩ (.int .u64 ((fd36 L2 : Nat) : Int))).heap.size (W.setCell ⟨bx, 0, none⟩ (.int .u64 ((fd36 L2 : Nat) : Int)))).alloc (Nat.le_refl _) (o1 L2)
  have r1 : Rl 2 [(w.heap.size, o6 p), (w.heap.size + 1, o6 s)] w xs v (W.setCell ⟨bx, 0, none⟩ (.int .u64 ((fd36 L2 : Nat) : Int))) := ⟨h1.set h7, g, c, hv, ho.kept hgr (.inr h5)⟩
  have r2 := h2.kept hgr (.inr (by simp [Value.ownBlock, h6]))
  refine ⟨r1.below A rfl, r2.kept (grown_below A rfl) (.inr (by simp [Value.ownBlock])), alloc_at hs.symm, h4, ?_, by omega, by have := h1.2.1; omega⟩
  rw [hvl]
  simp
  omega
theorem Rl.own {n : Nat} {L : List (Nat × Obj)} {w W : World} {xs : List (Nat × Nat)} {v : Value} (h : Rl n L w xs v W) : W.ownsRow (w.heap.size + n) 25 2 v xs.length (cv xs) := by
  obtain ⟨_, g, c, _, h3⟩ := h
  exact h3
theorem gk {W w1 : World} {o : Obj} {v : Value} {k : Nat} (hk : W.heap[k]? = some o) (hg : W.grownBy w1 v.ownBlock) (hne : v.ownBlock ≠ some k) : w1.heap[k]? = some o := by
  rw [hg.block k (row_lt hk) (fun e => hne e.symm)]
  exact hk
theorem two_new' (W : World) (o : Obj) (u0 u1 : Value) (j : Nat) (u : Value) (h : ([u0, u1] : List Value)[j]? = some u) : ((W.alloc o).alloc (.cells #[u0, u1] 25)).cell? ((⟨W.heap.size + 1, 0, none⟩ : Addr).add j) = some u := by
  have := two_new (W.alloc o) u0 u1 25 j u h
  rw [show (W.alloc o).heap.size = W.heap.size + 1 by simp] at this
  exact this
/-- How long a slice is. -/
def sln (v : Value) : Nat := match v with
  | .slice _ n _ => n
  | _ => 0
theorem Rs.start {w W W4 : World} {p s : Fn6} {l : List (Nat × Nat)} {gp cap : Nat} {v : Value} (h : Rl 2 [(w.heap.size, o6 p), (w.heap.size + 1, o6 s)] w [] v W) (ho : W4.ownsRow W.heap.size 159 3 (.slice (some ⟨gp, 0, none⟩) l.length cap) l.length (tv (l.map (tp p)))) (hb : Below W.heap.size W W4) : Rs w p s l gp cap W4.heap.size [] v s (W4.alloc (o1 s)) := by
  have A := (Below.refl W4.heap.size W4).alloc (Nat.le_refl _) (o1 s)
  obtain ⟨h1, g, c, hv, hr⟩ := h
  have hvl : v.ownBlock = some g := by rw [hv]; rfl
  have hgl := (hr.lt g hvl).2
  have hp := ho.lt gp rfl
  have h4 := (h1.far hb rfl).2.1
  refine ⟨(Rl.below ⟨h1, g, c, hv, hr⟩ hb rfl).below A rfl, (own_mono ho (Nat.zero_le _)).kept (grown_below A rfl) (.inr (by simp [Value.ownBlock])), alloc_at rfl, ?_, ?_, by omega, by omega⟩
  · rw [hvl]; simp; omega
  · rw [hvl]; have := hb.size; simp; omega
set_option maxRecDepth 8000 in
set_option maxHeartbeats 2000000 in
theorem igreedy_yes (p s : Fn6) (l : List (Nat × Nat)) (hll : l = bl (shr s p) 36) (K : Nat) (hK : K ≤ 36) (hw : wh9 (gl p l s K) = true) (hn : ∀ m, m < K → wh9 (gl p l s m) = false ∧ 0 < l.length) (HC : Hid (∀ w, Calls Try.prog 156 #[.agg #[.int .i64 (rowv (p 0)), .int .i64 (rowv (p 1)), .int .i64 (rowv (p 2)), .int .i64 (rowv (p 3)), .int .i64 (rowv (p 4)), .int .i64 (rowv (p 5))], .agg #[.int .i64 (rowv (s 0)), .int .i64 (rowv (s 1)), .int .i64 (rowv (s 2)), .int .i64 (rowv (s 3)), .int .i64 (rowv (s 4)), .int .i64 (rowv (s 5))]] w fun e w' => e = .returned (.bool true) ∧ Below w.heap.size w w')) (w : World) : Calls Try.prog 82 #[.agg #[.int .i64 (rowv (p 0)), .int .i64 (rowv (p 1)), .int .i64 (rowv (p 2)), .int .i64 (rowv (p 3)), .int .i64 (rowv (p 4)), .int .i64 (rowv (p 5))], .agg #[.int .i64 (rowv (s 0)), .int .i64 (rowv (s 1)), .int .i64 (rowv (s 2)), .int .i64 (rowv (s 3)), .int .i64 (rowv (s 4)), .int .i64 (rowv (s 5))]] w (LPb (gc p l s K) true w) := by
  obtain ⟨i0, hi, hz0, hz1, hz2⟩ := info_parts info44
  have HO := Lib.hid (opresses_f p s)
  rw [← hll] at HO
  have hl36 : l.length ≤ 36 := by rw [hll]; exact bl_len _ 36
  have HFs := Lib.hid (fieldof_s s)
  have HMx := Lib.hid (fun L h1 => maxf_f p L l h1 hl36)
  have HN := Lib.hid hn
  have HW := Lib.hid hw
  clear hn hw hll
  go_enter Try.func82, Try.ntmps82
  go_wp2_with fail
  generalize hW : (World.alloc (World.alloc w _) _ : World) = W0
  have hsz : W0.heap.size = w.heap.size + 1 + 1 := by rw [← hW]; simp
  have K0 : KR 2 [(w.heap.size, o6 p), (w.heap.size + 1, o6 s)] w W0 := by
    rw [← hW]
    exact two_boxes w _ _ (by (repeat (first | exact Below.refl _ _ | assumption | refine Below.setCell ?_ (by first | (simp; done) | (simp; omega)) _ | refine Below.alloc ?_ (by first | (simp; done) | (simp; omega)) _ | refine Below.drew ?_))) (alloc_past (alloc_at rfl)) (alloc_at (by simp)) (by simp)
  have S0 := Lib.hid (Rl.start K0)
  rw [hsz] at S0
  clear hsz hW K0
  generalize (World.alloc _ _ : World) = W1 at S0 ⊢
  generalize hv0 : (Value.slice (some ⟨_, 0, none⟩) 0 0) = v0 at S0 ⊢
  clear hv0
  refine (HC.out _).mono ?_
  rintro e W2 ⟨rfl, hb⟩
  have S1 := Lib.hid (S0.out.below hb rfl)
  clear hb S0
  have a_c := fun j => cell_of_row W2 _ j _ _ _ (S1.out.1.row (g := w.heap.size) (o := o6 p) (by simp))
  have b_c := fun j => cell_of_row W2 _ j _ _ _ (S1.out.1.row (g := w.heap.size + 1) (o := o6 s) (by simp))
  go_wp2_with fail
  refine (HO.out _).mono ?_
  rintro e W3 ⟨gp, cap, rfl, ho, hb⟩
  have HB := Lib.hid hb
  have HOw := Lib.hid ho
  have S2 := Lib.hid (S1.out.below hb rfl)
  clear hb ho a_c b_c
  have b_c := fun j => cell_of_row W3 _ j _ _ _ (S2.out.1.row (g := w.heap.size + 1) (o := o6 s) (by simp))
  go_wp2_with fail
  refine (HFs.out _).mono ?_
  rintro e W4 ⟨rfl, hb⟩
  have S3 := Lib.hid (Rs.start S1.out (HOw.out.kept (grown_below hb rfl) (.inr (by simp [Value.ownBlock]))) (below_of HB.out hb HB.out.size))
  clear hb b_c S1 S2 HOw HB
  go_wp2_with fail
  unfold o1 at S3
  generalize (World.alloc _ _ : World) = W5 at S3 ⊢
  generalize W4.heap.size = b0 at S3 ⊢
  go_loopw [6, 8] (fun v6 v8 wr => ∃ k bx : Nat, k ≤ K ∧ v8 = .pointer (some ⟨bx, 0, none⟩) ∧ Hid (Rs w p s l gp cap bx (gc p l s k) v6 (gl p l s k) wr)) (fun v6 _ _ => K - sln v6)
  case atStart => exact ⟨0, b0, by omega, rfl, S3⟩
  case round =>
    obtain ⟨k, bx, hk, rfl, HS⟩ := hrel
    clear S3
    by_cases hlt : k < K
    · obtain ⟨hw0, hl0⟩ := HN.out k hlt
      have hz := fd_zero (gl p l s k)
      rw [hw0] at hz
      have HM := Lib.hid (HMx.out (gl p l s k) hl0 gp cap bx)
      have e_an := fd_an (gl p l s k) (pr p l (bi p l (gl p l s k)))
      have HL2 : Hid (gl p l s (k + 1) = an (gl p l s k) (pr p l (bi p l (gl p l s k)))) := Lib.hid rfl
      have HG2 : Hid (gc p l s (k + 1) = gc p l s k ++ [((lc l (bi p l (gl p l s k))).1, (lc l (bi p l (gl p l s k))).2)]) := Lib.hid rfl
      have HLn := Lib.hid (gc_len p l s k)
      generalize bi p l (gl p l s k) = m at *
      generalize gl p l s k = L at *
      generalize gc p l s k = xs at *
      generalize (lc l m).1 = x at *
      generalize (lc l m).2 = y at *
      generalize pr p l m = f at *
      obtain ⟨gv, cv6, rfl, _⟩ := HS.out.1.2
      have l_c := fun j => cell_of_row wr bx j _ _ _ HS.out.2.2.1
      have hz2' : ¬ ((fd36 L : Nat) : Int) = 0 := by simpa using hz
      go_wp2_with fail
      refine (HM.out _ HS.out.2.1 HS.out.2.2.1).mono ?_
      rintro e W2 ⟨rfl, hb⟩
      have S1 := Lib.hid (HS.out.below hb rfl)
      clear hb HS l_c HM
      have HS2 := Lib.hid ((S1.out.alloc (o3 x y f)).alloc (oc x y))
      have HOw := Lib.hid (Rl.own HS2.out.1)
      have hq3 : ((W2.alloc (o3 x y f)).alloc (oc x y)).heap[W2.heap.size]? = some (o3 x y f) := alloc_past (alloc_at rfl)
      have HQ3 := Lib.hid hq3
      have hgv := ((Rl.own S1.out.1).lt gv rfl).2
      have hks := S1.out.1.1.2.1
      have HNe : Hid ((Value.slice (some ⟨gv, 0, none⟩) xs.length cv6).ownBlock ≠ some W2.heap.size) := Lib.hid (fun e => by
        have e2 : gv = W2.heap.size := by simpa [Value.ownBlock] using e
        omega)
      clear hq3 S1
      go_wp2_with (at_builtin; refine wpList_append_own_at _ rfl _ _ 52 rfl (w.heap.size + 2) 25 i0 (.agg #[.int .i64 0, .int .i64 0]) 2 16 Try.underlying52 hi hz0 hz1 hz2 rfl (by decide) _ _ _ rfl HOw.out ⟨W2.heap.size + 1, 0, none⟩ 1 1 [.int .i64 (x : Int), .int .i64 (y : Int)] rfl rfl (two_new' _ _ _ _) (ints_one _ _) (by have hq9 := HLn.out; unfold maxLen; omega) (by have := HLn.out; omega) (by have := hks; simp; omega) ?_; intro v' w1 hown' hgrow hnn hat; have R := Lib.hid (HS2.out.snoc hown' hgrow hnn hat); have RB := Lib.hid (gk HQ3.out hgrow HNe.out); clear hown' hgrow hnn hat HS2 HOw HQ3 hks hgv; have l_c := fun j => cell_of_row w1 bx j _ _ _ R.out.2.2.1; have l_f := fun j => frozen_of_row w1 bx j _ _ R.out.2.2.1; have b_c := fun j => cell_of_row w1 W2.heap.size j _ _ _ RB.out)
      obtain ⟨g2, c2, rfl, _⟩ := R.out.1.2
      go_roundw
      case rel => exact ⟨k + 1, w1.heap.size, by omega, rfl, by rw [HG2.out, HL2.out]; exact Lib.hid (R.out.next _)⟩
      case measure => have := HLn.out; simp [sln]; omega
    · obtain rfl : k = K := by omega
      have hz := fd_zero (gl p l s k)
      rw [HW.out] at hz
      have hz2 : ((fd36 (gl p l s k) : Nat) : Int) = 0 := by simpa using hz
      obtain ⟨gv, cv6, rfl, h2, h3⟩ := HS.out.1.post
      have H2 := Lib.hid h2
      have H3 := Lib.hid h3
      have hl := HS.out.2.2.1
      unfold o1 at hl
      rw [hz2] at hl
      have l_c := fun j => cell_of_row wr bx j _ _ _ hl
      clear h2 h3 HS hl hz hz2
      go_wp2_with fail
      go_ret2
      exact ⟨gv, cv6, rfl, H2.out, H3.out⟩
set_option maxHeartbeats 1000000 in
theorem igreedy_no (a0 a1 a2 a3 a4 a5 : Int) (b0 b1 b2 b3 b4 b5 : Int) (HC : Hid (∀ w, Calls Try.prog 156 #[.agg #[.int .i64 a0, .int .i64 a1, .int .i64 a2, .int .i64 a3, .int .i64 a4, .int .i64 a5], .agg #[.int .i64 b0, .int .i64 b1, .int .i64 b2, .int .i64 b3, .int .i64 b4, .int .i64 b5]] w fun e w' => e = .returned (.bool false) ∧ Below w.heap.size w w')) (w : World) : Calls Try.prog 82 #[.agg #[.int .i64 a0, .int .i64 a1, .int .i64 a2, .int .i64 a3, .int .i64 a4, .int .i64 a5], .agg #[.int .i64 b0, .int .i64 b1, .int .i64 b2, .int .i64 b3, .int .i64 b4, .int .i64 b5]] w (LPb [] false w) := by
  go_enter Try.func82, Try.ntmps82
  go_wp2_with fail
  generalize hW : (World.alloc (World.alloc w _) _ : World) = W0
  have hsz : W0.heap.size = w.heap.size + 1 + 1 := by rw [← hW]; simp
  have K0 : KR 2 [(w.heap.size, os a0 a1 a2 a3 a4 a5), (w.heap.size + 1, os b0 b1 b2 b3 b4 b5)] w W0 := by
    rw [← hW]
    exact two_boxes w _ _ (by (repeat (first | exact Below.refl _ _ | assumption | refine Below.setCell ?_ (by first | (simp; done) | (simp; omega)) _ | refine Below.alloc ?_ (by first | (simp; done) | (simp; omega)) _ | refine Below.drew ?_))) (alloc_past (alloc_at rfl)) (alloc_at (by simp)) (by simp)
  have S0 := Lib.hid (Rl.start K0)
  rw [hsz] at S0
  clear hsz hW K0
  generalize (World.alloc _ _ : World) = W1 at S0 ⊢
  generalize hv0 : (Value.slice (some ⟨_, 0, none⟩) 0 0) = v0 at S0 ⊢
  clear hv0
  refine (HC.out _).mono ?_
  rintro e W2 ⟨rfl, hb⟩
  have S1 := Lib.hid (S0.out.below hb rfl)
  clear hb S0
  obtain ⟨gv, c, rfl, h2, h3⟩ := S1.out.post
  have H2 := Lib.hid h2
  have H3 := Lib.hid h3
  clear h2 h3 S1
  go_wp2_with fail
  go_ret2
  exact ⟨gv, c, rfl, H2.out, H3.out⟩
/- Gt1 -/
theorem lcount_g (f : Fn6) (w : World) : Calls Try.prog 91 #[.agg #[.int .i64 (rowv (f 0)), .int .i64 (rowv (f 1)), .int .i64 (rowv (f 2)), .int .i64 (rowv (f 3)), .int .i64 (rowv (f 4)), .int .i64 (rowv (f 5))]] w fun e w' => e = .returned (.int .i64 (pc36 f)) ∧ Below w.heap.size w w' := l2count_any (rowv (f 0)) (rowv (f 1)) (rowv (f 2)) (rowv (f 3)) (rowv (f 4)) (rowv (f 5)) ⟨row_in (f 0), row_in (f 1), row_in (f 2), row_in (f 3), row_in (f 4), row_in (f 5)⟩ w
theorem neq_g (a0 a1 a2 a3 a4 a5 : Int) (b0 b1 b2 b3 b4 b5 : Int) (w : World) : (binOp .neq 28 (.agg #[.int .i64 a0, .int .i64 a1, .int .i64 a2, .int .i64 a3, .int .i64 a4, .int .i64 a5]) (.agg #[.int .i64 b0, .int .i64 b1, .int .i64 b2, .int .i64 b3, .int .i64 b4, .int .i64 b5])).run Try.prog w = .ok (.bool (!(a0 == b0 && a1 == b1 && a2 == b2 && a3 == b3 && a4 == b4 && a5 == b5))) w := by
  have h := eq26 a0 a1 a2 a3 a4 a5 b0 b1 b2 b3 b4 b5 w
  rw [run_eql_struct] at h
  rw [run_neq_struct]
  generalize (Op.equalIn 10000 28 (.agg #[.int .i64 a0, .int .i64 a1, .int .i64 a2, .int .i64 a3, .int .i64 a4, .int .i64 a5]) (.agg #[.int .i64 b0, .int .i64 b1, .int .i64 b2, .int .i64 b3, .int .i64 b4, .int .i64 b5])).run Try.prog w = x at h ⊢
  cases x with
  | ok v w' =>
    simp only [Result.andThen_ok, Result.ok.injEq, Value.bool.injEq] at h ⊢
    exact ⟨by rw [h.1], h.2⟩
  | halt e w' => cases h
theorem eq_wh (s L : Fn6) (h : Pt L s) : (rowv (an s L 0) == rowv (s 0) && rowv (an s L 1) == rowv (s 1) && rowv (an s L 2) == rowv (s 2) && rowv (an s L 3) == rowv (s 3) && rowv (an s L 4) == rowv (s 4) && rowv (an s L 5) == rowv (s 5)) = wh9 L := by
  rw [show (rowv (an s L 0) == rowv (s 0) && rowv (an s L 1) == rowv (s 1) && rowv (an s L 2) == rowv (s 2) && rowv (an s L 3) == rowv (s 3) && rowv (an s L 4) == rowv (s 4) && rowv (an s L 5) == rowv (s 5)) = eqf (an s L) s from rfl, Bool.eq_iff_iff, eqf_iff, wh_iff]
  constructor
  · intro q j i hj hi
    have e : (s j i && !L j i) = s j i := q j i hj hi
    have k := h j i hj hi
    cases hL : L j i
    · rfl
    · rw [hL, k hL] at e
      exact absurd e (by decide)
  · intro q j i hj hi
    show (s j i && !L j i) = s j i
    rw [q j i hj hi]
    simp
theorem row_self (s : Fn6) (r : Nat) : rowv (an s s r) = 0 := by
  rw [show (0 : Int) = rowv (fun _ => false) from rfl]
  exact rowv_congr fun i _ => by show (s r i && !s r i) = false; cases s r i <;> rfl
/-- The greatest number so far and its place, as a loop that begins with -1 finds them. -/
def mst (G : Nat → Int) : Nat → Int
  | 0 => -1
  | i + 1 => if mst G i < G i then G i else mst G i
def bst (G : Nat → Int) : Nat → Nat
  | 0 => 0
  | i + 1 => if mst G i < G i then i else bst G i
theorem mst_s {G : Nat → Int} {i : Nat} (h : mst G i < G i) : mst G (i + 1) = G i ∧ bst G (i + 1) = i := ⟨if_pos h, if_pos h⟩
theorem mst_n {G : Nat → Int} {i : Nat} (h : ¬ mst G i < G i) : mst G (i + 1) = mst G i ∧ bst G (i + 1) = bst G i := ⟨if_neg h, if_neg h⟩
theorem bst_mxi (G : Nat → Int) (h : 0 ≤ G 0) : ∀ t, bst G (t + 1) = mxi G t ∧ mst G (t + 1) = G (mxi G t)
  | 0 => by
    have e : mst G 0 < G 0 := by show -1 < G 0; omega
    exact ⟨(mst_s e).2, (mst_s e).1⟩
  | t + 1 => by
    obtain ⟨h1, h2⟩ := bst_mxi G h t
    by_cases hc : G (mxi G t) < G (t + 1)
    · have e : mst G (t + 1) < G (t + 1) := by rw [h2]; exact hc
      rw [(mst_s e).1, (mst_s e).2, mxi_s G t hc]
      exact ⟨rfl, rfl⟩
    · have e : ¬ mst G (t + 1) < G (t + 1) := by rw [h2]; exact hc
      rw [(mst_n e).1, (mst_n e).2, mxi_n G t hc, h1, h2]
      exact ⟨rfl, rfl⟩
/-- Midway: what is taken, the open cells, what is black. -/
def Rt (w : World) (p s : Fn6) (l : List (Nat × Nat)) (go co gb : Nat) (xs : List (Nat × Nat)) (v : Value) (F : Fn6) (W : World) : Prop :=
  Rl 2 [(w.heap.size, o6 p), (w.heap.size + 1, o6 s)] w xs v W ∧ W.ownsRow 0 25 2 (.slice (some ⟨go, 0, none⟩) l.length co) l.length (cv l) ∧ W.heap[gb]? = some (o6 F) ∧ v.ownBlock ≠ some go ∧ v.ownBlock ≠ some gb ∧ go ≠ gb ∧ w.heap.size + 2 ≤ gb
theorem Rt.below {w W W' : World} {p s F : Fn6} {l xs : List (Nat × Nat)} {go co gb M : Nat} {v : Value} (h : Rt w p s l go co gb xs v F W) (hb : Below M W W') (hM : M = W.heap.size) : Rt w p s l go co gb xs v F W' := by
  obtain ⟨h1, h2, h3, h4⟩ := h
  exact ⟨h1.below hb hM, h2.kept (grown_below hb hM) (.inr (by simp [Value.ownBlock])), rowk h3 hb hM, h4⟩
theorem Rt.alloc {w W : World} {p s F : Fn6} {l xs : List (Nat × Nat)} {go co gb : Nat} {v : Value} (h : Rt w p s l go co gb xs v F W) (o : Obj) : Rt w p s l go co gb xs v F (W.alloc o) := h.below (M := W.heap.size) ((Below.refl _ _).alloc (Nat.le_refl _) o) rfl
theorem Rt.drew {w W : World} {p s F : Fn6} {l xs : List (Nat × Nat)} {go co gb : Nat} {v : Value} (h : Rt w p s l go co gb xs v F W) : Rt w p s l go co gb xs v F W.drew := h.below (M := W.heap.size) (Below.refl _ _).drew rfl
theorem Rt.snoc {w W w1 : World} {p s F : Fn6} {l xs : List (Nat × Nat)} {go co gb x y : Nat} {v v' : Value} (h : Rt w p s l go co gb xs v F W) (hown : w1.ownsRow (w.heap.size + 2) 25 2 v' (xs.length + 1) (cv xs ++ [.int .i64 (x : Int), .int .i64 (y : Int)])) (hg : W.grownBy w1 v.ownBlock) (hn : v' = .slice none 0 0 ↔ v = .slice none 0 0 ∧ 1 = 0) (hat : v'.ownBlock = v.ownBlock ∨ v'.ownBlock = some W.heap.size) : Rt w p s l go co gb (xs ++ [(x, y)]) v' F w1 := by
  obtain ⟨h1, h2, h3, h4, h5, h6, h7⟩ := h
  have hb := row_lt h3
  have hp := (h2.lt go rfl).2
  refine ⟨h1.snoc hown hg hn, h2.kept hg (.inr (fun e => h4 (by rw [← e]; rfl))), gk h3 hg h5, ?_, ?_, h6, h7⟩
  · rcases hat with e | e
    · rw [e]; exact h4
    · rw [e]; simp; omega
  · rcases hat with e | e
    · rw [e]; exact h5
    · rw [e]; simp; omega
theorem Rt.put {w W : World} {p s F : Fn6} {l xs : List (Nat × Nat)} {go co gb : Nat} {v : Value} (h : Rt w p s l go co gb xs v F W) (G : Fn6) : Rt w p s l go co gb xs v G ((((((W.setCell ⟨gb, 0, none⟩ (.int .i64 (rowv (G 0)))).setCell ⟨gb, 1, none⟩ (.int .i64 (rowv (G 1)))).setCell ⟨gb, 2, none⟩ (.int .i64 (rowv (G 2)))).setCell ⟨gb, 3, none⟩ (.int .i64 (rowv (G 3)))).setCell ⟨gb, 4, none⟩ (.int .i64 (rowv (G 4)))).setCell ⟨gb, 5, none⟩ (.int .i64 (rowv (G 5)))) := by
  obtain ⟨⟨h1, g, c, hv, ho⟩, h2, h3, h4, h5, h6, h7⟩ := h
  subst hv
  have hgb : g ≠ gb := fun e => h5 (by rw [e]; rfl)
  exact ⟨⟨h1.set h7 |>.set h7 |>.set h7 |>.set h7 |>.set h7 |>.set h7, g, c, rfl, own_set6 _ _ _ _ _ _ ho hgb⟩, own_set6 _ _ _ _ _ _ h2 h6, set6a _ _ _ _ _ _ h3, h4, h5, h6, h7⟩
theorem Rt.start {w W W4 : World} {p s : Fn6} {l : List (Nat × Nat)} {go co : Nat} {v : Value} (h : Rl 2 [(w.heap.size, o6 p), (w.heap.size + 1, o6 s)] w [] v W) (ho : W4.ownsRow W.heap.size 25 2 (.slice (some ⟨go, 0, none⟩) l.length co) l.length (cv l)) (hb : Below W.heap.size W W4) : Rt w p s l go co W4.heap.size [] v (an s s) (W4.alloc (.cells #[.int .i64 0, .int .i64 0, .int .i64 0, .int .i64 0, .int .i64 0, .int .i64 0] 28)) := by
  have A := (Below.refl W4.heap.size W4).alloc (Nat.le_refl _) (.cells #[.int .i64 0, .int .i64 0, .int .i64 0, .int .i64 0, .int .i64 0, .int .i64 0] 28)
  obtain ⟨h1, g, c, hv, hr⟩ := h
  have hvl : v.ownBlock = some g := by rw [hv]; rfl
  have hgl := (hr.lt g hvl).2
  have hp := ho.lt go rfl
  have h4 := (h1.far hb rfl).2.1
  refine ⟨(Rl.below ⟨h1, g, c, hv, hr⟩ hb rfl).below A rfl, (own_mono ho (Nat.zero_le _)).kept (grown_below A rfl) (.inr (by simp [Value.ownBlock])), ?_, ?_, ?_, by omega, by omega⟩
  · rw [show o6 (an s s) = .cells #[.int .i64 0, .int .i64 0, .int .i64 0, .int .i64 0, .int .i64 0, .int .i64 0] 28 by unfold o6; simp only [row_self]]
    exact alloc_at rfl
  · rw [hvl]; simp; omega
  · rw [hvl]; have := hb.size; simp; omega
theorem Rt_c {w U : World} {p s F : Fn6} {l xs : List (Nat × Nat)} {go co gb : Nat} {v : Value} (h : Rt w p s l go co gb xs v F U) : ∀ j, U.cell? ⟨gb, j, none⟩ = (#[.int .i64 (rowv (F 0)), .int .i64 (rowv (F 1)), .int .i64 (rowv (F 2)), .int .i64 (rowv (F 3)), .int .i64 (rowv (F 4)), .int .i64 (rowv (F 5))] : Array Value)[j]? := fun j => cell_of_row U _ j _ _ _ h.2.2.1
theorem Rt_f {w U : World} {p s F : Fn6} {l xs : List (Nat × Nat)} {go co gb : Nat} {v : Value} (h : Rt w p s l go co gb xs v F U) : ∀ j, U.frozen? ⟨gb, j, none⟩ = false := fun j => frozen_of_row U _ j _ _ h.2.2.1
theorem Rt_p {w U : World} {p s F : Fn6} {l xs : List (Nat × Nat)} {go co gb : Nat} {v : Value} (h : Rt w p s l go co gb xs v F U) : ∀ j, U.cell? ⟨w.heap.size, j, none⟩ = (#[.int .i64 (rowv (p 0)), .int .i64 (rowv (p 1)), .int .i64 (rowv (p 2)), .int .i64 (rowv (p 3)), .int .i64 (rowv (p 4)), .int .i64 (rowv (p 5))] : Array Value)[j]? := fun j => cell_of_row U _ j _ _ _ (h.1.1.row (g := w.heap.size) (o := o6 p) (List.mem_cons_self ..))
/-- The same, what is black unsaid. -/
def Re (w : World) (p s : Fn6) (l : List (Nat × Nat)) (go co gb : Nat) (xs : List (Nat × Nat)) (v : Value) (W : World) : Prop := ∃ F, Rt w p s l go co gb xs v F W
theorem SKr {w U : World} {p s F : Fn6} {l xs : List (Nat × Nat)} {go co gb i x y : Nat} {v : Value} (ht : (cv l)[i * 2]? = some (.int .i64 (x : Int)) ∧ (cv l)[i * 2 + 1]? = some (.int .i64 (y : Int))) (h : Rt w p s l go co gb xs v F U) : U.cell? ⟨w.heap.size, 0, none⟩ = some (.int .i64 (rowv (p 0))) ∧ U.cell? ⟨w.heap.size, 1, none⟩ = some (.int .i64 (rowv (p 1))) ∧ U.cell? ⟨w.heap.size, 2, none⟩ = some (.int .i64 (rowv (p 2))) ∧ U.cell? ⟨w.heap.size, 3, none⟩ = some (.int .i64 (rowv (p 3))) ∧ U.cell? ⟨w.heap.size, 4, none⟩ = some (.int .i64 (rowv (p 4))) ∧ U.cell? ⟨w.heap.size, 5, none⟩ = some (.int .i64 (rowv (p 5))) ∧ U.cell? ⟨gb, 0, none⟩ = some (.int .i64 (rowv (F 0))) ∧ U.cell? ⟨gb, 1, none⟩ = some (.int .i64 (rowv (F 1))) ∧ U.cell? ⟨gb, 2, none⟩ = some (.int .i64 (rowv (F 2))) ∧ U.cell? ⟨gb, 3, none⟩ = some (.int .i64 (rowv (F 3))) ∧ U.cell? ⟨gb, 4, none⟩ = some (.int .i64 (rowv (F 4))) ∧ U.cell? ⟨gb, 5, none⟩ = some (.int .i64 (rowv (F 5))) ∧ U.cell? ⟨go, i * 2, none⟩ = some (.int .i64 (x : Int)) ∧ U.cell? ⟨go, i * 2 + 1, none⟩ = some (.int .i64 (y : Int)) ∧ Rt w p s l go co gb xs v F U :=
  have h0 := fun j => cell_of_row U _ j _ _ _ (h.1.1.row (g := w.heap.size) (o := o6 p) (List.mem_cons_self ..))
  have h2 := fun j => cell_of_row U _ j _ _ _ h.2.2.1
  ⟨h0 0, h0 1, h0 2, h0 3, h0 4, h0 5, h2 0, h2 1, h2 2, h2 3, h2 4, h2 5, own_at h.2.1 ht.1, own_at h.2.1 ht.2, h⟩
theorem SKe {w U : World} {p s F : Fn6} {l xs : List (Nat × Nat)} {go co gb i x y : Nat} {v : Value} (ht : (cv l)[i * 2]? = some (.int .i64 (x : Int)) ∧ (cv l)[i * 2 + 1]? = some (.int .i64 (y : Int))) (h : Rt w p s l go co gb xs v F U) : U.cell? ⟨w.heap.size, 0, none⟩ = some (.int .i64 (rowv (p 0))) ∧ U.cell? ⟨w.heap.size, 1, none⟩ = some (.int .i64 (rowv (p 1))) ∧ U.cell? ⟨w.heap.size, 2, none⟩ = some (.int .i64 (rowv (p 2))) ∧ U.cell? ⟨w.heap.size, 3, none⟩ = some (.int .i64 (rowv (p 3))) ∧ U.cell? ⟨w.heap.size, 4, none⟩ = some (.int .i64 (rowv (p 4))) ∧ U.cell? ⟨w.heap.size, 5, none⟩ = some (.int .i64 (rowv (p 5))) ∧ U.cell? ⟨gb, 0, none⟩ = some (.int .i64 (wk U gb 0)) ∧ U.cell? ⟨gb, 1, none⟩ = some (.int .i64 (wk U gb 1)) ∧ U.cell? ⟨gb, 2, none⟩ = some (.int .i64 (wk U gb 2)) ∧ U.cell? ⟨gb, 3, none⟩ = some (.int .i64 (wk U gb 3)) ∧ U.cell? ⟨gb, 4, none⟩ = some (.int .i64 (wk U gb 4)) ∧ U.cell? ⟨gb, 5, none⟩ = some (.int .i64 (wk U gb 5)) ∧ U.cell? ⟨go, i * 2, none⟩ = some (.int .i64 (x : Int)) ∧ U.cell? ⟨go, i * 2 + 1, none⟩ = some (.int .i64 (y : Int)) ∧ (∀ j, U.frozen? ⟨gb, j, none⟩ = false) ∧ Re w p s l go co gb xs v U :=
  have h0 := fun j => cell_of_row U _ j _ _ _ (h.1.1.row (g := w.heap.size) (o := o6 p) (List.mem_cons_self ..))
  have h2 := fun j => cell_of_row U _ j _ _ _ h.2.2.1
  ⟨h0 0, h0 1, h0 2, h0 3, h0 4, h0 5, wk_i (h2 0), wk_i (h2 1), wk_i (h2 2), wk_i (h2 3), wk_i (h2 4), wk_i (h2 5), own_at h.2.1 ht.1, own_at h.2.1 ht.2, fun j => frozen_of_row U _ j _ _ h.2.2.1, F, h⟩
theorem cvl_at (l : List (Nat × Nat)) {i : Nat} (h : i < l.length) : (cv l)[i * 2]? = some (.int .i64 ((lc l i).1 : Int)) ∧ (cv l)[i * 2 + 1]? = some (.int .i64 ((lc l i).2 : Int)) := by
  have e := cv_at l i h
  rw [lc_at l h]
  exact e
/- Gt2 -/
set_option maxRecDepth 8000 in
set_option maxHeartbeats 4000000 in
theorem lgreedy_yes (p s : Fn6) (l : List (Nat × Nat)) (hll : l = bl (shr s p) 36) (hpt : ∀ i, i < l.length → Pt (pr p l i) s) (K : Nat) (hK : K ≤ 36) (hw : wh9 (gl p l s K) = true) (hn : ∀ m, m < K → wh9 (gl p l s m) = false ∧ 0 < l.length) (HC : Hid (∀ w, Calls Try.prog 152 #[.agg #[.int .i64 (rowv (p 0)), .int .i64 (rowv (p 1)), .int .i64 (rowv (p 2)), .int .i64 (rowv (p 3)), .int .i64 (rowv (p 4)), .int .i64 (rowv (p 5))], .agg #[.int .i64 (rowv (s 0)), .int .i64 (rowv (s 1)), .int .i64 (rowv (s 2)), .int .i64 (rowv (s 3)), .int .i64 (rowv (s 4)), .int .i64 (rowv (s 5))]] w fun e w' => e = .returned (.bool true) ∧ Below w.heap.size w w')) (w : World) : Calls Try.prog 81 #[.agg #[.int .i64 (rowv (p 0)), .int .i64 (rowv (p 1)), .int .i64 (rowv (p 2)), .int .i64 (rowv (p 3)), .int .i64 (rowv (p 4)), .int .i64 (rowv (p 5))], .agg #[.int .i64 (rowv (s 0)), .int .i64 (rowv (s 1)), .int .i64 (rowv (s 2)), .int .i64 (rowv (s 3)), .int .i64 (rowv (s 4)), .int .i64 (rowv (s 5))]] w (LPb (gc p l s K) true w) := by
  obtain ⟨i0, hinf, hz0, hz1, hz2⟩ := info_parts info44
  have HO := Lib.hid (lopen6_f p s)
  have HV := Lib.hid (row_as p)
  have HV2 := Lib.hid (row_as s)
  rw [← hll] at HO
  have hl36 : l.length ≤ 36 := by rw [hll]; exact bl_len _ 36
  have HLm : Hid (∀ i, i < l.length → (lc l i).1 < 6 ∧ (lc l i).2 < 6) := Lib.hid fun i hi => by
    rw [lc_at l hi]
    exact (show ∀ c ∈ l, c.1 < 6 ∧ c.2 < 6 by rw [hll]; exact bl_lt36 _) _ (List.getElem_mem hi)
  have HPt := Lib.hid hpt
  have HN := Lib.hid hn
  have HW := Lib.hid hw
  clear hn hw hll hpt
  go_enter Try.func81, Try.ntmps81
  go_wp2_with fail
  generalize hW : (World.alloc (World.alloc w _) _ : World) = W0
  have hsz : W0.heap.size = w.heap.size + 1 + 1 := by rw [← hW]; simp
  have K0 : KR 2 [(w.heap.size, o6 p), (w.heap.size + 1, o6 s)] w W0 := by
    rw [← hW]
    exact two_boxes w _ _ (by (repeat (first | exact Below.refl _ _ | assumption | refine Below.setCell ?_ (by first | (simp; done) | (simp; omega)) _ | refine Below.alloc ?_ (by first | (simp; done) | (simp; omega)) _ | refine Below.drew ?_))) (alloc_past (alloc_at rfl)) (alloc_at (by simp)) (by simp)
  have S0 := Lib.hid (Rl.start K0)
  rw [hsz] at S0
  clear hsz hW K0
  generalize (World.alloc _ _ : World) = W1 at S0 ⊢
  generalize hv0 : (Value.slice (some ⟨_, 0, none⟩) 0 0) = v0 at S0 ⊢
  clear hv0
  refine (HV.out _).mono ?_
  rintro e W2 ⟨rfl, hb⟩
  have S1 := Lib.hid (S0.out.below hb rfl)
  clear hb S0
  have b_c := fun j => cell_of_row W2 _ j _ _ _ (S1.out.1.row (g := w.heap.size + 1) (o := o6 s) (by simp))
  go_wp2_with fail
  refine (HV2.out _).mono ?_
  rintro e W3 ⟨rfl, hb⟩
  have S2 := Lib.hid (S1.out.below hb rfl)
  clear hb S1 b_c
  have a_c := fun j => cell_of_row W3 _ j _ _ _ (S2.out.1.row (g := w.heap.size) (o := o6 p) (by simp))
  have b_c := fun j => cell_of_row W3 _ j _ _ _ (S2.out.1.row (g := w.heap.size + 1) (o := o6 s) (by simp))
  go_wp2_with fail
  refine (HC.out _).mono ?_
  rintro e W4 ⟨rfl, hb⟩
  have S3 := Lib.hid (S2.out.below hb rfl)
  clear hb S2 a_c b_c
  have a_c := fun j => cell_of_row W4 _ j _ _ _ (S3.out.1.row (g := w.heap.size) (o := o6 p) (by simp))
  have b_c := fun j => cell_of_row W4 _ j _ _ _ (S3.out.1.row (g := w.heap.size + 1) (o := o6 s) (by simp))
  go_wp2_with fail
  refine (HO.out _).mono ?_
  rintro e W5 hp
  obtain ⟨go, co, rfl, ho, hb⟩ := LP.out hp
  have S4 := Lib.hid (Rt.start S3.out ho hb)
  clear hb ho hp a_c b_c S3
  go_wp2_with fail
  generalize (World.alloc _ _ : World) = W6 at S4 ⊢
  generalize W5.heap.size = gb at S4 ⊢
  go_loopw [6] (fun v6 wr => ∃ k : Nat, k ≤ K ∧ Hid (Rt w p s l go co gb (gc p l s k) v6 (an s (gl p l s k)) wr)) (fun v6 _ => K - sln v6)
  case atStart => exact ⟨0, by omega, S4⟩
  case round =>
    obtain ⟨k, hk, HS⟩ := hrel
    clear S4
    have HEq := Lib.hid (eq_wh s (gl p l s k) (gl_sub p l s k))
    by_cases hlt : k < K
    · obtain ⟨hw0, hl0⟩ := HN.out k hlt
      have HBi : Hid (bst (fun i => pc36 (jf (an s (gl p l s k)) (pr p l i))) l.length = bi p l (gl p l s k)) := Lib.hid (by
        have h1 := bst_mxi (fun i => pc36 (jf (an s (gl p l s k)) (pr p l i))) (pc36_bd _).1 (l.length - 1)
        rw [show l.length - 1 + 1 = l.length by omega] at h1
        rw [h1.1]
        exact mxi_shift (fun i => pc36 (af (pr p l i) (gl p l s k))) _ (pc36 (an s (gl p l s k))) (l.length - 1) (fun i hi => pc36_or s (gl p l s k) (pr p l i) (HPt.out i (by omega))))
      have HBl : Hid (bi p l (gl p l s k) < l.length) := Lib.hid (by
        have := mxi_le (fun i => pc36 (af (pr p l i) (gl p l s k))) (l.length - 1)
        show mxi _ _ < _
        omega)
      have HRw : Hid (∀ r, r < 6 → rowv (jf (an s (gl p l s k)) (pr p l (bi p l (gl p l s k))) r) = rowv (an s (gl p l s (k + 1)) r)) := Lib.hid fun r hr => row_step s (gl p l s k) _ (HPt.out _ HBl.out) hr
      have HG2 : Hid (gc p l s (k + 1) = gc p l s k ++ [((lc l (bi p l (gl p l s k))).1, (lc l (bi p l (gl p l s k))).2)]) := Lib.hid rfl
      have HLn := Lib.hid (gc_len p l s k)
      have hne := neq_g (rowv (an s (gl p l s k) 0)) (rowv (an s (gl p l s k) 1)) (rowv (an s (gl p l s k) 2)) (rowv (an s (gl p l s k) 3)) (rowv (an s (gl p l s k) 4)) (rowv (an s (gl p l s k) 5)) (rowv (s 0)) (rowv (s 1)) (rowv (s 2)) (rowv (s 3)) (rowv (s 4)) (rowv (s 5))
      rw [HEq.out, hw0] at hne
      clear HEq hw0
      generalize bi p l (gl p l s k) = m at *
      generalize an s (gl p l s k) = F at *
      obtain ⟨F2, hF2⟩ : ∃ F2, F2 = an s (gl p l s (k + 1)) := ⟨_, rfl⟩
      rw [← hF2] at HRw
      have HF2 := Lib.hid hF2
      clear hF2
      generalize gc p l s k = xs at *
      obtain ⟨gv, cv6, rfl, _⟩ := HS.out.1.2
      have f_c := fun j => cell_of_row wr gb j _ _ _ HS.out.2.2.1
      have b_c := fun j => cell_of_row wr _ j _ _ _ (HS.out.1.1.row (g := w.heap.size + 1) (o := o6 s) (by simp))
      go_wp2_with fail
      clear f_c b_c hne
      obtain ⟨G, hG⟩ : ∃ G : Nat → Int, G = fun i => pc36 (jf F (pr p l i)) := ⟨_, rfl⟩
      have HG := Lib.hid hG
      rw [← hG] at HBi
      clear hG
      go_loopw [9, 10, 11] (fun v9 v10 v11 wr => ∃ i : Nat, i ≤ l.length ∧ v9 = .int .i64 ((bst G i : Nat) : Int) ∧ v10 = .int .i64 (mst G i) ∧ v11 = .int .i64 (i : Int) ∧ Hid (Rt w p s l go co gb xs (.slice (some ⟨gv, 0, none⟩) xs.length cv6) F wr)) (fun _ _ c _ => l.length - (intOf c).toNat)
      case atStart => exact ⟨0, by omega, rfl, rfl, rfl, HS⟩
      case round =>
        obtain ⟨i, hi, rfl, rfl, rfl, HS2⟩ := hrel
        clear HS
        by_cases hil : i < l.length
        · have hlt' : (i : Int) < l.length := by omega
          have hi0 : (0 : Int) ≤ i := by omega
          have hi2 : i ≤ 36 := by omega
          have htv := cvl_at l hil
          obtain ⟨m1, m2⟩ := HLm.out i hil
          have HF := Lib.hid (l2at_n p m1 m2)
          have HXr := Lib.hid (row_jf F (pr p l i))
          have HX := Lib.hid (l2or_any (rowv (F 0)) (rowv (F 1)) (rowv (F 2)) (rowv (F 3)) (rowv (F 4)) (rowv (F 5)) (rowv (pr p l i 0)) (rowv (pr p l i 1)) (rowv (pr p l i 2)) (rowv (pr p l i 3)) (rowv (pr p l i 4)) (rowv (pr p l i 5)))
          simp only [HXr.out] at HX
          have HCt := Lib.hid (lcount_g (jf F (pr p l i)))
          rw [show pc36 (jf F (pr p l i)) = G i by rw [HG.out]] at HCt
          have HY := Lib.hid (@mst_s G i)
          have HZ := Lib.hid (@mst_n G i)
          rw [show sf (lc l i).1 (lc l i).2 p = pr p l i from rfl] at HF
          generalize (lc l i).1 = x at *
          generalize (lc l i).2 = y at *
          generalize jf F (pr p l i) = J at *
          generalize pr p l i = f at *
          clear m1 m2 HXr
          have hq : Rt w p s l go co gb xs (.slice (some ⟨gv, 0, none⟩) xs.length cv6) F wr := HS2.out
          clear HS2
          go_wp2_with fail
          set_option maxRecDepth 8000 in
          go_region_held3 (fun U => U.cell? ⟨w.heap.size, 0, none⟩ = some (.int .i64 (rowv (p 0))) ∧ U.cell? ⟨w.heap.size, 1, none⟩ = some (.int .i64 (rowv (p 1))) ∧ U.cell? ⟨w.heap.size, 2, none⟩ = some (.int .i64 (rowv (p 2))) ∧ U.cell? ⟨w.heap.size, 3, none⟩ = some (.int .i64 (rowv (p 3))) ∧ U.cell? ⟨w.heap.size, 4, none⟩ = some (.int .i64 (rowv (p 4))) ∧ U.cell? ⟨w.heap.size, 5, none⟩ = some (.int .i64 (rowv (p 5))) ∧ U.cell? ⟨gb, 0, none⟩ = some (.int .i64 (rowv (F 0))) ∧ U.cell? ⟨gb, 1, none⟩ = some (.int .i64 (rowv (F 1))) ∧ U.cell? ⟨gb, 2, none⟩ = some (.int .i64 (rowv (F 2))) ∧ U.cell? ⟨gb, 3, none⟩ = some (.int .i64 (rowv (F 3))) ∧ U.cell? ⟨gb, 4, none⟩ = some (.int .i64 (rowv (F 4))) ∧ U.cell? ⟨gb, 5, none⟩ = some (.int .i64 (rowv (F 5))) ∧ U.cell? ⟨go, i * 2, none⟩ = some (.int .i64 (x : Int)) ∧ U.cell? ⟨go, i * 2 + 1, none⟩ = some (.int .i64 (y : Int)) ∧ Rt w p s l go co gb xs (.slice (some ⟨gv, 0, none⟩) xs.length cv6) F U) (with_reducible refine SKr htv ?_; (first | with_reducible assumption | (with_reducible refine Rt.drew ?_; with_reducible assumption))) (first | (go_at_call 155; with_reducible refine (HF.out _).mono ?_; rintro e w' ⟨rfl, hb'⟩; have hq : Rt w p s l go co gb xs (.slice (some ⟨gv, 0, none⟩) xs.length cv6) F w' := Rt.below (by (first | with_reducible assumption | (with_reducible refine Rt.drew ?_; with_reducible assumption))) hb' rfl) | (go_at_call 154; with_reducible refine (HX.out _).mono ?_; rintro e w' ⟨rfl, hb'⟩; have hq : Rt w p s l go co gb xs (.slice (some ⟨gv, 0, none⟩) xs.length cv6) F w' := Rt.below (by (first | with_reducible assumption | (with_reducible refine Rt.drew ?_; with_reducible assumption))) hb' rfl) | (go_at_call 91; with_reducible refine (HCt.out _).mono ?_; rintro e w' ⟨rfl, hb'⟩; have hq : Rt w p s l go co gb xs (.slice (some ⟨gv, 0, none⟩) xs.length cv6) F w' := Rt.below (by (first | with_reducible assumption | (with_reducible refine Rt.drew ?_; with_reducible assumption))) hb' rfl))
          all_goals
            have HJ := Lib.hid hq
            rename_i hS
            clear hS hq HF HX HCt htv
            by_cases hc : mst G i < G i
            · obtain ⟨e1, e2⟩ := HY.out hc
              have HE1 := Lib.hid e1
              have HE2 := Lib.hid e2
              clear e1 e2 HY HZ
              generalize mst G i = M at *
              generalize G i = N at *
              go_wp2_with fail
              go_roundw
              case rel => exact ⟨i + 1, by omega, by rw [HE2.out], by rw [HE1.out], by go_num, HJ⟩
              case measure => simp [intOf]; omega
            · obtain ⟨e1, e2⟩ := HZ.out (by omega)
              have HE1 := Lib.hid e1
              have HE2 := Lib.hid e2
              clear e1 e2 HY HZ
              generalize hM : mst G i = M at *
              generalize G i = N at *
              go_wp2_with fail
              go_roundw
              case rel => exact ⟨i + 1, by omega, by rw [HE2.out], by rw [HE1.out], by go_num, HJ⟩
              case measure => simp [intOf]; omega
        · obtain rfl : i = l.length := by omega
          rw [HBi.out]
          have hq : Rt w p s l go co gb xs (.slice (some ⟨gv, 0, none⟩) xs.length cv6) F wr := HS2.out
          clear HS2
          have hm := HBl.out
          have hlt' : (m : Int) < l.length := by omega
          have hi0 : (0 : Int) ≤ m := by omega
          have hi2 : m ≤ 36 := by omega
          have htv := cvl_at l hm
          obtain ⟨m1, m2⟩ := HLm.out m hm
          have HF := Lib.hid (l2at_n p m1 m2)
          have HXr := Lib.hid (row_jf F (pr p l m))
          have HX := Lib.hid (l2or_any (rowv (F 0)) (rowv (F 1)) (rowv (F 2)) (rowv (F 3)) (rowv (F 4)) (rowv (F 5)) (rowv (pr p l m 0)) (rowv (pr p l m 1)) (rowv (pr p l m 2)) (rowv (pr p l m 3)) (rowv (pr p l m 4)) (rowv (pr p l m 5)))
          simp only [HXr.out, HRw.out 0 (by decide), HRw.out 1 (by decide), HRw.out 2 (by decide), HRw.out 3 (by decide), HRw.out 4 (by decide), HRw.out 5 (by decide)] at HX
          rw [show sf (lc l m).1 (lc l m).2 p = pr p l m from rfl] at HF
          generalize mst G l.length = M at *
          generalize (lc l m).1 = x at *
          generalize (lc l m).2 = y at *
          clear m1 m2 HXr HRw HBi HG
          generalize pr p l m = f at *
          go_wp2_with fail
          have HD := Lib.hid (Rt.drew hq)
          clear hq
          have d_c := Rt_c HD.out
          have s_c := Rt_p HD.out
          have a1 := own_at HD.out.2.1 htv.1
          have a2 := own_at HD.out.2.1 htv.2
          set_option maxRecDepth 8000 in
          go_region_with (first | (go_at_call 155; with_reducible refine (HF.out _).mono ?_; rintro e w' ⟨rfl, hb'⟩; have HE := Lib.hid (Rt.below HD.out hb' rfl); have e_c := Rt_c HE.out) | (go_at_call 154; with_reducible refine (HX.out _).mono ?_; rintro e w' ⟨rfl, hb'⟩; have HG := Lib.hid (Rt.below HE.out hb' rfl); clear e_c d_c; have b_f := Rt_f HG.out; have b_c := Rt_c HG.out))
          all_goals
            have HJ := Lib.hid (Rt.put HG.out F2)
            clear HG HE HD b_f b_c s_c a1 a2 HF HX
            generalize (World.setCell _ _ _ : World) = X at HJ ⊢
            have HS3 := Lib.hid (Rt.alloc HJ.out (oc x y))
            have HOw := Lib.hid (Rl.own HS3.out.1)
            have a1 := own_at HJ.out.2.1 htv.1
            have a2 := own_at HJ.out.2.1 htv.2
            have hks := HJ.out.1.1.2.1
            clear HJ
            go_wp2_with (at_builtin; refine wpList_append_own_at _ rfl _ _ 52 rfl (w.heap.size + 2) 25 i0 (.agg #[.int .i64 0, .int .i64 0]) 2 16 Try.underlying52 hinf hz0 hz1 hz2 rfl (by decide) _ _ _ rfl HOw.out ⟨X.heap.size, 0, none⟩ 1 1 [.int .i64 (x : Int), .int .i64 (y : Int)] rfl rfl (two_new _ _ _ _) (ints_one _ _) (by have := HLn.out; unfold maxLen; omega) (by have := HLn.out; omega) (by have := hks; simp; omega) ?_; intro v' w1 hown' hgrow hnn hat; have R := Lib.hid (HS3.out.snoc hown' hgrow hnn hat); clear hown' hgrow hnn hat HS3 HOw hks a1 a2)
            obtain ⟨g2, c2, rfl, _⟩ := R.out.1.2
            go_roundw
            case rel => exact ⟨k + 1, by omega, by rw [HG2.out, ← HF2.out]; exact R⟩
            case measure => have := HLn.out; simp [sln]; omega
    · obtain rfl : k = K := by omega
      have hne := neq_g (rowv (an s (gl p l s k) 0)) (rowv (an s (gl p l s k) 1)) (rowv (an s (gl p l s k) 2)) (rowv (an s (gl p l s k) 3)) (rowv (an s (gl p l s k) 4)) (rowv (an s (gl p l s k) 5)) (rowv (s 0)) (rowv (s 1)) (rowv (s 2)) (rowv (s 3)) (rowv (s 4)) (rowv (s 5))
      rw [HEq.out, HW.out] at hne
      clear HEq HW
      generalize an s (gl p l s k) = F at *
      have f_c := fun j => cell_of_row wr gb j _ _ _ HS.out.2.2.1
      have b_c := fun j => cell_of_row wr _ j _ _ _ (HS.out.1.1.row (g := w.heap.size + 1) (o := o6 s) (by simp))
      obtain ⟨gv, cv6, rfl, h2, h3⟩ := HS.out.1.post
      have H2 := Lib.hid h2
      have H3 := Lib.hid h3
      clear h2 h3 HS
      go_wp2_with fail
      go_ret2
      exact ⟨gv, cv6, rfl, H2.out, H3.out⟩
/- Gt3 -/
set_option maxHeartbeats 1000000 in
theorem lgreedy_no0 (a0 a1 a2 a3 a4 a5 : Int) (b0 b1 b2 b3 b4 b5 : Int) (H0 : Hid (∀ w, Calls Try.prog 98 #[.agg #[.int .i64 a0, .int .i64 a1, .int .i64 a2, .int .i64 a3, .int .i64 a4, .int .i64 a5]] w fun e w' => e = .returned (.bool false) ∧ Below w.heap.size w w')) (w : World) : Calls Try.prog 81 #[.agg #[.int .i64 a0, .int .i64 a1, .int .i64 a2, .int .i64 a3, .int .i64 a4, .int .i64 a5], .agg #[.int .i64 b0, .int .i64 b1, .int .i64 b2, .int .i64 b3, .int .i64 b4, .int .i64 b5]] w (LPb [] false w) := by
  go_enter Try.func81, Try.ntmps81
  go_wp2_with fail
  generalize hW : (World.alloc (World.alloc w _) _ : World) = W0
  have hsz : W0.heap.size = w.heap.size + 1 + 1 := by rw [← hW]; simp
  have K0 : KR 2 [(w.heap.size, os a0 a1 a2 a3 a4 a5), (w.heap.size + 1, os b0 b1 b2 b3 b4 b5)] w W0 := by
    rw [← hW]
    exact two_boxes w _ _ (by (repeat (first | exact Below.refl _ _ | assumption | refine Below.setCell ?_ (by first | (simp; done) | (simp; omega)) _ | refine Below.alloc ?_ (by first | (simp; done) | (simp; omega)) _ | refine Below.drew ?_))) (alloc_past (alloc_at rfl)) (alloc_at (by simp)) (by simp)
  have S0 := Lib.hid (Rl.start K0)
  rw [hsz] at S0
  clear hsz hW K0
  generalize (World.alloc _ _ : World) = W1 at S0 ⊢
  generalize hv0 : (Value.slice (some ⟨_, 0, none⟩) 0 0) = v0 at S0 ⊢
  clear hv0
  refine (H0.out _).mono ?_
  rintro e W2 ⟨rfl, hb⟩
  have S1 := Lib.hid (S0.out.below hb rfl)
  clear hb S0
  obtain ⟨gv, c, rfl, h2, h3⟩ := S1.out.post
  have H2 := Lib.hid h2
  have H3 := Lib.hid h3
  clear h2 h3 S1
  go_wp2_with fail
  go_ret2
  exact ⟨gv, c, rfl, H2.out, H3.out⟩
set_option maxHeartbeats 1000000 in
theorem lgreedy_no1 (a0 a1 a2 a3 a4 a5 : Int) (b0 b1 b2 b3 b4 b5 : Int) (H0 : Hid (∀ w, Calls Try.prog 98 #[.agg #[.int .i64 a0, .int .i64 a1, .int .i64 a2, .int .i64 a3, .int .i64 a4, .int .i64 a5]] w fun e w' => e = .returned (.bool true) ∧ Below w.heap.size w w')) (H1 : Hid (∀ w, Calls Try.prog 98 #[.agg #[.int .i64 b0, .int .i64 b1, .int .i64 b2, .int .i64 b3, .int .i64 b4, .int .i64 b5]] w fun e w' => e = .returned (.bool false) ∧ Below w.heap.size w w')) (w : World) : Calls Try.prog 81 #[.agg #[.int .i64 a0, .int .i64 a1, .int .i64 a2, .int .i64 a3, .int .i64 a4, .int .i64 a5], .agg #[.int .i64 b0, .int .i64 b1, .int .i64 b2, .int .i64 b3, .int .i64 b4, .int .i64 b5]] w (LPb [] false w) := by
  go_enter Try.func81, Try.ntmps81
  go_wp2_with fail
  generalize hW : (World.alloc (World.alloc w _) _ : World) = W0
  have hsz : W0.heap.size = w.heap.size + 1 + 1 := by rw [← hW]; simp
  have K0 : KR 2 [(w.heap.size, os a0 a1 a2 a3 a4 a5), (w.heap.size + 1, os b0 b1 b2 b3 b4 b5)] w W0 := by
    rw [← hW]
    exact two_boxes w _ _ (by (repeat (first | exact Below.refl _ _ | assumption | refine Below.setCell ?_ (by first | (simp; done) | (simp; omega)) _ | refine Below.alloc ?_ (by first | (simp; done) | (simp; omega)) _ | refine Below.drew ?_))) (alloc_past (alloc_at rfl)) (alloc_at (by simp)) (by simp)
  have S0 := Lib.hid (Rl.start K0)
  rw [hsz] at S0
  clear hsz hW K0
  generalize (World.alloc _ _ : World) = W1 at S0 ⊢
  generalize hv0 : (Value.slice (some ⟨_, 0, none⟩) 0 0) = v0 at S0 ⊢
  clear hv0
  refine (H0.out _).mono ?_
  rintro e W2 ⟨rfl, hb⟩
  have S1 := Lib.hid (S0.out.below hb rfl)
  clear hb S0
  have b_c := fun j => cell_of_row W2 _ j _ _ _ (S1.out.1.row (g := w.heap.size + 1) (o := os b0 b1 b2 b3 b4 b5) (by simp))
  go_wp2_with fail
  refine (H1.out _).mono ?_
  rintro e W3 ⟨rfl, hb⟩
  have S2 := Lib.hid (S1.out.below hb rfl)
  clear hb S1 b_c
  obtain ⟨gv, c, rfl, h2, h3⟩ := S2.out.post
  have H2 := Lib.hid h2
  have H3 := Lib.hid h3
  clear h2 h3 S2
  go_wp2_with fail
  go_ret2
  exact ⟨gv, c, rfl, H2.out, H3.out⟩
set_option maxHeartbeats 1000000 in
theorem lgreedy_no2 (a0 a1 a2 a3 a4 a5 : Int) (b0 b1 b2 b3 b4 b5 : Int) (H0 : Hid (∀ w, Calls Try.prog 98 #[.agg #[.int .i64 a0, .int .i64 a1, .int .i64 a2, .int .i64 a3, .int .i64 a4, .int .i64 a5]] w fun e w' => e = .returned (.bool true) ∧ Below w.heap.size w w')) (H1 : Hid (∀ w, Calls Try.prog 98 #[.agg #[.int .i64 b0, .int .i64 b1, .int .i64 b2, .int .i64 b3, .int .i64 b4, .int .i64 b5]] w fun e w' => e = .returned (.bool true) ∧ Below w.heap.size w w')) (HC : Hid (∀ w, Calls Try.prog 152 #[.agg #[.int .i64 a0, .int .i64 a1, .int .i64 a2, .int .i64 a3, .int .i64 a4, .int .i64 a5], .agg #[.int .i64 b0, .int .i64 b1, .int .i64 b2, .int .i64 b3, .int .i64 b4, .int .i64 b5]] w fun e w' => e = .returned (.bool false) ∧ Below w.heap.size w w')) (w : World) : Calls Try.prog 81 #[.agg #[.int .i64 a0, .int .i64 a1, .int .i64 a2, .int .i64 a3, .int .i64 a4, .int .i64 a5], .agg #[.int .i64 b0, .int .i64 b1, .int .i64 b2, .int .i64 b3, .int .i64 b4, .int .i64 b5]] w (LPb [] false w) := by
  go_enter Try.func81, Try.ntmps81
  go_wp2_with fail
  generalize hW : (World.alloc (World.alloc w _) _ : World) = W0
  have hsz : W0.heap.size = w.heap.size + 1 + 1 := by rw [← hW]; simp
  have K0 : KR 2 [(w.heap.size, os a0 a1 a2 a3 a4 a5), (w.heap.size + 1, os b0 b1 b2 b3 b4 b5)] w W0 := by
    rw [← hW]
    exact two_boxes w _ _ (by (repeat (first | exact Below.refl _ _ | assumption | refine Below.setCell ?_ (by first | (simp; done) | (simp; omega)) _ | refine Below.alloc ?_ (by first | (simp; done) | (simp; omega)) _ | refine Below.drew ?_))) (alloc_past (alloc_at rfl)) (alloc_at (by simp)) (by simp)
  have S0 := Lib.hid (Rl.start K0)
  rw [hsz] at S0
  clear hsz hW K0
  generalize (World.alloc _ _ : World) = W1 at S0 ⊢
  generalize hv0 : (Value.slice (some ⟨_, 0, none⟩) 0 0) = v0 at S0 ⊢
  clear hv0
  refine (H0.out _).mono ?_
  rintro e W2 ⟨rfl, hb⟩
  have S1 := Lib.hid (S0.out.below hb rfl)
  clear hb S0
  have b_c := fun j => cell_of_row W2 _ j _ _ _ (S1.out.1.row (g := w.heap.size + 1) (o := os b0 b1 b2 b3 b4 b5) (by simp))
  go_wp2_with fail
  refine (H1.out _).mono ?_
  rintro e W3 ⟨rfl, hb⟩
  have S2 := Lib.hid (S1.out.below hb rfl)
  clear hb S1 b_c
  have a_c := fun j => cell_of_row W3 _ j _ _ _ (S2.out.1.row (g := w.heap.size) (o := os a0 a1 a2 a3 a4 a5) (by simp))
  have b_c := fun j => cell_of_row W3 _ j _ _ _ (S2.out.1.row (g := w.heap.size + 1) (o := os b0 b1 b2 b3 b4 b5) (by simp))
  go_wp2_with fail
  refine (HC.out _).mono ?_
  rintro e W4 ⟨rfl, hb⟩
  have S3 := Lib.hid (S2.out.below hb rfl)
  clear hb S2 a_c b_c
  obtain ⟨gv, c, rfl, h2, h3⟩ := S3.out.post
  have H2 := Lib.hid h2
  have H3 := Lib.hid h3
  clear h2 h3 S3
  go_wp2_with fail
  go_ret2
  exact ⟨gv, c, rfl, H2.out, H3.out⟩
theorem cov_l {p s : Fn6} {l : List (Nat × Nat)} (hll : l = bl (shr s p) 36) (h : eqf (spd p (shr s p)) s = true) : Cv p l s ∧ ∀ i, i < l.length → Pt (pr p l i) s := by
  have hA := (eqf_iff _ _).mp h
  have hS : spd p (shr s p) = spo p l zf := by rw [hll]; rfl
  rw [hS] at hA
  constructor
  · intro j i hj hi hs
    have h1 := (hA j i hj hi).trans hs
    rcases (spo_iff p j i l zf).mp h1 with h2 | ⟨c, hc, h2⟩
    · exact absurd h2 (show ¬ (false = true) by decide)
    · obtain ⟨k, hk, e⟩ := List.getElem_of_mem hc
      refine ⟨k, hk, ?_⟩
      unfold pr
      rw [lc_at l hk, e]
      exact h2
  · intro k hk j i hj hi hs
    unfold pr at hs
    rw [lc_at l hk] at hs
    have h1 := (spo_iff p j i l zf).mpr (.inr ⟨l[k], List.getElem_mem hk, hs⟩)
    exact (hA j i hj hi).symm.trans h1
theorem greedy_pair (a0 a1 a2 a3 a4 a5 : Int) (b0 b1 b2 b3 b4 b5 : Int) : ∃ (l : List (Nat × Nat)) (t : Bool), l.length ≤ 36 ∧ (∀ w, Calls Try.prog 81 #[.agg #[.int .i64 a0, .int .i64 a1, .int .i64 a2, .int .i64 a3, .int .i64 a4, .int .i64 a5], .agg #[.int .i64 b0, .int .i64 b1, .int .i64 b2, .int .i64 b3, .int .i64 b4, .int .i64 b5]] w (LPb l t w)) ∧ (∀ w, Calls Try.prog 82 #[.agg #[.int .i64 a0, .int .i64 a1, .int .i64 a2, .int .i64 a3, .int .i64 a4, .int .i64 a5], .agg #[.int .i64 b0, .int .i64 b1, .int .i64 b2, .int .i64 b3, .int .i64 b4, .int .i64 b5]] w (LPb l t w)) := by
  cases hv : (ok a0 && ok a1 && ok a2 && ok a3 && ok a4 && ok a5)
  · cases hc : (ok b0 && ok b1 && ok b2 && ok b3 && ok b4 && ok b5)
    · exact ⟨[], false, by simp, lgreedy_no0 a0 a1 a2 a3 a4 a5 b0 b1 b2 b3 b4 b5 (sh_as a0 a1 a2 a3 a4 a5 hv), igreedy_no a0 a1 a2 a3 a4 a5 b0 b1 b2 b3 b4 b5 (Lib.hid (ican_f a0 a1 a2 a3 a4 a5 b0 b1 b2 b3 b4 b5 false (Lib.hid (ican6_any a0 a1 a2 a3 a4 a5 b0 b1 b2 b3 b4 b5 false false (Lib.hid (iisop_n0 b0 b1 b2 b3 b4 b5 a0 a1 a2 a3 a4 a5 hc))))))⟩
    · exact ⟨[], false, by simp, lgreedy_no0 a0 a1 a2 a3 a4 a5 b0 b1 b2 b3 b4 b5 (sh_as a0 a1 a2 a3 a4 a5 hv), igreedy_no a0 a1 a2 a3 a4 a5 b0 b1 b2 b3 b4 b5 (Lib.hid (ican_f a0 a1 a2 a3 a4 a5 b0 b1 b2 b3 b4 b5 false (Lib.hid (ican6_any a0 a1 a2 a3 a4 a5 b0 b1 b2 b3 b4 b5 false false (Lib.hid (iisop_n1 b0 b1 b2 b3 b4 b5 a0 a1 a2 a3 a4 a5 hc hv))))))⟩
  · cases hc : (ok b0 && ok b1 && ok b2 && ok b3 && ok b4 && ok b5)
    · exact ⟨[], false, by simp, lgreedy_no1 a0 a1 a2 a3 a4 a5 b0 b1 b2 b3 b4 b5 (sh_as a0 a1 a2 a3 a4 a5 hv) (sh_as b0 b1 b2 b3 b4 b5 hc), igreedy_no a0 a1 a2 a3 a4 a5 b0 b1 b2 b3 b4 b5 (Lib.hid (ican_f a0 a1 a2 a3 a4 a5 b0 b1 b2 b3 b4 b5 false (Lib.hid (ican6_any a0 a1 a2 a3 a4 a5 b0 b1 b2 b3 b4 b5 false false (Lib.hid (iisop_n0 b0 b1 b2 b3 b4 b5 a0 a1 a2 a3 a4 a5 hc))))))⟩
    · obtain ⟨p, rfl, rfl, rfl, rfl, rfl, rfl⟩ := sheet_bits a0 a1 a2 a3 a4 a5 hv
      obtain ⟨s, rfl, rfl, rfl, rfl, rfl, rfl⟩ := sheet_bits b0 b1 b2 b3 b4 b5 hc
      have hS := lcan6_f p s
      have hI := ican6_yes p s
      cases hr : eqf (spd p (shr s p)) s
      · rw [hr] at hS hI
        exact ⟨[], false, by simp, lgreedy_no2 (rowv (p 0)) (rowv (p 1)) (rowv (p 2)) (rowv (p 3)) (rowv (p 4)) (rowv (p 5)) (rowv (s 0)) (rowv (s 1)) (rowv (s 2)) (rowv (s 3)) (rowv (s 4)) (rowv (s 5)) (Lib.hid (row_as p)) (Lib.hid (row_as s)) (Lib.hid hS), igreedy_no (rowv (p 0)) (rowv (p 1)) (rowv (p 2)) (rowv (p 3)) (rowv (p 4)) (rowv (p 5)) (rowv (s 0)) (rowv (s 1)) (rowv (s 2)) (rowv (s 3)) (rowv (s 4)) (rowv (s 5)) (Lib.hid (ican_t (rowv (p 0)) (rowv (p 1)) (rowv (p 2)) (rowv (p 3)) (rowv (p 4)) (rowv (p 5)) (rowv (s 0)) (rowv (s 1)) (rowv (s 2)) (rowv (s 3)) (rowv (s 4)) (rowv (s 5)) false (Lib.hid hI)))⟩
      · rw [hr] at hS hI
        obtain ⟨hcv, hpt⟩ := cov_l (l := bl (shr s p) 36) rfl hr
        obtain ⟨K, hK, hw, hn⟩ := gl_stop p (bl (shr s p) 36) s hcv
        exact ⟨gc p (bl (shr s p) 36) s K, true, by rw [gc_len]; exact hK, lgreedy_yes p s _ rfl hpt K hK hw hn (Lib.hid hS), igreedy_yes p s _ rfl K hK hw hn (Lib.hid (ican_t (rowv (p 0)) (rowv (p 1)) (rowv (p 2)) (rowv (p 3)) (rowv (p 4)) (rowv (p 5)) (rowv (s 0)) (rowv (s 1)) (rowv (s 2)) (rowv (s 3)) (rowv (s 4)) (rowv (s 5)) true (Lib.hid hI)))⟩
end Go.Proofs.Ythphkhcppljdlaa
