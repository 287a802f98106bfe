/- PLAIN LEMMAS: rows of six cells as numbers; turned sheets as maps of cells. -/
import Derived.Test.YtnkjamdpafpcpaaSd
import Derived.WalkKit
import Derived.ProofKit
import Derived.OpenShut
import Derived.Lib.Hide
import Derived.WalkSpells
import Derived.Below
import Derived.BigQuiet
import Derived.LoopN
namespace Go.Proofs.Ytnkjamdpafpcpaa
open Go.ChangeShapes Go.WideShapes Go.ChangeAt Go.RowKit
set_option linter.unusedVariables false
def r6 (b0 b1 b2 b3 b4 b5 : Bool) : Int := cond b0 1 0 + cond b1 2 0 + cond b2 4 0 + cond b3 8 0 + cond b4 16 0 + cond b5 32 0
def pick6 (b0 b1 b2 b3 b4 b5 : Bool) (x : Nat) : Bool := if x = 0 then b0 else if x = 1 then b1 else if x = 2 then b2 else if x = 3 then b3 else if x = 4 then b4 else b5
def rowv (g : Nat → Bool) : Int := r6 (g 0) (g 1) (g 2) (g 3) (g 4) (g 5)
theorem r6_get : ∀ (b0 b1 b2 b3 b4 b5 : Bool) (x : Fin 6), (bits .and .i64 (r6 b0 b1 b2 b3 b4 b5 / 2 ^ x.val) 1 == 1) = pick6 b0 b1 b2 b3 b4 b5 x.val := by decide +kernel
theorem r6_or : ∀ (b0 b1 b2 b3 b4 b5 : Bool) (x : Fin 6), bits .or .i64 (r6 b0 b1 b2 b3 b4 b5) (wrap64 (2 ^ x.val)) = r6 (b0 || 0 == x.val) (b1 || 1 == x.val) (b2 || 2 == x.val) (b3 || 3 == x.val) (b4 || 4 == x.val) (b5 || 5 == x.val) := by decide +kernel
theorem r6_xor : ∀ (b0 b1 b2 b3 b4 b5 : Bool) (x : Fin 6), bits .xor .i64 (r6 b0 b1 b2 b3 b4 b5) (wrap64 (2 ^ x.val)) = r6 (b0 ^^ 0 == x.val) (b1 ^^ 1 == x.val) (b2 ^^ 2 == x.val) (b3 ^^ 3 == x.val) (b4 ^^ 4 == x.val) (b5 ^^ 5 == x.val) := by decide +kernel
theorem r6_ok : ∀ (b0 b1 b2 b3 b4 b5 : Bool), ok (r6 b0 b1 b2 b3 b4 b5) = true := by decide +kernel
theorem r6_test : ∀ (b0 b1 b2 b3 b4 b5 : Bool) (x : Fin 6), (r6 b0 b1 b2 b3 b4 b5).toNat.testBit x.val = pick6 b0 b1 b2 b3 b4 b5 x.val := by decide +kernel
theorem r6_bits : ∀ a : Fin 64, ((a.val : Nat) : Int) = r6 (a.val.testBit 0) (a.val.testBit 1) (a.val.testBit 2) (a.val.testBit 3) (a.val.testBit 4) (a.val.testBit 5) := by decide +kernel
theorem six_n {x : Nat} (h : x < 6) : x = 0 ∨ x = 1 ∨ x = 2 ∨ x = 3 ∨ x = 4 ∨ x = 5 := by omega
theorem pick_row (g : Nat → Bool) {x : Nat} (h : x < 6) : pick6 (g 0) (g 1) (g 2) (g 3) (g 4) (g 5) x = g x := by
  rcases six_n h with rfl | rfl | rfl | rfl | rfl | rfl <;> rfl
theorem rowv_get (g : Nat → Bool) {x : Nat} (h : x < 6) : (bits .and .i64 (rowv g / 2 ^ x) 1 == 1) = g x := (r6_get _ _ _ _ _ _ ⟨x, h⟩).trans (pick_row g h)
theorem rowv_test (g : Nat → Bool) {x : Nat} (h : x < 6) : (rowv g).toNat.testBit x = g x := (r6_test _ _ _ _ _ _ ⟨x, h⟩).trans (pick_row g h)
theorem rowv_or (g : Nat → Bool) {x : Nat} (h : x < 6) : bits .or .i64 (rowv g) (wrap64 (2 ^ x)) = rowv (fun i => g i || i == x) := r6_or _ _ _ _ _ _ ⟨x, h⟩
theorem rowv_xor (g : Nat → Bool) {x : Nat} (h : x < 6) : bits .xor .i64 (rowv g) (wrap64 (2 ^ x)) = rowv (fun i => g i ^^ i == x) := r6_xor _ _ _ _ _ _ ⟨x, h⟩
theorem rowv_ok (g : Nat → Bool) : ok (rowv g) = true := r6_ok _ _ _ _ _ _
theorem rowv_congr {g h : Nat → Bool} (e : ∀ i, i < 6 → g i = h i) : rowv g = rowv h := by
  simp only [rowv, e 0 (by decide), e 1 (by decide), e 2 (by decide), e 3 (by decide), e 4 (by decide), e 5 (by decide)]
theorem rowv_inj {g h : Nat → Bool} (e : rowv g = rowv h) (i : Nat) (hi : i < 6) : g i = h i := by
  rw [← rowv_test g hi, ← rowv_test h hi, e]
def rbit (a : Int) : Nat → Bool := fun x => a.toNat.testBit x
theorem rowv_bits {a : Int} (h : ok a = true) : a = rowv (rbit a) := by
  have h1 : 0 ≤ a ∧ a ≤ 63 := by simpa [ok] using h
  obtain ⟨n, rfl⟩ := Int.eq_ofNat_of_zero_le h1.1
  exact r6_bits ⟨n, by omega⟩
/-- The cells of a sheet by row and column. -/
def cells6 (a0 a1 a2 a3 a4 a5 : Int) : Nat → Nat → Bool := fun y => rbit (at6 a0 a1 a2 a3 a4 a5 y)
theorem sheet_bits (a0 a1 a2 a3 a4 a5 : Int) (h : (ok a0 && ok a1 && ok a2 && ok a3 && ok a4 && ok a5) = true) : ∃ f : Nat → Nat → Bool, a0 = rowv (f 0) ∧ a1 = rowv (f 1) ∧ a2 = rowv (f 2) ∧ a3 = rowv (f 3) ∧ a4 = rowv (f 4) ∧ a5 = rowv (f 5) := by
  simp only [Bool.and_eq_true] at h
  obtain ⟨⟨⟨⟨⟨h0, h1⟩, h2⟩, h3⟩, h4⟩, h5⟩ := h
  exact ⟨cells6 a0 a1 a2 a3 a4 a5, rowv_bits h0, rowv_bits h1, rowv_bits h2, rowv_bits h3, rowv_bits h4, rowv_bits h5⟩
theorem at6_row (f : Nat → Nat → Bool) {y : Nat} (h : y < 6) : at6 (rowv (f 0)) (rowv (f 1)) (rowv (f 2)) (rowv (f 3)) (rowv (f 4)) (rowv (f 5)) (y : Int) = rowv (f y) := by
  rcases six_n h with rfl | rfl | rfl | rfl | rfl | rfl <;> rfl
theorem cell_black (f : Nat → Nat → Bool) {y x : Nat} (hy : y < 6) (hx : x < 6) : (bits .and .i64 (at6 (rowv (f 0)) (rowv (f 1)) (rowv (f 2)) (rowv (f 3)) (rowv (f 4)) (rowv (f 5)) (y : Int) / 2 ^ ((x : Int)).toNat) 1 == 1) = f y x := by
  rw [at6_row f hy, Int.toNat_natCast, rowv_get (f y) hx]
def qf (f : Nat → Nat → Bool) : Nat → Nat → Bool := fun y x => f (5 - x) y
def mf (f : Nat → Nat → Bool) : Nat → Nat → Bool := fun y x => f y (5 - x)
def tf (k : Nat) (f : Nat → Nat → Bool) : Nat → Nat → Bool := if k = 0 then f else if k = 1 then qf f else if k = 2 then qf (qf f) else if k = 3 then qf (qf (qf f)) else if k = 4 then mf f else if k = 5 then mf (qf f) else if k = 6 then mf (qf (qf f)) else mf (qf (qf (qf f)))
/-- A sheet half made: the cells that come of the first p cells of f, where cell a, b comes of cell s a b. -/
def hv (s : Nat → Nat → Nat × Nat) (f : Nat → Nat → Bool) (p : Nat) : Nat → Nat → Bool := fun a b => decide (6 * (s a b).1 + (s a b).2 < p) && f (s a b).1 (s a b).2
/-- The map s takes cell da, db, and no other one, to y, x. -/
def Only (s : Nat → Nat → Nat × Nat) (y x da db : Nat) : Prop := s da db = (y, x) ∧ ∀ a b, a < 6 → b < 6 → (s a b).2 < 6 ∧ (s a b = (y, x) → a = da ∧ b = db)
theorem hv_none {s : Nat → Nat → Nat × Nat} {f : Nat → Nat → Bool} {y x da db : Nat} (hx : x < 6) (h : Only s y x da db) (hf : f y x = false) {a b : Nat} (ha : a < 6) (hb : b < 6) : hv s f (6 * y + x + 1) a b = hv s f (6 * y + x) a b := by
  obtain ⟨h2, h3⟩ := h.2 a b ha hb
  by_cases e : s a b = (y, x)
  · simp only [hv, e, hf, Bool.and_false]
  · have : 6 * (s a b).1 + (s a b).2 ≠ 6 * y + x := fun c => e (Prod.ext (by simp only; omega) (by simp only; omega))
    have hd : decide (6 * (s a b).1 + (s a b).2 < 6 * y + x + 1) = decide (6 * (s a b).1 + (s a b).2 < 6 * y + x) := decide_eq_decide.mpr (by omega)
    simp only [hv, hd]
theorem hv_some {s : Nat → Nat → Nat × Nat} {f : Nat → Nat → Bool} {y x da db : Nat} (hx : x < 6) (h : Only s y x da db) (hf : f y x = true) {a b : Nat} (ha : a < 6) (hb : b < 6) : hv s f (6 * y + x + 1) a b = (hv s f (6 * y + x) a b || (a == da && b == db)) ∧ hv s f (6 * y + x + 1) a b = (hv s f (6 * y + x) a b ^^ (a == da && b == db)) := by
  obtain ⟨h2, h3⟩ := h.2 a b ha hb
  by_cases e : s a b = (y, x)
  · obtain ⟨rfl, rfl⟩ := h3 e
    simp [hv, e, hf]
  · have : 6 * (s a b).1 + (s a b).2 ≠ 6 * y + x := fun c => e (Prod.ext (by simp only; omega) (by simp only; omega))
    have hd : decide (6 * (s a b).1 + (s a b).2 < 6 * y + x + 1) = decide (6 * (s a b).1 + (s a b).2 < 6 * y + x) := decide_eq_decide.mpr (by omega)
    have hn : (a == da && b == db) = false := by
      rw [Bool.eq_false_iff]
      intro c
      simp only [Bool.and_eq_true, beq_iff_eq] at c
      obtain ⟨rfl, rfl⟩ := c
      exact e h.1
    simp only [hv, hd, hn, Bool.or_false, Bool.xor_false, and_self]
theorem hv_row_none {s : Nat → Nat → Nat × Nat} {f : Nat → Nat → Bool} {y x da db : Nat} (hx : x < 6) (h : Only s y x da db) (hf : f y x = false) {a : Nat} (ha : a < 6) : rowv (hv s f (6 * y + x + 1) a) = rowv (hv s f (6 * y + x) a) := rowv_congr fun _ hi => hv_none hx h hf ha hi
theorem hv_row_or {s : Nat → Nat → Nat × Nat} {f : Nat → Nat → Bool} {y x da db : Nat} (hx : x < 6) (hdb : db < 6) (h : Only s y x da db) (hf : f y x = true) {a : Nat} (ha : a < 6) : rowv (hv s f (6 * y + x + 1) a) = if (da : Int) = a then bits .or .i64 (rowv (hv s f (6 * y + x) a)) (wrap64 (2 ^ ((db : Int)).toNat)) else rowv (hv s f (6 * y + x) a) := by
  split
  · rename_i e
    obtain rfl : da = a := by omega
    rw [Int.toNat_natCast, rowv_or _ hdb]
    exact rowv_congr fun i hi => by rw [(hv_some hx h hf ha hi).1]; simp
  · rename_i e
    exact rowv_congr fun i hi => by
      have hn : (a == da) = false := by simp; omega
      rw [(hv_some hx h hf ha hi).1, hn]; simp
theorem hv_row_xor {s : Nat → Nat → Nat × Nat} {f : Nat → Nat → Bool} {y x da db : Nat} (hx : x < 6) (hdb : db < 6) (h : Only s y x da db) (hf : f y x = true) {a : Nat} (ha : a < 6) : rowv (hv s f (6 * y + x + 1) a) = if (da : Int) = a then bits .xor .i64 (rowv (hv s f (6 * y + x) a)) (wrap64 (2 ^ ((db : Int)).toNat)) else rowv (hv s f (6 * y + x) a) := by
  split
  · rename_i e
    obtain rfl : da = a := by omega
    rw [Int.toNat_natCast, rowv_xor _ hdb]
    exact rowv_congr fun i hi => by rw [(hv_some hx h hf ha hi).2]; simp
  · rename_i e
    exact rowv_congr fun i hi => by
      have hn : (a == da) = false := by simp; omega
      rw [(hv_some hx h hf ha hi).2, hn]; simp
theorem hv_zero (s : Nat → Nat → Nat × Nat) (f : Nat → Nat → Bool) (a : Nat) : rowv (hv s f 0 a) = 0 := by
  have : rowv (hv s f 0 a) = rowv (fun _ => false) := rowv_congr fun i _ => by simp [hv]
  rw [this]; rfl
theorem hv_end {s : Nat → Nat → Nat × Nat} (f : Nat → Nat → Bool) (h : ∀ a b, a < 6 → b < 6 → (s a b).1 < 6 ∧ (s a b).2 < 6) {a : Nat} (ha : a < 6) : rowv (hv s f 36 a) = rowv (fun b => f (s a b).1 (s a b).2) :=
  rowv_congr fun i hi => by
    obtain ⟨h1, h2⟩ := h a i ha hi
    have : 6 * (s a i).1 + (s a i).2 < 36 := by omega
    simp [hv, this]
end Go.Proofs.Ytnkjamdpafpcpaa
