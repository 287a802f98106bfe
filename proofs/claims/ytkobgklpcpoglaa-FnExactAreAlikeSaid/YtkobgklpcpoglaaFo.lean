/- PLAIN LEMMAS: the first over all motions is the first of the firsts of all turns. -/
import Derived.Test.YtkobgklpcpoglaaFi1
import Derived.WalkKit
import Derived.ProofKit
import Derived.OpenShut
import Derived.Lib.Hide
import Derived.WalkSpells
import Derived.Below
import Derived.BigQuiet
import Derived.LoopN
namespace Go.Proofs.Ytkobgklpcpoglaa
open Go.ChangeShapes Go.WideShapes Go.ChangeAt Go.RowKit
set_option linter.unusedVariables false
theorem lx_num (a0 a1 a2 a3 a4 a5 b0 b1 b2 b3 b4 b5 : Int) (h0 : 0 ≤ a0 ∧ a0 ≤ 63) (h1 : 0 ≤ a1 ∧ a1 ≤ 63) (h2 : 0 ≤ a2 ∧ a2 ≤ 63) (h3 : 0 ≤ a3 ∧ a3 ≤ 63) (h4 : 0 ≤ a4 ∧ a4 ≤ 63) (h5 : 0 ≤ a5 ∧ a5 ≤ 63) (k0 : 0 ≤ b0 ∧ b0 ≤ 63) (k1 : 0 ≤ b1 ∧ b1 ≤ 63) (k2 : 0 ≤ b2 ∧ b2 ≤ 63) (k3 : 0 ≤ b3 ∧ b3 ≤ 63) (k4 : 0 ≤ b4 ∧ b4 ≤ 63) (k5 : 0 ≤ b5 ∧ b5 ≤ 63) : lx a0 a1 a2 a3 a4 a5 b0 b1 b2 b3 b4 b5 = decide (a0 * 1073741824 + a1 * 16777216 + a2 * 262144 + a3 * 4096 + a4 * 64 + a5 < b0 * 1073741824 + b1 * 16777216 + b2 * 262144 + b3 * 4096 + b4 * 64 + b5) := by
  have key : lx a0 a1 a2 a3 a4 a5 b0 b1 b2 b3 b4 b5 = true ↔ (a0 < b0 ∨ a0 = b0 ∧ (a1 < b1 ∨ a1 = b1 ∧ (a2 < b2 ∨ a2 = b2 ∧ (a3 < b3 ∨ a3 = b3 ∧ (a4 < b4 ∨ a4 = b4 ∧ a5 < b5))))) := by
    simp [lx]
  rw [Bool.eq_iff_iff, key, decide_eq_true_eq]
  clear key
  rcases tri a0 b0 with h | h | h
  · exact ⟨fun _ => by omega, fun _ => .inl h⟩
  · exact ⟨fun _ => by omega, fun _ => by omega⟩
  subst h
  rcases tri a1 b1 with h | h | h
  · exact ⟨fun _ => by omega, fun _ => .inr ⟨rfl, .inl h⟩⟩
  · exact ⟨fun _ => by omega, fun _ => by omega⟩
  subst h
  rcases tri a2 b2 with h | h | h
  · exact ⟨fun _ => by omega, fun _ => .inr ⟨rfl, .inr ⟨rfl, .inl h⟩⟩⟩
  · exact ⟨fun _ => by omega, fun _ => by omega⟩
  subst h
  constructor <;> intro h <;> omega
/-- A sheet's number. -/
def nk (f : Nat → Nat → Bool) (c : Nat × Nat × Nat) : Int := rowv (sf c.2.1 c.2.2 (tf c.1 f) 0) * 1073741824 + rowv (sf c.2.1 c.2.2 (tf c.1 f) 1) * 16777216 + rowv (sf c.2.1 c.2.2 (tf c.1 f) 2) * 262144 + rowv (sf c.2.1 c.2.2 (tf c.1 f) 3) * 4096 + rowv (sf c.2.1 c.2.2 (tf c.1 f) 4) * 64 + rowv (sf c.2.1 c.2.2 (tf c.1 f) 5)
theorem lm_nk (f : Nat → Nat → Bool) (c d : Nat × Nat × Nat) : lm f c d = decide (nk f c < nk f d) :=
  lx_num _ _ _ _ _ _ _ _ _ _ _ _ (row_in _) (row_in _) (row_in _) (row_in _) (row_in _) (row_in _) (row_in _) (row_in _) (row_in _) (row_in _) (row_in _) (row_in _)
theorem bs_cons (f : Nat → Nat → Bool) (b c : Nat × Nat × Nat) (l : List (Nat × Nat × Nat)) : bs f b (c :: l) = bs f (if lm f c b then c else b) l := rfl
theorem bs_app (f : Nat → Nat → Bool) (b : Nat × Nat × Nat) (l m : List (Nat × Nat × Nat)) : bs f b (l ++ m) = bs f (bs f b l) m := by unfold bs; rw [List.foldl_append]
/-- What is first behind b is b, or the first of the list. -/
theorem bs_from (f : Nat → Nat → Bool) : ∀ (l : List (Nat × Nat × Nat)) (b c : Nat × Nat × Nat), bs f (if lm f c b then c else b) l = if lm f (bs f c l) b then bs f c l else b := by
  intro l
  induction l with
  | nil => intro b c; rfl
  | cons e l ih =>
    intro b c
    rw [bs_cons, bs_cons]
    have h2 := ih b e
    have h3 := ih b c
    simp only [lm_nk] at h2 h3 ⊢
    by_cases hc : nk f c < nk f b
    · by_cases he : nk f e < nk f c
      · have hb : nk f e < nk f b := by omega
        simp only [hb, hc, he, decide_true, if_true] at h2 ⊢
        exact h2
      · simp only [hc, he, decide_true, decide_false, if_true, Bool.false_eq_true, if_false] at h3 ⊢
        exact h3
    · by_cases he : nk f e < nk f c
      · simp only [hc, he, decide_true, decide_false, if_true, Bool.false_eq_true, if_false] at h2 ⊢
        exact h2
      · have hb : ¬ nk f e < nk f b := by omega
        simp only [hb, hc, he, decide_false, Bool.false_eq_true, if_false] at h3 ⊢
        exact h3
theorem bs_first (f : Nat → Nat → Bool) (b c : Nat × Nat × Nat) (l : List (Nat × Nat × Nat)) : bs f b (c :: l) = if lm f (bs f c (c :: l)) b then bs f c (c :: l) else b := by
  have h : bs f c (c :: l) = bs f c l := by rw [bs_cons, lm_nk, if_neg (by simp)]
  rw [h, bs_cons]
  exact bs_from f l b c
/-- A turned sheet's first shift. -/
theorem bs_turn (f : Nat → Nat → Bool) (k : Nat) : ∀ (l : List (Nat × Nat)) (b : Nat × Nat), bs f (k, b) (l.map fun c => (k, c)) = (k, (bs (tf k f) (0, b) (l.map fun c => (0, c))).2)
  | [], _ => rfl
  | c :: l, b => by
    have e : lm f (k, c) (k, b) = lm (tf k f) (0, c) (0, b) := rfl
    simp only [List.map_cons, bs_cons, e]
    cases lm (tf k f) (0, c) (0, b)
    · exact bs_turn f k l b
    · exact bs_turn f k l c
def P6 : List (Nat × Nat) := (List.range 6).flatMap fun x => (List.range 6).map fun y => (x, y)
theorem L2_P6 (k : Nat) : L2 6 k 6 = P6.map fun c => (k, c) := rfl
theorem L1_P6 : L1 6 1 = P6.map fun c => (0, c) := rfl
theorem L2_head (k : Nat) : L2 6 k 6 = (k, 0, 0) :: (P6.tail.map fun c => (k, c)) := rfl
/-- One turn more: the first so far against the first of the turned sheet. -/
theorem bs_block (f : Nat → Nat → Bool) (b : Nat × Nat × Nat) (k : Nat) : bs f b (L2 6 k 6) = if lm f (k, (bs (tf k f) (0, 0, 0) (L1 6 1)).2) b then (k, (bs (tf k f) (0, 0, 0) (L1 6 1)).2) else b := by
  have h := bs_turn f k P6 (0, 0)
  rw [← L2_P6, ← L1_P6] at h
  rw [← h, L2_head]
  exact bs_first f b (k, 0, 0) _
theorem bs_blocks (f : Nat → Nat → Bool) (k : Nat) : bs f (0, 0, 0) (L1 6 (k + 1)) = if lm f (k, (bs (tf k f) (0, 0, 0) (L1 6 1)).2) (bs f (0, 0, 0) (L1 6 k)) then (k, (bs (tf k f) (0, 0, 0) (L1 6 1)).2) else bs f (0, 0, 0) (L1 6 k) := by
  rw [L1_succ, bs_app]
  exact bs_block f _ k
end Go.Proofs.Ytkobgklpcpoglaa
