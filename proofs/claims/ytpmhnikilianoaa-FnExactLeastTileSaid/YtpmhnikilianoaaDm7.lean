/- PLAIN LEMMAS: how many different shifts a sheet has: 36 divided by the number of its periods. -/
import Derived.Test.YtpmhnikilianoaaP7
import Derived.WalkKit
import Derived.ProofKit
import Derived.OpenShut
import Derived.Lib.Hide
import Derived.WalkSpells
import Derived.Below
import Derived.BigQuiet
import Derived.LoopN
namespace Go.Proofs.Ytpmhnikilianoaa
open Go.ChangeShapes Go.WideShapes Go.ChangeAt Go.RowKit
set_option linter.unusedVariables false
/-- How many of the first k are like none before them. -/
def nd (e : Nat → Nat → Bool) : Nat → Nat
  | 0 => 0
  | k + 1 => nd e k + (if (List.range k).any (fun i => e k i) then 0 else 1)
theorem nd_le (e : Nat → Nat → Bool) : ∀ k, nd e k ≤ k
  | 0 => Nat.le_refl _
  | k + 1 => by
    have := nd_le e k
    show nd e k + _ ≤ _
    split <;> omega
theorem countP_or (p q : Nat → Bool) : ∀ l : List Nat, (∀ x ∈ l, p x = true → q x = true → False) → l.countP (fun x => p x || q x) = l.countP p + l.countP q
  | [], _ => rfl
  | x :: l, h => by
    have ih := countP_or p q l (fun y hy => h y (List.mem_cons_of_mem _ hy))
    have hx := h x (List.mem_cons_self ..)
    rw [List.countP_cons, List.countP_cons, List.countP_cons, ih]
    cases hp : p x <;> cases hq : q x
    · simp
    · simp; omega
    · simp; omega
    · exact absurd (hx hp hq) id
theorem countP_same (p q : Nat → Bool) : ∀ l : List Nat, (∀ x ∈ l, p x = q x) → l.countP p = l.countP q
  | [], _ => rfl
  | x :: l, h => by
    rw [List.countP_cons, List.countP_cons, countP_same p q l (fun y hy => h y (List.mem_cons_of_mem _ hy)), h x (List.mem_cons_self ..)]
/-- Parted into classes of p each. -/
theorem nd_mul (e : Nat → Nat → Bool) (n p : Nat) (hr : ∀ i, i < n → e i i = true) (hs : ∀ i j, i < n → j < n → e i j = true → e j i = true) (ht : ∀ i j k, i < n → j < n → k < n → e i j = true → e j k = true → e i k = true) (hc : ∀ i, i < n → (List.range n).countP (fun j => e j i) = p) : nd e n * p = n := by
  have key : ∀ m, m ≤ n → (List.range n).countP (fun j => (List.range m).any (fun i => e j i)) = nd e m * p := by
    intro m
    induction m with
    | zero => intro _; simp [nd]
    | succ m ih =>
      intro hm
      have ih := ih (by omega)
      have h1 : ∀ j, (List.range (m + 1)).any (fun i => e j i) = ((List.range m).any (fun i => e j i) || e j m) := by
        intro j
        rw [List.range_succ, List.any_append]
        simp
      have h2 : (List.range n).countP (fun j => (List.range (m + 1)).any (fun i => e j i)) = (List.range n).countP (fun j => (List.range m).any (fun i => e j i) || e j m) := countP_same _ _ _ (fun j _ => h1 j)
      rw [h2]
      show _ = (nd e m + _) * p
      cases hd : (List.range m).any (fun i => e m i)
      · rw [countP_or]
        · rw [ih, hc m (by omega)]
          simp [Nat.add_mul]
        · intro j hj ha hb
          have hj := List.mem_range.mp hj
          obtain ⟨i, hi, he⟩ := List.any_eq_true.mp ha
          have hi := List.mem_range.mp hi
          have : e m i = true := ht m j i (by omega) hj (by omega) (hs j m hj (by omega) hb) he
          have hx : (List.range m).any (fun i => e m i) = true := List.any_eq_true.mpr ⟨i, List.mem_range.mpr hi, this⟩
          rw [hd] at hx
          cases hx
      · have h3 : (List.range n).countP (fun j => (List.range m).any (fun i => e j i) || e j m) = (List.range n).countP (fun j => (List.range m).any (fun i => e j i)) := by
          refine countP_same _ _ _ (fun j hj => ?_)
          have hj := List.mem_range.mp hj
          obtain ⟨i, hi, he⟩ := List.any_eq_true.mp hd
          have hi := List.mem_range.mp hi
          cases hb : e j m
          · simp
          · have h4 : e j i = true := ht j m i hj (by omega) (by omega) hb he
            have h5 : (List.range m).any (fun i => e j i) = true := List.any_eq_true.mpr ⟨i, List.mem_range.mpr hi, h4⟩
            rw [h5]; rfl
        rw [h3, ih]
        simp
  have hn := key n (Nat.le_refl _)
  have h6 : (List.range n).countP (fun j => (List.range n).any (fun i => e j i)) = n := by
    have h7 : (List.range n).countP (fun j => (List.range n).any (fun i => e j i)) = (List.range n).countP (fun _ => true) := by
      refine countP_same _ _ _ (fun j hj => ?_)
      exact List.any_eq_true.mpr ⟨j, hj, hr j (List.mem_range.mp hj)⟩
    rw [h7]
    simp
  omega
/-- Two sheets alike on all rows. -/
def eqs (f g : Fn6) : Bool := rowv (f 0) == rowv (g 0) && rowv (f 1) == rowv (g 1) && rowv (f 2) == rowv (g 2) && rowv (f 3) == rowv (g 3) && rowv (f 4) == rowv (g 4) && rowv (f 5) == rowv (g 5)
theorem eqs_iff (f g : Fn6) : eqs f g = true ↔ Ag f g := by
  unfold eqs
  simp only [Bool.and_eq_true, beq_iff_eq]
  constructor
  · rintro ⟨⟨⟨⟨⟨h0, h1⟩, h2⟩, h3⟩, h4⟩, h5⟩ j i hj hi
    have hj6 : j = 0 ∨ j = 1 ∨ j = 2 ∨ j = 3 ∨ j = 4 ∨ j = 5 := by omega
    rcases hj6 with rfl | rfl | rfl | rfl | rfl | rfl
    · exact rowv_inj h0 i hi
    · exact rowv_inj h1 i hi
    · exact rowv_inj h2 i hi
    · exact rowv_inj h3 i hi
    · exact rowv_inj h4 i hi
    · exact rowv_inj h5 i hi
  · intro h
    exact ⟨⟨⟨⟨⟨h.row (by decide), h.row (by decide)⟩, h.row (by decide)⟩, h.row (by decide)⟩, h.row (by decide)⟩, h.row (by decide)⟩
theorem sg7_eqs (a b : Fn6) (x y : Nat) : sg7 a b x y = eqs (sf x y a) b := rfl
theorem sf_sf (f : Fn6) {x y u v : Nat} (hx : x < 6) (hy : y < 6) (hu : u < 6) (hv : v < 6) : sf x y (sf u v f) = sf ((x + u) % 6) ((y + v) % 6) f := by
  funext j i
  have e1 : ((j + 6 - y) % 6 + 6 - v) % 6 = (j + 6 - (y + v) % 6) % 6 := by omega
  have e2 : ((i + 6 - x) % 6 + 6 - u) % 6 = (i + 6 - (x + u) % 6) % 6 := by omega
  show f (((j + 6 - y) % 6 + 6 - v) % 6) (((i + 6 - x) % 6 + 6 - u) % 6) = f ((j + 6 - (y + v) % 6) % 6) ((i + 6 - (x + u) % 6) % 6)
  rw [e1, e2]
theorem sf_00 (f : Fn6) : Ag (sf 0 0 f) f := by
  intro j i hj hi
  show f ((j + 6 - 0) % 6) ((i + 6 - 0) % 6) = f j i
  rw [show (j + 6 - 0) % 6 = j by omega, show (i + 6 - 0) % 6 = i by omega]
theorem Ag.symm7 {f g : Fn6} (h : Ag f g) : Ag g f := fun j i hj hi => (h j i hj hi).symm
theorem Ag.trans7 {f g h : Fn6} (a : Ag f g) (b : Ag g h) : Ag f h := fun j i hj hi => (a j i hj hi).trans (b j i hj hi)
theorem sf_inj {f g : Fn6} {x y : Nat} (hx : x < 6) (hy : y < 6) (h : Ag (sf x y f) (sf x y g)) : Ag f g := by
  have h2 := h.sf ((6 - x) % 6) ((6 - y) % 6)
  rw [sf_sf f (by omega) (by omega) hx hy, sf_sf g (by omega) (by omega) hx hy] at h2
  rw [show ((6 - x) % 6 + x) % 6 = 0 by omega, show ((6 - y) % 6 + y) % 6 = 0 by omega] at h2
  exact (sf_00 f).symm7.trans7 (h2.trans7 (sf_00 g))
/-- The shifts k and l of a sheet alike, with r to a column. -/
def ek (a : Fn6) (r k l : Nat) : Bool := eqs (sf (k / r) (k % r) a) (sf (l / r) (l % r) a)
/-- k and i together. -/
def adk (r c k i : Nat) : Nat := r * ((k / r + i / r) % c) + (k % r + i % r) % r
theorem perm36 : ∀ i : Fin 36, ((List.range 36).map (fun k => adk 6 6 k i.val)).isPerm (List.range 36) = true := by decide +kernel
theorem perm61 : ∀ i : Fin 6, ((List.range 6).map (fun k => adk 1 6 k i.val)).isPerm (List.range 6) = true := by decide +kernel
theorem perm16 : ∀ i : Fin 6, ((List.range 6).map (fun k => adk 6 1 k i.val)).isPerm (List.range 6) = true := by decide +kernel
/-- As many shifts are like one as like another one. -/
theorem count_any (a : Fn6) (r c : Nat) (hr : r = 6 ∨ r = 1) (hc : c = 6 ∨ c = 1) (hp : ∀ i, i < c * r → ((List.range (c * r)).map (fun k => adk r c k i)).isPerm (List.range (c * r)) = true) (i : Nat) (hi : i < c * r) : (List.range (c * r)).countP (fun j => ek a r j i) = (List.range (c * r)).countP (fun j => ek a r j 0) := by
  have h1 := (List.isPerm_iff.mp (hp i hi)).countP_eq (fun j => ek a r j i)
  rw [← h1, List.countP_map]
  refine countP_same _ _ _ (fun k hk => ?_)
  have hk := List.mem_range.mp hk
  have hr0 : 0 < r := by omega
  have hxk : k / r < c := Nat.div_lt_of_lt_mul (by rw [Nat.mul_comm]; exact hk)
  have hxi : i / r < c := Nat.div_lt_of_lt_mul (by rw [Nat.mul_comm]; exact hi)
  have hyk : k % r < r := Nat.mod_lt _ hr0
  have hyi : i % r < r := Nat.mod_lt _ hr0
  have e1 : adk r c k i / r = (k / r + i / r) % c := by
    unfold adk
    rw [Nat.mul_add_div hr0, Nat.div_eq_of_lt (Nat.mod_lt _ hr0), Nat.add_zero]
  have e2 : adk r c k i % r = (k % r + i % r) % r := by
    unfold adk
    rw [Nat.mul_add_mod, Nat.mod_mod]
  have e3 : (k / r + i / r) % c = (i / r + k / r) % 6 := by
    rcases hc with rfl | rfl
    · rw [Nat.add_comm]
    · rw [Nat.lt_one_iff.mp hxk, Nat.lt_one_iff.mp hxi]
  have e4 : (k % r + i % r) % r = (i % r + k % r) % 6 := by
    rcases hr with rfl | rfl
    · rw [Nat.add_comm]
    · rw [show k % 1 = 0 by omega, show i % 1 = 0 by omega]
  have hf : sf (adk r c k i / r) (adk r c k i % r) a = sf (i / r) (i % r) (sf (k / r) (k % r) a) := by
    rw [e1, e2, e3, e4, sf_sf a (by omega) (by omega) (by omega) (by omega)]
  have key : eqs (sf (i / r) (i % r) (sf (k / r) (k % r) a)) (sf (i / r) (i % r) a) = true ↔ eqs (sf (k / r) (k % r) a) (sf (0 / r) (0 % r) a) = true := by
    rw [eqs_iff, eqs_iff, Nat.zero_div, Nat.zero_mod]
    constructor
    · intro h
      exact (sf_inj (by omega) (by omega) h).trans7 (sf_00 a).symm7
    · intro h
      exact (h.trans7 (sf_00 a)).sf _ _
  show ek a r (adk r c k i) i = ek a r k 0
  unfold ek
  rw [hf]
  cases h1 : eqs (sf (i / r) (i % r) (sf (k / r) (k % r) a)) (sf (i / r) (i % r) a) <;> cases h2 : eqs (sf (k / r) (k % r) a) (sf (0 / r) (0 % r) a)
  · rfl
  · rw [key.mpr h2] at h1; cases h1
  · rw [key.mp h1] at h2; cases h2
  · rfl
theorem nd_ek (a : Fn6) (r c : Nat) (hr : r = 6 ∨ r = 1) (hc : c = 6 ∨ c = 1) (hp : ∀ i, i < c * r → ((List.range (c * r)).map (fun k => adk r c k i)).isPerm (List.range (c * r)) = true) : nd (ek a r) (c * r) * (List.range (c * r)).countP (fun j => ek a r j 0) = c * r := by
  refine nd_mul _ _ _ (fun i _ => (eqs_iff _ _).mpr (fun _ _ _ _ => rfl)) (fun i j _ _ h => (eqs_iff _ _).mpr ((eqs_iff _ _).mp h).symm7) (fun i j k _ _ _ h1 h2 => (eqs_iff _ _).mpr (((eqs_iff _ _).mp h1).trans7 ((eqs_iff _ _).mp h2))) (fun i hi => count_any a r c hr hc hp i hi)
theorem ek_0 (a : Fn6) (r k : Nat) : ek a r k 0 = sg7 a a (k / r) (k % r) := by
  rw [sg7_eqs]
  unfold ek
  rw [Nat.zero_div, Nat.zero_mod]
  cases h1 : eqs (sf (k / r) (k % r) a) (sf 0 0 a) <;> cases h2 : eqs (sf (k / r) (k % r) a) a
  · rfl
  · have := (eqs_iff _ _).mpr (((eqs_iff _ _).mp h2).trans7 (sf_00 a).symm7); rw [this] at h1; cases h1
  · have := (eqs_iff _ _).mpr (((eqs_iff _ _).mp h1).trans7 (sf_00 a)); rw [this] at h2; cases h2
  · rfl
theorem pl_count (g : Nat → Nat → Bool) : ∀ k, (pl g k).length = (List.range k).countP (fun j => g (j / 6) (j % 6))
  | 0 => rfl
  | k + 1 => by
    rw [List.range_succ, List.countP_append, ← pl_count g k]
    show (pl g k ++ _).length = _
    rw [List.length_append]
    cases hg : g (k / 6) (k % 6) <;> simp [hg]
/-- The number of different shifts. -/
theorem shifts_number (a : Fn6) : nd (ek a 6) 36 * (pl (sg7 a a) 36).length = 36 := by
  rw [pl_count]
  have h := nd_ek a 6 6 (.inl rfl) (.inl rfl) (fun i hi => perm36 ⟨i, hi⟩)
  rw [countP_same _ (fun j => sg7 a a (j / 6) (j % 6)) _ (fun k _ => ek_0 a 6 k)] at h
  exact h
end Go.Proofs.Ytpmhnikilianoaa
