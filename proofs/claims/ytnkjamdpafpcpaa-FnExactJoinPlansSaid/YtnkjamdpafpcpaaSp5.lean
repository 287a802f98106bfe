/- PLAIN LEMMAS: spread and shrunk, reflected, opened and closed, as maps of cells. -/
import Derived.Test.YtnkjamdpafpcpaaPx
import Derived.WalkKit
import Derived.ProofKit
import Derived.OpenShut
import Derived.Lib.Hide
import Derived.WalkSpells
import Derived.Below
import Derived.BigQuiet
import Derived.LoopN
namespace Go.Proofs.Ytnkjamdpafpcpaa
open Go.ChangeShapes Go.WideShapes Go.ChangeAt Go.RowKit
set_option linter.unusedVariables false
/-- Joined, shared, taken away, the other. -/
def jf (f g : Nat → Nat → Bool) : Nat → Nat → Bool := fun j i => f j i || g j i
def af (f g : Nat → Nat → Bool) : Nat → Nat → Bool := fun j i => f j i && g j i
def nf (f : Nat → Nat → Bool) : Nat → Nat → Bool := fun j i => !f j i
def wf2 (f g : Nat → Nat → Bool) : Nat → Nat → Bool := fun j i => f j i && !g j i
def onf : Nat → Nat → Bool := fun _ _ => true
/-- Spread by the shifts of a list; shared by them. -/
def spo (s : Nat → Nat → Bool) (l : List (Nat × Nat)) (o : Nat → Nat → Bool) : Nat → Nat → Bool := l.foldl (fun o c => jf o (sf c.1 c.2 s)) o
def sho (s : Nat → Nat → Bool) (l : List (Nat × Nat)) (o : Nat → Nat → Bool) : Nat → Nat → Bool := l.foldl (fun o c => af o (sf c.1 c.2 s)) o
def spd (s p : Nat → Nat → Bool) : Nat → Nat → Bool := spo s (bl p 36) zf
/-- Reflected. -/
def rf (p : Nat → Nat → Bool) : Nat → Nat → Bool := fun j i => p ((6 - j) % 6) ((6 - i) % 6)
def shr (s p : Nat → Nat → Bool) : Nat → Nat → Bool := sho s (bl (rf p) 36) onf
theorem spo_succ (s : Nat → Nat → Bool) (l : List (Nat × Nat)) (o : Nat → Nat → Bool) {i : Nat} (h : i < l.length) : spo s (l.take (i + 1)) o = jf (spo s (l.take i) o) (sf (l[i]).1 (l[i]).2 s) := by
  unfold spo
  rw [List.take_add_one, List.getElem?_eq_getElem h, List.foldl_append]
  rfl
theorem sho_succ (s : Nat → Nat → Bool) (l : List (Nat × Nat)) (o : Nat → Nat → Bool) {i : Nat} (h : i < l.length) : sho s (l.take (i + 1)) o = af (sho s (l.take i) o) (sf (l[i]).1 (l[i]).2 s) := by
  unfold sho
  rw [List.take_add_one, List.getElem?_eq_getElem h, List.foldl_append]
  rfl
theorem mem_bl (f : Nat → Nat → Bool) (c : Nat × Nat) : ∀ p, p ≤ 36 → (c ∈ bl f p ↔ c.1 < 6 ∧ 6 * c.2 + c.1 < p ∧ f c.2 c.1 = true) := by
  obtain ⟨x, y⟩ := c
  intro p
  induction p with
  | zero => intro _; simp [bl]
  | succ p ih =>
    intro hp
    have e : bl f (p + 1) = bl f p ++ (if f (p / 6) (p % 6) then [(p % 6, p / 6)] else []) := rfl
    rw [e, List.mem_append, ih (by omega)]
    dsimp only
    by_cases hh : 6 * y + x = p ∧ x < 6
    · obtain ⟨rfl, hx⟩ := hh
      rw [show (6 * y + x) / 6 = y by omega, show (6 * y + x) % 6 = x by omega]
      by_cases hf : f y x = true
      · simp [hf, hx]
      · simp [hf]
    · have hn : ¬ ((x, y) ∈ (if f (p / 6) (p % 6) then [(p % 6, p / 6)] else [])) := by
        split
        · intro hc
          have := List.mem_singleton.mp hc
          injection this with h1 h2
          omega
        · simp
      simp only [hn, or_false]
      constructor
      · rintro ⟨h1, h2, h3⟩; exact ⟨h1, by omega, h3⟩
      · rintro ⟨h1, h2, h3⟩; exact ⟨h1, by omega, h3⟩
theorem spo_iff (s : Nat → Nat → Bool) (j i : Nat) : ∀ (l : List (Nat × Nat)) (o : Nat → Nat → Bool), spo s l o j i = true ↔ o j i = true ∨ ∃ c ∈ l, s ((j + 6 - c.2) % 6) ((i + 6 - c.1) % 6) = true
  | [], o => by simp [spo]
  | c :: l, o => by
    have h := spo_iff s j i l (jf o (sf c.1 c.2 s))
    have e : spo s (c :: l) o = spo s l (jf o (sf c.1 c.2 s)) := rfl
    rw [e, h]
    simp only [jf, sf, Bool.or_eq_true, List.mem_cons, exists_eq_or_imp, or_assoc]
theorem sho_iff (s : Nat → Nat → Bool) (j i : Nat) : ∀ (l : List (Nat × Nat)) (o : Nat → Nat → Bool), sho s l o j i = true ↔ o j i = true ∧ ∀ c ∈ l, s ((j + 6 - c.2) % 6) ((i + 6 - c.1) % 6) = true
  | [], o => by simp [sho]
  | c :: l, o => by
    have h := sho_iff s j i l (af o (sf c.1 c.2 s))
    have e : sho s (c :: l) o = sho s l (af o (sf c.1 c.2 s)) := rfl
    rw [e, h]
    simp only [af, sf, Bool.and_eq_true, List.mem_cons, forall_eq_or_imp, and_assoc]
theorem spd_iff (s p : Nat → Nat → Bool) (j i : Nat) : spd s p j i = true ↔ ∃ b a, b < 6 ∧ a < 6 ∧ p b a = true ∧ s ((j + 6 - b) % 6) ((i + 6 - a) % 6) = true := by
  rw [spd, spo_iff]
  constructor
  · rintro (h | ⟨c, hc, h⟩)
    · simp [zf] at h
    · obtain ⟨h1, h2, h3⟩ := (mem_bl p c 36 (Nat.le_refl _)).mp hc
      exact ⟨c.2, c.1, by omega, h1, h3, h⟩
  · rintro ⟨b, a, hb, ha, hp, h⟩
    exact .inr ⟨(a, b), (mem_bl p (a, b) 36 (Nat.le_refl _)).mpr ⟨ha, by dsimp only; omega, hp⟩, h⟩
theorem rf_at (p : Nat → Nat → Bool) {j i : Nat} (hj : j < 6) (hi : i < 6) : rf p ((6 - j) % 6) ((6 - i) % 6) = p j i := by
  unfold rf
  rw [show (6 - (6 - j) % 6) % 6 = j by omega, show (6 - (6 - i) % 6) % 6 = i by omega]
theorem shr_iff (s p : Nat → Nat → Bool) (j i : Nat) : shr s p j i = true ↔ ∀ b a, b < 6 → a < 6 → p b a = true → s ((j + b) % 6) ((i + a) % 6) = true := by
  rw [shr, sho_iff]
  constructor
  · rintro ⟨_, h⟩ b a hb ha hp
    have := h ((6 - a) % 6, (6 - b) % 6) ((mem_bl _ _ 36 (Nat.le_refl _)).mpr ⟨by dsimp only; omega, by dsimp only; omega, by rw [rf_at p hb ha]; exact hp⟩)
    dsimp only at this
    rw [show (j + 6 - (6 - b) % 6) % 6 = (j + b) % 6 by omega, show (i + 6 - (6 - a) % 6) % 6 = (i + a) % 6 by omega] at this
    exact this
  · intro h
    refine ⟨rfl, fun c hc => ?_⟩
    obtain ⟨h1, h2, h3⟩ := (mem_bl (rf p) c 36 (Nat.le_refl _)).mp hc
    have := h ((6 - c.2) % 6) ((6 - c.1) % 6) (by omega) (by omega) h3
    rw [show (j + (6 - c.2) % 6) % 6 = (j + 6 - c.2) % 6 by omega, show (i + (6 - c.1) % 6) % 6 = (i + 6 - c.1) % 6 by omega] at this
    exact this
/-- Shrunk: the stamp, shifted to the cell, is part of the sheet. -/
theorem part_shr (s p : Nat → Nat → Bool) {x y : Nat} (hx : x < 6) (hy : y < 6) : shr s p y x = true ↔ ∀ j i, j < 6 → i < 6 → sf x y p j i = true → s j i = true := by
  rw [shr_iff]
  constructor
  · intro h j i hj hi hp
    have := h _ _ (Nat.mod_lt _ (by decide)) (Nat.mod_lt _ (by decide)) hp
    rw [show (y + (j + 6 - y) % 6) % 6 = j by omega, show (x + (i + 6 - x) % 6) % 6 = i by omega] at this
    exact this
  · intro h b a hb ha hp
    refine h _ _ (Nat.mod_lt _ (by decide)) (Nat.mod_lt _ (by decide)) ?_
    unfold sf
    rw [show ((y + b) % 6 + 6 - y) % 6 = b by omega, show ((x + a) % 6 + 6 - x) % 6 = a by omega]
    exact hp
/-- The model's reflection: cells flipped one by one. -/
def sg (x y : Nat) (o : Nat → Nat → Bool) : Nat → Nat → Bool := fun j i => Bool.xor (o j i) (j == y && i == x)
def rfo (l : List (Nat × Nat)) (o : Nat → Nat → Bool) : Nat → Nat → Bool := l.foldl (fun o c => sg ((6 - c.1) % 6) ((6 - c.2) % 6) o) o
theorem rfo_succ (l : List (Nat × Nat)) (o : Nat → Nat → Bool) {i : Nat} (h : i < l.length) : rfo (l.take (i + 1)) o = sg ((6 - (l[i]).1) % 6) ((6 - (l[i]).2) % 6) (rfo (l.take i) o) := by
  unfold rfo
  rw [List.take_add_one, List.getElem?_eq_getElem h, List.foldl_append]
  rfl
theorem rfo_key (p : Nat → Nat → Bool) : ∀ n, n ≤ 36 → ∀ j i, j < 6 → i < 6 → rfo (bl p n) zf j i = (decide (6 * ((6 - j) % 6) + (6 - i) % 6 < n) && rf p j i) := by
  intro n
  induction n with
  | zero => intro _ j i _ _; simp [bl, rfo, zf]
  | succ n ih =>
    intro hn j i hj hi
    have e : bl p (n + 1) = bl p n ++ (if p (n / 6) (n % 6) then [(n % 6, n / 6)] else []) := rfl
    have ihh := ih (by omega) j i hj hi
    rw [e]
    split
    next hs =>
      simp only [rfo, List.foldl_append, List.foldl_cons, List.foldl_nil] at ihh ⊢
      simp only [sg, ihh]
      by_cases hh : 6 * ((6 - j) % 6) + (6 - i) % 6 = n
      · have e1 : n / 6 = (6 - j) % 6 := by omega
        have e2 : n % 6 = (6 - i) % 6 := by omega
        rw [e1, e2] at hs ⊢
        have e3 : ¬ 6 * ((6 - j) % 6) + (6 - i) % 6 < n := by omega
        have e4 : 6 * ((6 - j) % 6) + (6 - i) % 6 < n + 1 := by omega
        have e5 : (j == (6 - (6 - j) % 6) % 6) = true := by simp; omega
        have e6 : (i == (6 - (6 - i) % 6) % 6) = true := by simp; omega
        have e7 : rf p j i = true := hs
        simp [e3, e4, e5, e6, e7]
      · have hb : (j == (6 - n / 6) % 6 && i == (6 - n % 6) % 6) = false := by
          cases hc : (j == (6 - n / 6) % 6 && i == (6 - n % 6) % 6)
          · rfl
          · simp only [Bool.and_eq_true, beq_iff_eq] at hc
            omega
        rw [hb]
        have : (6 * ((6 - j) % 6) + (6 - i) % 6 < n + 1) ↔ (6 * ((6 - j) % 6) + (6 - i) % 6 < n) := by omega
        simp [this]
    next hs =>
      rw [List.append_nil, ihh]
      by_cases hh : 6 * ((6 - j) % 6) + (6 - i) % 6 = n
      · have e1 : n / 6 = (6 - j) % 6 := by omega
        have e2 : n % 6 = (6 - i) % 6 := by omega
        rw [e1, e2] at hs
        have e7 : rf p j i = false := Bool.eq_false_iff.mpr (show ¬ rf p j i = true from hs)
        simp [e7]
      · have : (6 * ((6 - j) % 6) + (6 - i) % 6 < n + 1) ↔ (6 * ((6 - j) % 6) + (6 - i) % 6 < n) := by omega
        simp [this]
theorem rfo_bl (p : Nat → Nat → Bool) : Ag (rfo (bl p 36) zf) (rf p) := fun j i hj hi => by
  have h := rfo_key p 36 (Nat.le_refl _) j i hj hi
  have h36 : 6 * ((6 - j) % 6) + (6 - i) % 6 < 36 := by omega
  rw [h, decide_eq_true h36, Bool.true_and]
/-- Part of. -/
def Le (f g : Nat → Nat → Bool) : Prop := ∀ j i, j < 6 → i < 6 → f j i = true → g j i = true
theorem Le.refl (f : Nat → Nat → Bool) : Le f f := fun _ _ _ _ h => h
theorem Le.trans {f g h : Nat → Nat → Bool} (a : Le f g) (b : Le g h) : Le f h := fun j i hj hi q => b j i hj hi (a j i hj hi q)
theorem Le.ag {f g : Nat → Nat → Bool} (a : Le f g) (b : Le g f) : Ag f g := fun j i hj hi => Bool.eq_iff_iff.mpr ⟨a j i hj hi, b j i hj hi⟩
theorem Ag.le {f g : Nat → Nat → Bool} (a : Ag f g) : Le f g := fun j i hj hi q => by rw [← a j i hj hi]; exact q
theorem Ag.symm {f g : Nat → Nat → Bool} (a : Ag f g) : Ag g f := fun j i hj hi => (a j i hj hi).symm
theorem Ag.trans {f g h : Nat → Nat → Bool} (a : Ag f g) (b : Ag g h) : Ag f h := fun j i hj hi => (a j i hj hi).trans (b j i hj hi)
theorem Ag.refl (f : Nat → Nat → Bool) : Ag f f := fun _ _ _ _ => rfl
theorem spd_mono {s s' p p' : Nat → Nat → Bool} (h : Le s s') (k : Le p p') : Le (spd s p) (spd s' p') := fun j i _ _ q => by
  obtain ⟨b, a, hb, ha, hp, hs⟩ := (spd_iff s p j i).mp q
  exact (spd_iff s' p' j i).mpr ⟨b, a, hb, ha, k b a hb ha hp, h _ _ (Nat.mod_lt _ (by decide)) (Nat.mod_lt _ (by decide)) hs⟩
theorem shr_mono {s s' p p' : Nat → Nat → Bool} (h : Le s s') (k : Le p' p) : Le (shr s p) (shr s' p') := fun j i _ _ q =>
  (shr_iff s' p' j i).mpr fun b a hb ha hp => h _ _ (Nat.mod_lt _ (by decide)) (Nat.mod_lt _ (by decide)) ((shr_iff s p j i).mp q b a hb ha (k b a hb ha hp))
theorem spd_ag {s s' p p' : Nat → Nat → Bool} (h : Ag s s') (k : Ag p p') : Ag (spd s p) (spd s' p') := (spd_mono h.le k.le).ag (spd_mono h.symm.le k.symm.le)
theorem shr_ag {s s' p p' : Nat → Nat → Bool} (h : Ag s s') (k : Ag p p') : Ag (shr s p) (shr s' p') := (shr_mono h.le k.symm.le).ag (shr_mono h.symm.le k.le)
/-- Spread is part of another one exactly if it is part of that one shrunk. -/
theorem adj (s t p : Nat → Nat → Bool) : Le (spd s p) t ↔ Le s (shr t p) := by
  constructor
  · intro h j i hj hi hs
    refine (shr_iff t p j i).mpr fun b a hb ha hp => h _ _ (Nat.mod_lt _ (by decide)) (Nat.mod_lt _ (by decide)) ((spd_iff s p _ _).mpr ⟨b, a, hb, ha, hp, ?_⟩)
    rw [show ((j + b) % 6 + 6 - b) % 6 = j by omega, show ((i + a) % 6 + 6 - a) % 6 = i by omega]
    exact hs
  · intro h j i hj hi q
    obtain ⟨b, a, hb, ha, hp, hs⟩ := (spd_iff s p j i).mp q
    have := (shr_iff t p _ _).mp (h _ _ (Nat.mod_lt _ (by decide)) (Nat.mod_lt _ (by decide)) hs) b a hb ha hp
    rw [show ((j + 6 - b) % 6 + b) % 6 = j by omega, show ((i + 6 - a) % 6 + a) % 6 = i by omega] at this
    exact this
def opn (s p : Nat → Nat → Bool) : Nat → Nat → Bool := spd (shr s p) p
def cls (s p : Nat → Nat → Bool) : Nat → Nat → Bool := shr (spd s p) p
theorem opn_le (s p : Nat → Nat → Bool) : Le (opn s p) s := (adj _ _ _).mpr (Le.refl _)
theorem le_cls (s p : Nat → Nat → Bool) : Le s (cls s p) := (adj _ _ _).mp (Le.refl _)
theorem opn_opn (s p : Nat → Nat → Bool) : Ag (opn (opn s p) p) (opn s p) :=
  (opn_le _ _).ag (spd_mono ((adj _ _ _).mp (Le.refl _)) (Le.refl _))
theorem cls_cls (s p : Nat → Nat → Bool) : Ag (cls (cls s p) p) (cls s p) :=
  (shr_mono ((adj _ _ _).mpr (Le.refl _)) (Le.refl _)).ag (le_cls _ _)
theorem spd_comm (s p : Nat → Nat → Bool) : Ag (spd s p) (spd p s) := by
  have key : ∀ s p, Le (spd s p) (spd p s) := fun s p j i hj hi q => by
    obtain ⟨b, a, hb, ha, hp, hs⟩ := (spd_iff s p j i).mp q
    refine (spd_iff p s j i).mpr ⟨_, _, Nat.mod_lt _ (by decide), Nat.mod_lt _ (by decide), hs, ?_⟩
    rw [show (j + 6 - (j + 6 - b) % 6) % 6 = b by omega, show (i + 6 - (i + 6 - a) % 6) % 6 = a by omega]
    exact hp
  exact (key _ _).ag (key _ _)
theorem spd_assoc (s p q : Nat → Nat → Bool) : Ag (spd (spd s p) q) (spd s (spd p q)) := by
  refine Le.ag ?_ ?_
  · intro j i hj hi h
    obtain ⟨b, a, hb, ha, hq, h2⟩ := (spd_iff _ q j i).mp h
    obtain ⟨d, c, hd, hc, hp, hs⟩ := (spd_iff s p _ _).mp h2
    refine (spd_iff s _ j i).mpr ⟨(d + b) % 6, (c + a) % 6, Nat.mod_lt _ (by decide), Nat.mod_lt _ (by decide), (spd_iff p q _ _).mpr ⟨b, a, hb, ha, hq, ?_⟩, ?_⟩
    · rw [show ((d + b) % 6 + 6 - b) % 6 = d by omega, show ((c + a) % 6 + 6 - a) % 6 = c by omega]
      exact hp
    · rw [show (j + 6 - (d + b) % 6) % 6 = ((j + 6 - b) % 6 + 6 - d) % 6 by omega, show (i + 6 - (c + a) % 6) % 6 = ((i + 6 - a) % 6 + 6 - c) % 6 by omega]
      exact hs
  · intro j i hj hi h
    obtain ⟨b, a, hb, ha, hq, hs⟩ := (spd_iff s _ j i).mp h
    obtain ⟨d, c, hd, hc, hp, h2⟩ := (spd_iff p q _ _).mp hq
    refine (spd_iff _ q j i).mpr ⟨d, c, hd, hc, hp, (spd_iff s p _ _).mpr ⟨(b + 6 - d) % 6, (a + 6 - c) % 6, Nat.mod_lt _ (by decide), Nat.mod_lt _ (by decide), h2, ?_⟩⟩
    rw [show ((j + 6 - d) % 6 + 6 - (b + 6 - d) % 6) % 6 = (j + 6 - b) % 6 by omega, show ((i + 6 - c) % 6 + 6 - (a + 6 - c) % 6) % 6 = (i + 6 - a) % 6 by omega]
    exact hs
/-- Spread n times. -/
def spn5 (s p : Nat → Nat → Bool) : Nat → Nat → Nat → Bool
  | 0 => s
  | n + 1 => spd (spn5 s p n) p
theorem spn5_ag {s s' p : Nat → Nat → Bool} (h : Ag s s') : ∀ n, Ag (spn5 s p n) (spn5 s' p n)
  | 0 => h
  | n + 1 => spd_ag (spn5_ag h n) (Ag.refl _)
theorem spn5_add (s p : Nat → Nat → Bool) (m : Nat) : ∀ n, spn5 s p (m + n) = spn5 (spn5 s p m) p n
  | 0 => rfl
  | n + 1 => congrArg (spd · p) (spn5_add s p m n)
theorem r6_oo : ∀ (b0 b1 b2 b3 b4 b5 c0 c1 c2 c3 c4 c5 : Bool), bits .or .i64 (r6 b0 b1 b2 b3 b4 b5) (r6 c0 c1 c2 c3 c4 c5) = r6 (b0 || c0) (b1 || c1) (b2 || c2) (b3 || c3) (b4 || c4) (b5 || c5) := by decide +kernel
theorem r6_aa : ∀ (b0 b1 b2 b3 b4 b5 c0 c1 c2 c3 c4 c5 : Bool), bits .and .i64 (r6 b0 b1 b2 b3 b4 b5) (r6 c0 c1 c2 c3 c4 c5) = r6 (b0 && c0) (b1 && c1) (b2 && c2) (b3 && c3) (b4 && c4) (b5 && c5) := by decide +kernel
theorem r6_an : ∀ (b0 b1 b2 b3 b4 b5 c0 c1 c2 c3 c4 c5 : Bool), bits .andNot .i64 (r6 b0 b1 b2 b3 b4 b5) (r6 c0 c1 c2 c3 c4 c5) = r6 (b0 && !c0) (b1 && !c1) (b2 && !c2) (b3 && !c3) (b4 && !c4) (b5 && !c5) := by decide +kernel
theorem r6_nn : ∀ (b0 b1 b2 b3 b4 b5 : Bool), wrap64 (63 - r6 b0 b1 b2 b3 b4 b5) = r6 (!b0) (!b1) (!b2) (!b3) (!b4) (!b5) := by decide +kernel
theorem r6_no : ∀ (b0 b1 b2 b3 b4 b5 : Bool), bits .andNot .i64 63 (r6 b0 b1 b2 b3 b4 b5) = r6 (!b0) (!b1) (!b2) (!b3) (!b4) (!b5) := by decide +kernel
theorem row_jf (f g : Nat → Nat → Bool) (r : Nat) : bits .or .i64 (rowv (f r)) (rowv (g r)) = rowv (jf f g r) := r6_oo _ _ _ _ _ _ _ _ _ _ _ _
theorem row_af (f g : Nat → Nat → Bool) (r : Nat) : bits .and .i64 (rowv (f r)) (rowv (g r)) = rowv (af f g r) := r6_aa _ _ _ _ _ _ _ _ _ _ _ _
theorem row_wf (f g : Nat → Nat → Bool) (r : Nat) : bits .andNot .i64 (rowv (f r)) (rowv (g r)) = rowv (wf2 f g r) := r6_an _ _ _ _ _ _ _ _ _ _ _ _
theorem row_nf (f : Nat → Nat → Bool) (r : Nat) : wrap64 (63 - rowv (f r)) = rowv (nf f r) := r6_nn _ _ _ _ _ _
theorem row_no (f : Nat → Nat → Bool) (r : Nat) : bits .andNot .i64 63 (rowv (f r)) = rowv (nf f r) := r6_no _ _ _ _ _ _
theorem row_on (r : Nat) : rowv (onf r) = 63 := rfl
theorem row_zf (r : Nat) : rowv (zf r) = 0 := rfl
theorem row_part (g h : Nat → Bool) : (bits .and .i64 (rowv g) (rowv h) == rowv g) = true ↔ ∀ i, i < 6 → g i = true → h i = true := by
  have e : bits .and .i64 (rowv g) (rowv h) = rowv (fun i => g i && h i) := r6_aa _ _ _ _ _ _ _ _ _ _ _ _
  rw [beq_iff_eq, e]
  constructor
  · intro q i hi hg
    have := rowv_inj q i hi
    rw [hg] at this
    simpa using this
  · intro q
    refine rowv_congr fun i hi => ?_
    have := q i hi
    cases hg : g i
    · simp
    · simp [this hg]
theorem part6 (f g : Nat → Nat → Bool) : (bits .and .i64 (rowv (f 0)) (rowv (g 0)) == rowv (f 0) && bits .and .i64 (rowv (f 1)) (rowv (g 1)) == rowv (f 1) && bits .and .i64 (rowv (f 2)) (rowv (g 2)) == rowv (f 2) && bits .and .i64 (rowv (f 3)) (rowv (g 3)) == rowv (f 3) && bits .and .i64 (rowv (f 4)) (rowv (g 4)) == rowv (f 4) && bits .and .i64 (rowv (f 5)) (rowv (g 5)) == rowv (f 5)) = true ↔ Le f g := by
  simp only [Bool.and_eq_true, row_part]
  constructor
  · rintro ⟨⟨⟨⟨⟨h0, h1⟩, h2⟩, h3⟩, h4⟩, h5⟩ j i hj hi h
    rcases six_n hj with rfl | rfl | rfl | rfl | rfl | rfl
    · exact h0 i hi h
    · exact h1 i hi h
    · exact h2 i hi h
    · exact h3 i hi h
    · exact h4 i hi h
    · exact h5 i hi h
  · intro h
    exact ⟨⟨⟨⟨⟨fun i hi => h 0 i (by decide) hi, fun i hi => h 1 i (by decide) hi⟩, fun i hi => h 2 i (by decide) hi⟩, fun i hi => h 3 i (by decide) hi⟩, fun i hi => h 4 i (by decide) hi⟩, fun i hi => h 5 i (by decide) hi⟩
/-- The model's test in shrinking. -/
theorem part_bit (s p : Nat → Nat → Bool) {x y : Nat} (hx : x < 6) (hy : y < 6) : (bits .and .i64 (rowv (sf x y p 0)) (rowv (s 0)) == rowv (sf x y p 0) && bits .and .i64 (rowv (sf x y p 1)) (rowv (s 1)) == rowv (sf x y p 1) && bits .and .i64 (rowv (sf x y p 2)) (rowv (s 2)) == rowv (sf x y p 2) && bits .and .i64 (rowv (sf x y p 3)) (rowv (s 3)) == rowv (sf x y p 3) && bits .and .i64 (rowv (sf x y p 4)) (rowv (s 4)) == rowv (sf x y p 4) && bits .and .i64 (rowv (sf x y p 5)) (rowv (s 5)) == rowv (sf x y p 5)) = shr s p y x := by
  rw [Bool.eq_iff_iff, part6, part_shr s p hx hy]
  exact Iff.rfl
theorem row_sg (o : Nat → Nat → Bool) {x : Nat} (hx : x < 6) (y r : Nat) : rowv (sg x y o r) = if (y : Int) = (r : Int) then bits .xor .i64 (rowv (o r)) (wrap64 (2 ^ ((x : Int)).toNat)) else rowv (o r) := by
  split
  · rename_i e
    obtain rfl : y = r := by omega
    rw [Int.toNat_natCast, rowv_xor _ hx]
    exact rowv_congr fun i _ => by simp [sg]
  · rename_i e
    exact rowv_congr fun i _ => by
      have hn : (r == y) = false := by simp; omega
      simp [sg, hn]
end Go.Proofs.Ytnkjamdpafpcpaa
