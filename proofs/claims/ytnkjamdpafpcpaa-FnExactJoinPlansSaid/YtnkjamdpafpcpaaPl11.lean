/- PLAIN LEMMAS: sheets and steps as numbers, rows of them, and what stays where it is from call to call. -/
import Derived.Deep.MidRow
import Derived.Deep.WholeRow
import Derived.Laws.OwnMore
import Derived.WalkKit
import Derived.ProofKit
import Derived.OpenShut
import Derived.Lib.Hide
import Derived.WalkSpells
import Derived.Below
import Derived.BigQuiet
import Derived.LoopN
namespace Go.Proofs.Ytnkjamdpafpcpaa
open Go.ChangeShapes Go.WideShapes Go.ChangeAt Go.RowKit
set_option linter.unusedVariables false
/-- The numbers of a sheet. -/
abbrev H11 : Type := Int × Int × Int × Int × Int × Int
def ch11 (t : H11) : List Value := [.int .i64 t.1, .int .i64 t.2.1, .int .i64 t.2.2.1, .int .i64 t.2.2.2.1, .int .i64 t.2.2.2.2.1, .int .i64 t.2.2.2.2.2]
/-- The numbers of a step. -/
structure S11 where
  (k s x y : Int)
def cs11 (p : S11) : List Value := [.int .i64 p.k, .int .i64 p.s, .int .i64 p.x, .int .i64 p.y]
def hv11 (l : List H11) : List Value := l.flatMap ch11
def sv11 (l : List S11) : List Value := l.flatMap cs11
def h0_11 : H11 := (0, 0, 0, 0, 0, 0)
def s0_11 : S11 := ⟨0, 0, 0, 0⟩
instance : Inhabited S11 := ⟨s0_11⟩
section
variable {α : Type} {e : α → List Value} {k : Nat}
theorem fm_len (he : ∀ a, (e a).length = k) : ∀ l : List α, (l.flatMap e).length = l.length * k
  | [] => by simp
  | a :: l => by
    rw [List.flatMap_cons, List.length_append, he, fm_len he l, List.length_cons, Nat.succ_mul, Nat.add_comm]
theorem fm_at (he : ∀ a, (e a).length = k) : ∀ (l : List α) (i : Nat) (h : i < l.length) (c : Nat), c < k → (l.flatMap e)[i * k + c]? = (e l[i])[c]?
  | [], i, h, _, _ => by simp at h
  | a :: l, 0, h, c, hc => by
    rw [List.flatMap_cons, Nat.zero_mul, Nat.zero_add, List.getElem?_append_left (by rw [he]; exact hc)]
    rfl
  | a :: l, i + 1, h, c, hc => by
    have h1 : (i + 1) * k + c = k + (i * k + c) := by rw [Nat.succ_mul]; omega
    rw [List.flatMap_cons, h1, List.getElem?_append_right (by rw [he]; omega), he, Nat.add_sub_cancel_left]
    exact fm_at he l i (by simpa using h) c hc
theorem fm_out (he : ∀ a, (e a).length = k) (l : List α) {j : Nat} (h : l.length * k ≤ j) : (l.flatMap e)[j]? = none := List.getElem?_eq_none (by rw [fm_len he]; exact h)
theorem fm_range (he : ∀ a, (e a).length = k) {l : List α} {W : World} {g : Nat} (h : W.rangeAt g 0 (l.flatMap e)) {i : Nat} (hi : i < l.length) : W.rangeAt g (i * k) (e l[i]) := by
  intro j v hv
  have hj : j < k := by rw [← he l[i]]; exact (List.getElem?_eq_some_iff.1 hv).1
  have := h (i * k + j) v (by rw [fm_at he l i hi j hj]; exact hv)
  rwa [Nat.zero_add] at this
theorem fm_take (he : ∀ a, (e a).length = k) {l : List α} {W : World} {g : Nat} (h : W.rangeAt g 0 (l.flatMap e)) (n : Nat) : W.rangeAt g 0 ((l.take n).flatMap e) := by
  intro j v hv
  refine h j v ?_
  have h1 : l.flatMap e = (l.take n).flatMap e ++ (l.drop n).flatMap e := by rw [← List.flatMap_append, List.take_append_drop]
  rw [h1, List.getElem?_append_left (List.getElem?_eq_some_iff.1 hv).1]
  exact hv
def setMany : List Value → Nat → List Value → List Value
  | xs, _, [] => xs
  | xs, o, v :: r => setMany (xs.set o v) (o + 1) r
theorem setMany_at : ∀ (cs xs : List Value) (o j : Nat), (setMany xs o cs)[j]? = if o ≤ j ∧ j < o + cs.length ∧ j < xs.length then cs[j - o]? else xs[j]?
  | [], xs, o, j => by
    rw [if_neg (by simp; omega)]
    rfl
  | v :: r, xs, o, j => by
    show (setMany (xs.set o v) (o + 1) r)[j]? = _
    rw [setMany_at r, List.length_set, List.length_cons]
    by_cases h1 : o + 1 ≤ j ∧ j < o + 1 + r.length ∧ j < xs.length
    · rw [if_pos h1, if_pos (by omega), show j - o = (j - (o + 1)) + 1 by omega, List.getElem?_cons_succ]
    · rw [if_neg h1]
      by_cases h2 : j = o ∧ j < xs.length
      · obtain ⟨rfl, h2⟩ := h2
        rw [if_pos (by omega), Nat.sub_self, List.getElem?_set_self h2]
        rfl
      · by_cases h3 : j = o
        · rw [if_neg (by omega), List.getElem?_eq_none (by rw [List.length_set]; omega), List.getElem?_eq_none (by omega)]
        · rw [if_neg (by omega), List.getElem?_set_ne (by omega)]
theorem fm_setMany (he : ∀ a, (e a).length = k) (l : List α) {i : Nat} (h : i < l.length) (p : α) : setMany (l.flatMap e) (i * k) (e p) = (l.set i p).flatMap e := by
  apply List.ext_getElem?
  intro j
  have hset : (l.set i p).length = l.length := List.length_set
  rw [setMany_at, he, fm_len he]
  by_cases hj : j < l.length * k
  · have hk : 0 < k := by
      rcases Nat.eq_zero_or_pos k with rfl | h
      · omega
      · exact h
    have hq : j / k < l.length := by rw [Nat.div_lt_iff_lt_mul hk]; exact hj
    have hr : j % k < k := Nat.mod_lt j hk
    have hjk : j / k * k + j % k = j := by have := Nat.div_add_mod j k; rw [Nat.mul_comm] at this; exact this
    have r1 : ((l.set i p).flatMap e)[j]? = (e (l.set i p)[j / k])[j % k]? := by
      have := fm_at he (l.set i p) (j / k) (by omega) (j % k) hr
      rw [hjk] at this
      exact this
    have l1 : (l.flatMap e)[j]? = (e l[j / k])[j % k]? := by
      have := fm_at he l (j / k) hq (j % k) hr
      rwa [hjk] at this
    rw [r1, l1, List.getElem_set]
    by_cases hi : i = j / k
    · have h1 : i * k ≤ j := by rw [hi]; omega
      have h2 : j < i * k + k := by rw [hi]; omega
      rw [if_pos ⟨h1, h2, hj⟩, if_pos hi]
      congr 1
      rw [hi]
      omega
    · have h1 : ¬ (i * k ≤ j ∧ j < i * k + k ∧ j < l.length * k) := by
        rintro ⟨a, b, _⟩
        apply hi
        have : j / k = i := by
          apply Nat.div_eq_of_lt_le
          · exact a
          · rw [Nat.succ_mul]; exact b
        exact this.symm
      rw [if_neg h1, if_neg hi]
  · rw [if_neg (by omega), fm_out he l (by omega), fm_out he _ (by rw [hset]; omega)]
end
theorem ch11_len (t : H11) : (ch11 t).length = 6 := rfl
theorem cs11_len (p : S11) : (cs11 p).length = 4 := rfl
theorem hv11_len (l : List H11) : (hv11 l).length = l.length * 6 := fm_len ch11_len l
theorem sv11_len (l : List S11) : (sv11 l).length = l.length * 4 := fm_len cs11_len l
/-- Many cells are stored into a row that is owned. -/
theorem own_setCells {B g n cap : Nat} {t : TypeId} {z : Nat} : ∀ (cs : List Value) (o : Nat) (xs : List Value) (W : World), W.ownsRow B t z (.slice (some ⟨g, 0, none⟩) n cap) n xs → (W.setCells g o cs).ownsRow B t z (.slice (some ⟨g, 0, none⟩) n cap) n (setMany xs o cs)
  | [], _, _, _, h => h
  | v :: r, o, xs, W, h => own_setCells r (o + 1) (xs.set o v) (W.setCell ⟨g, o, none⟩ v) (h.stored o v).1
theorem setCells_heap {g h : Nat} (hne : h ≠ g) : ∀ (vs : List Value) (o : Nat) (W : World), (W.setCells g o vs).heap[h]? = W.heap[h]?
  | [], _, _ => rfl
  | v :: r, o, W => by
    rw [World.setCells, setCells_heap hne r (o + 1)]
    exact Below.heap_setCell _ _ _ _ hne
theorem setCells_bel {B g : Nat} (hB : B ≤ g) : ∀ (vs : List Value) (o : Nat) (w W : World), Below B w W → Below B w (W.setCells g o vs)
  | [], _, _, _, h => h
  | v :: r, o, w, W, h => setCells_bel hB r (o + 1) w _ (h.setCell hB v)
theorem setCells_size11 {g : Nat} : ∀ (vs : List Value) (o : Nat) (W : World), (W.setCells g o vs).heap.size = W.heap.size
  | [], _, _ => rfl
  | v :: r, o, W => by rw [World.setCells, setCells_size11 r (o + 1)]; simp
theorem ra_below {g o M : Nat} {cs : List Value} {U V : World} (h : U.rangeAt g o cs) (hb : Below M U V) (hM : M = U.heap.size) : V.rangeAt g o cs := by
  intro j v hv
  have h1 := h j v hv
  have hl : g < U.heap.size := World.block_lt_of_cell? U _ h1
  exact (hb.cell (p := ⟨g, o + j, none⟩) (by subst hM; exact hl)).trans h1
theorem own_range {B g n cap : Nat} {t : TypeId} {z : Nat} {xs : List Value} {W : World} (h : W.ownsRow B t z (.slice (some ⟨g, 0, none⟩) n cap) n xs) : W.rangeAt g 0 xs := by
  intro j v hv
  have hj : j < n * z := by rw [← h.1]; exact (List.getElem?_eq_some_iff.1 hv).1
  rw [Nat.zero_add, h.cellAt j hj]
  exact hv
theorem own_cap {B g n cap : Nat} {t : TypeId} {z : Nat} {xs : List Value} {W : World} (h : W.ownsRow B t z (.slice (some ⟨g, 0, none⟩) n cap) n xs) : n ≤ cap := by
  rcases h.2 with ⟨h', _⟩ | ⟨g', cap', cur, h', _, _, hc, _⟩
  · simp at h'
  · simp only [Value.slice.injEq, Option.some.injEq, Addr.mk.injEq, and_true, true_and] at h'
    obtain ⟨_, rfl⟩ := h'
    exact hc
/-- Two worlds have the same blocks in an interval. -/
def SameIn (lo hi : Nat) (U V : World) : Prop := ∀ k, lo ≤ k → k < hi → V.heap[k]? = U.heap[k]?
theorem own_same {lo hi B n z : Nat} {t : TypeId} {v : Value} {xs : List Value} {U V : World} (h : U.ownsRow B t z v n xs) (hs : SameIn lo hi U V) (hv : ∀ k, v.ownBlock = some k → lo ≤ k ∧ k < hi) : V.ownsRow B t z v n xs := by
  refine ⟨h.1, ?_⟩
  rcases h.2 with hn | ⟨g, cap, cur, rfl, hb, hgg, rest⟩
  · exact .inl hn
  · have := hv g rfl
    exact .inr ⟨g, cap, cur, rfl, hb, (hs g this.1 this.2).trans hgg, rest⟩
/-- A fact of the world that hangs on the blocks of an interval. -/
structure It where
  lo : Nat
  hi : Nat
  P : World → Prop
  st : ∀ U V : World, SameIn lo hi U V → P U → P V
/-- What a long walk keeps: facts on intervals that lie apart, the newest first; and nothing below w's size touched. -/
def Lw (w : World) (L : List It) (U : World) : Prop := Below w.heap.size w U ∧ (∀ i ∈ L, w.heap.size ≤ i.lo ∧ i.hi ≤ U.heap.size ∧ i.P U) ∧ L.Pairwise (fun a b => b.hi ≤ a.lo)
theorem Lw.start (w : World) : Lw w [] w := ⟨Below.refl _ _, fun i h => by simp at h, List.Pairwise.nil⟩
theorem Lw.below {w U : World} {L : List It} (h : Lw w L U) : Below w.heap.size w U := h.1
theorem Lw.far {w U V : World} {L : List It} {M : Nat} (h : Lw w L U) (hb : Below M U V) (hM : M = U.heap.size) : Lw w L V := by
  subst hM
  exact ⟨h.1.trans (hb.mono h.1.size), fun i hi => ⟨(h.2.1 i hi).1, Nat.le_trans (h.2.1 i hi).2.1 hb.size, i.st U V (fun k _ hk => hb.block k (Nat.lt_of_lt_of_le hk (h.2.1 i hi).2.1)) (h.2.1 i hi).2.2⟩, h.2.2⟩
theorem Lw.drew {w U : World} {L : List It} (h : Lw w L U) : Lw w L U.drew := h.far (M := U.heap.size) (Below.refl _ _).drew rfl
theorem Lw.al {w U : World} {L : List It} (h : Lw w L U) (o : Obj) : Lw w L (U.alloc o) := h.far (M := U.heap.size) ((Below.refl _ _).alloc (Nat.le_refl _) o) rfl
theorem Lw.add {w U V : World} {L : List It} {M : Nat} (h : Lw w L U) (hb : Below M U V) (hM : M = U.heap.size) (i : It) (h1 : U.heap.size ≤ i.lo) (h2 : i.hi ≤ V.heap.size) (hp : i.P V) : Lw w (i :: L) V := by
  have hf := h.far hb hM
  refine ⟨hf.1, fun j hj => ?_, List.pairwise_cons.mpr ⟨fun j hj => Nat.le_trans (h.2.1 j hj).2.1 h1, h.2.2⟩⟩
  rcases List.mem_cons.mp hj with rfl | hj
  · exact ⟨Nat.le_trans h.1.size h1, h2, hp⟩
  · exact hf.2.1 j hj
theorem Lw.get {w U : World} {L : List It} (h : Lw w L U) {i : It} (hi : i ∈ L) : i.P U := (h.2.1 i hi).2.2
theorem Lw.hd {w U : World} {L : List It} {i : It} (h : Lw w (i :: L) U) : i.P U := h.get (List.mem_cons_self ..)
/-- Onl11 the blocks of an interval are touched. -/
def Onl11 (lo hi : Nat) (U V : World) : Prop := V.os = U.os ∧ V.tape = U.tape ∧ V.output = U.output ∧ U.heap.size ≤ V.heap.size ∧ ∀ k, k < U.heap.size → ¬ (lo ≤ k ∧ k < hi) → V.heap[k]? = U.heap[k]?
theorem Onl11.refl (lo hi : Nat) (U : World) : Onl11 lo hi U U := ⟨rfl, rfl, rfl, Nat.le_refl _, fun _ _ _ => rfl⟩
theorem Onl11.trans {lo hi : Nat} {U V X : World} (h : Onl11 lo hi U V) (k : Onl11 lo hi V X) : Onl11 lo hi U X := ⟨k.1.trans h.1, k.2.1.trans h.2.1, k.2.2.1.trans h.2.2.1, Nat.le_trans h.2.2.2.1 k.2.2.2.1, fun i hi hn => (k.2.2.2.2 i (Nat.lt_of_lt_of_le hi h.2.2.2.1) hn).trans (h.2.2.2.2 i hi hn)⟩
theorem Onl11.of_below {lo hi M : Nat} {U V : World} (hb : Below M U V) (hM : M = U.heap.size) : Onl11 lo hi U V := ⟨hb.os, hb.tape, hb.output, hb.size, fun k hk _ => hb.block k (by omega)⟩
theorem Onl11.of_grown {lo hi : Nat} {row : Option Nat} {U V : World} (hg : U.grownBy V row) (hr : ∀ k, row = some k → lo ≤ k ∧ k < hi) : Onl11 lo hi U V := ⟨hg.os, hg.tape, hg.output, hg.size, fun k hk hn => hg.block k hk (fun e => hn (hr k e.symm))⟩
theorem Lw.chg {w U V : World} {A C : List It} {i : It} (h : Lw w (A ++ i :: C) U) (ho : Onl11 i.lo i.hi U V) (P' : World → Prop) (st' : ∀ U V : World, SameIn i.lo i.hi U V → P' U → P' V) (hp : P' V) : Lw w (A ++ ⟨i.lo, i.hi, P', st'⟩ :: C) V := by
  have hmem : i ∈ A ++ i :: C := List.mem_append_right _ (List.mem_cons_self ..)
  have hi := h.2.1 i hmem
  have hpw := List.pairwise_append.mp h.2.2
  have hpc := List.pairwise_cons.mp hpw.2.1
  have far : ∀ j : It, j.hi ≤ U.heap.size → (j.hi ≤ i.lo ∨ i.hi ≤ j.lo) → j.P U → j.P V := fun j hj hd hP => j.st U V (fun k h1 h2 => ho.2.2.2.2 k (by omega) (by omega)) hP
  refine ⟨⟨ho.1.trans h.1.os, ho.2.1.trans h.1.tape, ho.2.2.1.trans h.1.output, Nat.le_trans h.1.size ho.2.2.2.1, fun k hk => (ho.2.2.2.2 k (Nat.lt_of_lt_of_le hk h.1.size) (by omega)).trans (h.1.block k hk)⟩, fun j hj => ?_, List.pairwise_append.mpr ⟨hpw.1, List.pairwise_cons.mpr ⟨hpc.1, hpc.2⟩, fun a ha b hb => ?_⟩⟩
  · rcases List.mem_append.mp hj with hj | hj
    · have hq := h.2.1 j (List.mem_append_left _ hj)
      exact ⟨hq.1, Nat.le_trans hq.2.1 ho.2.2.2.1, far j hq.2.1 (.inr (hpw.2.2 j hj i (List.mem_cons_self ..))) hq.2.2⟩
    · rcases List.mem_cons.mp hj with rfl | hj
      · exact ⟨hi.1, Nat.le_trans hi.2.1 ho.2.2.2.1, hp⟩
      · have hq := h.2.1 j (List.mem_append_right _ (List.mem_cons_of_mem _ hj))
        exact ⟨hq.1, Nat.le_trans hq.2.1 ho.2.2.2.1, far j hq.2.1 (.inl (hpc.1 j hj)) hq.2.2⟩
  · rcases List.mem_cons.mp hb with rfl | hb
    · exact hpw.2.2 a ha i (List.mem_cons_self ..)
    · exact hpw.2.2 a ha b (List.mem_cons_of_mem _ hb)
/-- A block of known cells. -/
def bx (b : Nat) (o : Obj) : It := ⟨b, b + 1, fun U => U.heap[b]? = some o, fun U V h hp => (h b (Nat.le_refl _) (Nat.lt_succ_self _)).trans hp⟩
/-- The rows of a plan: its sheets and its steps. -/
def Pr11 (lo hi : Nat) (v1 v2 : Value) (l : List H11) (st : List S11) (U : World) : Prop := U.ownsRow lo 28 6 v1 l.length (hv11 l) ∧ U.ownsRow lo 73 4 v2 st.length (sv11 st) ∧ (∀ k, v1.ownBlock = some k → k < hi) ∧ (∀ k, v2.ownBlock = some k → k < hi) ∧ (∀ k, v1.ownBlock = some k → v2.ownBlock ≠ some k)
theorem Pr11.st {lo hi : Nat} {v1 v2 : Value} {l : List H11} {st : List S11} (U V : World) (hs : SameIn lo hi U V) (h : Pr11 lo hi v1 v2 l st U) : Pr11 lo hi v1 v2 l st V :=
  ⟨own_same h.1 hs (fun k hk => ⟨(h.1.lt k hk).1, h.2.2.1 k hk⟩), own_same h.2.1 hs (fun k hk => ⟨(h.2.1.lt k hk).1, h.2.2.2.1 k hk⟩), h.2.2⟩
def pr (lo hi : Nat) (v1 v2 : Value) (l : List H11) (st : List S11) : It := ⟨lo, hi, Pr11 lo hi v1 v2 l st, Pr11.st⟩
theorem Lw.cell {w U : World} {L : List It} (h : Lw w L U) {b : Nat} {cs : Array Value} {t : TypeId} (hm : bx b (.cells cs t (0, 0)) ∈ L) (j : Nat) : U.cell? ⟨b, j, none⟩ = cs[j]? := cell_of_row U b j _ _ _ (h.get hm)
end Go.Proofs.Ytnkjamdpafpcpaa
