/- PLAIN LEMMAS: a sealed text with one byte changed is no sealed text. -/
import Derived.Test.YtgogacgmphpaoaaDoorRd
namespace Go.Proofs.YtgogacgmphpaoaaDoor
set_option linter.unusedVariables false
def sumFrom (h : Nat) (l : List UInt8) : Nat := l.foldl (fun h c => (41 * h + c.toNat + 1) % 999979) h
theorem sumL_from (l : List UInt8) : sumL l = sumFrom 7 l := rfl
theorem sumFrom_lt : ∀ (l : List UInt8) (h : Nat), h < 999979 → sumFrom h l < 999979
  | [], h, hh => hh
  | c :: r, h, _ => sumFrom_lt r _ (Nat.mod_lt _ (by omega))
theorem step_inj {a b t : Nat} (ha : a < 999979) (hb : b < 999979) (h : (41 * a + t + 1) % 999979 = (41 * b + t + 1) % 999979) : a = b := by omega
theorem sumFrom_inj : ∀ (l : List UInt8) (a b : Nat), a < 999979 → b < 999979 → sumFrom a l = sumFrom b l → a = b
  | [], a, b, _, _, h => h
  | c :: r, a, b, ha, hb, h => step_inj ha hb (sumFrom_inj r _ _ (Nat.mod_lt _ (by omega)) (Nat.mod_lt _ (by omega)) h)
theorem byte_inj {h : Nat} {c d : UInt8} (hh : h < 999979) (e : (41 * h + c.toNat + 1) % 999979 = (41 * h + d.toNat + 1) % 999979) : c = d := by
  have h1 := UInt8.toNat_lt c
  have h2 := UInt8.toNat_lt d
  exact UInt8.toNat_inj.1 (by omega)
/-- One byte changed: another sum. -/
theorem sum_one (a r : List UInt8) {c d : UInt8} (hne : c ≠ d) : sumL (a ++ c :: r) ≠ sumL (a ++ d :: r) := fun e => by
  rw [sumL_from, sumL_from] at e
  have hs : ∀ x : UInt8, sumFrom 7 (a ++ x :: r) = sumFrom ((41 * sumFrom 7 a + x.toNat + 1) % 999979) r := fun x => by
    unfold sumFrom; rw [List.foldl_append]; rfl
  rw [hs, hs] at e
  exact hne (byte_inj (sumFrom_lt a 7 (by omega)) (sumFrom_inj r _ _ (Nat.mod_lt _ (by omega)) (Nat.mod_lt _ (by omega)) e))
theorem dec_inj {u v : Nat} (h : Lib.decDigits u = Lib.decDigits v) : u = v := by
  rw [← (dec_val u).1, ← (dec_val v).1, h]
theorem dec_no35 (u : Nat) : (35 : UInt8) ∉ Lib.decDigits u := fun h => by
  have := (dec_val u).2 _ h
  unfold isDig at this
  have e : (35 : UInt8).toNat = 35 := rfl
  omega
/-- A text with its sum, as a list. -/
def sealL (l : List UInt8) : List UInt8 := l ++ 35 :: Lib.decDigits (sumL l)
theorem sealed_list (s : ByteArray) : (sealed s).data.toList = sealL s.data.toList := by
  unfold sealed sealL
  rw [Lib.itoa_nonneg]
  simp [ByteArray.data_append]
theorem split_first {a b : List UInt8} {r q : List UInt8} (ha : (35 : UInt8) ∉ a) (hb : (35 : UInt8) ∉ b) (h : a ++ 35 :: r = b ++ 35 :: q) : a = b ∧ r = q := by
  induction a generalizing b with
  | nil =>
    cases b with
    | nil => simpa using h
    | cons x b => simp at h; exact absurd (by rw [← h.1]; simp) hb
  | cons x a ih =>
    cases b with
    | nil => simp at h; exact absurd (by rw [h.1]; simp) ha
    | cons y b =>
      simp only [List.cons_append, List.cons.injEq] at h
      obtain ⟨rfl, h2⟩ := h
      have := ih (b := b) (fun hm => ha (by simp [hm])) (fun hm => hb (by simp [hm])) h2
      exact ⟨by rw [this.1], this.2⟩
theorem one_change {l : List UInt8} {k : Nat} {d : UInt8} (hk : k < l.length) : ∃ a c r, l = a ++ c :: r ∧ l.set k d = a ++ d :: r ∧ c = l[k] ∧ a.length = k := by
  refine ⟨l.take k, l[k], l.drop (k + 1), ?_, ?_, rfl, by rw [List.length_take]; omega⟩
  · rw [List.getElem_cons_drop, List.take_append_drop]
  · rw [List.set_eq_take_append_cons_drop, if_pos hk]
theorem seal_change (x x' : List UInt8) (k : Nat) (d : UInt8) (hx : (35 : UInt8) ∉ x) (hx' : (35 : UInt8) ∉ x') (hk : k < (sealL x).length) (hd : (sealL x)[k] ≠ d) : (sealL x).set k d ≠ sealL x' := fun e => by
  have hD := dec_no35 (sumL x)
  have hD' := dec_no35 (sumL x')
  by_cases h1 : k < x.length
  · -- a byte of the text
    obtain ⟨a, c, r, e1, e2, e3, e4⟩ := one_change (l := x) (d := d) h1
    have hc : c ≠ d := by
      intro h
      apply hd
      have : (sealL x)[k] = x[k] := by unfold sealL; exact List.getElem_append_left h1
      rw [this, ← e3, h]
    have hset : (sealL x).set k d = (a ++ d :: r) ++ 35 :: Lib.decDigits (sumL x) := by
      unfold sealL; rw [List.set_append_left _ _ h1, e2]
    rw [hset] at e
    unfold sealL at e
    by_cases h35 : d = 35
    · subst h35
      rw [List.append_assoc, List.cons_append] at e
      have ha : (35 : UInt8) ∉ a := fun hm => hx (by rw [e1]; simp [hm])
      have := (split_first ha hx' e).2
      exact hD' (by rw [← this]; simp)
    · have ha : (35 : UInt8) ∉ a ++ d :: r := fun hm => by
        rw [List.mem_append, List.mem_cons] at hm
        rcases hm with hm | hm | hm
        · exact hx (by rw [e1]; simp [hm])
        · exact h35 hm.symm
        · exact hx (by rw [e1]; simp [hm])
      obtain ⟨f1, f2⟩ := split_first ha hx' e
      have := dec_inj f2
      rw [← f1, e1] at this
      exact sum_one a r hc this
  · by_cases h2 : k = x.length
    · -- the mark itself
      subst h2
      have h35 : d ≠ 35 := by
        intro h
        apply hd
        have h5 : (sealL x)[x.length]? = some 35 := by unfold sealL; rw [List.getElem?_append_right (Nat.le_refl _), Nat.sub_self]; rfl
        have : (sealL x)[x.length] = 35 := (List.getElem?_eq_some_iff.1 h5).2
        rw [this, h]
      have hset : (sealL x).set x.length d = x ++ d :: Lib.decDigits (sumL x) := by
        unfold sealL; rw [List.set_append_right _ _ (Nat.le_refl _), Nat.sub_self]; rfl
      rw [hset] at e
      have hm : (35 : UInt8) ∈ x ++ d :: Lib.decDigits (sumL x) := by rw [e]; unfold sealL; simp
      rw [List.mem_append, List.mem_cons] at hm
      rcases hm with hm | hm | hm
      · exact hx hm
      · exact h35 hm.symm
      · exact hD hm
    · -- a digit
      have h3 : x.length < k := by omega
      have hset : (sealL x).set k d = x ++ 35 :: (Lib.decDigits (sumL x)).set (k - x.length - 1) d := by
        unfold sealL
        rw [List.set_append_right _ _ (by omega)]
        obtain ⟨m, hm⟩ : ∃ m, k - x.length = m + 1 := ⟨k - x.length - 1, by omega⟩
        rw [hm, List.set_cons_succ]; rfl
      have e' := e
      rw [hset] at e
      unfold sealL at e
      obtain ⟨f1, f2⟩ := split_first hx hx' e
      subst f1
      apply hd
      have : ((sealL x).set k d)[k]'(by rw [List.length_set]; exact hk) = d := List.getElem_set_self _
      have h4 : (sealL x)[k]'hk = ((sealL x).set k d)[k]'(by rw [List.length_set]; exact hk) := by
        congr 1; exact e'.symm
      rw [h4, this]
theorem okV_change {x y' : ByteArray} {k : Nat} {d : UInt8} (hx : has 35 x = false) (hk : k < (sealed x).data.toList.length) (hd : (sealed x).data.toList[k] ≠ d) (hy : y'.data.toList = (sealed x).data.toList.set k d) : ¬ okV y' := fun h => by
  have h1 : y'.data.toList = sealL (first y' 35).data.toList := by rw [← sealed_list, h.2]
  have h2 := first_has y' 35
  unfold has at hx h2
  rw [decide_eq_false_iff_not] at hx h2
  simp only [sealed_list] at hk hd hy
  rw [hy] at h1
  exact seal_change _ _ k d hx h2 hk hd h1
theorem list_inj {a b : ByteArray} (h : a.data.toList = b.data.toList) : a = b := by
  obtain ⟨⟨a⟩⟩ := a; obtain ⟨⟨b⟩⟩ := b; simp at h; subst h; rfl
/-- What is sealed is verified, and gives back what was sealed. -/
theorem okV_sealed {x : ByteArray} (h : okA x) : okV (sealed x) ∧ first (sealed x) 35 = x := by
  have h2 := h.2.1
  unfold has at h2
  rw [decide_eq_false_iff_not] at h2
  have hf : first (sealed x) 35 = x := by
    have h3 : (sealed x).data.toList[x.size]? = some 35 := by
      rw [sealed_list]; unfold sealL
      have : x.data.toList.length = x.size := ba_len x
      rw [List.getElem?_append_right (by omega), this, Nat.sub_self]; rfl
    have h4 : ∀ j : Nat, j < x.size → (sealed x).data.toList[j]? ≠ some 35 := fun j hj e => by
      rw [sealed_list] at e; unfold sealL at e
      have : x.data.toList.length = x.size := ba_len x
      rw [List.getElem?_append_left (by omega)] at e
      exact h2 (List.mem_of_getElem? e)
    rw [first_at h3 h4]
    apply list_inj
    rw [ByteArray.data_extract, Array.toList_extract, List.extract_eq_take_drop, List.drop_zero, Nat.sub_zero, sealed_list]
    unfold sealL
    have : x.data.toList.length = x.size := ba_len x
    rw [← this, List.take_left]
  exact ⟨⟨h.2.2, by rw [hf]⟩, hf⟩
end Go.Proofs.YtgogacgmphpaoaaDoor
