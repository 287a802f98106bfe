/- PLAIN LEMMAS (no program): the parts of a text, joined, are the text. -/
import Derived.Test.YtgogacgmphpaoaaSpl
namespace Go.Proofs.Ytgogacgmphpaoaa
set_option linter.unusedVariables false
theorem jl_snoc (l : List (List UInt8)) (y : List UInt8) (c : UInt8) (h : l ≠ []) : Lib.join (l ++ [y]) [c] = Lib.join l [c] ++ [c] ++ y := by
  cases l with
  | nil => exact absurd rfl h
  | cons x r =>
    rw [List.cons_append, Lib.join_cons, Lib.join_cons]
    have : Lib.joinTail [c] (r ++ [y]) = Lib.joinTail [c] r ++ [c] ++ y := by simp [Lib.joinTail, List.append_assoc]
    rw [this]
    simp [List.append_assoc]
theorem jl_last (l : List (List UInt8)) (y z : List UInt8) (c : UInt8) : Lib.join (l ++ [y ++ z]) [c] = Lib.join (l ++ [y]) [c] ++ z := by
  cases l with
  | nil => simp [Lib.join_one]
  | cons x r => rw [jl_snoc _ _ _ (by simp), jl_snoc _ _ _ (by simp)]; simp [List.append_assoc]
theorem ext_list (s : ByteArray) (f k : Nat) (hk : k ≤ s.size) : (s.extract f k).data.toList = (s.data.toList.take k).drop f := by
  rw [ByteArray.data_extract, Array.toList_extract, List.extract_eq_take_drop, List.drop_take]
theorem ext_snoc (s : ByteArray) (f k : Nat) (hf : f ≤ k) (hk : k < s.size) : (s.extract f (k + 1)).data.toList = (s.extract f k).data.toList ++ [s[k]] := by
  rw [ext_list s f (k + 1) hk, ext_list s f k (by omega)]
  have ht : s.data.toList.take (k + 1) = s.data.toList.take k ++ [s[k]] := by
    rw [List.take_succ_eq_append_getElem (by simpa using hk)]; rfl
  have hl : (s.data.toList.take k).length = k := by
    rw [List.length_take, Array.length_toList]
    have : s.data.size = s.size := rfl
    omega
  rw [ht, List.drop_append_of_le_length (by omega)]
theorem join_stp (s : ByteArray) (c : UInt8) : ∀ k, k ≤ s.size → Lib.join (((stp s c k).2 ++ [s.extract (stp s c k).1 k]).map (·.data.toList)) [c] = s.data.toList.take k
  | 0, _ => by
    show Lib.join [(s.extract 0 0).data.toList] [c] = _
    rw [Lib.join_one, ext_list s 0 0 (by omega)]; simp
  | k + 1, hk => by
    have ih := join_stp s c k (by omega)
    have ht : s.data.toList.take (k + 1) = s.data.toList.take k ++ [s[k]] := by
      rw [List.take_succ_eq_append_getElem (by have h' : k < s.size := hk; simpa using h')]; rfl
    by_cases he : s[k] = c
    · rw [stp_yes hk he]
      simp only
      rw [List.map_append, List.map_cons, List.map_nil, jl_snoc _ _ _ (by simp), ih, ht, he, ext_list s (k + 1) (k + 1) hk]
      simp
    · rw [stp_no hk he]
      rw [List.map_append, List.map_cons, List.map_nil, ext_snoc s _ k (stp_le s c k) hk, jl_last]
      rw [List.map_append, List.map_cons, List.map_nil] at ih
      rw [ih, ht]
theorem join_parts (s : ByteArray) (c : UInt8) : Lib.join ((parts s c).map (·.data.toList)) [c] = s.data.toList := by
  unfold parts
  rw [join_stp s c s.size (Nat.le_refl _), List.take_of_length_le]
  rw [Array.length_toList]; exact Nat.le_refl _
theorem jn_parts (s : ByteArray) (c : UInt8) : jn (parts s c) c (parts s c).length = s := by
  rw [jn_all, join_parts]
theorem has_ext {s : ByteArray} {c : UInt8} {f k : Nat} (hk : k ≤ s.size) (h : ∀ j (hj : j < s.size), f ≤ j → j < k → s[j] ≠ c) : has c (s.extract f k) = false := by
  unfold has
  rw [decide_eq_false_iff_not, ext_list s f k hk]
  intro hm
  obtain ⟨i, hi⟩ := List.mem_iff_getElem?.1 hm
  rw [List.getElem?_drop, List.getElem?_take] at hi
  split at hi
  · rename_i hlt
    obtain ⟨h1, h2⟩ := List.getElem?_eq_some_iff.1 hi
    have h3 : f + i < s.size := by rw [Array.length_toList] at h1; exact h1
    exact h (f + i) h3 (by omega) hlt h2
  · cases hi
theorem stp_has (s : ByteArray) (c : UInt8) : ∀ k, k ≤ s.size → (∀ x ∈ (stp s c k).2, has c x = false) ∧ ∀ j (hj : j < s.size), (stp s c k).1 ≤ j → j < k → s[j] ≠ c
  | 0, _ => ⟨fun x hx => (by simp [stp] at hx), fun j _ _ h => absurd h (by omega)⟩
  | k + 1, hk => by
    obtain ⟨h1, h2⟩ := stp_has s c k (by omega)
    by_cases he : s[k] = c
    · rw [stp_yes hk he]
      refine ⟨fun x hx => ?_, fun j _ hf hlt => absurd hlt (by simp only at hf; omega)⟩
      rw [List.mem_append, List.mem_singleton] at hx
      rcases hx with hx | hx
      · exact h1 x hx
      · subst hx; exact has_ext (by omega) h2
    · rw [stp_no hk he]
      refine ⟨h1, fun j hj hf hlt => ?_⟩
      by_cases e : j = k
      · subst e; exact he
      · exact h2 j hj hf (by omega)
theorem parts_has (s : ByteArray) (c : UInt8) : ∀ x ∈ parts s c, has c x = false := fun x hx => by
  obtain ⟨h1, h2⟩ := stp_has s c s.size (Nat.le_refl _)
  unfold parts at hx
  rw [List.mem_append, List.mem_singleton] at hx
  rcases hx with hx | hx
  · exact h1 x hx
  · subst hx; exact has_ext (Nat.le_refl _) h2
theorem can_of {c : UInt8} : ∀ (xs : List ByteArray) (L : Int), (∀ x ∈ xs, has c x = false) → L + (xs.map fun x => (x.size : Int) + 1).sum ≤ 4000 → canFrom c xs L = true
  | [], _, _, _ => rfl
  | x :: r, L, h, hl => by
    have hs : ∀ l : List ByteArray, 0 ≤ (l.map fun x => (x.size : Int) + 1).sum := by
      intro l
      induction l with
      | nil => simp
      | cons a r ih => simp only [List.map_cons, List.sum_cons]; omega
    have := hs r
    simp only [List.map_cons, List.sum_cons] at hl
    rw [canFrom, if_neg (by omega), if_neg (by rw [h x (by simp)]; simp)]
    exact can_of r _ (fun y hy => h y (by simp [hy])) (by omega)
theorem can_parts (s : ByteArray) (c : UInt8) (hs : s.size ≤ 4000) : canFrom c (parts s c) (-1) = true := by
  refine can_of _ _ (parts_has s c) ?_
  have h := jn_size (xs := parts s c) (c := c) (k := (parts s c).length) (parts_pos s c) (Nat.le_refl _)
  rw [jn_parts] at h
  unfold LL at h
  rw [List.take_length] at h
  omega
theorem parts_size (s : ByteArray) (c : UInt8) (hs : s.size ≤ 4000) : ∀ x ∈ parts s c, x.size ≤ 4000 := fun x hx => by
  have : ∀ (xs : List ByteArray) (L : Int), -1 ≤ L → canFrom c xs L = true → ∀ x ∈ xs, x.size ≤ 4000 := by
    intro xs
    induction xs with
    | nil => intro L _ _ x hx; simp at hx
    | cons a r ih =>
      intro L hL h x hx
      rw [canFrom] at h
      split at h
      · cases h
      · split at h
        · cases h
        · rw [List.mem_cons] at hx
          rcases hx with hx | hx
          · subst hx; omega
          · exact ih _ (by omega) h x hx
  exact this _ _ (by omega) (can_parts s c hs) x hx
end Go.Proofs.Ytgogacgmphpaoaa
