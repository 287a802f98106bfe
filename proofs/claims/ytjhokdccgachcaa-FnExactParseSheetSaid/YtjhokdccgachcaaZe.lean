/- PLAIN LEMMAS: the parts of a text of 41 signs; THE PAIR: ParseSheet. -/
import Derived.Test.YtjhokdccgachcaaZt
namespace Go.Proofs.Ytjhokdccgachcaa.Zi
set_option linter.unusedVariables false
theorem jl_snoc (l : List (List UInt8)) (y : List UInt8) (c : UInt8) (h : l ≠ []) : Lib.join (l ++ [y]) [c] = Lib.join l [c] ++ [c] ++ y := by
  cases l with
  | nil => exact absurd rfl h
  | cons x r =>
    rw [List.cons_append, Lib.join_cons, Lib.join_cons]
    have : Lib.joinTail [c] (r ++ [y]) = Lib.joinTail [c] r ++ [c] ++ y := by simp [Lib.joinTail, List.append_assoc]
    rw [this]
    simp [List.append_assoc]
theorem jl_last (l : List (List UInt8)) (y z : List UInt8) (c : UInt8) : Lib.join (l ++ [y ++ z]) [c] = Lib.join (l ++ [y]) [c] ++ z := by
  cases l with
  | nil => simp [Lib.join_one]
  | cons x r => rw [jl_snoc _ _ _ (by simp), jl_snoc _ _ _ (by simp)]; simp [List.append_assoc]
theorem ext_list (s : ByteArray) (f k : Nat) (hk : k ≤ s.size) : (s.extract f k).data.toList = (s.data.toList.take k).drop f := by
  rw [ByteArray.data_extract, Array.toList_extract, List.extract_eq_take_drop, List.drop_take]
theorem ext_snoc (s : ByteArray) (f k : Nat) (hf : f ≤ k) (hk : k < s.size) : (s.extract f (k + 1)).data.toList = (s.extract f k).data.toList ++ [s[k]] := by
  rw [ext_list s f (k + 1) hk, ext_list s f k (by omega)]
  have ht : s.data.toList.take (k + 1) = s.data.toList.take k ++ [s[k]] := by
    rw [List.take_succ_eq_append_getElem (by simpa using hk)]; rfl
  have hl : (s.data.toList.take k).length = k := by
    rw [List.length_take, Array.length_toList]
    have : s.data.size = s.size := rfl
    omega
  rw [ht, List.drop_append_of_le_length (by omega)]
theorem join_stp (s : ByteArray) (c : UInt8) : ∀ k, k ≤ s.size → Lib.join (((stp s c k).2 ++ [s.extract (stp s c k).1 k]).map (·.data.toList)) [c] = s.data.toList.take k
  | 0, _ => by
    show Lib.join [(s.extract 0 0).data.toList] [c] = _
    rw [Lib.join_one, ext_list s 0 0 (by omega)]; simp
  | k + 1, hk => by
    have ih := join_stp s c k (by omega)
    have ht : s.data.toList.take (k + 1) = s.data.toList.take k ++ [s[k]] := by
      rw [List.take_succ_eq_append_getElem (by have h' : k < s.size := hk; simpa using h')]; rfl
    by_cases he : s[k] = c
    · rw [stp_yes hk he]
      simp only
      rw [List.map_append, List.map_cons, List.map_nil, jl_snoc _ _ _ (by simp), ih, ht, he, ext_list s (k + 1) (k + 1) hk]
      simp
    · rw [stp_no hk he]
      rw [List.map_append, List.map_cons, List.map_nil, ext_snoc s _ k (stp_le s c k) hk, jl_last]
      rw [List.map_append, List.map_cons, List.map_nil] at ih
      rw [ih, ht]
theorem join_parts (s : ByteArray) (c : UInt8) : Lib.join ((parts s c).map (·.data.toList)) [c] = s.data.toList := by
  unfold parts
  rw [join_stp s c s.size (Nat.le_refl _), List.take_of_length_le]
  rw [Array.length_toList]; exact Nat.le_refl _
theorem jn_parts (s : ByteArray) (c : UInt8) : jn (parts s c) c (parts s c).length = s := by
  rw [jn_all, join_parts]
theorem has_ext {s : ByteArray} {c : UInt8} {f k : Nat} (hk : k ≤ s.size) (h : ∀ j (hj : j < s.size), f ≤ j → j < k → s[j] ≠ c) : has c (s.extract f k) = false := by
  unfold has
  rw [decide_eq_false_iff_not, ext_list s f k hk]
  intro hm
  obtain ⟨i, hi⟩ := List.mem_iff_getElem?.1 hm
  rw [List.getElem?_drop, List.getElem?_take] at hi
  split at hi
  · rename_i hlt
    obtain ⟨h1, h2⟩ := List.getElem?_eq_some_iff.1 hi
    have h3 : f + i < s.size := by rw [Array.length_toList] at h1; exact h1
    exact h (f + i) h3 (by omega) hlt h2
  · cases hi
theorem stp_has (s : ByteArray) (c : UInt8) : ∀ k, k ≤ s.size → (∀ x ∈ (stp s c k).2, has c x = false) ∧ ∀ j (hj : j < s.size), (stp s c k).1 ≤ j → j < k → s[j] ≠ c
  | 0, _ => ⟨fun x hx => (by simp [stp] at hx), fun j _ _ h => absurd h (by omega)⟩
  | k + 1, hk => by
    obtain ⟨h1, h2⟩ := stp_has s c k (by omega)
    by_cases he : s[k] = c
    · rw [stp_yes hk he]
      refine ⟨fun x hx => ?_, fun j _ hf hlt => absurd hlt (by simp only at hf; omega)⟩
      rw [List.mem_append, List.mem_singleton] at hx
      rcases hx with hx | hx
      · exact h1 x hx
      · subst hx; exact has_ext (by omega) h2
    · rw [stp_no hk he]
      refine ⟨h1, fun j hj hf hlt => ?_⟩
      by_cases e : j = k
      · subst e; exact he
      · exact h2 j hj hf (by omega)
theorem parts_has (s : ByteArray) (c : UInt8) : ∀ x ∈ parts s c, has c x = false := fun x hx => by
  obtain ⟨h1, h2⟩ := stp_has s c s.size (Nat.le_refl _)
  unfold parts at hx
  rw [List.mem_append, List.mem_singleton] at hx
  rcases hx with hx | hx
  · exact h1 x hx
  · subst hx; exact has_ext (Nat.le_refl _) h2
theorem can_of {c : UInt8} : ∀ (xs : List ByteArray) (L : Int), (∀ x ∈ xs, has c x = false) → L + (xs.map fun x => (x.size : Int) + 1).sum ≤ 4000 → canFrom c xs L = true
  | [], _, _, _ => rfl
  | x :: r, L, h, hl => by
    have hs : ∀ l : List ByteArray, 0 ≤ (l.map fun x => (x.size : Int) + 1).sum := by
      intro l
      induction l with
      | nil => simp
      | cons a r ih => simp only [List.map_cons, List.sum_cons]; omega
    have := hs r
    simp only [List.map_cons, List.sum_cons] at hl
    rw [canFrom, if_neg (by omega), if_neg (by rw [h x (by simp)]; simp)]
    exact can_of r _ (fun y hy => h y (by simp [hy])) (by omega)
theorem can_parts (s : ByteArray) (c : UInt8) (hs : s.size ≤ 4000) : canFrom c (parts s c) (-1) = true := by
  refine can_of _ _ (parts_has s c) ?_
  have h := jn_size (xs := parts s c) (c := c) (k := (parts s c).length) (parts_pos s c) (Nat.le_refl _)
  rw [jn_parts] at h
  unfold LL at h
  rw [List.take_length] at h
  omega
theorem parts_size (s : ByteArray) (c : UInt8) (hs : s.size ≤ 4000) : ∀ x ∈ parts s c, x.size ≤ 4000 := fun x hx => by
  have : ∀ (xs : List ByteArray) (L : Int), -1 ≤ L → canFrom c xs L = true → ∀ x ∈ xs, x.size ≤ 4000 := by
    intro xs
    induction xs with
    | nil => intro L _ _ x hx; simp at hx
    | cons a r ih =>
      intro L hL h x hx
      rw [canFrom] at h
      split at h
      · cases h
      · split at h
        · cases h
        · rw [List.mem_cons] at hx
          rcases hx with hx | hx
          · subst hx; omega
          · exact ih _ (by omega) h x hx
  exact this _ _ (by omega) (can_parts s c hs) x hx
end Go.Proofs.Ytjhokdccgachcaa.Zi
namespace Go.Proofs.Ytjhokdccgachcaa
open Go.ChangeShapes Go.WideShapes Go.ChangeAt Go.RowKit
set_option linter.unusedVariables false
theorem jn7 (c : UInt8) : ∀ (P : List (List UInt8)), P ≠ [] → (∀ p ∈ P, p.length = 6) → (Lib.join P [c]).length + 1 = 7 * P.length ∧ (∀ y x, y < P.length → x < 6 → (Lib.join P [c])[7 * y + x]? = (P.getD y [])[x]?) ∧ (∀ y, y + 1 < P.length → (Lib.join P [c])[7 * y + 6]? = some c)
  | [], h, _ => absurd rfl h
  | [p], _, h => by
    have hp := h p (by simp)
    rw [Lib.join_one]
    refine ⟨by simp [hp], fun y x hy hx => ?_, fun y hy => by simp at hy⟩
    have : y = 0 := by simpa using hy
    subst this
    simp
  | p :: q :: r, _, h => by
    have hp := h p (by simp)
    obtain ⟨i1, i2, i3⟩ := jn7 c (q :: r) (by simp) (fun z hz => h z (by simp at hz ⊢; exact .inr hz))
    have e : Lib.join (p :: q :: r) [c] = (p ++ [c]) ++ Lib.join (q :: r) [c] := by
      rw [Lib.join_cons, Lib.join_cons]
      simp [Lib.joinTail]
    have hl : (p ++ [c]).length = 7 := by simp [hp]
    rw [e]
    refine ⟨by rw [List.length_append, hl]; simp only [List.length_cons] at i1 ⊢; omega, fun y x hy hx => ?_, fun y hy => ?_⟩
    · rcases y with _ | y
      · rw [List.getElem?_append_left (by rw [hl]; omega), List.getElem?_append_left (by rw [hp]; omega)]
        simp
      · rw [List.getElem?_append_right (by rw [hl]; omega), hl, show 7 * (y + 1) + x - 7 = 7 * y + x by omega, i2 y x (by simpa using hy) hx]
        simp
    · rcases y with _ | y
      · rw [List.getElem?_append_left (by rw [hl]; omega), List.getElem?_append_right (by rw [hp]; omega), hp]
        rfl
      · rw [List.getElem?_append_right (by rw [hl]; omega), hl, show 7 * (y + 1) + 6 - 7 = 7 * y + 6 by omega]
        exact i3 y (by simpa using hy)
theorem stp41 (t : ByteArray) (h41 : t.size = 41) (hok : ∀ i (h : i < t.size), okS t i h) : ∀ k, k ≤ 41 → Zi.stp t 47 k = (7 * (k / 7), (List.range (k / 7)).map (fun y => t.extract (7 * y) (7 * y + 6)))
  | 0, _ => rfl
  | k + 1, hk => by
    have ih := stp41 t h41 hok k (by omega)
    have hkt : k < t.size := by omega
    have ho := hok k hkt
    unfold okS at ho
    by_cases hm : k % 7 = 6
    · rw [if_pos hm] at ho
      rw [Zi.stp_yes hkt ho, ih]
      have e1 : (k + 1) / 7 = k / 7 + 1 := by omega
      have e2 : k = 7 * (k / 7) + 6 := by omega
      rw [e1, List.range_succ, List.map_append]
      refine Prod.ext (by show k + 1 = _; omega) ?_
      show _ ++ [t.extract (7 * (k / 7)) k] = _ ++ [t.extract (7 * (k / 7)) (7 * (k / 7) + 6)]
      rw [← e2]
    · rw [if_neg hm] at ho
      have hne : t[k] ≠ 47 := by rcases ho with h | h <;> (rw [h]; decide)
      rw [Zi.stp_no hkt hne, ih, show (k + 1) / 7 = k / 7 by omega]
theorem parts41 (t : ByteArray) (h41 : t.size = 41) (hok : ∀ i (h : i < t.size), okS t i h) : Zi.parts t 47 = (List.range 6).map (fun y => t.extract (7 * y) (7 * y + 6)) := by
  unfold Zi.parts
  rw [h41, stp41 t h41 hok 41 (Nat.le_refl _)]
  rfl
theorem row_at (t : ByteArray) (h41 : t.size = 41) {y : Nat} (hy : y < 6) {x : Nat} (hx : x < 6) : (t.extract (7 * y) (7 * y + 6)).data.toList[x]? = t.data.toList[7 * y + x]? := by
  rw [Zi.ext_list t (7 * y) (7 * y + 6) (by omega), List.getElem?_drop, List.getElem?_take, if_pos (by omega)]
theorem row_size (t : ByteArray) (h41 : t.size = 41) {y : Nat} (hy : y < 6) : (t.extract (7 * y) (7 * y + 6)).size = 6 := by
  have e : (t.extract (7 * y) (7 * y + 6)).size = (t.extract (7 * y) (7 * y + 6)).data.toList.length := by rw [Array.length_toList]; rfl
  have h2 : t.data.toList.length = 41 := by rw [Array.length_toList]; exact h41
  rw [e, Zi.ext_list t (7 * y) (7 * y + 6) (by omega), List.length_drop, List.length_take, h2]
  omega
/-- A row that can be read. -/
def good (x : ByteArray) : Prop := x.size = 6 ∧ ∀ j (h : j < x.size), j < 6 → sgn x[j]
theorem parts_fwd (t : ByteArray) (h41 : t.size = 41) (hok : ∀ i (h : i < t.size), okS t i h) : (Zi.parts t 47).length = 6 ∧ (∀ i (h : i < (Zi.parts t 47).length), i < 6 → good ((Zi.parts t 47)[i])) ∧ ∀ y, y < 6 → rowv (gP (Zi.parts t 47) 6 y) = rowv (tF t y) := by
  have e := parts41 t h41 hok
  rw [e]
  refine ⟨by simp, fun i h hi => ?_, fun y hy => rowv_congr fun x hx => ?_⟩
  · simp only [List.getElem_map, List.getElem_range]
    refine ⟨row_size t h41 hi, fun j hj hj6 => ?_⟩
    have e1 := Zi.get_at _ j hj
    have hit : 7 * i + j < t.size := by omega
    have e2 := Zi.get_at t (7 * i + j) hit
    rw [row_at t h41 hi hj6, e2] at e1
    have ho := hok (7 * i + j) hit
    unfold okS at ho
    rw [if_neg (by omega)] at ho
    have e3 : t[7 * i + j] = (t.extract (7 * i) (7 * i + 6))[j] := by injection e1
    rw [← e3]
    exact ho
  · have e2 : ((List.range 6).map (fun y => t.extract (7 * y) (7 * y + 6))).getD y ⟨#[]⟩ = t.extract (7 * y) (7 * y + 6) := by
      rw [List.getD_eq_getElem?_getD, List.getElem?_map, List.getElem?_range hy]
      rfl
    unfold gP rowN tF
    rw [e2, row_at t h41 hy hx]
    simp [hy]
theorem parts_bwd (t : ByteArray) (P : List ByteArray) (hP : Zi.parts t 47 = P) (hP6 : P.length = 6) (hall : ∀ i (h : i < P.length), good P[i]) : t.size = 41 ∧ ∀ i (h : i < t.size), okS t i h := by
  have hj := Zi.join_parts t 47
  rw [hP] at hj
  have hne : P.map (·.data.toList) ≠ [] := by
    intro h
    have := congrArg List.length h
    simp [hP6] at this
  obtain ⟨j1, j2, j3⟩ := jn7 47 (P.map (·.data.toList)) hne (fun p hp => by
    obtain ⟨x, hx, rfl⟩ := List.mem_map.mp hp
    obtain ⟨i, hi, rfl⟩ := List.mem_iff_getElem.mp hx
    rw [Array.length_toList]
    exact (hall i hi).1)
  rw [hj] at j1 j2 j3
  rw [List.length_map, hP6] at j1 j2 j3
  have h41 : t.size = 41 := by
    rw [Array.length_toList] at j1
    have : t.data.size = t.size := rfl
    omega
  refine ⟨h41, fun i hi => ?_⟩
  have e := Zi.get_at t i hi
  unfold okS
  by_cases hm : i % 7 = 6
  · rw [if_pos hm]
    have := j3 (i / 7) (by omega)
    rw [show 7 * (i / 7) + 6 = i by omega, e] at this
    injection this
  · rw [if_neg hm]
    have hy : i / 7 < 6 := by omega
    have hyP : i / 7 < P.length := by omega
    have := j2 (i / 7) (i % 7) hy (by omega)
    rw [show 7 * (i / 7) + i % 7 = i by omega, e, List.getD_eq_getElem?_getD, List.getElem?_map, List.getElem?_eq_getElem hyP] at this
    have hg := hall (i / 7) hyP
    have hx : i % 7 < (P[i / 7]).size := by rw [hg.1]; omega
    have e2 := Zi.get_at (P[i / 7]) (i % 7) hx
    have e3 : some t[i] = some (P[i / 7])[i % 7] := this.trans e2
    have e4 : t[i] = (P[i / 7])[i % 7] := by injection e3
    rw [e4]
    exact hg.2 _ hx (by omega)
theorem first_not {p : Nat → Prop} : ∀ n, ¬ (∀ i, i < n → p i) → ∃ N, N < n ∧ (∀ i, i < N → p i) ∧ ¬ p N
  | 0, h => absurd (fun i hi => by omega) h
  | n + 1, h => by
    by_cases hn : ∀ i, i < n → p i
    · refine ⟨n, Nat.lt_succ_self _, hn, fun hp => h fun i hi => ?_⟩
      rcases Nat.lt_succ_iff_lt_or_eq.mp hi with h' | rfl
      · exact hn i h'
      · exact hp
    · obtain ⟨N, h1, h2, h3⟩ := first_not n hn
      exact ⟨N, by omega, h2, h3⟩
theorem row_fail (x : ByteArray) (h : ¬ good x) (hs : x.size ≤ 1048576) (w : World) : Calls Try.prog 130 #[.string x] w fun e w' => e = .returned (.tuple #[.int .i64 0, .bool false]) ∧ w' = w := by
  by_cases h6 : x.size = 6
  · have hn : ¬ ∀ i, i < 6 → ∀ h : i < x.size, sgn x[i] := fun hh => h ⟨h6, fun j hj hj6 => hh j hj6 hj⟩
    obtain ⟨N, h1, h2, h3⟩ := first_not 6 hn
    exact prow_bad x h6 N h1 (fun j hj hjN => h2 j hjN hj) (fun hN hsg => h3 fun _ => hsg) w
  · exact prow_short x h6 hs w
/-- Both answer alike. -/
theorem parse_pair (t : ByteArray) (ht : t.size ≤ 1048576) : ∃ (r0 r1 r2 r3 r4 r5 : Int) (b : Bool), (∀ w, Calls Try.prog 128 #[.string t] w fun e w' => e = .returned (.tuple #[.agg #[.int .i64 r0, .int .i64 r1, .int .i64 r2, .int .i64 r3, .int .i64 r4, .int .i64 r5], .bool b]) ∧ Below w.heap.size w w') ∧ (∀ w, Calls Try.prog 70 #[.string t] w fun e w' => e = .returned (.tuple #[.agg #[.int .i64 r0, .int .i64 r1, .int .i64 r2, .int .i64 r3, .int .i64 r4, .int .i64 r5], .bool b]) ∧ Below w.heap.size w w') := by
  by_cases hg : t.size = 41 ∧ ∀ i (h : i < t.size), okS t i h
  · obtain ⟨h41, hok⟩ := hg
    obtain ⟨f1, f2, f3⟩ := parts_fwd t h41 hok
    refine ⟨_, _, _, _, _, _, true, fun w => lparse_yes t h41 (fun i h _ => hok i h) w, fun w => ?_⟩
    have h := ips_yes t (by omega) _ rfl f1 f2 w
    rw [f3 0 (by decide), f3 1 (by decide), f3 2 (by decide), f3 3 (by decide), f3 4 (by decide), f3 5 (by decide)] at h
    exact h
  · refine ⟨0, 0, 0, 0, 0, 0, false, fun w => ?_, fun w => ?_⟩
    · by_cases h41 : t.size = 41
      · have hn : ¬ ∀ i, i < 41 → ∀ h : i < t.size, okS t i h := fun hh => hg ⟨h41, fun i h => hh i (by omega) h⟩
        obtain ⟨N, h1, h2, h3⟩ := first_not 41 hn
        exact lparse_bad t h41 N h1 (fun i h hiN => h2 i hiN h) (fun hN ho => h3 fun _ => ho) w
      · exact lparse_len t h41 ht w
    · by_cases h4 : 4000 < t.size
      · exact ips_far t h4 ht w
      · by_cases hP6 : (Zi.parts t 47).length = 6
        · have hn : ¬ ∀ i, i < 6 → ∀ h : i < (Zi.parts t 47).length, good ((Zi.parts t 47)[i]) := fun hh => hg (parts_bwd t _ rfl hP6 fun i h => hh i (by omega) h)
          obtain ⟨N, h1, h2, h3⟩ := first_not 6 hn
          refine ips_bad t (by omega) _ rfl hP6 N h1 (fun i h hiN => h2 i hiN h) (fun hN w => row_fail _ (fun hgd => h3 fun _ => hgd) ?_ w) w
          have := Zi.parts_size t 47 (by omega) _ (List.getElem_mem hN)
          omega
        · exact ips_len t (by omega) _ rfl hP6 w
end Go.Proofs.Ytjhokdccgachcaa
