/- PLAIN LEMMAS (no program): a numeral reads back as its number. -/
import Derived.Lib.ItoaMem
import Derived.Lib.ItoaLen
import Derived.Lib.AtoiAll
namespace Go.Proofs.YtgogacgmphpaoaaDoor
def val (acc : Nat) (l : List UInt8) : Nat := l.foldl (fun a c => 10 * a + (c.toNat - 48)) acc
def isDig (c : UInt8) : Prop := 48 ≤ c.toNat ∧ c.toNat ≤ 57
theorem val_snoc (acc : Nat) (l : List UInt8) (c : UInt8) : val acc (l ++ [c]) = 10 * val acc l + (c.toNat - 48) := by unfold val; rw [List.foldl_append]; rfl
theorem val_lt : ∀ (l : List UInt8), (∀ c ∈ l, isDig c) → val 0 l < 10 ^ l.length := by
  have : ∀ (l : List UInt8) (acc m : Nat), (∀ c ∈ l, isDig c) → acc < m → val acc l < m * 10 ^ l.length := by
    intro l
    induction l with
    | nil => intro acc m _ h; simpa [val] using h
    | cons c r ih =>
      intro acc m hd h
      have hc := hd c (by simp)
      have := ih (10 * acc + (c.toNat - 48)) (10 * m) (fun x hx => hd x (by simp [hx])) (by unfold isDig at hc; omega)
      show val (10 * acc + (c.toNat - 48)) r < _
      rw [List.length_cons, Nat.pow_succ, Nat.mul_comm (10 ^ r.length) 10, ← Nat.mul_assoc, Nat.mul_comm m 10]
      exact this
  intro l hd
  have := this l 0 1 hd (by omega)
  simpa using this
theorem dec_rec (u : Nat) (h : ¬ u < 10) : Lib.decDigits u = Lib.decDigits (u / 10) ++ [UInt8.ofNat (48 + u % 10)] := by rw [Lib.decDigits, dif_neg h]
theorem dig_of (d : Nat) (h : d < 10) : (UInt8.ofNat (48 + d)).toNat = 48 + d := by simp [UInt8.toNat_ofNat']; omega
theorem dec_val (u : Nat) : val 0 (Lib.decDigits u) = u ∧ ∀ c ∈ Lib.decDigits u, isDig c := by
  induction u using Nat.strongRecOn with
  | _ u ih =>
    by_cases h : u < 10
    · have h1 : Lib.decDigits u = [UInt8.ofNat (48 + u)] := by rw [Lib.decDigits, dif_pos h]
      have hd := dig_of u h
      rw [h1]
      refine ⟨by unfold val; simp only [List.foldl_cons, List.foldl_nil]; omega, fun c hc => ?_⟩
      rw [List.mem_singleton] at hc; subst hc; unfold isDig; omega
    · obtain ⟨h1, h2⟩ := ih (u / 10) (by omega)
      have hd := dig_of (u % 10) (by omega)
      rw [dec_rec u h]
      refine ⟨by rw [val_snoc, h1]; omega, fun c hc => ?_⟩
      rw [List.mem_append, List.mem_singleton] at hc
      rcases hc with hc | hc
      · exact h2 c hc
      · subst hc; unfold isDig; omega
theorem dec_pos (u : Nat) : 0 < (Lib.decDigits u).length := by rw [Lib.decDigits_length]; have := Lib.nDigits_pos u; omega
theorem dec_six (u : Nat) (h : u ≤ 999999) : (Lib.decDigits u).length ≤ 6 := by
  rw [Lib.decDigits_length]
  have hn : ∀ (k v : Nat), v < 10 ^ (k + 1) → Lib.nDigits v ≤ k + 1 := by
    intro k
    induction k with
    | zero => intro v hv; rw [Lib.nDigits_small (by simpa using hv)]; omega
    | succ k ih =>
      intro v hv
      by_cases hs : v < 10
      · rw [Lib.nDigits_small hs]; omega
      · rw [Lib.nDigits_big hs]
        have := ih (v / 10) (by rw [Nat.pow_succ] at hv; omega)
        omega
  exact hn 5 u (by omega)
theorem parse_ok : ∀ (l : List UInt8) (acc : Nat), (∀ c ∈ l, isDig c) → (acc + 1) * 10 ^ l.length ≤ 1000000000000000000 → Lib.parseUint10 acc l = .ok (val acc l)
  | [], acc, _, _ => rfl
  | c :: r, acc, hd, h => by
    have hc := hd c (by simp)
    unfold isDig at hc
    have hp : 1 ≤ 10 ^ r.length := Nat.one_le_pow _ _ (by decide)
    rw [List.length_cons, Nat.pow_succ, Nat.mul_comm (10 ^ r.length) 10, ← Nat.mul_assoc] at h
    have hacc : (acc + 1) * 10 ≤ 1000000000000000000 := Nat.le_trans (Nat.le_mul_of_pos_right _ hp) h
    rw [Lib.parseUint10, if_pos ⟨hc.1, hc.2⟩, if_neg (by omega), if_neg (by omega)]
    have := parse_ok r (acc * 10 + (c.toNat - 48)) (fun x hx => hd x (by simp [hx])) (Nat.le_trans (Nat.mul_le_mul_right _ (by omega)) h)
    rw [this]
    show Lib.NumEnd.ok (val _ r) = Lib.NumEnd.ok (val (10 * acc + (c.toNat - 48)) r)
    rw [Nat.mul_comm acc 10]
theorem mag_ok (u : Nat) (h : u ≤ 999999) : Lib.parseMag (Lib.decDigits u) = .ok u := by
  obtain ⟨h1, h2⟩ := dec_val u
  have h6 := dec_six u h
  have h0 := dec_pos u
  unfold Lib.parseMag
  rw [if_neg (by intro e; rw [e] at h0; simp at h0), parse_ok _ 0 h2 (by
    have : 10 ^ (Lib.decDigits u).length ≤ 10 ^ 6 := Nat.pow_le_pow_right (by decide) h6
    omega), h1]
theorem atoi_itoa (n : Int) (h1 : -999999 ≤ n) (h2 : n ≤ 999999) : Lib.atoiAll (Lib.itoa n) = .ok n := by
  by_cases hn : n < 0
  · obtain ⟨u, rfl⟩ : ∃ u : Nat, n = -(u : Int) := ⟨n.natAbs, by omega⟩
    rw [Lib.itoa_neg u (by omega)]
    have hm := mag_ok u (by omega)
    have h45 : (45 : UInt8).toNat = 45 := rfl
    unfold Lib.atoiAll
    simp only [h45, or_true, if_true, hm]
    rw [if_neg (by simp), if_neg (by omega)]
  · obtain ⟨u, rfl⟩ : ∃ u : Nat, n = u := ⟨n.toNat, by omega⟩
    rw [Lib.itoa_nonneg]
    have hm := mag_ok u (by omega)
    obtain ⟨_, hd⟩ := dec_val u
    have h0 := dec_pos u
    cases hl : Lib.decDigits u with
    | nil => rw [hl] at h0; simp at h0
    | cons c r =>
      have hc := hd c (by rw [hl]; simp)
      unfold isDig at hc
      rw [hl] at hm
      unfold Lib.atoiAll
      simp only
      rw [if_neg (by omega), hm]
      simp only
      rw [if_neg (by omega), if_neg (by omega), if_neg (by omega)]
def inR (n : Int) : Prop := -999999 ≤ n ∧ n ≤ 999999
/-- What a numeral looks like: behind the sign stand the digits of its size. -/
theorem strip_neg {s : ByteArray} (hs : 1 < s.size) (h0 : s[0] = 45) {n : Int} (h : Lib.itoa n = s.data.toList) : (s.extract 1 s.size).data.toList = Lib.decDigits n.natAbs ∧ n = -(n.natAbs : Int) := by
  by_cases hn : n < 0
  · obtain ⟨u, rfl⟩ : ∃ u : Nat, n = -(u : Int) := ⟨n.natAbs, by omega⟩
    rw [Lib.itoa_neg u (by omega)] at h
    refine ⟨?_, by omega⟩
    have : (s.extract 1 s.size).data.toList = s.data.toList.drop 1 := by
      simp [ByteArray.data_extract, List.extract_eq_take_drop]
      rw [List.take_of_length_le]; simp
    rw [this, ← h]
    simp
  · obtain ⟨u, rfl⟩ : ∃ u : Nat, n = u := ⟨n.toNat, by omega⟩
    rw [Lib.itoa_nonneg] at h
    have hd := (dec_val u).2 s[0] (by rw [h]; exact Array.getElem_mem_toList _)
    rw [h0] at hd
    unfold isDig at hd
    simp at hd
theorem strip_pos {s : ByteArray} (hs : ¬ (1 < s.size ∧ ∃ h : 0 < s.size, s[0] = 45)) {n : Int} (h : Lib.itoa n = s.data.toList) : s.data.toList = Lib.decDigits n.natAbs ∧ n = (n.natAbs : Int) := by
  by_cases hn : n < 0
  · exfalso
    obtain ⟨u, rfl⟩ : ∃ u : Nat, n = -(u : Int) := ⟨n.natAbs, by omega⟩
    rw [Lib.itoa_neg u (by omega)] at h
    have hl : s.size = (Lib.decDigits u).length + 1 := by
      show s.data.size = _
      rw [← Array.length_toList, ← h, List.length_cons]
    have h0 := dec_pos u
    refine hs ⟨by omega, by omega, ?_⟩
    have : s.data.toList[0]? = some 45 := by rw [← h]; rfl
    obtain ⟨_, e⟩ := List.getElem?_eq_some_iff.1 this
    exact e
  · obtain ⟨u, rfl⟩ : ∃ u : Nat, n = u := ⟨n.toNat, by omega⟩
    rw [Lib.itoa_nonneg] at h
    exact ⟨h.symm, by omega⟩
end Go.Proofs.YtgogacgmphpaoaaDoor
