/- PLAIN LEMMAS AND CONTRACTS: the two Checksum functions (the model's and the code's) return the same running sum of every string. -/
import Derived.Test.YtgogacgmphpaoaaDoorFmt
import Derived.WalkKit
import Derived.ProofKit
import Derived.OpenShut
import Derived.ShutString
import Derived.Lib.Hide
namespace Go.Proofs.YtgogacgmphpaoaaDoor
open Go.ChangeShapes Go.WideShapes Go.ChangeAt Go.RowKit
/-- the running checksum of a list of bytes -/
def sumL (l : List UInt8) : Nat := l.foldl (fun h c => (41 * h + c.toNat + 1) % 999979) 7
theorem sumL_lt (l : List UInt8) : sumL l < 999979 := by
  unfold sumL
  have : ∀ (l : List UInt8) (h : Nat), h < 999979 → l.foldl (fun h c => (41 * h + c.toNat + 1) % 999979) h < 999979 := by
    intro l
    induction l with
    | nil => intro h hh; simpa using hh
    | cons c r ih => intro h hh; simp only [List.foldl_cons]; exact ih _ (Nat.mod_lt _ (by omega))
  exact this l 7 (by omega)
theorem sumL_snoc (l : List UInt8) (c : UInt8) : sumL (l ++ [c]) = (41 * sumL l + c.toNat + 1) % 999979 := by
  unfold sumL; rw [List.foldl_append]; rfl
theorem take_snoc (s : ByteArray) (k : Nat) (h : k < s.size) : s.data.toList.take (k + 1) = s.data.toList.take k ++ [s[k]] := by
  rw [List.take_succ_eq_append_getElem (by simpa using h)]; rfl
theorem sum_step (s : ByteArray) (k : Nat) (h : k < s.size) : (sumL (s.data.toList.take (k + 1)) : Int) = ((41 * (sumL (s.data.toList.take k) : Int) + (s[k].toNat : Int) + 1) % 999979) := by
  rw [take_snoc s k h, sumL_snoc]; omega
theorem ret_intd {k : IntKind} {a b : Int} (h : a = b) : Ending.returned (.int k a) = .returned (.int k b) := by rw [h]
theorem ret_int2 {k : IntKind} {a b : Int} {c : Value} (h : a = b) : Ending.returned (.tuple #[.int k a, c]) = .returned (.tuple #[.int k b, c]) := by rw [h]
set_option maxHeartbeats 400000 in
theorem l1Sum_any (s : ByteArray) (w : World) (hs : s.size ≤ maxLen) :
    Calls Tryd.prog 42 #[.string s] w fun e w' => e = .returned (.int .i64 (sumL s.data.toList : Int)) ∧ w = w' := by
  unfold maxLen at hs
  go_enter Tryd.func42, Tryd.ntmps42
  go_wp2
  go_loop [3, 4] (fun n i => ∃ k : Nat, k ≤ s.size ∧ i = .int .i64 k ∧ n = .int .i64 (sumL (s.data.toList.take k) : Int)) (fun _ i => s.size - (intOf i).toNat)
  case atStart => exact ⟨0, Nat.zero_le _, rfl, rfl⟩
  case round =>
    obtain ⟨k, hk, rfl, rfl⟩ := hrel
    have hl := sumL_lt (s.data.toList.take k)
    by_cases hlt : k < s.size
    · have HS := Lib.hid (sum_step s k hlt)
      have hl1 : (sumL (s.data.toList.take k) : Int) ≤ 999978 := by omega
      have hl0 : 0 ≤ (sumL (s.data.toList.take k) : Int) := by omega
      have hb1 : (s[k].toNat : Int) ≤ 255 := by have := UInt8.toNat_lt s[k]; omega
      have hb0 : 0 ≤ (s[k].toNat : Int) := by omega
      clear hl
      go_wp2
      go_round
      case rel => exact ⟨k + 1, by omega, by go_num, by rw [HS.out]⟩
      case measure => simp [intOf]; omega
    · go_wp2
      go_ret
      exact ⟨ret_intd (by rw [List.take_of_length_le (by simp; omega)]), rfl⟩
theorem implCk_long (s : ByteArray) (w : World) (hs : s.size ≤ maxLen) (h : 4000 < s.size) :
    Calls Tryd.prog 31 #[.string s] w fun e w' => e = .returned (.tuple #[.int .i64 0, .bool false]) ∧ w = w' := by
  unfold maxLen at hs
  go_enter Tryd.func31, Tryd.ntmps31
  go_wp2
  go_ret2
  exact ⟨rfl, rfl⟩
set_option maxHeartbeats 400000 in
theorem implCk_any (s : ByteArray) (w : World) (hs : s.size ≤ 4000) :
    Calls Tryd.prog 31 #[.string s] w fun e w' => e = .returned (.tuple #[.int .i64 (sumL s.data.toList : Int), .bool true]) ∧ w = w' := by
  go_enter Tryd.func31, Tryd.ntmps31
  go_wp2
  go_loop [4, 11] (fun n i => ∃ k : Nat, k ≤ s.size ∧ i = .int .i64 k ∧ n = .int .i64 (sumL (s.data.toList.take k) : Int)) (fun _ i => s.size - (intOf i).toNat)
  case atStart => exact ⟨0, Nat.zero_le _, rfl, rfl⟩
  case round =>
    obtain ⟨k, hk, rfl, rfl⟩ := hrel
    have hl := sumL_lt (s.data.toList.take k)
    by_cases hlt : k < s.size
    · have HS := Lib.hid (sum_step s k hlt)
      have hl1 : (sumL (s.data.toList.take k) : Int) ≤ 999978 := by omega
      have hl0 : 0 ≤ (sumL (s.data.toList.take k) : Int) := by omega
      have hb1 : (s[k].toNat : Int) ≤ 255 := by have := UInt8.toNat_lt s[k]; omega
      have hb0 : 0 ≤ (s[k].toNat : Int) := by omega
      clear hl
      go_wp2
      go_round
      case rel => exact ⟨k + 1, by omega, by go_num, by rw [HS.out]⟩
      case measure => simp [intOf]; omega
    · go_wp2
      go_ret2
      exact ⟨ret_int2 (by rw [List.take_of_length_le (by simp; omega)]), rfl⟩
def has (c : UInt8) (x : ByteArray) : Bool := decide (c ∈ x.data.toList)
def noBefore (x : ByteArray) (c : UInt8) (k : Nat) : Prop := ∀ j (h : j < x.size), j < k → x[j] ≠ c
theorem noBefore_zero (x : ByteArray) (c : UInt8) : noBefore x c 0 := fun _ _ h => absurd h (by omega)
theorem noBefore_succ {x : ByteArray} {c : UInt8} {k : Nat} (h : noBefore x c k) (hk : k < x.size) (hne : x[k] ≠ c) : noBefore x c (k + 1) := fun j hj hlt => by
  by_cases e : j = k
  · subst e; exact hne
  · exact h j hj (by omega)
theorem has_none {x : ByteArray} {c : UInt8} (h : noBefore x c x.size) : has c x = false := by
  unfold has
  rw [decide_eq_false_iff_not]
  intro hm
  obtain ⟨i, hi, he⟩ := List.mem_iff_getElem.1 hm
  exact h i (by simpa using hi) (by simpa using hi) he
theorem has_at {x : ByteArray} {c : UInt8} {k : Nat} (hk : k < x.size) (he : x[k] = c) : has c x = true := by
  unfold has
  rw [decide_eq_true_iff]
  exact List.mem_iff_getElem.2 ⟨k, by simpa using hk, he⟩
theorem at_ne {a c : UInt8} (h : a ≠ c) : ((a.toNat : Int) == (c.toNat : Int)) = false := by
  rw [beq_eq_false_iff_ne]; intro e; exact h (UInt8.toNat_inj.1 (by omega))
theorem at_eq {a c : UInt8} (h : a = c) : ((a.toNat : Int) == (c.toNat : Int)) = true := by rw [h]; simp

theorem ret_bool {a b : Bool} (h : a = b) : Ending.returned (.bool a) = .returned (.bool b) := by rw [h]
set_option maxHeartbeats 400000 in
theorem stands_any (x : ByteArray) (c : UInt8) (w : World) (hs : x.size ≤ maxLen) :
    Calls Tryd.prog 33 #[.string x, .int .u8 (c.toNat : Int)] w fun e w' => e = .returned (.bool (has c x)) ∧ w = w' := by
  unfold maxLen at hs
  go_enter Tryd.func33, Tryd.ntmps33
  go_wp2
  go_loop [5] (fun i => ∃ k : Nat, k ≤ x.size ∧ i = .int .i64 k ∧ noBefore x c k) (fun i => x.size - (intOf i).toNat)
  case atStart => exact ⟨0, Nat.zero_le _, rfl, noBefore_zero x c⟩
  case round =>
    obtain ⟨k, hk, rfl, hn⟩ := hrel
    have HN := Lib.hid hn
    clear hn
    by_cases hlt : k < x.size
    · by_cases he : x[k] = c
      · have HE := Lib.hid (has_at hlt he)
        have hb := at_eq he
        clear he
        go_wp2
        go_ret
        exact ⟨ret_bool HE.out.symm, rfl⟩
      · have HE := Lib.hid he
        have hb := at_ne he
        clear he
        go_wp2
        go_round
        case rel => exact ⟨k + 1, by omega, by go_num, noBefore_succ HN.out hlt HE.out⟩
        case measure => simp [intOf]; omega
    · go_wp2
      go_ret
      obtain rfl : k = x.size := by omega
      exact ⟨ret_bool (has_none HN.out).symm, rfl⟩
theorem has_index (l : List UInt8) (c : UInt8) : decide (0 ≤ Lib.indexByte l c) = decide (c ∈ l) := by
  induction l with
  | nil => simp [Lib.indexByte]
  | cons b r ih =>
    rw [Lib.indexByte]
    by_cases h : b = c
    · subst h; simp
    · have hb : (b == c) = false := by simp [h]
      have hm : (c ∈ b :: r) ↔ c ∈ r := by simp [Ne.symm h]
      rw [hb]
      have hge := Lib.indexByte_ge r c
      simp only [Bool.false_eq_true, if_false]
      by_cases h1 : Lib.indexByte r c = -1
      · rw [h1] at ih ⊢
        have : c ∉ r := by simpa using ih
        simp [hm, this]
      · have hb1 : (Lib.indexByte r c == -1) = false := by simp [h1]
        rw [hb1]
        have : c ∈ r := by
          have h0 : (0 : Int) ≤ Lib.indexByte r c := by omega
          simpa [h0] using ih
        simp [this]
        omega
theorem contains_b {s : ByteArray} {r : Bool} (h : has 35 s = r) (w : World) : Calls Tryd.prog 32 #[.string s, .string ⟨#[35]⟩] w fun e w' => e = .returned (.bool r) ∧ w = w' :=
  (Tryd.strings_Contains_one s 35 w).mono fun _ _ ⟨a, b⟩ => ⟨by rw [a, has_index, ← h]; rfl, b.symm⟩
theorem stands_b {x : ByteArray} {r : Bool} (h : has 35 x = r) (hs : x.size ≤ maxLen) (w : World) :
    Calls Tryd.prog 33 #[.string x, .int .u8 35] w fun e w' => e = .returned (.bool r) ∧ w = w' := by
  have := stands_any x 35 w hs
  rw [h] at this
  exact this
/-- A text with its checksum behind it. -/
def sealed (s : ByteArray) : ByteArray := (s ++ ⟨#[35]⟩) ++ ⟨(Lib.itoa (sumL s.data.toList : Int)).toArray⟩
theorem digits_len (s : ByteArray) : (Lib.itoa (sumL s.data.toList : Int)).length ≤ 20 := by
  rw [Lib.itoa_nonneg]
  exact dec_len _ (by have := sumL_lt s.data.toList; omega)
theorem sealed_size (s : ByteArray) : (sealed s).size = s.size + 1 + (Lib.itoa (sumL s.data.toList : Int)).length := by
  unfold sealed
  rw [ByteArray.size_append, ByteArray.size_append]
  rfl
end Go.Proofs.YtgogacgmphpaoaaDoor
