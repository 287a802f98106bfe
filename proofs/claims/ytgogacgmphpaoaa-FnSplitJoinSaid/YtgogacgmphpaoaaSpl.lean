/- PLAIN LEMMAS (no program): the parts of a text between the places of a byte. -/
import Derived.Test.YtgogacgmphpaoaaJn
namespace Go.Proofs.Ytgogacgmphpaoaa
/-- After k bytes: where the part under way begins, and the parts that are done. -/
def stp (s : ByteArray) (c : UInt8) : Nat → Nat × List ByteArray
  | 0 => (0, [])
  | k + 1 => if s.data.toList[k]? = some c then (k + 1, (stp s c k).2 ++ [s.extract (stp s c k).1 k]) else stp s c k
def parts (s : ByteArray) (c : UInt8) : List ByteArray := (stp s c s.size).2 ++ [s.extract (stp s c s.size).1 s.size]
theorem get_at (s : ByteArray) (k : Nat) (h : k < s.size) : s.data.toList[k]? = some s[k] := by
  rw [List.getElem?_eq_getElem (by simpa using h)]; rfl
theorem stp_yes {s : ByteArray} {c : UInt8} {k : Nat} (h : k < s.size) (he : s[k] = c) : stp s c (k + 1) = (k + 1, (stp s c k).2 ++ [s.extract (stp s c k).1 k]) := by
  rw [stp, if_pos (by rw [get_at s k h, he])]
theorem stp_no {s : ByteArray} {c : UInt8} {k : Nat} (h : k < s.size) (he : s[k] ≠ c) : stp s c (k + 1) = stp s c k := by
  rw [stp, if_neg (by rw [get_at s k h]; simpa using he)]
theorem stp_le (s : ByteArray) (c : UInt8) : ∀ k, (stp s c k).1 ≤ k
  | 0 => Nat.le_refl _
  | k + 1 => by
    rw [stp]; split
    · exact Nat.le_refl _
    · exact Nat.le_trans (stp_le s c k) (Nat.le_succ _)
theorem stp_len (s : ByteArray) (c : UInt8) : ∀ k, (stp s c k).2.length ≤ k
  | 0 => Nat.le_refl _
  | k + 1 => by
    have := stp_len s c k
    rw [stp]; split
    · rw [List.length_append]; simp; omega
    · omega
theorem parts_len (s : ByteArray) (c : UInt8) : (parts s c).length ≤ s.size + 1 := by
  unfold parts; have := stp_len s c s.size; rw [List.length_append]; simp; omega
theorem parts_pos (s : ByteArray) (c : UInt8) : 0 < (parts s c).length := by unfold parts; simp
end Go.Proofs.Ytgogacgmphpaoaa
