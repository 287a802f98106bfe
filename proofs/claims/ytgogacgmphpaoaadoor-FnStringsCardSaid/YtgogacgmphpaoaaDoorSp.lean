/- CONTRACTS: the model's l1Split: the parts of a text between the places of a byte, in new memory. -/
import Derived.Test.YtgogacgmphpaoaaDoorCk
import Derived.Maps.AppendAt
import Derived.OwnWalk
import Derived.Lib.IndexLaws
import Derived.Laws.OwnMore
namespace Go.Proofs.YtgogacgmphpaoaaDoor
open Go.ChangeShapes Go.WideShapes Go.ChangeAt Go.RowKit
set_option linter.unusedVariables false
theorem Tryd.info9 : (Tryd.prog.info? 9).map (fun i => (i.zero, i.size, i.bytes)) = some (some (.string ByteArray.empty), 1, 16) := by kernel_rfl
/-- After k bytes: where the part under way begins, and the parts that are done. -/
def stp (s : ByteArray) (c : UInt8) : Nat → Nat × List ByteArray
  | 0 => (0, [])
  | k + 1 => if s.data.toList[k]? = some c then (k + 1, (stp s c k).2 ++ [s.extract (stp s c k).1 k]) else stp s c k
def parts (s : ByteArray) (c : UInt8) : List ByteArray := (stp s c s.size).2 ++ [s.extract (stp s c s.size).1 s.size]
theorem get_at (s : ByteArray) (k : Nat) (h : k < s.size) : s.data.toList[k]? = some s[k] := by
  rw [List.getElem?_eq_getElem (by simpa using h)]; rfl
theorem stp_yes {s : ByteArray} {c : UInt8} {k : Nat} (h : k < s.size) (he : s[k] = c) : stp s c (k + 1) = (k + 1, (stp s c k).2 ++ [s.extract (stp s c k).1 k]) := by
  rw [stp, if_pos (by rw [get_at s k h, he])]
theorem stp_no {s : ByteArray} {c : UInt8} {k : Nat} (h : k < s.size) (he : s[k] ≠ c) : stp s c (k + 1) = stp s c k := by
  rw [stp, if_neg (by rw [get_at s k h]; simpa using he)]
theorem stp_le (s : ByteArray) (c : UInt8) : ∀ k, (stp s c k).1 ≤ k
  | 0 => Nat.le_refl _
  | k + 1 => by
    rw [stp]; split
    · exact Nat.le_refl _
    · exact Nat.le_trans (stp_le s c k) (Nat.le_succ _)
theorem stp_len (s : ByteArray) (c : UInt8) : ∀ k, (stp s c k).2.length ≤ k
  | 0 => Nat.le_refl _
  | k + 1 => by
    have := stp_len s c k
    rw [stp]; split
    · rw [List.length_append]; simp; omega
    · omega
theorem parts_len (s : ByteArray) (c : UInt8) : (parts s c).length ≤ s.size + 1 := by
  unfold parts; have := stp_len s c s.size; rw [List.length_append]; simp; omega
theorem parts_pos (s : ByteArray) (c : UInt8) : 0 < (parts s c).length := by unfold parts; simp
/-- A new slice that owns these strings; of what was there nothing has turned. -/
def SplitPost (xs : List ByteArray) (w : World) (e : Ending) (w' : World) : Prop :=
  ∃ g cap, e = .returned (.slice (some ⟨g, 0, none⟩) xs.length cap) ∧ w'.ownsRow w.heap.size 9 1 (.slice (some ⟨g, 0, none⟩) xs.length cap) xs.length (xs.map Value.string) ∧ w.heap.size ≤ g ∧ Below w.heap.size w w'
theorem own_shape {W : World} {base e size k : Nat} {v : Value} {xs : List Value} (h : W.ownsRow base e size v (k + 1) xs) : ∃ g cap, v = .slice (some ⟨g, 0, none⟩) (k + 1) cap ∧ base ≤ g := by
  rcases h.2 with ⟨_, h0⟩ | ⟨g, cap, _, rfl, hb, _⟩
  · omega
  · exact ⟨g, cap, rfl, hb⟩
/-- What one append of a string leaves. -/
theorem app_step {w wr w1 : World} {B : Nat} {v v' : Value} {xs : List ByteArray} {x : ByteArray} (hown : wr.ownsRow B 9 1 v xs.length (xs.map Value.string)) (hb : Below B w wr) (hB : B ≤ wr.heap.size)
    (hown' : w1.ownsRow B 9 1 v' (xs.length + 1) (xs.map Value.string ++ [.string x])) (hg : (wr.alloc (.cells #[.string x] 9)).grownBy w1 v.ownBlock) :
    w1.ownsRow B 9 1 v' (xs ++ [x]).length ((xs ++ [x]).map Value.string) ∧ Below B w w1 := by
  refine ⟨by simpa using hown', (hb.alloc hB _).grown hg (by simp; omega) (fun k hk => (hown.lt k hk).1)⟩
set_option maxHeartbeats 1000000 in
theorem split_any (s : ByteArray) (c : UInt8) (w : World) (hs : s.size ≤ 4000) :
    Calls Tryd.prog 36 #[.string s, .int .u8 (c.toNat : Int)] w (SplitPost (parts s c) w) := by
  obtain ⟨i0, hi, hz0, hz1, hz2⟩ := info_parts Tryd.info9
  go_enter Tryd.func36, Tryd.ntmps36
  go_wp2
  go_loopw [5, 6, 7] (fun v fr i wr => ∃ (k f : Nat) (xs : List ByteArray), k ≤ s.size ∧ i = .int .i64 k ∧ fr = .int .i64 f ∧ f ≤ k ∧ xs.length ≤ k ∧ Hid (stp s c k = (f, xs)) ∧ wr.ownsRow w.heap.size 9 1 v xs.length (xs.map Value.string) ∧ Below w.heap.size w wr) (fun _ _ i _ => s.size - (intOf i).toNat)
  case atStart => exact ⟨0, 0, [], Nat.zero_le _, rfl, rfl, Nat.le_refl _, Nat.le_refl _, rfl, World.ownsRow_lit _ #[] 0 (Nat.le_refl _) (by unfold maxLen; omega) rfl, (Below.refl _ _).alloc (Nat.le_refl _) _⟩
  case round =>
    obtain ⟨k, f, xs, hk, rfl, rfl, hf, hxl, HS, hown, hb⟩ := hrel
    have hsz := hb.size
    by_cases hlt : k < s.size
    · by_cases he : s[k] = c
      · have HE := Lib.hid (stp_yes hlt he)
        have hbq := at_eq he
        clear he
        go_wp2_with (at_builtin; refine wpList_append_own _ rfl _ _ 44 rfl w.heap.size 9 i0 (.string ByteArray.empty) 1 16 Tryd.underlying44 hi hz0 hz1 hz2 rfl (by decide) _ _ _ rfl (hown.alloc _) ⟨wr.heap.size, 0, none⟩ 1 1 [.string (s.extract f k)] rfl rfl (cell_one_new _ _ _) (by intro u hu; simp at hu; subst hu; rfl) (by unfold maxLen; omega) (by omega) (by simp; omega) ?_; intro v' w1 hown' hgrow _; have R := Lib.hid (app_step hown hb hsz hown' hgrow); clear hown' hgrow hown hb)
        go_roundw
        case rel => exact ⟨k + 1, k + 1, xs ++ [s.extract f k], by omega, by go_num, by go_num, Nat.le_refl _, by simp; omega, by show stp s c (k + 1) = _; rw [HE.out, HS.out], R.out.1, R.out.2⟩
        case measure => simp [intOf]; omega
      · have HE := Lib.hid (stp_no hlt he)
        have hbq := at_ne he
        have HO := Lib.hid hown
        have HB := Lib.hid hb
        clear he hown hb
        go_wp2
        go_roundw
        case rel => exact ⟨k + 1, f, xs, by omega, by go_num, rfl, by omega, by omega, by show stp s c (k + 1) = _; rw [HE.out, HS.out], HO.out, HB.out⟩
        case measure => simp [intOf]; omega
    · obtain rfl : k = s.size := by omega
      have HP := Lib.hid (show parts s c = xs ++ [s.extract f s.size] by unfold parts; rw [HS.out])
      go_wp2_with (at_builtin; refine wpList_append_own _ rfl _ _ 44 rfl w.heap.size 9 i0 (.string ByteArray.empty) 1 16 Tryd.underlying44 hi hz0 hz1 hz2 rfl (by decide) _ _ _ rfl (hown.alloc _) ⟨wr.heap.size, 0, none⟩ 1 1 [.string (s.extract f s.size)] rfl rfl (cell_one_new _ _ _) (by intro u hu; simp at hu; subst hu; rfl) (by unfold maxLen; omega) (by omega) (by simp; omega) ?_; intro v' w1 hown' hgrow _; obtain ⟨g, cap, rfl, hbg⟩ := own_shape hown'; have R := Lib.hid (app_step hown hb hsz hown' hgrow); clear hown' hgrow hown hb)
      go_ret
      have R1 := R.out
      rw [← HP.out] at R1
      have hl : xs.length + 1 = (parts s c).length := by rw [HP.out]; simp
      rw [hl] at R1
      exact ⟨g, cap, by rw [hl]; rfl, R1.1, hbg, R1.2⟩
/-- The first part. -/
def first (s : ByteArray) (c : UInt8) : ByteArray := (parts s c).headD ByteArray.empty
theorem stp_none {s : ByteArray} {c : UInt8} : ∀ k, (∀ j : Nat, j < k → s.data.toList[j]? ≠ some c) → stp s c k = (0, [])
  | 0, _ => rfl
  | k + 1, h => by rw [stp, if_neg (h k (by omega)), stp_none k fun j hj => h j (by omega)]
theorem stp_keep {s : ByteArray} {c : UInt8} {m : Nat} {x : ByteArray} {r : List ByteArray} (h : (stp s c m).2 = x :: r) : ∀ d, ∃ r', (stp s c (m + d)).2 = x :: r'
  | 0 => ⟨r, h⟩
  | d + 1 => by
    obtain ⟨r', hr⟩ := stp_keep h d
    rw [Nat.add_succ, stp]
    split
    · rw [hr]; exact ⟨r' ++ _, rfl⟩
    · exact ⟨r', hr⟩
theorem first_none {s : ByteArray} {c : UInt8} (h : ∀ j : Nat, s.data.toList[j]? ≠ some c) : first s c = s := by
  unfold first parts
  rw [stp_none s.size fun j _ => h j]
  show s.extract 0 s.size = s
  first | exact ByteArray.extract_zero_size | simp
theorem first_at {s : ByteArray} {c : UInt8} {o : Nat} (h1 : s.data.toList[o]? = some c) (h2 : ∀ j : Nat, j < o → s.data.toList[j]? ≠ some c) : first s c = s.extract 0 o := by
  have ho : o < s.size := by have := (List.getElem?_eq_some_iff.1 h1).1; simpa using this
  have h3 : (stp s c (o + 1)).2 = s.extract 0 o :: [] := by rw [stp, if_pos h1, stp_none o h2]; rfl
  obtain ⟨r, hr⟩ := stp_keep h3 (s.size - (o + 1))
  rw [show o + 1 + (s.size - (o + 1)) = s.size by omega] at hr
  unfold first parts
  rw [hr]; rfl
theorem first_parts (s : ByteArray) (c : UInt8) : ∃ r, parts s c = first s c :: r := by
  have := parts_pos s c
  unfold first
  cases h : parts s c with
  | nil => rw [h] at this; simp at this
  | cons x r => exact ⟨r, rfl⟩
theorem first_cases (s : ByteArray) (c : UInt8) : (Lib.indexByte s.data.toList c = -1 ∧ first s c = s ∧ ∀ j : Nat, s.data.toList[j]? ≠ some c) ∨ ∃ o : Nat, Lib.indexByte s.data.toList c = o ∧ o < s.size ∧ first s c = s.extract 0 o ∧ ∀ j : Nat, j < o → s.data.toList[j]? ≠ some c := by
  have hge := Lib.indexByte_ge s.data.toList c
  by_cases h : Lib.indexByte s.data.toList c = -1
  · exact .inl ⟨h, first_none (Lib.indexByte_none h), Lib.indexByte_none h⟩
  · obtain ⟨o, ho⟩ : ∃ o : Nat, Lib.indexByte s.data.toList c = o := ⟨(Lib.indexByte s.data.toList c).toNat, by omega⟩
    obtain ⟨h1, h2⟩ := Lib.indexByte_some ho
    exact .inr ⟨o, ho, by have := (List.getElem?_eq_some_iff.1 h1).1; simpa using this, first_at h1 h2, h2⟩
theorem first_has (s : ByteArray) (c : UInt8) : has c (first s c) = false := by
  unfold has
  rw [decide_eq_false_iff_not]
  intro hm
  obtain ⟨j, hj⟩ := List.mem_iff_getElem?.1 hm
  rcases first_cases s c with ⟨_, h2, h3⟩ | ⟨o, _, ho, h2, h3⟩
  · rw [h2] at hj; exact h3 j hj
  · rw [h2] at hj
    have hjo : j < o ∧ s.data.toList[j]? = some c := by
      have := hj
      simp only [ByteArray.data_extract, Array.toList_extract, List.extract_eq_take_drop, List.drop_zero, Nat.sub_zero, List.getElem?_take] at this
      split at this
      · exact ⟨‹_›, this⟩
      · cases this
    exact h3 j hjo.1 hjo.2
theorem first_size (s : ByteArray) (c : UInt8) : (first s c).size ≤ s.size := by
  rcases first_cases s c with ⟨_, h2, _⟩ | ⟨o, _, ho, h2, _⟩
  · rw [h2]; exact Nat.le_refl _
  · rw [h2, ByteArray.size_extract]; omega
end Go.Proofs.YtgogacgmphpaoaaDoor
