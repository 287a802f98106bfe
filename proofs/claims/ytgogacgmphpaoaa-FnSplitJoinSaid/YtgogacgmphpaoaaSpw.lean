/- CONTRACTS: the model's l1Split: the parts of a text between the places of a byte, in new memory. -/
import Derived.Test.YtgogacgmphpaoaaStr
import Derived.Test.YtgogacgmphpaoaaSpl
import Derived.Maps.AppendAt
namespace Go.Proofs.Ytgogacgmphpaoaa
open Go.ChangeShapes Go.WideShapes Go.ChangeAt Go.RowKit
set_option linter.unusedVariables false
/-- A new slice that owns these strings; of what was there nothing has turned. -/
def SplitPost (xs : List ByteArray) (w : World) (e : Ending) (w' : World) : Prop :=
  ∃ g cap, e = .returned (.slice (some ⟨g, 0, none⟩) xs.length cap) ∧ w'.ownsRow w.heap.size 9 1 (.slice (some ⟨g, 0, none⟩) xs.length cap) xs.length (xs.map Value.string) ∧ w.heap.size ≤ g ∧ Below w.heap.size w w'
theorem own_shape {W : World} {base e size k : Nat} {v : Value} {xs : List Value} (h : W.ownsRow base e size v (k + 1) xs) : ∃ g cap, v = .slice (some ⟨g, 0, none⟩) (k + 1) cap ∧ base ≤ g := by
  rcases h.2 with ⟨_, h0⟩ | ⟨g, cap, _, rfl, hb, _⟩
  · omega
  · exact ⟨g, cap, rfl, hb⟩
/-- What one append of a string leaves. -/
theorem app_step {w wr w1 : World} {B : Nat} {v v' : Value} {xs : List ByteArray} {x : ByteArray} (hown : wr.ownsRow B 9 1 v xs.length (xs.map Value.string)) (hb : Below B w wr) (hB : B ≤ wr.heap.size)
    (hown' : w1.ownsRow B 9 1 v' (xs.length + 1) (xs.map Value.string ++ [.string x])) (hg : (wr.alloc (.cells #[.string x] 9)).grownBy w1 v.ownBlock) :
    w1.ownsRow B 9 1 v' (xs ++ [x]).length ((xs ++ [x]).map Value.string) ∧ Below B w w1 := by
  refine ⟨by simpa using hown', (hb.alloc hB _).grown hg (by simp; omega) (fun k hk => (hown.lt k hk).1)⟩
set_option maxHeartbeats 1000000 in
theorem split_any (s : ByteArray) (c : UInt8) (w : World) (hs : s.size ≤ 4000) :
    Calls Try.prog 33 #[.string s, .int .u8 (c.toNat : Int)] w (SplitPost (parts s c) w) := by
  obtain ⟨i0, hi, hz0, hz1, hz2⟩ := info_parts Try.info9
  go_enter Try.func33, Try.ntmps33
  go_wp2
  go_loopw [5, 6, 7] (fun v fr i wr => ∃ (k f : Nat) (xs : List ByteArray), k ≤ s.size ∧ i = .int .i64 k ∧ fr = .int .i64 f ∧ f ≤ k ∧ xs.length ≤ k ∧ Hid (stp s c k = (f, xs)) ∧ wr.ownsRow w.heap.size 9 1 v xs.length (xs.map Value.string) ∧ Below w.heap.size w wr) (fun _ _ i _ => s.size - (intOf i).toNat)
  case atStart => exact ⟨0, 0, [], Nat.zero_le _, rfl, rfl, Nat.le_refl _, Nat.le_refl _, rfl, World.ownsRow_lit _ #[] 0 (Nat.le_refl _) (by unfold maxLen; omega) rfl, (Below.refl _ _).alloc (Nat.le_refl _) _⟩
  case round =>
    obtain ⟨k, f, xs, hk, rfl, rfl, hf, hxl, HS, hown, hb⟩ := hrel
    have hsz := hb.size
    by_cases hlt : k < s.size
    · by_cases he : s[k] = c
      · have HE := Lib.hid (stp_yes hlt he)
        have hbq := at_eq he
        clear he
        go_wp2_with (at_builtin; refine wpList_append_own _ rfl _ _ 26 rfl w.heap.size 9 i0 (.string ByteArray.empty) 1 16 Try.underlying26 hi hz0 hz1 hz2 rfl (by decide) _ _ _ rfl (hown.alloc _) ⟨wr.heap.size, 0, none⟩ 1 1 [.string (s.extract f k)] rfl rfl (cell_one_new _ _ _) (by intro u hu; simp at hu; subst hu; rfl) (by unfold maxLen; omega) (by omega) (by simp; omega) ?_; intro v' w1 hown' hgrow _; have R := Lib.hid (app_step hown hb hsz hown' hgrow); clear hown' hgrow hown hb)
        go_roundw
        case rel => exact ⟨k + 1, k + 1, xs ++ [s.extract f k], by omega, by go_num, by go_num, Nat.le_refl _, by simp; omega, by show stp s c (k + 1) = _; rw [HE.out, HS.out], R.out.1, R.out.2⟩
        case measure => simp [intOf]; omega
      · have HE := Lib.hid (stp_no hlt he)
        have hbq := at_ne he
        have HO := Lib.hid hown
        have HB := Lib.hid hb
        clear he hown hb
        go_wp2
        go_roundw
        case rel => exact ⟨k + 1, f, xs, by omega, by go_num, rfl, by omega, by omega, by show stp s c (k + 1) = _; rw [HE.out, HS.out], HO.out, HB.out⟩
        case measure => simp [intOf]; omega
    · obtain rfl : k = s.size := by omega
      have HP := Lib.hid (show parts s c = xs ++ [s.extract f s.size] by unfold parts; rw [HS.out])
      go_wp2_with (at_builtin; refine wpList_append_own _ rfl _ _ 26 rfl w.heap.size 9 i0 (.string ByteArray.empty) 1 16 Try.underlying26 hi hz0 hz1 hz2 rfl (by decide) _ _ _ rfl (hown.alloc _) ⟨wr.heap.size, 0, none⟩ 1 1 [.string (s.extract f s.size)] rfl rfl (cell_one_new _ _ _) (by intro u hu; simp at hu; subst hu; rfl) (by unfold maxLen; omega) (by omega) (by simp; omega) ?_; intro v' w1 hown' hgrow _; obtain ⟨g, cap, rfl, hbg⟩ := own_shape hown'; have R := Lib.hid (app_step hown hb hsz hown' hgrow); clear hown' hgrow hown hb)
      go_ret
      have R1 := R.out
      rw [← HP.out] at R1
      have hl : xs.length + 1 = (parts s c).length := by rw [HP.out]; simp
      rw [hl] at R1
      exact ⟨g, cap, by rw [hl]; rfl, R1.1, hbg, R1.2⟩
end Go.Proofs.Ytgogacgmphpaoaa
