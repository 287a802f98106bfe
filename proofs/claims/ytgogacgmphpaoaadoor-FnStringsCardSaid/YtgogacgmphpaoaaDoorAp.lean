/- CONTRACTS: the two AppendChecksum functions (the model's and the code's) return the same sealed text, or say no together. -/
import Derived.Test.YtgogacgmphpaoaaDoorCk
namespace Go.Proofs.YtgogacgmphpaoaaDoor
open Go.ChangeShapes Go.WideShapes Go.ChangeAt Go.RowKit
set_option linter.unusedVariables false
theorem ret_sealed {s : ByteArray} {t : ByteArray} (h : t = sealed s) : Ending.returned (.string t) = .returned (.string (sealed s)) := by rw [h]
theorem sum_call (s : ByteArray) (w : World) (hs : s.size ≤ maxLen) {v : Int} (hv : v = (sumL s.data.toList : Int)) : Calls Tryd.prog 42 #[.string s] w fun e w' => e = .returned (.int .i64 v) ∧ w = w' := by
  subst hv; exact l1Sum_any s w hs
theorem num_call {n : Int} (h1 : -99999999 ≤ n) (h2 : n ≤ 99999999) {t : ByteArray} (ht : t = ⟨(Lib.itoa n).toArray⟩) (w : World) : Calls Tryd.prog 25 #[.int .i64 n] w fun e w' => e = .returned (.string t) ∧ ∃ k, w' = w.drewN k := by
  subst ht; exact num_any n h1 h2 w
set_option maxHeartbeats 400000 in
theorem seal_any (s : ByteArray) (w : World) (hs : s.size ≤ 1048576) : Calls Tryd.prog 34 #[.string s] w fun e w' => e = .returned (.string (sealed s)) ∧ ∃ k, w' = w.drewN k := by
  obtain ⟨v, hv⟩ : ∃ v : Int, v = (sumL s.data.toList : Int) := ⟨_, rfl⟩
  obtain ⟨t, ht⟩ : ∃ t : ByteArray, t = ⟨(Lib.itoa v).toArray⟩ := ⟨_, rfl⟩
  have hl := sumL_lt s.data.toList
  have HS := Lib.hid (fun w => sum_call s w (by unfold maxLen; omega) hv)
  have HN := Lib.hid (fun w => num_call (by omega) (by omega) ht w)
  have htl : t.size ≤ 20 := by rw [ht, hv]; exact digits_len s
  have HT := Lib.hid (show (s ++ ⟨#[35]⟩) ++ t = sealed s by rw [ht, hv]; rfl)
  clear hv ht hl
  go_enter Tryd.func34, Tryd.ntmps34
  go_wp2_with (first | (go_at_call 42; refine (HS.out _).mono ?_; rintro e w' ⟨rfl, rfl⟩) | (go_at_call 25; refine (HN.out _).mono ?_; rintro e w' ⟨rfl, k, rfl⟩))
  go_ret
  exact ⟨ret_sealed HT.out, _, rfl⟩
/-- Whether a text can be sealed. -/
def okA (s : ByteArray) : Prop := s.size ≤ 4000 ∧ has 35 s = false ∧ (sealed s).size ≤ 4000
theorem specA_yes (s : ByteArray) (w : World) (h : okA s) : Calls Tryd.prog 17 #[.string s] w fun e w' => e = .returned (.tuple #[.string (sealed s), .bool true]) ∧ ∃ k, w' = w.drewN k := by
  obtain ⟨h1, h2, h3⟩ := h
  have HST := Lib.hid (fun w => stands_b h2 (by unfold maxLen; omega) w)
  have HSE := Lib.hid (fun w => seal_any s w (by omega))
  clear h2
  obtain ⟨t, ht⟩ : ∃ t, t = sealed s := ⟨_, rfl⟩
  rw [← ht] at h3 HSE ⊢
  clear ht
  go_enter Tryd.func17, Tryd.ntmps17
  go_wp2_with (first | (go_at_call 33; refine (HST.out _).mono ?_; rintro e w' ⟨rfl, rfl⟩) | (go_at_call 34; refine (HSE.out _).mono ?_; rintro e w' ⟨rfl, k, rfl⟩))
  go_ret2
  exact ⟨rfl, _, rfl⟩
theorem specA_no (s : ByteArray) (w : World) (hs : s.size ≤ 1048576) (h : ¬ okA s) : Calls Tryd.prog 17 #[.string s] w fun e w' => e = .returned (.tuple #[.string ⟨#[]⟩, .bool false]) ∧ ∃ k, w' = w.drewN k := by
  by_cases h1 : s.size ≤ 4000
  · cases h2 : has 35 s with
    | true =>
      have HST := Lib.hid (fun w => stands_b h2 (by unfold maxLen; omega) w)
      clear h2 h
      go_enter Tryd.func17, Tryd.ntmps17
      go_wp2_with (first | (go_at_call 33; refine (HST.out _).mono ?_; rintro e w' ⟨rfl, rfl⟩))
      go_ret2
      exact ⟨rfl, 0, by rw [World.drewN_zero]⟩
    | false =>
      have h3 : ¬ (sealed s).size ≤ 4000 := fun h3 => h ⟨h1, h2, h3⟩
      have HST := Lib.hid (fun w => stands_b h2 (by unfold maxLen; omega) w)
      have HSE := Lib.hid (fun w => seal_any s w (by omega))
      clear h2 h
      obtain ⟨t, ht⟩ : ∃ t, t = sealed s := ⟨_, rfl⟩
      rw [← ht] at h3 HSE
      clear ht
      go_enter Tryd.func17, Tryd.ntmps17
      go_wp2_with (first | (go_at_call 33; refine (HST.out _).mono ?_; rintro e w' ⟨rfl, rfl⟩) | (go_at_call 34; refine (HSE.out _).mono ?_; rintro e w' ⟨rfl, k, rfl⟩))
      go_ret2
      exact ⟨rfl, _, rfl⟩
  · clear h
    go_enter Tryd.func17, Tryd.ntmps17
    go_wp2_with fail
    go_ret2
    exact ⟨rfl, 0, by rw [World.drewN_zero]⟩
theorem ck_call (s : ByteArray) (w : World) (hs : s.size ≤ 4000) {v : Int} (hv : v = (sumL s.data.toList : Int)) : Calls Tryd.prog 31 #[.string s] w fun e w' => e = .returned (.tuple #[.int .i64 v, .bool true]) ∧ w = w' := by
  subst hv; exact implCk_any s w hs
theorem fi_call {n : Int} (h1 : -999999 ≤ n) (h2 : n ≤ 999999) {t : ByteArray} (ht : t = ⟨(Lib.itoa n).toArray⟩) (w : World) (htab : Lib.TabIs Tryd.prog w "internal/strconv.uint64pow10" .u64 Lib.pow10Tab) : Calls Tryd.prog 10 #[.int .i64 n] w fun e w' => e = .returned (.tuple #[.string t, .bool true]) ∧ Below w.heap.size w w' := by
  subst ht
  exact (implF_yes n h1 h2 w htab).mono fun _ _ ⟨a, k, os, b⟩ => ⟨a, by rw [b]; exact below_grow (below_drewN (Below.refl _ _) _) (Nat.le_refl _) _⟩
set_option maxHeartbeats 400000 in
theorem implA_any (s : ByteArray) (w : World) (hs : s.size ≤ 1048576) (htab : Lib.TabIs Tryd.prog w "internal/strconv.uint64pow10" .u64 Lib.pow10Tab) (res : ByteArray) (okb : Bool) (hr : (okA s ∧ res = sealed s ∧ okb = true) ∨ (¬ okA s ∧ res = ⟨#[]⟩ ∧ okb = false)) :
    Calls Tryd.prog 16 #[.string s] w fun e w' => e = .returned (.tuple #[.string res, .bool okb]) ∧ Below w.heap.size w w' := by
  by_cases h1 : s.size ≤ 4000
  · obtain ⟨v, hv⟩ : ∃ v : Int, v = (sumL s.data.toList : Int) := ⟨_, rfl⟩
    obtain ⟨t, ht⟩ : ∃ t : ByteArray, t = ⟨(Lib.itoa v).toArray⟩ := ⟨_, rfl⟩
    have hl := sumL_lt s.data.toList
    have HC := Lib.hid (ck_call s w h1 hv)
    have HF := Lib.hid (fi_call (by omega) (by omega) ht w htab)
    have htl : t.size ≤ 20 := by rw [ht, hv]; exact digits_len s
    have hte : (s ++ ⟨#[35]⟩) ++ t = sealed s := by rw [ht, hv]; rfl
    have hsz : (sealed s).size = s.size + 1 + t.size := by rw [← hte, ByteArray.size_append, ByteArray.size_append]; rfl
    have HT := Lib.hid hte
    cases h2 : has 35 s with
    | true =>
      have HK := Lib.hid (contains_b h2 w)
      have hno : ¬ okA s := fun h => by rw [h.2.1] at h2; cases h2
      rcases hr with ⟨h, _⟩ | ⟨_, rfl, rfl⟩
      · exact absurd h hno
      clear h2 htab hv ht hl hte hsz hno
      go_enter Tryd.func16, Tryd.ntmps16
      go_wp2_with (first | (go_at_call 31; refine HC.out.mono ?_; rintro e w' ⟨rfl, rfl⟩) | (go_at_call 32; refine HK.out.mono ?_; rintro e w' ⟨rfl, rfl⟩))
      go_ret2
      exact ⟨rfl, Below.refl _ _⟩
    | false =>
      have HK := Lib.hid (contains_b h2 w)
      by_cases h3 : s.size + 1 + t.size ≤ 4000
      · have hyes : okA s := ⟨h1, h2, by omega⟩
        rcases hr with ⟨_, rfl, rfl⟩ | ⟨h, _⟩
        · clear h2 htab hv ht hl hte hsz hyes
          go_enter Tryd.func16, Tryd.ntmps16
          go_wp2_with (first | (go_at_call 31; refine HC.out.mono ?_; rintro e w' ⟨rfl, rfl⟩) | (go_at_call 32; refine HK.out.mono ?_; rintro e w' ⟨rfl, rfl⟩) | (go_at_call 10; refine HF.out.mono ?_; rintro e w' ⟨rfl, hb⟩))
          go_ret2
          exact ⟨by rw [← HT.out]; rfl, hb⟩
        · exact absurd hyes h
      · have hno : ¬ okA s := fun h => h3 (by have := h.2.2; omega)
        rcases hr with ⟨h, _⟩ | ⟨_, rfl, rfl⟩
        · exact absurd h hno
        clear h2 htab hv ht hl hte hsz hno
        go_enter Tryd.func16, Tryd.ntmps16
        go_wp2_with (first | (go_at_call 31; refine HC.out.mono ?_; rintro e w' ⟨rfl, rfl⟩) | (go_at_call 32; refine HK.out.mono ?_; rintro e w' ⟨rfl, rfl⟩) | (go_at_call 10; refine HF.out.mono ?_; rintro e w' ⟨rfl, hb⟩))
        go_ret2
        exact ⟨rfl, hb⟩
  · have HC := Lib.hid (implCk_long s w (by unfold maxLen; omega) (by omega))
    rcases hr with ⟨h, _⟩ | ⟨_, rfl, rfl⟩
    · exact absurd h.1 h1
    clear htab
    go_enter Tryd.func16, Tryd.ntmps16
    go_wp2_with (first | (go_at_call 31; refine HC.out.mono ?_; rintro e w' ⟨rfl, rfl⟩))
    go_ret2
    exact ⟨rfl, Below.refl _ _⟩
end Go.Proofs.YtgogacgmphpaoaaDoor
