/- CONTRACTS: the two VerifyChecksum functions (the model's and the code's) return the same text, or say no together. -/
import Derived.Test.YtgogacgmphpaoaaDoorAp
import Derived.Test.YtgogacgmphpaoaaDoorSp
namespace Go.Proofs.YtgogacgmphpaoaaDoor
open Go.ChangeShapes Go.WideShapes Go.ChangeAt Go.RowKit
set_option linter.unusedVariables false
/-- What Cut at '#' returns first. -/
def CutPost (s : ByteArray) (w : World) (e : Ending) (w' : World) : Prop := ∃ x b, e = .returned (.tuple #[.string (first s 35), .string x, .bool b]) ∧ ∃ n, w' = w.drewN n
theorem idx_call {s : ByteArray} {v : Int} (h : Lib.indexByte s.data.toList 35 = v) (w : World) : Calls Tryd.prog 50 #[.string s, .string ⟨#[35]⟩] w fun e w' => e = .returned (.int .i64 v) ∧ w = w' :=
  (Tryd.stringslite_Index_one s 35 w).mono fun _ _ ⟨a, b⟩ => ⟨by rw [a, h], b.symm⟩
set_option maxHeartbeats 400000 in
theorem cut_inner (s : ByteArray) (w : World) (hs : s.size ≤ 1048576) : Calls Tryd.prog 43 #[.string s, .string ⟨#[35]⟩] w (CutPost s w) := by
  rcases first_cases s 35 with ⟨h1, h2, _⟩ | ⟨o, h1, ho, h2, _⟩
  · have HI := Lib.hid (fun w => idx_call h1 w)
    have HF := Lib.hid h2
    clear h1 h2
    go_enter Tryd.func43, Tryd.ntmps43
    go_wp2_with (go_at_call 50; refine (HI.out _).mono ?_; rintro e w' ⟨rfl, rfl⟩)
    go_ret3
    exact ⟨_, _, by rw [HF.out]; rfl, 0, by rw [World.drewN_zero]⟩
  · have HI := Lib.hid (fun w => idx_call h1 w)
    have HF := Lib.hid h2
    have ho' : (o : Int) + 1 ≤ s.size := by omega
    clear h1 h2
    go_enter Tryd.func43, Tryd.ntmps43
    go_wp2_with (go_at_call 50; refine (HI.out _).mono ?_; rintro e w' ⟨rfl, rfl⟩)
    go_quiet (fail)
    go_wp2
    go_ret3
    exact ⟨_, _, by rw [HF.out]; rfl, _, rfl⟩
set_option maxHeartbeats 400000 in
theorem cut_any (s : ByteArray) (w : World) (hs : s.size ≤ 1048576) : Calls Tryd.prog 35 #[.string s, .string ⟨#[35]⟩] w (CutPost s w) := by
  have HC := Lib.hid (fun w => cut_inner s w hs)
  obtain ⟨f, hf⟩ : ∃ f, f = first s 35 := ⟨_, rfl⟩
  have HF := Lib.hid hf
  unfold CutPost at HC ⊢
  rw [← hf] at HC ⊢
  clear hf
  have HC2 : Hid (∀ w, Calls Tryd.prog 43 #[.string s, .string ⟨#[35]⟩] w fun e w' => ∃ x b, e = .returned (.tuple #[.string f, .string x, .bool b]) ∧ ∃ n, w' = w.drewN n) := HC
  clear HC
  suffices h : Calls Tryd.prog 35 #[.string s, .string ⟨#[35]⟩] w (fun e w' => Hid (∃ x b, e = .returned (.tuple #[.string f, .string x, .bool b]) ∧ ∃ n, w' = w.drewN n)) from h
  go_enter Tryd.func35, Tryd.ntmps35
  go_wp2_with (go_at_call 43; refine (HC2.out _).mono ?_; rintro e w' ⟨x, b, rfl, n, rfl⟩)
  go_ret3
  exact ⟨x, b, rfl, n, rfl⟩
/-- Whether a text is sealed. -/
def okV (s : ByteArray) : Prop := s.size ≤ 4000 ∧ sealed (first s 35) = s
theorem okV_okA {s : ByteArray} (h : okV s) : okA (first s 35) := ⟨Nat.le_trans (first_size s 35) h.1, first_has s 35, by rw [h.2]; exact h.1⟩
theorem okA_okV {s : ByteArray} (h : okA (first s 35)) (he : sealed (first s 35) = s) : okV s := ⟨by rw [← he]; exact h.2.2, he⟩
theorem ba_ne {a b : ByteArray} (h : a ≠ b) : (a.toList == b.toList) = false ∧ True ∧ (a.data.toList == b.data.toList) = false := by
  have h2 : a.data.toList ≠ b.data.toList := fun e => h (by obtain ⟨⟨a⟩⟩ := a; obtain ⟨⟨b⟩⟩ := b; simp at e; subst e; rfl)
  refine ⟨?_, ?_, ?_⟩
  · rw [beq_eq_false_iff_ne, ByteArray.toList_eq, ByteArray.toList_eq]; exact h2
  · trivial
  · rw [beq_eq_false_iff_ne]; exact h2
set_option maxHeartbeats 400000 in
theorem specV_yes (s : ByteArray) (w : World) (h : okV s) : Calls Tryd.prog 20 #[.string s] w fun e w' => e = .returned (.tuple #[.string (first s 35), .bool true]) ∧ Below w.heap.size w w' := by
  obtain ⟨h1, h2⟩ := h
  have HP := Lib.hid (split_any s 35 w h1)
  have HSE := Lib.hid (fun w => seal_any (first s 35) w (by have := first_size s 35; omega))
  rw [h2] at HSE
  obtain ⟨r, hr⟩ := first_parts s 35
  have HR := Lib.hid hr
  obtain ⟨t, ht⟩ : ∃ t, t = first s 35 := ⟨_, rfl⟩
  rw [← ht] at HSE HR ⊢
  clear ht h2 hr
  go_enter Tryd.func20, Tryd.ntmps20
  go_wp2_with fail
  refine HP.out.mono ?_
  rintro e w1 ⟨g, cap, rfl, hown, hg, hb⟩
  have hc0 : w1.cell? ⟨g, 0, none⟩ = some (.string t) := by rw [hown.cellAt 0 (by have := parts_pos s 35; omega), HR.out]; rfl
  have HB := Lib.hid hb
  have hp : 0 < (parts s 35).length := parts_pos s 35
  obtain ⟨n, hn⟩ : ∃ n, n = (parts s 35).length := ⟨_, rfl⟩
  rw [← hn] at hp ⊢
  clear hown hb hn
  go_wp2_with fail
  refine (HSE.out _).mono ?_
  rintro e w2 ⟨rfl, k, rfl⟩
  go_wp2_with fail
  go_ret2
  exact ⟨rfl, below_drewN HB.out k⟩
set_option maxHeartbeats 400000 in
theorem specV_no (s : ByteArray) (w : World) (hs : s.size ≤ 1048576) (h : ¬ okV s) : Calls Tryd.prog 20 #[.string s] w fun e w' => e = .returned (.tuple #[.string ⟨#[]⟩, .bool false]) ∧ Below w.heap.size w w' := by
  by_cases h1 : s.size ≤ 4000
  · have h2 : sealed (first s 35) ≠ s := fun e => h ⟨h1, e⟩
    have HP := Lib.hid (split_any s 35 w h1)
    have HSE := Lib.hid (fun w => seal_any (first s 35) w (by have := first_size s 35; omega))
    obtain ⟨z, hz⟩ : ∃ z, z = sealed (first s 35) := ⟨_, rfl⟩
    rw [← hz] at HSE h2
    obtain ⟨hne1, hne2, hne3⟩ := ba_ne h2
    obtain ⟨r, hr⟩ := first_parts s 35
    have HR := Lib.hid hr
    obtain ⟨t, ht⟩ : ∃ t, t = first s 35 := ⟨_, rfl⟩
    rw [← ht] at HSE HR
    clear ht h2 hr hz h
    go_enter Tryd.func20, Tryd.ntmps20
    go_wp2_with fail
    refine HP.out.mono ?_
    rintro e w1 ⟨g, cap, rfl, hown, hg, hb⟩
    have hc0 : w1.cell? ⟨g, 0, none⟩ = some (.string t) := by rw [hown.cellAt 0 (by have := parts_pos s 35; omega), HR.out]; rfl
    have HB := Lib.hid hb
    have hp : 0 < (parts s 35).length := parts_pos s 35
    obtain ⟨n, hn⟩ : ∃ n, n = (parts s 35).length := ⟨_, rfl⟩
    rw [← hn] at hp ⊢
    clear hown hb hn
    go_wp2_with fail
    refine (HSE.out _).mono ?_
    rintro e w2 ⟨rfl, k, rfl⟩
    go_wp2_with fail
    go_ret2
    exact ⟨rfl, below_drewN HB.out k⟩
  · clear h
    go_enter Tryd.func20, Tryd.ntmps20
    go_wp2_with fail
    go_ret2
    exact ⟨rfl, Below.refl _ _⟩
/-- The code's VerifyChecksum, once it is known what AppendChecksum says of the first part. -/
theorem implV_core (s f z : ByteArray) (okb : Bool) (w : World) (hs : s.size ≤ 1048576) (hf : f = first s 35)
    (hA0 : ∀ W, Below w.heap.size w W → Calls Tryd.prog 16 #[.string f] W fun e w' => e = .returned (.tuple #[.string z, .bool okb]) ∧ Below W.heap.size W w') (hz : okb = false ∨ (z.toList == s.toList) = false ∧ True ∧ (z.data.toList == s.data.toList) = false) :
    Calls Tryd.prog 18 #[.string s] w fun e w' => e = .returned (.tuple #[.string ⟨#[]⟩, .bool false]) ∧ Below w.heap.size w w' := by
  have HC := Lib.hid (cut_any s w hs)
  have hA := Lib.hid hA0
  unfold CutPost at HC
  rw [← hf] at HC
  clear hA0 hf
  rcases hz with rfl | ⟨hne1, hne2, hne3⟩
  · go_enter Tryd.func18, Tryd.ntmps18
    go_wp2_with fail
    refine HC.out.mono ?_
    rintro e w1 ⟨x, b, rfl, n, rfl⟩
    go_wp2_with fail
    refine (hA.out _ (below_drewN (Below.refl _ _) _)).mono ?_
    rintro e w2 ⟨rfl, hb⟩
    have HB := Lib.hid hb
    clear hb
    go_wp2_with fail
    go_ret2
    exact ⟨rfl, (below_drewN (Below.refl _ _) n).trans HB.out⟩
  · cases okb
    all_goals
      go_enter Tryd.func18, Tryd.ntmps18
      go_wp2_with fail
      refine HC.out.mono ?_
      rintro e w1 ⟨x, b, rfl, n, rfl⟩
      go_wp2_with fail
      refine (hA.out _ (below_drewN (Below.refl _ _) _)).mono ?_
      rintro e w2 ⟨rfl, hb⟩
      have HB := Lib.hid hb
      clear hb
      go_wp2_with fail
      go_ret2
      exact ⟨rfl, (below_drewN (Below.refl _ _) n).trans HB.out⟩
theorem implV_no (s : ByteArray) (w : World) (hs : s.size ≤ 1048576) (htab : Lib.TabIs Tryd.prog w "internal/strconv.uint64pow10" .u64 Lib.pow10Tab) (h : ¬ okV s) :
    Calls Tryd.prog 18 #[.string s] w fun e w' => e = .returned (.tuple #[.string ⟨#[]⟩, .bool false]) ∧ Below w.heap.size w w' := by
  have hfs := first_size s 35
  by_cases hA : okA (first s 35)
  · have hne : sealed (first s 35) ≠ s := fun e => h (okA_okV hA e)
    exact implV_core s _ (sealed (first s 35)) true w hs rfl (fun W hb => implA_any _ W (by omega) (tab_below htab hb) _ _ (.inl ⟨hA, rfl, rfl⟩)) (.inr (ba_ne hne))
  · exact implV_core s _ ⟨#[]⟩ false w hs rfl (fun W hb => implA_any _ W (by omega) (tab_below htab hb) _ _ (.inr ⟨hA, rfl, rfl⟩)) (.inl rfl)
theorem implV_yes (s : ByteArray) (w : World) (htab : Lib.TabIs Tryd.prog w "internal/strconv.uint64pow10" .u64 Lib.pow10Tab) (h : okV s) :
    Calls Tryd.prog 18 #[.string s] w fun e w' => e = .returned (.tuple #[.string (first s 35), .bool true]) ∧ Below w.heap.size w w' := by
  have hfs := first_size s 35
  have h1 := h.1
  have HC := Lib.hid (cut_any s w (by omega))
  have hA := Lib.hid (fun W hb => implA_any (first s 35) W (by omega) (tab_below htab hb) s true (.inl ⟨okV_okA h, h.2.symm, rfl⟩))
  unfold CutPost at HC
  obtain ⟨f, hf⟩ : ∃ f, f = first s 35 := ⟨_, rfl⟩
  rw [← hf] at HC hA ⊢
  clear hf h htab hfs
  go_enter Tryd.func18, Tryd.ntmps18
  go_wp2_with fail
  refine HC.out.mono ?_
  rintro e w1 ⟨x, b, rfl, n, rfl⟩
  go_wp2_with fail
  refine (hA.out _ (below_drewN (Below.refl _ _) _)).mono ?_
  rintro e w2 ⟨rfl, hb⟩
  have HB := Lib.hid hb
  clear hb
  go_wp2_with fail
  go_ret2
  exact ⟨rfl, (below_drewN (Below.refl _ _) n).trans HB.out⟩
end Go.Proofs.YtgogacgmphpaoaaDoor
