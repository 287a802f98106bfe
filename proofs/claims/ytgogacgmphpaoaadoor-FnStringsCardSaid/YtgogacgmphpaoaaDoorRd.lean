/- CONTRACTS: the model's ParseInt: the number of a numeral within the bounds, else no. -/
import Derived.Test.YtgogacgmphpaoaaDoorPi
import Derived.Deep.DeepCutAuto
namespace Go.Proofs.YtgogacgmphpaoaaDoor
open Go.ChangeShapes Go.WideShapes Go.ChangeAt Go.RowKit
set_option linter.unusedVariables false
/-- What reading a text gives: its number within the bounds, or no. -/
def RdPost (s : ByteArray) (w : World) (e : Ending) (w' : World) : Prop :=
  ((∃ n, inR n ∧ Lib.itoa n = s.data.toList ∧ e = .returned (.tuple #[.int .i64 n, .bool true])) ∨ ((∀ n, inR n → Lib.itoa n ≠ s.data.toList) ∧ e = .returned (.tuple #[.int .i64 0, .bool false]))) ∧ ∃ k, w' = w.drewN k
/-- t holds the digits of every number within the bounds that s spells. -/
def Strips (s t : ByteArray) (neg : Bool) : Prop := ∀ n, inR n → Lib.itoa n = s.data.toList → t.data.toList = Lib.decDigits n.natAbs ∧ n = (if neg = true then -(n.natAbs : Int) else (n.natAbs : Int))
theorem ba_len (t : ByteArray) : t.data.toList.length = t.size := by rw [Array.length_toList]; rfl
theorem no_size {s t : ByteArray} {neg : Bool} (h : Strips s t neg) (hs : ¬ (1 ≤ t.size ∧ t.size ≤ 6)) : ∀ n, inR n → Lib.itoa n ≠ s.data.toList := fun n hn he => by
  obtain ⟨h1, _⟩ := h n hn he
  have h2 := dec_pos n.natAbs
  have h3 := dec_six n.natAbs (by unfold inR at hn; omega)
  rw [← h1, ba_len] at h2 h3
  omega
theorem no_digit {s t : ByteArray} {neg : Bool} (h : Strips s t neg) {k : Nat} (hk : k < t.size) (hd : ¬ isDig t[k]) : ∀ n, inR n → Lib.itoa n ≠ s.data.toList := fun n hn he => by
  obtain ⟨h1, _⟩ := h n hn he
  exact hd ((dec_val n.natAbs).2 _ (by rw [← h1]; exact Array.getElem_mem_toList _))
theorem no_other {s t : ByteArray} {neg : Bool} (h : Strips s t neg) {m : Int} (hm : m = (if neg = true then -(val 0 t.data.toList : Int) else (val 0 t.data.toList : Int))) (hne : Lib.itoa m ≠ s.data.toList) : ∀ n, inR n → Lib.itoa n ≠ s.data.toList := fun n hn he => by
  obtain ⟨h1, h2⟩ := h n hn he
  rw [h1, (dec_val n.natAbs).1, ← h2] at hm
  rw [hm] at hne
  exact hne he
theorem val_take (t : ByteArray) (k : Nat) (h : k < t.size) (hd : isDig t[k]) : ((val 0 (t.data.toList.take (k + 1)) : Nat) : Int) = 10 * ((val 0 (t.data.toList.take k) : Nat) : Int) + ((t[k].toNat : Int) - 48) := by
  rw [take_snoc t k h, val_snoc]
  unfold isDig at hd
  omega
theorem dig_take (t : ByteArray) (k : Nat) (h : k < t.size) (hd : isDig t[k]) (hp : ∀ c ∈ t.data.toList.take k, isDig c) : ∀ c ∈ t.data.toList.take (k + 1), isDig c := fun c hc => by
  rw [take_snoc t k h, List.mem_append, List.mem_singleton] at hc
  rcases hc with hc | hc
  · exact hp c hc
  · subst hc; exact hd
theorem val_six (t : ByteArray) (k : Nat) (hk : k ≤ t.size) (ht : t.size ≤ 6) (hp : ∀ c ∈ t.data.toList.take k, isDig c) : val 0 (t.data.toList.take k) ≤ 999999 := by
  have h1 := val_lt _ hp
  have h2 : (t.data.toList.take k).length ≤ 6 := by rw [List.length_take]; omega
  have h3 : 10 ^ (t.data.toList.take k).length ≤ 10 ^ 6 := Nat.pow_le_pow_right (by decide) h2
  omega
theorem fin_no {s : ByteArray} {w w' : World} (h : ∀ n, inR n → Lib.itoa n ≠ s.data.toList) (hw : ∃ k, w' = w.drewN k) {e : Ending} (he : e = .returned (.tuple #[.int .i64 0, .bool false])) : RdPost s w e w' := ⟨.inr ⟨h, he⟩, hw⟩
theorem fin_yes {s : ByteArray} {w w' : World} {n : Int} (h1 : inR n) (h2 : Lib.itoa n = s.data.toList) (hw : ∃ k, w' = w.drewN k) {e : Ending} (he : e = .returned (.tuple #[.int .i64 n, .bool true])) : RdPost s w e w' := ⟨.inl ⟨n, h1, h2, he⟩, hw⟩
theorem drew0 (w : World) : ∃ k, w = w.drewN k := ⟨0, by rw [World.drewN_zero]⟩
set_option maxHeartbeats 2000000 in
theorem read_neg (s : ByteArray) (w : World) (hs : s.size ≤ 1048576) (h1 : 1 < s.size) (h0 : s[0] = 45) :
    Calls Tryd.prog 29 #[.string s] w (RdPost s w) := by
  have hb : ((s[0].toNat : Int) == 45) = true := by rw [h0]; rfl
  have hsz : 1 < (s.size : Int) := by omega
  obtain ⟨t, ht⟩ : ∃ t, t = s.extract 1 s.size := ⟨_, rfl⟩
  have HE := Lib.hid ht
  have HT : Hid (Strips s t true) := fun n hn he => by rw [ht]; exact ⟨(strip_neg h1 h0 he).1, (strip_neg h1 h0 he).2⟩
  have hts : (t.size : Int) < s.size := by rw [ht, ByteArray.size_extract]; omega
  clear ht h0
  go_enter Tryd.func29, Tryd.ntmps29
  go_upto_region 4 with (fail)
  rw [← HE.out]
  by_cases hsize : 1 ≤ t.size ∧ t.size ≤ 6
  · obtain ⟨hs1, hs6⟩ := hsize
    have HI := Lib.hid (fun W => l1In_yes (t.size : Int) 1 6 W (by omega) (by omega))
    have hts6 : (t.size : Int) ≤ 6 := by omega
    go_wp2_with (go_at_call 24; refine (HI.out _).mono ?_; rintro e w' ⟨rfl, rfl⟩)
    go_loop [5, 6] (fun a b => ∃ k : Nat, k ≤ t.size ∧ b = .int .i64 k ∧ a = .int .i64 (val 0 (t.data.toList.take k) : Int) ∧ Hid (∀ c ∈ t.data.toList.take k, isDig c)) (fun _ b => t.size - (intOf b).toNat)
    case atStart => exact ⟨0, Nat.zero_le _, rfl, rfl, by intro c hc; simp at hc⟩
    case round =>
      obtain ⟨k, hk, rfl, rfl, HD⟩ := hrel
      have hv6 := val_six t k hk hs6 HD.out
      by_cases hlt : k < t.size
      · by_cases hd : isDig t[k]
        · have HV := Lib.hid (val_take t k hlt hd)
          have HD2 := Lib.hid (dig_take t k hlt hd HD.out)
          have hd1 : (48 : Int) ≤ (t[k].toNat : Int) := by unfold isDig at hd; omega
          have hd2 : (t[k].toNat : Int) ≤ 57 := by unfold isDig at hd; omega
          have hv1 : (val 0 (t.data.toList.take k) : Int) ≤ 999999 := by omega
          have hv0 : 0 ≤ (val 0 (t.data.toList.take k) : Int) := by omega
          clear hd hv6
          go_wp2
          go_round
          case rel => exact ⟨k + 1, by omega, by go_num, by rw [HV.out], HD2.out⟩
          case measure => simp [intOf]; omega
        · have HN := Lib.hid (no_digit HT.out hlt hd)
          have hd' : (t[k].toNat : Int) < 48 ∨ (57 : Int) < (t[k].toNat : Int) := by unfold isDig at hd; omega
          clear hd
          rcases hd' with hd' | hd'
          · go_wp2
            go_ret2
            exact fin_no HN.out (drew0 _) rfl
          · have hd0 : ¬ (t[k].toNat : Int) < 48 := by omega
            go_wp2
            go_ret2
            exact fin_no HN.out (drew0 _) rfl
      · obtain rfl : k = t.size := by omega
        have htk : t.data.toList.take t.size = t.data.toList := List.take_of_length_le (by rw [ba_len]; exact Nat.le_refl _)
        rw [htk] at hv6 ⊢
        have hv1 : (val 0 t.data.toList : Int) ≤ 999999 := by omega
        have hv0 : 0 ≤ (val 0 t.data.toList : Int) := by omega
        obtain ⟨m, hm⟩ : ∃ m : Int, m = -(val 0 t.data.toList : Int) := ⟨_, rfl⟩
        have HM := Lib.hid hm
        by_cases heq : Lib.itoa m = s.data.toList
        · have HN := Lib.hid (fun W => num_call (n := m) (by omega) (by omega) (ba_of_list heq) W)
          have HQ := Lib.hid heq
          have HR := Lib.hid (show inR m by unfold inR; omega)
          clear hm heq htk hlt
          go_wp2_with fail
          rw [← HM.out]
          refine (HN.out _).mono ?_
          rintro e w' ⟨rfl, n1, rfl⟩
          go_wp2_with fail
          go_ret2
          exact fin_yes HR.out HQ.out ⟨_, rfl⟩ rfl
        · obtain ⟨z, hz⟩ : ∃ z : ByteArray, z = ⟨(Lib.itoa m).toArray⟩ := ⟨_, rfl⟩
          have HN := Lib.hid (fun W => num_call (n := m) (by omega) (by omega) hz W)
          have HQ := Lib.hid (no_other HT.out (m := m) (by rw [hm]; rfl) heq)
          obtain ⟨hne1, _, hne3⟩ := ba_ne (a := z) (b := s) (fun e => heq (by rw [← e, hz]))
          clear hm heq hz htk hlt
          go_wp2_with fail
          rw [← HM.out]
          refine (HN.out _).mono ?_
          rintro e w' ⟨rfl, n1, rfl⟩
          go_wp2_with fail
          go_ret2
          exact fin_no HQ.out ⟨_, rfl⟩ rfl
  · have HI := Lib.hid (fun W => l1In_no (t.size : Int) 1 6 W (by omega))
    have HN := Lib.hid (no_size HT.out hsize)
    clear hsize
    go_wp2_with (go_at_call 24; refine (HI.out _).mono ?_; rintro e w' ⟨rfl, rfl⟩)
    go_ret2
    exact fin_no HN.out (drew0 _) rfl
set_option maxHeartbeats 2000000 in
theorem read_pos (s : ByteArray) (w : World) (hs : s.size ≤ 1048576) (h1 : ¬ (1 < s.size ∧ ∃ h : 0 < s.size, s[0] = 45)) :
    Calls Tryd.prog 29 #[.string s] w (RdPost s w) := by
  have HT : Hid (Strips s s false) := fun n hn he => ⟨(strip_pos h1 he).1, (strip_pos h1 he).2⟩
  by_cases hone : 1 < s.size
  · have hb : ((s[0].toNat : Int) == 45) = false := by
      rw [beq_eq_false_iff_ne]; intro e
      exact h1 ⟨hone, by omega, UInt8.toNat_inj.1 (by show s[0].toNat = 45; omega)⟩
    have hsz : 1 < (s.size : Int) := by omega
    clear h1
    go_enter Tryd.func29, Tryd.ntmps29
    go_wp2_with fail
    by_cases hsize : 1 ≤ s.size ∧ s.size ≤ 6
    · obtain ⟨hs1, hs6⟩ := hsize
      have HI := Lib.hid (fun W => l1In_yes (s.size : Int) 1 6 W (by omega) (by omega))
      have hts6 : (s.size : Int) ≤ 6 := by omega
      go_wp2_with (go_at_call 24; refine (HI.out _).mono ?_; rintro e w' ⟨rfl, rfl⟩)
      go_loop [5, 6] (fun a b => ∃ k : Nat, k ≤ s.size ∧ b = .int .i64 k ∧ a = .int .i64 (val 0 (s.data.toList.take k) : Int) ∧ Hid (∀ c ∈ s.data.toList.take k, isDig c)) (fun _ b => s.size - (intOf b).toNat)
      case atStart => exact ⟨0, Nat.zero_le _, rfl, rfl, by intro c hc; simp at hc⟩
      case round =>
        obtain ⟨k, hk, rfl, rfl, HD⟩ := hrel
        have hv6 := val_six s k hk hs6 HD.out
        by_cases hlt : k < s.size
        · by_cases hd : isDig s[k]
          · have HV := Lib.hid (val_take s k hlt hd)
            have HD2 := Lib.hid (dig_take s k hlt hd HD.out)
            have hd1 : (48 : Int) ≤ (s[k].toNat : Int) := by unfold isDig at hd; omega
            have hd2 : (s[k].toNat : Int) ≤ 57 := by unfold isDig at hd; omega
            have hv1 : (val 0 (s.data.toList.take k) : Int) ≤ 999999 := by omega
            have hv0 : 0 ≤ (val 0 (s.data.toList.take k) : Int) := by omega
            clear hd hv6
            go_wp2
            go_round
            case rel => exact ⟨k + 1, by omega, by go_num, by rw [HV.out], HD2.out⟩
            case measure => simp [intOf]; omega
          · have HN := Lib.hid (no_digit HT.out hlt hd)
            have hd' : (s[k].toNat : Int) < 48 ∨ (57 : Int) < (s[k].toNat : Int) := by unfold isDig at hd; omega
            clear hd
            rcases hd' with hd' | hd'
            · go_wp2
              go_ret2
              exact fin_no HN.out (drew0 _) rfl
            · have hd0 : ¬ (s[k].toNat : Int) < 48 := by omega
              go_wp2
              go_ret2
              exact fin_no HN.out (drew0 _) rfl
        · obtain rfl : k = s.size := by omega
          have htk : s.data.toList.take s.size = s.data.toList := List.take_of_length_le (by rw [ba_len]; exact Nat.le_refl _)
          rw [htk] at hv6 ⊢
          have hv1 : (val 0 s.data.toList : Int) ≤ 999999 := by omega
          have hv0 : 0 ≤ (val 0 s.data.toList : Int) := by omega
          obtain ⟨m, hm⟩ : ∃ m : Int, m = (val 0 s.data.toList : Int) := ⟨_, rfl⟩
          have HM := Lib.hid hm
          by_cases heq : Lib.itoa m = s.data.toList
          · have HN := Lib.hid (fun W => num_call (n := m) (by omega) (by omega) (ba_of_list heq) W)
            have HQ := Lib.hid heq
            have HR := Lib.hid (show inR m by unfold inR; omega)
            clear hm heq htk hlt
            go_wp2_with fail
            rw [← HM.out]
            refine (HN.out _).mono ?_
            rintro e w' ⟨rfl, n1, rfl⟩
            go_wp2_with fail
            go_ret2
            exact fin_yes HR.out HQ.out ⟨_, rfl⟩ rfl
          · obtain ⟨z, hz⟩ : ∃ z : ByteArray, z = ⟨(Lib.itoa m).toArray⟩ := ⟨_, rfl⟩
            have HN := Lib.hid (fun W => num_call (n := m) (by omega) (by omega) hz W)
            have HQ := Lib.hid (no_other HT.out (m := m) (by rw [hm]; rfl) heq)
            obtain ⟨hne1, _, hne3⟩ := ba_ne (a := z) (b := s) (fun e => heq (by rw [← e, hz]))
            clear hm heq hz htk hlt
            go_wp2_with fail
            rw [← HM.out]
            refine (HN.out _).mono ?_
            rintro e w' ⟨rfl, n1, rfl⟩
            go_wp2_with fail
            go_ret2
            exact fin_no HQ.out ⟨_, rfl⟩ rfl
    · have HI := Lib.hid (fun W => l1In_no (s.size : Int) 1 6 W (by omega))
      have HN := Lib.hid (no_size HT.out hsize)
      clear hsize
      go_wp2_with (go_at_call 24; refine (HI.out _).mono ?_; rintro e w' ⟨rfl, rfl⟩)
      go_ret2
      exact fin_no HN.out (drew0 _) rfl
  · have hsz : ¬ 1 < (s.size : Int) := by omega
    clear h1
    go_enter Tryd.func29, Tryd.ntmps29
    go_wp2_with fail
    by_cases hsize : 1 ≤ s.size ∧ s.size ≤ 6
    · obtain ⟨hs1, hs6⟩ := hsize
      have HI := Lib.hid (fun W => l1In_yes (s.size : Int) 1 6 W (by omega) (by omega))
      have hts6 : (s.size : Int) ≤ 6 := by omega
      go_wp2_with (go_at_call 24; refine (HI.out _).mono ?_; rintro e w' ⟨rfl, rfl⟩)
      go_loop [5, 6] (fun a b => ∃ k : Nat, k ≤ s.size ∧ b = .int .i64 k ∧ a = .int .i64 (val 0 (s.data.toList.take k) : Int) ∧ Hid (∀ c ∈ s.data.toList.take k, isDig c)) (fun _ b => s.size - (intOf b).toNat)
      case atStart => exact ⟨0, Nat.zero_le _, rfl, rfl, by intro c hc; simp at hc⟩
      case round =>
        obtain ⟨k, hk, rfl, rfl, HD⟩ := hrel
        have hv6 := val_six s k hk hs6 HD.out
        by_cases hlt : k < s.size
        · by_cases hd : isDig s[k]
          · have HV := Lib.hid (val_take s k hlt hd)
            have HD2 := Lib.hid (dig_take s k hlt hd HD.out)
            have hd1 : (48 : Int) ≤ (s[k].toNat : Int) := by unfold isDig at hd; omega
            have hd2 : (s[k].toNat : Int) ≤ 57 := by unfold isDig at hd; omega
            have hv1 : (val 0 (s.data.toList.take k) : Int) ≤ 999999 := by omega
            have hv0 : 0 ≤ (val 0 (s.data.toList.take k) : Int) := by omega
            clear hd hv6
            go_wp2
            go_round
            case rel => exact ⟨k + 1, by omega, by go_num, by rw [HV.out], HD2.out⟩
            case measure => simp [intOf]; omega
          · have HN := Lib.hid (no_digit HT.out hlt hd)
            have hd' : (s[k].toNat : Int) < 48 ∨ (57 : Int) < (s[k].toNat : Int) := by unfold isDig at hd; omega
            clear hd
            rcases hd' with hd' | hd'
            · go_wp2
              go_ret2
              exact fin_no HN.out (drew0 _) rfl
            · have hd0 : ¬ (s[k].toNat : Int) < 48 := by omega
              go_wp2
              go_ret2
              exact fin_no HN.out (drew0 _) rfl
        · obtain rfl : k = s.size := by omega
          have htk : s.data.toList.take s.size = s.data.toList := List.take_of_length_le (by rw [ba_len]; exact Nat.le_refl _)
          rw [htk] at hv6 ⊢
          have hv1 : (val 0 s.data.toList : Int) ≤ 999999 := by omega
          have hv0 : 0 ≤ (val 0 s.data.toList : Int) := by omega
          obtain ⟨m, hm⟩ : ∃ m : Int, m = (val 0 s.data.toList : Int) := ⟨_, rfl⟩
          have HM := Lib.hid hm
          by_cases heq : Lib.itoa m = s.data.toList
          · have HN := Lib.hid (fun W => num_call (n := m) (by omega) (by omega) (ba_of_list heq) W)
            have HQ := Lib.hid heq
            have HR := Lib.hid (show inR m by unfold inR; omega)
            clear hm heq htk hlt
            go_wp2_with fail
            rw [← HM.out]
            refine (HN.out _).mono ?_
            rintro e w' ⟨rfl, n1, rfl⟩
            go_wp2_with fail
            go_ret2
            exact fin_yes HR.out HQ.out ⟨_, rfl⟩ rfl
          · obtain ⟨z, hz⟩ : ∃ z : ByteArray, z = ⟨(Lib.itoa m).toArray⟩ := ⟨_, rfl⟩
            have HN := Lib.hid (fun W => num_call (n := m) (by omega) (by omega) hz W)
            have HQ := Lib.hid (no_other HT.out (m := m) (by rw [hm]; rfl) heq)
            obtain ⟨hne1, _, hne3⟩ := ba_ne (a := z) (b := s) (fun e => heq (by rw [← e, hz]))
            clear hm heq hz htk hlt
            go_wp2_with fail
            rw [← HM.out]
            refine (HN.out _).mono ?_
            rintro e w' ⟨rfl, n1, rfl⟩
            go_wp2_with fail
            go_ret2
            exact fin_no HQ.out ⟨_, rfl⟩ rfl
    · have HI := Lib.hid (fun W => l1In_no (s.size : Int) 1 6 W (by omega))
      have HN := Lib.hid (no_size HT.out hsize)
      clear hsize
      go_wp2_with (go_at_call 24; refine (HI.out _).mono ?_; rintro e w' ⟨rfl, rfl⟩)
      go_ret2
      exact fin_no HN.out (drew0 _) rfl
end Go.Proofs.YtgogacgmphpaoaaDoor
