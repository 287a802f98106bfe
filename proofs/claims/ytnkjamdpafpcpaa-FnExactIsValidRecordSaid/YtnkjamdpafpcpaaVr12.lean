/- CONTRACTS: whether a record is valid, of the model and of the code. -/
import Derived.Test.YtnkjamdpafpcpaaSa
import Derived.Lib.Bytealg
import Derived.Lib.IndexLaws
import Derived.Lib.Strings
import Derived.Lib.Slices
import Derived.Lib.Walk
import Derived.WalkKit
import Derived.ProofKit
import Derived.OpenShut
import Derived.Lib.Hide
import Derived.WalkSpells
import Derived.Below
import Derived.BigQuiet
import Derived.LoopN
namespace Go.Proofs.Ytnkjamdpafpcpaa
open Go.ChangeShapes Go.WideShapes Go.ChangeAt Go.RowKit
set_option linter.unusedVariables false
def hasc (c : UInt8) (x : ByteArray) : Bool := decide (c ∈ x.data.toList)
theorem hasc_idx (c : UInt8) (x : ByteArray) : decide (0 ≤ Lib.indexByte x.data.toList c) = hasc c x := by
  unfold hasc
  rw [decide_eq_decide]
  constructor
  · intro h
    obtain ⟨o, ho⟩ := Int.eq_ofNat_of_zero_le h
    exact List.mem_iff_getElem?.2 ⟨o, (Lib.indexByte_some ho).1⟩
  · intro h
    rcases Int.lt_or_le (Lib.indexByte x.data.toList c) 0 with h1 | h1
    · have h2 := Lib.indexByte_ge x.data.toList c
      obtain ⟨i, hi⟩ := List.mem_iff_getElem?.1 h
      exact absurd hi (Lib.indexByte_none (by omega) i)
    · exact h1
theorem hasc_at {x : ByteArray} {c : UInt8} {k : Nat} (hk : k < x.size) (he : x[k] = c) : hasc c x = true := by
  unfold hasc
  rw [decide_eq_true_iff]
  exact List.mem_iff_getElem.2 ⟨k, by simpa using hk, he⟩
def noB (x : ByteArray) (c : UInt8) (k : Nat) : Prop := ∀ j (h : j < x.size), j < k → x[j] ≠ c
theorem noB_zero (x : ByteArray) (c : UInt8) : noB x c 0 := fun _ _ h => absurd h (by omega)
theorem noB_succ {x : ByteArray} {c : UInt8} {k : Nat} (h : noB x c k) (hk : k < x.size) (hne : x[k] ≠ c) : noB x c (k + 1) := fun j hj hlt => by
  by_cases e : j = k
  · subst e; exact hne
  · exact h j hj (by omega)
theorem hasc_none {x : ByteArray} {c : UInt8} (h : noB x c x.size) : hasc c x = false := by
  unfold hasc
  rw [decide_eq_false_iff_not]
  intro hm
  obtain ⟨i, hi, he⟩ := List.mem_iff_getElem.1 hm
  exact h i (by simpa using hi) (by simpa using hi) he
theorem byte_ne {a c : UInt8} (h : a ≠ c) : ((a.toNat : Int) == (c.toNat : Int)) = false := by
  rw [beq_eq_false_iff_ne]; intro e; exact h (UInt8.toNat_inj.1 (by omega))
theorem byte_eq {a c : UInt8} (h : a = c) : ((a.toNat : Int) == (c.toNat : Int)) = true := by rw [h]; simp
/-- All bytes are of 32 to 126. -/
def okb (b : UInt8) : Bool := decide (32 ≤ (b.toNat : Int)) && decide ((b.toNat : Int) ≤ 126)
def plain12 (x : ByteArray) : Bool := x.data.toList.all okb
def plTo (x : ByteArray) (k : Nat) : Prop := ∀ j (h : j < x.size), j < k → okb x[j] = true
theorem plTo_zero (x : ByteArray) : plTo x 0 := fun _ _ h => absurd h (by omega)
theorem plTo_succ {x : ByteArray} {k : Nat} (h : plTo x k) (hk : k < x.size) (hne : okb x[k] = true) : plTo x (k + 1) := fun j hj hlt => by
  by_cases e : j = k
  · subst e; exact hne
  · exact h j hj (by omega)
theorem plain_bad {x : ByteArray} {k : Nat} (hk : k < x.size) (h : okb x[k] = false) : plain12 x = false := by
  cases hq : plain12 x
  · rfl
  · have h1 := List.all_eq_true.1 hq x[k] (List.mem_iff_getElem.2 ⟨k, by simpa using hk, rfl⟩)
    rw [h] at h1; cases h1
theorem plain_good {x : ByteArray} (h : plTo x x.size) : plain12 x = true := by
  refine List.all_eq_true.2 fun b hb => ?_
  obtain ⟨i, hi, he⟩ := List.mem_iff_getElem.1 hb
  rw [← he]
  exact h i (by simpa using hi) (by simpa using hi)
set_option maxHeartbeats 1000000 in
set_option maxRecDepth 100000 in
theorem ixb_12 (s : ByteArray) (c : UInt8) (w : World) : Calls Try.prog 234 #[.string s, .int .u8 (c.toNat : Int)] w fun e w' => e = .returned (.int .i64 (Lib.indexByte s.data.toList c)) ∧ w' = w := by
  have hc : ((c.toNat : Int).toNat).toUInt8 = c := by simp
  have HC := Lib.hid hc
  clear hc
  go_enter Try.func234, Try.ntmps234
  go_wp2
  rw [run_callFunc_extern Try.func243 (by kernel_rfl) (by kernel_rfl) (by kernel_rfl) (e := Extern.BytealgIndexByte.indexByte) (by kernel_rfl), Lib.run_indexByteString, HC.out]
  simp only [Result.andThen]
  rw [Oper.upon_value]
  go_wp2
  go_ret
  exact ⟨rfl, rfl⟩
set_option maxHeartbeats 1000000 in
set_option maxRecDepth 20000 in
theorem ix1_12 (s : ByteArray) (c : UInt8) (w : World) : Calls Try.prog 225 #[.string s, .string ⟨#[c]⟩] w fun e w' => e = .returned (.int .i64 (Lib.indexByte s.data.toList c)) ∧ w' = w := by
  have HB := Lib.hid (ixb_12 s c)
  have hsz : (⟨#[c]⟩ : ByteArray).size = 1 := rfl
  have hat : (⟨#[c]⟩ : ByteArray)[0]'(by rw [hsz]; omega) = c := rfl
  cases hE : ([c] == s.toList)
  · go_enter Try.func225, Try.ntmps225
    go_wp2_with fail
    refine (HB.out _).mono ?_
    rintro e w' ⟨rfl, hw⟩
    obtain rfl := hw.symm
    go_wp2_with fail
    go_ret
    exact ⟨rfl, rfl⟩
  · have e : s.data.toList = [c] := by rw [← Lib.toList_data]; exact (beq_iff_eq.1 hE).symm
    have E : Hid (Lib.indexByte s.data.toList c = 0) := Lib.hid (by rw [e]; simp [Lib.indexByte])
    clear e
    go_enter Try.func225, Try.ntmps225
    go_wp2_with fail
    go_ret
    exact ⟨by rw [E.out]; rfl, rfl⟩
set_option maxHeartbeats 1000000 in
theorem six_12 (s : ByteArray) (c : UInt8) (w : World) : Calls Try.prog 196 #[.string s, .string ⟨#[c]⟩] w fun e w' => e = .returned (.int .i64 (Lib.indexByte s.data.toList c)) ∧ w' = w := by
  have HB := Lib.hid (ix1_12 s c)
  go_enter Try.func196, Try.ntmps196
  go_wp2_with fail
  refine (HB.out _).mono ?_
  rintro e w' ⟨rfl, hw⟩
  obtain rfl := hw.symm
  go_wp2_with fail
  go_ret
  exact ⟨rfl, rfl⟩
set_option maxHeartbeats 1000000 in
theorem cont_12 (s : ByteArray) (c : UInt8) (w : World) : Calls Try.prog 114 #[.string s, .string ⟨#[c]⟩] w fun e w' => e = .returned (.bool (hasc c s)) ∧ w' = w := by
  have HB := Lib.hid (six_12 s c)
  have HI := Lib.hid (hasc_idx c s)
  generalize Lib.indexByte s.data.toList c = r at HB HI
  go_enter Try.func114, Try.ntmps114
  go_wp2_with fail
  refine (HB.out _).mono ?_
  rintro e w' ⟨rfl, hw⟩
  obtain rfl := hw.symm
  go_wp2_with fail
  go_ret
  exact ⟨by rw [← HI.out]; first | rfl | simp, rfl⟩
set_option maxHeartbeats 1000000 in
theorem iplain_12 (s : ByteArray) (hs : s.size ≤ maxLen) (w : World) : Calls Try.prog 113 #[.string s] w fun e w' => e = .returned (.bool (plain12 s && !hasc 35 s)) ∧ w' = w := by
  have HC := Lib.hid (cont_12 s 35)
  have hm : s.size ≤ 9223372036854775807 := by unfold maxLen at hs; omega
  clear hs
  obtain ⟨r, hr⟩ : ∃ r, r = (plain12 s && !hasc 35 s) := ⟨_, rfl⟩
  rw [← hr]
  have HBad := Lib.hid (fun (k : Nat) (hk : k < s.size) (h : okb s[k] = false) => show r = false by rw [hr, plain_bad hk h]; rfl)
  have HGood := Lib.hid (fun (h : plTo s s.size) => show r = !hasc 35 s by rw [hr, plain_good h]; rfl)
  clear hr
  generalize hasc 35 s = hq at HC HGood
  go_enter Try.func113, Try.ntmps113
  go_wp2_with fail
  go_loopw [3, 6] (fun _ i wr => ∃ k : Nat, k ≤ s.size ∧ i = .int .i64 k ∧ Hid (plTo s k) ∧ wr = w) (fun _ i _ => s.size - (intOf i).toNat)
  case atStart => exact ⟨0, by omega, rfl, Lib.hid (plTo_zero s), rfl⟩
  case round =>
    obtain ⟨k, hk, rfl, HS, rfl⟩ := hrel
    by_cases hlt : k < s.size
    · have hlt' : (k : Int) < s.size := by omega
      have hk0 : (0 : Int) ≤ k := by omega
      have HY := Lib.hid (fun h => plTo_succ HS.out hlt h)
      have HN := Lib.hid (HBad.out k hlt)
      have HE : Hid (okb s[k] = (decide (32 ≤ (s[k].toNat : Int)) && decide ((s[k].toNat : Int) ≤ 126))) := Lib.hid rfl
      generalize hb : okb s[k] = b at HY HN HE
      clear hb HS HGood HC HBad
      by_cases h1 : (s[k].toNat : Int) < 32
      · have E : b = false := by rw [HE.out]; simp; omega
        have E := Lib.hid (HN.out E)
        clear HE HN HY
        go_wp2_with fail
        go_ret
        exact ⟨by rw [E.out]; rfl, rfl⟩
      · by_cases h2 : (s[k].toNat : Int) > 126
        · have E : b = false := by rw [HE.out]; simp; omega
          have E := Lib.hid (HN.out E)
          clear HE HN HY
          go_wp2_with fail
          go_ret
          exact ⟨by rw [E.out]; rfl, rfl⟩
        · have E : b = true := by rw [HE.out]; simp; omega
          have E := Lib.hid (HY.out E)
          clear HE HN HY
          go_wp2_with fail
          go_roundw
          case rel => exact ⟨k + 1, by omega, by go_num, E, by first | rfl | trivial⟩
          case measure => simp [intOf]; omega
    · obtain rfl : k = s.size := by omega
      have E := Lib.hid (HGood.out HS.out)
      clear HS HGood HBad
      go_wp2_with fail
      refine (HC.out _).mono ?_
      rintro e w' ⟨rfl, hw⟩
      obtain rfl := hw.symm
      go_wp2_with fail
      go_ret
      exact ⟨by rw [E.out]; first | rfl | simp, rfl⟩
set_option maxHeartbeats 1000000 in
theorem lstands_12 (s : ByteArray) (c : UInt8) (hs : s.size ≤ maxLen) (w : World) : Calls Try.prog 195 #[.string s, .int .u8 (c.toNat : Int)] w fun e w' => e = .returned (.bool (hasc c s)) ∧ w' = w := by
  have hm : s.size ≤ 9223372036854775807 := by unfold maxLen at hs; omega
  clear hs
  obtain ⟨r, hr⟩ : ∃ r, r = hasc c s := ⟨_, rfl⟩
  rw [← hr]
  have HBad := Lib.hid (fun (k : Nat) (hk : k < s.size) (h : s[k] = c) => show r = true by rw [hr, hasc_at hk h])
  have HGood := Lib.hid (fun (h : noB s c s.size) => show r = false by rw [hr, hasc_none h])
  clear hr
  go_enter Try.func195, Try.ntmps195
  go_wp2_with fail
  go_loopw [5] (fun i wr => ∃ k : Nat, k ≤ s.size ∧ i = .int .i64 k ∧ Hid (noB s c k) ∧ wr = w) (fun i _ => s.size - (intOf i).toNat)
  case atStart => exact ⟨0, by omega, rfl, Lib.hid (noB_zero s c), rfl⟩
  case round =>
    obtain ⟨k, hk, rfl, HS, rfl⟩ := hrel
    by_cases hlt : k < s.size
    · have hlt' : (k : Int) < s.size := by omega
      have hk0 : (0 : Int) ≤ k := by omega
      by_cases h1 : s[k] = c
      · have E := Lib.hid (HBad.out k hlt h1)
        have hq := byte_eq h1
        clear h1 HS HGood HBad
        go_wp2_with fail
        go_ret
        exact ⟨by rw [E.out]; rfl, rfl⟩
      · have E := Lib.hid (noB_succ HS.out hlt h1)
        have hq := byte_ne h1
        clear h1 HS HGood HBad
        go_wp2_with fail
        go_roundw
        case rel => exact ⟨k + 1, by omega, by go_num, E, by first | rfl | trivial⟩
        case measure => simp [intOf]; omega
    · obtain rfl : k = s.size := by omega
      have E := Lib.hid (HGood.out HS.out)
      clear HS HGood HBad
      go_wp2_with fail
      go_ret
      exact ⟨by rw [E.out]; rfl, rfl⟩
set_option maxHeartbeats 1000000 in
theorem lbytes_12 (s : ByteArray) (n : Int) (hs : s.size ≤ maxLen) (w : World) : Calls Try.prog 194 #[.string s, .int .i64 n] w fun e w' => e = .returned (.bool (plain12 s && !hasc 35 s && decide ((s.size : Int) ≤ n))) ∧ w' = w := by
  have hm : s.size ≤ 9223372036854775807 := by unfold maxLen at hs; omega
  have HI := Lib.hid (fun a => l1in_any a 32 126)
  clear hs
  obtain ⟨r, hr⟩ : ∃ r, r = (plain12 s && !hasc 35 s && decide ((s.size : Int) ≤ n)) := ⟨_, rfl⟩
  rw [← hr]
  have HBad := Lib.hid (fun (k : Nat) (hk : k < s.size) (h : okb s[k] = false) => show r = false by rw [hr, plain_bad hk h]; rfl)
  have HBad2 := Lib.hid (fun (k : Nat) (hk : k < s.size) (h : s[k] = 35) => show r = false by rw [hr, hasc_at hk h]; simp)
  have HGood := Lib.hid (fun (h : plTo s s.size) (h2 : noB s 35 s.size) => show r = decide ((s.size : Int) ≤ n) by rw [hr, plain_good h, hasc_none h2]; rfl)
  clear hr
  go_enter Try.func194, Try.ntmps194
  go_wp2_with fail
  go_loopw [5] (fun i wr => ∃ k : Nat, k ≤ s.size ∧ i = .int .i64 k ∧ Hid (plTo s k ∧ noB s 35 k) ∧ wr = w) (fun i _ => s.size - (intOf i).toNat)
  case atStart => exact ⟨0, by omega, rfl, Lib.hid ⟨plTo_zero s, noB_zero s 35⟩, rfl⟩
  case round =>
    obtain ⟨k, hk, rfl, HS, rfl⟩ := hrel
    by_cases hlt : k < s.size
    · have hlt' : (k : Int) < s.size := by omega
      have hk0 : (0 : Int) ≤ k := by omega
      have HY := Lib.hid (fun h => plTo_succ HS.out.1 hlt h)
      have HN := Lib.hid (HBad.out k hlt)
      have HE : Hid (okb s[k] = (decide (32 ≤ (s[k].toNat : Int)) && decide ((s[k].toNat : Int) ≤ 126))) := Lib.hid rfl
      have HZ := Lib.hid (HBad2.out k hlt)
      have HZ2 := Lib.hid (fun h => noB_succ HS.out.2 hlt h)
      have hcv : IntKind.i64.wrap (s[k].toNat : Int) = (s[k].toNat : Int) := by rw [IntKind.wrap_i64]; have := s[k].toNat_lt; omega
      have hcv2 : wrap64 (s[k].toNat : Int) = (s[k].toNat : Int) := by unfold wrap64; have := s[k].toNat_lt; omega
      generalize hb : okb s[k] = b at HY HN HE
      clear hb HS HGood HBad HBad2
      have HI2 := Lib.hid (HI.out (s[k].toNat : Int))
      rw [← HE.out] at HI2
      clear HI HE
      go_wp2_with fail
      refine (HI2.out _).mono ?_
      rintro e w' ⟨rfl, hw⟩
      obtain rfl := hw.symm
      cases b
      · have E := Lib.hid (HN.out rfl)
        clear HN HY HZ HZ2
        go_wp2_with fail
        go_ret
        exact ⟨by rw [E.out]; rfl, rfl⟩
      · have E := Lib.hid (HY.out rfl)
        clear HN HY
        by_cases h1 : s[k] = 35
        · have E := Lib.hid (HZ.out h1)
          have hq : ((s[k].toNat : Int) == 35) = true := by rw [h1]; rfl
          clear h1 HZ HZ2
          go_wp2_with fail
          go_ret
          exact ⟨by rw [E.out]; rfl, rfl⟩
        · have E2 := Lib.hid (HZ2.out h1)
          have hq : ((s[k].toNat : Int) == 35) = false := byte_ne (c := 35) h1
          clear h1 HZ HZ2
          go_wp2_with fail
          go_roundw
          case rel => exact ⟨k + 1, by omega, by go_num, Lib.hid ⟨E.out, E2.out⟩, by first | rfl | trivial⟩
          case measure => simp [intOf]; omega
    · obtain rfl : k = s.size := by omega
      have E := Lib.hid (HGood.out HS.out.1 HS.out.2)
      clear HS HGood HBad HBad2
      go_wp2_with fail
      go_ret
      exact ⟨by rw [E.out]; first | rfl | simp, rfl⟩
end Go.Proofs.Ytnkjamdpafpcpaa
