/- CONTRACTS: lists of places compared, by the code and by the model. -/
import Derived.Test.YtcjomhjgjdjigaaMc8
import Derived.RegionTactic
import Derived.WalkKit
import Derived.ProofKit
import Derived.OpenShut
import Derived.Lib.Hide
import Derived.WalkSpells
import Derived.Below
import Derived.BigQuiet
import Derived.LoopN
namespace Go.Proofs.Ytcjomhjgjdjigaa
open Go.ChangeShapes Go.WideShapes Go.ChangeAt Go.RowKit
set_option linter.unusedVariables false
theorem isnan_any (a : Int) (w : World) : Calls Try.prog 148 #[.int .i64 a] w fun e w' => e = .returned (.bool false) ∧ w' = w := by
  go_enter Try.func148, Try.ntmps148
  go_wp2_with fail
  go_ret
  exact ⟨by simp, rfl⟩
/-- -1, 0 or 1. -/
def sgn (a b : Int) : Int := if a < b then -1 else if b < a then 1 else 0
theorem cmpint_any (a b : Int) (w : World) : Calls Try.prog 129 #[.int .i64 a, .int .i64 b] w fun e w' => e = .returned (.int .i64 (sgn a b)) ∧ w' = w := by
  have H1 := Lib.hid (isnan_any a)
  have H2 := Lib.hid (isnan_any b)
  rcases Int.lt_trichotomy a b with h | h | h
  · have e : sgn a b = -1 := by unfold sgn; rw [if_pos h]
    rw [e]
    go_enter Try.func129, Try.ntmps129
    go_wp2_with fail
    refine (H1.out _).mono ?_
    rintro e w' ⟨rfl, rfl⟩
    go_wp2_with fail
    refine (H2.out _).mono ?_
    rintro e w' ⟨rfl, rfl⟩
    go_wp2_with fail
    go_ret
    exact ⟨rfl, rfl⟩
  · subst h
    have e : sgn a a = 0 := by unfold sgn; simp
    have hn : ¬ (a < a) := by omega
    rw [e]
    go_enter Try.func129, Try.ntmps129
    go_wp2_with fail
    refine (H1.out _).mono ?_
    rintro e w' ⟨rfl, rfl⟩
    go_wp2_with fail
    refine (H2.out _).mono ?_
    rintro e w' ⟨rfl, rfl⟩
    go_wp2_with fail
    go_ret
    exact ⟨rfl, rfl⟩
  · have hn : ¬ (a < b) := by omega
    have e : sgn a b = 1 := by unfold sgn; rw [if_neg hn, if_pos h]
    rw [e]
    go_enter Try.func129, Try.ntmps129
    go_wp2_with fail
    refine (H1.out _).mono ?_
    rintro e w' ⟨rfl, rfl⟩
    go_wp2_with fail
    refine (H2.out _).mono ?_
    rintro e w' ⟨rfl, rfl⟩
    go_wp2_with fail
    go_ret
    exact ⟨rfl, rfl⟩
theorem cmpor_two (a b : Int) (g : Nat) (w : World) (h0 : w.cell? ⟨g, 0, none⟩ = some (.int .i64 a)) (h1 : w.cell? ⟨g, 1, none⟩ = some (.int .i64 b)) : Calls Try.prog 128 #[.slice (some ⟨g, 0, none⟩) 2 2] w fun e w' => e = .returned (.int .i64 (if a = 0 then b else a)) ∧ w' = w := by
  by_cases ha : a = 0
  · subst ha
    by_cases hb : b = 0
    · subst hb
      go_enter Try.func128, Try.ntmps128
      go_wp2_with fail
      refine wp_loop_rounds 3 ?_
      rw [rounds_succ]
      go_wp2_with fail
      rw [rounds_succ]
      go_wp2_with fail
      try rw [rounds_succ]
      try go_wp2_with fail
      go_ret
      exact ⟨rfl, rfl⟩
    · have hb1 : (b == 0) = false := by simpa using hb
      have hb2 : (b != 0) = true := by simpa using hb
      go_enter Try.func128, Try.ntmps128
      go_wp2_with fail
      refine wp_loop_rounds 3 ?_
      rw [rounds_succ]
      go_wp2_with fail
      rw [rounds_succ]
      go_wp2_with fail
      go_ret
      exact ⟨rfl, rfl⟩
  · have hb1 : (a == 0) = false := by simpa using ha
    have hb2 : (a != 0) = true := by simpa using ha
    rw [if_neg ha]
    go_enter Try.func128, Try.ntmps128
    go_wp2_with fail
    refine wp_loop_rounds 3 ?_
    rw [rounds_succ]
    go_wp2_with fail
    go_ret
    exact ⟨rfl, rfl⟩
/-- Lists compared, cell by cell. -/
def scm : List Nat → List Nat → Int
  | [], [] => 0
  | [], _ :: _ => -1
  | _ :: _, [] => 1
  | x :: a, y :: b => if x < y then -1 else if y < x then 1 else scm a b
def cc8 (a b : List Nat) : Int := if sgn a.length b.length = 0 then scm a b else sgn a.length b.length
/-- Whether one list comes before another one. -/
def snr (a b : List Nat) : Bool := decide (cc8 a b < 0)
theorem sgn_nat (x y : Nat) : sgn (x : Int) (y : Int) = if x < y then -1 else if y < x then 1 else 0 := by
  unfold sgn
  by_cases h : x < y
  · have : (x : Int) < y := by omega
    rw [if_pos h, if_pos this]
  · have : ¬ (x : Int) < y := by omega
    rw [if_neg h, if_neg this]
    by_cases h2 : y < x
    · have : (y : Int) < x := by omega
      rw [if_pos h2, if_pos this]
    · have : ¬ (y : Int) < x := by omega
      rw [if_neg h2, if_neg this]
theorem scm_drop {a b : List Nat} {i : Nat} (ha : i < a.length) (hb : i < b.length) : scm (a.drop i) (b.drop i) = if a[i] < b[i] then -1 else if b[i] < a[i] then 1 else scm (a.drop (i + 1)) (b.drop (i + 1)) := by
  rw [List.drop_eq_getElem_cons ha, List.drop_eq_getElem_cons hb, scm]
theorem scm_one {a b : List Nat} {i : Nat} (ha : i < a.length) (hb : b.length ≤ i) : scm (a.drop i) (b.drop i) = 1 := by
  rw [List.drop_eq_getElem_cons ha, List.drop_of_length_le hb, scm]
theorem scm_end {a b : List Nat} (h : a.length < b.length) : scm (a.drop a.length) (b.drop a.length) = -1 := by
  rw [List.drop_of_length_le (Nat.le_refl _), List.drop_eq_getElem_cons h, scm]
theorem scm_eq {a b : List Nat} (h : b.length ≤ a.length) : scm (a.drop a.length) (b.drop a.length) = 0 := by
  rw [List.drop_of_length_le (Nat.le_refl _), List.drop_of_length_le h, scm]
set_option maxRecDepth 8000 in
set_option maxHeartbeats 1000000 in
theorem scompare_f (a b : List Nat) (ha : a.length ≤ 100) (hb : b.length ≤ 100) (g1 c1 g2 c2 : Nat) (w : World) (h1 : On8 0 g1 c1 a w) (h2 : On8 0 g2 c2 b w) : Calls Try.prog 130 #[.slice (some ⟨g1, 0, none⟩) a.length c1, .slice (some ⟨g2, 0, none⟩) b.length c2] w fun e w' => e = .returned (.int .i64 (scm a b)) ∧ w' = w := by
  have HA := Lib.hid (fun (i : Nat) (hi : i < a.length) => h1.at hi)
  have HB := Lib.hid (fun (i : Nat) (hi : i < b.length) => h2.at hi)
  have HC := Lib.hid cmpint_any
  clear h1 h2
  obtain ⟨R, hR⟩ : ∃ R, R = scm a b := ⟨_, rfl⟩
  rw [← hR]
  have S0 : Hid (scm (a.drop 0) (b.drop 0) = R) := Lib.hid (by simp [hR])
  clear hR
  go_enter Try.func130, Try.ntmps130
  go_wp2_with fail
  go_loopw [11] (fun n wr => ∃ i : Nat, i ≤ a.length ∧ n = .int .i64 i ∧ Hid (scm (a.drop i) (b.drop i) = R) ∧ wr = w) (fun n _ => a.length - (intOf n).toNat)
  case atStart => exact ⟨0, by omega, rfl, S0, rfl⟩
  case round =>
    obtain ⟨i, hi, rfl, HS, rfl⟩ := hrel
    have hi0 : (0 : Int) ≤ i := by omega
    by_cases hlt : i < a.length
    · have hlt' : (i : Int) < a.length := by omega
      have ca := HA.out i hlt
      by_cases hlb : i < b.length
      · have hlb' : ¬ ((i : Int) ≥ b.length) := by omega
        have hlb'' : (i : Int) < b.length := by omega
        have cb := HB.out i hlb
        have E := Lib.hid (scm_drop hlt hlb)
        have HX := Lib.hid (HC.out (a[i] : Int) (b[i] : Int))
        rw [sgn_nat] at HX
        generalize a[i] = x at ca E HX
        generalize b[i] = y at cb E HX
        clear HC
        by_cases h1 : x < y
        · rw [if_pos h1] at HX
          have E' := Lib.hid (show R = -1 by have := HS.out; rw [E.out, if_pos h1] at this; exact this.symm)
          clear E h1
          go_wp2_with (go_at_call 129; refine (HX.out _).mono ?_; rintro e w' ⟨rfl, rfl⟩)
          go_ret
          exact ⟨by rw [E'.out]; rfl, rfl⟩
        · by_cases h2 : y < x
          · rw [if_neg h1, if_pos h2] at HX
            have E' := Lib.hid (show R = 1 by have := HS.out; rw [E.out, if_neg h1, if_pos h2] at this; exact this.symm)
            clear E h1 h2
            go_wp2_with (go_at_call 129; refine (HX.out _).mono ?_; rintro e w' ⟨rfl, rfl⟩)
            go_ret
            exact ⟨by rw [E'.out]; rfl, rfl⟩
          · rw [if_neg h1, if_neg h2] at HX
            have E' := Lib.hid (show scm (a.drop (i + 1)) (b.drop (i + 1)) = R by have := HS.out; rw [E.out, if_neg h1, if_neg h2] at this; exact this)
            clear E h1 h2 HS
            go_wp2_with (go_at_call 129; refine (HX.out _).mono ?_; rintro e w' ⟨rfl, rfl⟩)
            go_roundw
            case rel => exact ⟨i + 1, by omega, by go_num, E', by first | rfl | trivial⟩
            case measure => simp [intOf]; omega
      · have hlb' : (i : Int) ≥ b.length := by omega
        have E' := Lib.hid (show R = 1 by rw [← HS.out, scm_one hlt (by omega)])
        clear HS HC
        go_wp2_with fail
        go_ret
        exact ⟨by rw [E'.out]; rfl, rfl⟩
    · obtain rfl : i = a.length := by omega
      clear HC HA HB
      by_cases hl : a.length < b.length
      · have hl' : (a.length : Int) < b.length := by omega
        have E' := Lib.hid (show R = -1 by rw [← HS.out, scm_end hl])
        clear HS
        go_wp2_with fail
        go_ret
        exact ⟨by rw [E'.out]; rfl, rfl⟩
      · have hl' : ¬ ((a.length : Int) < b.length) := by omega
        have E' := Lib.hid (show R = 0 by rw [← HS.out, scm_eq (by omega)])
        clear HS
        go_wp2_with fail
        go_ret
        exact ⟨by rw [E'.out]; rfl, rfl⟩
set_option maxRecDepth 8000 in
set_option maxHeartbeats 1000000 in
theorem ichosen_f (a b : List Nat) (ha : a.length ≤ 100) (hb : b.length ≤ 100) (g1 c1 g2 c2 : Nat) (w : World) (h1 : On8 0 g1 c1 a w) (h2 : On8 0 g2 c2 b w) : Calls Try.prog 100 #[.slice (some ⟨g1, 0, none⟩) a.length c1, .slice (some ⟨g2, 0, none⟩) b.length c2] w fun e w' => e = .returned (.int .i64 (cc8 a b)) ∧ Below w.heap.size w w' := by
  have HS := Lib.hid (scompare_f a b ha hb g1 c1 g2 c2 w h1 h2)
  have HC := Lib.hid (cmpint_any (a.length : Int) (b.length : Int))
  have HO := Lib.hid (cmpor_two (sgn a.length b.length) (scm a b))
  clear h1 h2
  unfold cc8
  generalize (if sgn a.length b.length = 0 then scm a b else sgn a.length b.length) = R at HO ⊢
  generalize sgn a.length b.length = A at HC HO
  generalize scm a b = B at HS HO
  have hal : (w.alloc (.cells #[.int .i64 A, .int .i64 B] 3)).heap[w.heap.size]? = some (.cells #[.int .i64 A, .int .i64 B] 3 (0, 0)) := alloc_at rfl
  have c0 := cell_of_row _ w.heap.size 0 _ _ _ hal
  have c1' := cell_of_row _ w.heap.size 1 _ _ _ hal
  have HO := Lib.hid (HO.out _ _ c0 c1')
  clear c0 c1' hal
  go_enter Try.func100, Try.ntmps100
  go_wp2_with (first | (go_at_call 129; refine (HC.out _).mono ?_; rintro e w' ⟨rfl, rfl⟩) | (go_at_call 130; refine HS.out.mono ?_; rintro e w' ⟨rfl, rfl⟩) | (go_at_call 128; refine HO.out.mono ?_; rintro e w' ⟨rfl, rfl⟩))
  go_ret
  exact ⟨rfl, by (repeat (first | exact Below.refl _ _ | assumption | refine Below.setCell ?_ (by first | (simp; done) | (simp; omega)) _ | refine Below.alloc ?_ (by first | (simp; done) | (simp; omega)) _ | refine Below.drew ?_))⟩
/-- What comes before, by the model's two tests. -/
theorem snr_ne {a b : List Nat} (h : a.length ≠ b.length) : snr a b = decide (a.length < b.length) := by
  unfold snr cc8
  rw [sgn_nat]
  by_cases h1 : a.length < b.length
  · simp [h1]
  · have h2 : b.length < a.length := by omega
    simp [h1, h2]
theorem snr_eq {a b : List Nat} (h : a.length = b.length) : snr a b = decide (scm a b < 0) := by
  unfold snr cc8
  rw [h]
  simp [sgn]
set_option maxRecDepth 8000 in
set_option maxHeartbeats 1000000 in
theorem ssooner_f (a b : List Nat) (ha : a.length ≤ 100) (hb : b.length ≤ 100) (g1 c1 g2 c2 : Nat) (w : World) (h1 : On8 0 g1 c1 a w) (h2 : On8 0 g2 c2 b w) : Calls Try.prog 97 #[.slice (some ⟨g1, 0, none⟩) a.length c1, .slice (some ⟨g2, 0, none⟩) b.length c2] w fun e w' => e = .returned (.bool (snr a b)) ∧ Below w.heap.size w w' := by
  by_cases hne : a.length = b.length
  · have HA := Lib.hid (fun (U : World) (hU : Below w.heap.size w U) (i : Nat) (hi : i < a.length) => (h1.below hU rfl).at hi)
    have HB := Lib.hid (fun (U : World) (hU : Below w.heap.size w U) (i : Nat) (hi : i < b.length) => (h2.below hU rfl).at hi)
    clear h1 h2
    obtain ⟨R, hR⟩ : ∃ R, R = scm a b := ⟨_, rfl⟩
    rw [snr_eq hne, ← hR]
    have S0 : Hid (scm (a.drop 0) (b.drop 0) = R ∧ Below w.heap.size w w) := Lib.hid ⟨by simp [hR], Below.refl _ _⟩
    clear hR
    have hne' : ((a.length : Int) != (b.length : Int)) = false := by simp [hne]
    go_enter Try.func97, Try.ntmps97
    go_wp2_with fail
    go_loopw [5] (fun n wr => ∃ i : Nat, i ≤ a.length ∧ n = .int .i64 i ∧ Hid (scm (a.drop i) (b.drop i) = R ∧ Below w.heap.size w wr)) (fun n _ => a.length - (intOf n).toNat)
    case atStart => exact ⟨0, by omega, rfl, S0⟩
    case round =>
      obtain ⟨i, hi, rfl, HS⟩ := hrel
      have hi0 : (0 : Int) ≤ i := by omega
      by_cases hlt : i < a.length
      · have hlt' : (i : Int) < a.length := by omega
        have hlb : i < b.length := by omega
        have hlb' : (i : Int) < b.length := by omega
        have ca := HA.out _ HS.out.2 i hlt
        have cb := HB.out _ HS.out.2 i hlb
        have E := Lib.hid (scm_drop hlt hlb)
        generalize a[i] = x at ca E
        generalize b[i] = y at cb E
        by_cases hxy : x = y
        · subst hxy
          have hq : ((x : Int) != (x : Int)) = false := by simp
          have E' := Lib.hid (show scm (a.drop (i + 1)) (b.drop (i + 1)) = R by have := HS.out.1; rw [E.out, if_neg (by omega), if_neg (by omega)] at this; exact this)
          have HD := Lib.hid (show Below w.heap.size w wr.drew from HS.out.2.drew)
          clear E HS hne hne'
          go_wp2_with fail
          go_region
          all_goals
            go_wp2_with fail
            go_roundw
            case rel => exact ⟨i + 1, by omega, by go_num, Lib.hid ⟨E'.out, HD.out⟩⟩
            case measure => simp [intOf]; omega
        · have hq : ((x : Int) != (y : Int)) = true := by simp; omega
          have E' := Lib.hid (show decide (R < 0) = decide (x < y) by
            have := HS.out.1
            rw [E.out] at this
            rw [← this]
            by_cases hl : x < y
            · simp [hl]
            · have : y < x := by omega
              simp [hl, this])
          have HD := Lib.hid (show Below w.heap.size w wr.drew.drew from HS.out.2.drew.drew)
          clear E HS hne hne' hxy
          go_wp2_with fail
          go_region
          all_goals
            go_wp2_with fail
            go_region
            all_goals
              go_wp2_with fail
              go_ret
              exact ⟨by rw [E'.out]; rfl, HD.out⟩
      · obtain rfl : i = a.length := by omega
        have E' := Lib.hid (show R = 0 by rw [← HS.out.1, scm_eq (by omega)])
        clear HA HB hne hne'
        go_wp2_with fail
        go_ret
        exact ⟨by rw [E'.out]; rfl, HS.out.2⟩
  · have hne' : ((a.length : Int) != (b.length : Int)) = true := by simp; omega
    rw [snr_ne hne]
    clear h1 h2 hne
    go_enter Try.func97, Try.ntmps97
    go_wp2_with fail
    go_ret
    exact ⟨rfl, Below.refl _ _⟩
end Go.Proofs.Ytcjomhjgjdjigaa
