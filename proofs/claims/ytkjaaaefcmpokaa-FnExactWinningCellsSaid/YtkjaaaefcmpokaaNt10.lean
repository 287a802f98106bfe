/- CONTRACTS: least missing, missed, longest, shortest: what a telling gives of a list of numbers. -/
import Derived.Test.YtkjaaaefcmpokaaCo
import Derived.Laws.OwnMore
import Derived.WalkKit
import Derived.ProofKit
import Derived.OpenShut
import Derived.Lib.Hide
import Derived.WalkSpells
import Derived.Below
import Derived.BigQuiet
import Derived.LoopN
namespace Go.Proofs.Ytkjaaaefcmpokaa
open Go.ChangeShapes Go.WideShapes Go.ChangeAt Go.RowKit
set_option linter.unusedVariables false
theorem nodup_sub {α : Type} [DecidableEq α] : ∀ (a b : List α), a.Nodup → (∀ x ∈ a, x ∈ b) → a.length ≤ b.length
  | [], b, _, _ => Nat.zero_le _
  | x :: a, b, h, k => by
    obtain ⟨h1, h2⟩ := List.nodup_cons.mp h
    have hx := k x (List.mem_cons_self ..)
    have := nodup_sub a (b.erase x) h2 (fun y hy => (List.mem_erase_of_ne (by intro e; subst e; exact h1 hy)).mpr (k y (List.mem_cons_of_mem _ hy)))
    rw [List.length_erase_of_mem hx] at this
    have : 0 < b.length := List.length_pos_of_mem hx
    simp only [List.length_cons]
    omega
theorem flat_len {α β : Type} (g : α → List β) (k : Nat) (h : ∀ x, (g x).length = k) : ∀ l : List α, (l.flatMap g).length = l.length * k
  | [] => by simp
  | x :: l => by
    rw [List.flatMap_cons, List.length_append, h, flat_len g k h l, List.length_cons, Nat.add_mul, Nat.one_mul, Nat.add_comm]
/-- The least number from 0 on that is none of a list. -/
def mexk (l : List Int) : Nat → Nat → Nat
  | 0, k => k
  | m + 1, k => if (k : Int) ∈ l then mexk l m (k + 1) else k
theorem mexk_spec (l : List Int) : ∀ (m k : Nat), (∀ j, j < k → (j : Int) ∈ l) → (∀ j, j < mexk l m k → (j : Int) ∈ l) ∧ k ≤ mexk l m k ∧ mexk l m k ≤ k + m ∧ (mexk l m k < k + m → (mexk l m k : Int) ∉ l)
  | 0, k, h => ⟨h, Nat.le_refl _, Nat.le_refl _, fun q => absurd q (Nat.lt_irrefl _)⟩
  | m + 1, k, h => by
    by_cases hk : (k : Int) ∈ l
    · have e : mexk l (m + 1) k = mexk l m (k + 1) := if_pos hk
      rw [e]
      obtain ⟨h1, h2, h3, h4⟩ := mexk_spec l m (k + 1) (fun j hj => by
        by_cases e : j = k
        · subst e; exact hk
        · exact h j (by omega))
      exact ⟨h1, by omega, by omega, fun q => h4 (by omega)⟩
    · have e : mexk l (m + 1) k = k := if_neg hk
      rw [e]
      exact ⟨h, Nat.le_refl _, by omega, fun _ => hk⟩
theorem upto_len (l : List Int) (n : Nat) (h : ∀ j, j < n → (j : Int) ∈ l) : n ≤ l.length := by
  have := nodup_sub ((List.range n).map (fun j : Nat => (j : Int))) l (by
    refine List.Pairwise.map _ (fun a b hab => ?_) List.nodup_range
    intro e
    exact hab (by omega)) (fun x hx => by
    obtain ⟨j, hj, rfl⟩ := List.mem_map.mp hx
    exact h j (List.mem_range.mp hj))
  simpa using this
def mex (l : List Int) : Nat := mexk l (l.length + 1) 0
theorem mex_spec (l : List Int) : (∀ j, j < mex l → (j : Int) ∈ l) ∧ (mex l : Int) ∉ l ∧ mex l ≤ l.length := by
  obtain ⟨h1, h2, h3, h4⟩ := mexk_spec l (l.length + 1) 0 (fun j hj => absurd hj (Nat.not_lt_zero _))
  have h5 : mex l ≤ l.length := upto_len l _ h1
  refine ⟨h1, h4 ?_, h5⟩
  show mex l < _
  omega
/-- The greatest and the least of a list's numbers, as a walk over it finds them. -/
def mxl : List Int → Int
  | [] => 0
  | x :: t => t.foldl max x
def mnl : List Int → Int
  | [] => 0
  | x :: t => t.foldl min x
def Tlast (l : List Int) : Int := (mex l : Int)
def Tmiss (l : List Int) : Int := if l = [] ∨ (0 : Int) ∈ l then 1 else 0
def Tlong (l : List Int) : Int := if l = [] then 0 else mxl l + 1
def Tshort (l : List Int) : Int := if l = [] then 0 else mnl l + 1
theorem foldmax_in : ∀ (t : List Int) (x : Int), t.foldl max x = x ∨ t.foldl max x ∈ t
  | [], x => .inl rfl
  | y :: t, x => by
    have e : (y :: t).foldl max x = t.foldl max (max x y) := rfl
    rw [e]
    rcases foldmax_in t (max x y) with h | h
    · rw [h]
      by_cases hxy : x ≤ y
      · right; rw [show max x y = y by omega]; exact List.mem_cons_self ..
      · left; omega
    · exact .inr (List.mem_cons_of_mem _ h)
theorem foldmin_in : ∀ (t : List Int) (x : Int), t.foldl min x = x ∨ t.foldl min x ∈ t
  | [], x => .inl rfl
  | y :: t, x => by
    have e : (y :: t).foldl min x = t.foldl min (min x y) := rfl
    rw [e]
    rcases foldmin_in t (min x y) with h | h
    · rw [h]
      by_cases hxy : x ≤ y
      · left; omega
      · right; rw [show min x y = y by omega]; exact List.mem_cons_self ..
    · exact .inr (List.mem_cons_of_mem _ h)
theorem mxl_in {l : List Int} (h : l ≠ []) : mxl l ∈ l := by
  cases l with
  | nil => exact absurd rfl h
  | cons x t =>
    rcases foldmax_in t x with e | e
    · show t.foldl max x ∈ _; rw [e]; exact List.mem_cons_self ..
    · exact List.mem_cons_of_mem _ e
theorem mnl_in {l : List Int} (h : l ≠ []) : mnl l ∈ l := by
  cases l with
  | nil => exact absurd rfl h
  | cons x t =>
    rcases foldmin_in t x with e | e
    · show t.foldl min x ∈ _; rw [e]; exact List.mem_cons_self ..
    · exact List.mem_cons_of_mem _ e
theorem mxl_take {l : List Int} {i : Nat} (h : i < l.length) (h0 : 0 < i) : mxl (l.take (i + 1)) = max (mxl (l.take i)) l[i] := by
  cases l with
  | nil => simp at h
  | cons x t =>
    obtain ⟨j, rfl⟩ : ∃ j, i = j + 1 := ⟨i - 1, by omega⟩
    have hj : j < t.length := by simpa using h
    show (t.take (j + 1)).foldl max x = max ((t.take j).foldl max x) t[j]
    rw [List.take_add_one, List.getElem?_eq_getElem hj, List.foldl_append]
    rfl
theorem mnl_take {l : List Int} {i : Nat} (h : i < l.length) (h0 : 0 < i) : mnl (l.take (i + 1)) = min (mnl (l.take i)) l[i] := by
  cases l with
  | nil => simp at h
  | cons x t =>
    obtain ⟨j, rfl⟩ : ∃ j, i = j + 1 := ⟨i - 1, by omega⟩
    have hj : j < t.length := by simpa using h
    show (t.take (j + 1)).foldl min x = min ((t.take j).foldl min x) t[j]
    rw [List.take_add_one, List.getElem?_eq_getElem hj, List.foldl_append]
    rfl
def nv (l : List Int) : List Value := l.map (Value.int .i64)
theorem nv_len (l : List Int) : (nv l).length = l.length := by simp [nv]
theorem nv_at {l : List Int} {k : Nat} (h : k < l.length) : (nv l)[k]? = some (.int .i64 l[k]) := by simp [nv, h]
/-- A row of numbers: none, or a slice of its own. -/
def Ir (B : Nat) (v : Value) (l : List Int) (w : World) : Prop := w.ownsRow B 3 1 v l.length (nv l)
theorem Ir.form {B : Nat} {v : Value} {l : List Int} {w : World} (h : Ir B v l w) : (v = .slice none 0 0 ∧ l = []) ∨ ∃ g cap, v = .slice (some ⟨g, 0, none⟩) l.length cap := by
  rcases h.2 with ⟨e, h0⟩ | ⟨g, cap, _, e, _⟩
  · exact .inl ⟨e, List.length_eq_zero_iff.mp h0⟩
  · exact .inr ⟨g, cap, e⟩
theorem Ir.at {B g cap k : Nat} {l : List Int} {w : World} (h : Ir B (.slice (some ⟨g, 0, none⟩) l.length cap) l w) (hk : k < l.length) : w.cell? ⟨g, k, none⟩ = some (.int .i64 l[k]) := own_at h (nv_at hk)
theorem index_nil (x : Int) (w : World) : Calls Try.prog 303 #[.slice none 0 0, .int .i64 x] w fun e w' => (∃ r : Int, e = .returned (.int .i64 r) ∧ decide (0 ≤ r) = false) ∧ w' = w := by
  go_enter Try.func303, Try.ntmps303
  go_wp2_with fail
  refine wp_loop_rounds 1 ?_
  rw [rounds_succ]
  go_wp2_with fail
  go_ret
  exact ⟨⟨_, rfl, by decide⟩, rfl⟩
theorem index_int (l : List Int) (hl : l.length ≤ 1000) (x : Int) (B g cap : Nat) (w : World) (hO : Ir B (.slice (some ⟨g, 0, none⟩) l.length cap) l w) : Calls Try.prog 303 #[.slice (some ⟨g, 0, none⟩) l.length cap, .int .i64 x] w fun e w' => (∃ r : Int, e = .returned (.int .i64 r) ∧ decide (0 ≤ r) = decide (x ∈ l)) ∧ w' = w := by
  have HO := Lib.hid hO
  clear hO
  go_enter Try.func303, Try.ntmps303
  go_wp2_with fail
  go_loopw [8] (fun c wr => ∃ k : Nat, k ≤ l.length ∧ c = .int .i64 k ∧ wr = w ∧ Hid (∀ j (h : j < l.length), j < k → l[j] ≠ x)) (fun c _ => l.length - (intOf c).toNat)
  case atStart => exact ⟨0, Nat.zero_le _, rfl, rfl, Lib.hid (fun j _ h => absurd h (Nat.not_lt_zero _))⟩
  case round =>
    obtain ⟨k, hk, rfl, rfl, HK⟩ := hrel
    by_cases hlt : k < l.length
    · have hlt' : (k : Int) < l.length := by omega
      have hk0 : (0 : Int) ≤ k := by omega
      have hc := HO.out.at hlt
      obtain ⟨y, hy⟩ : ∃ y, y = l[k] := ⟨_, rfl⟩
      have HY := Lib.hid hy
      rw [← hy] at hc
      clear hy
      by_cases hxy : x = y
      · subst hxy
        go_wp2_with fail
        go_ret
        exact ⟨⟨_, rfl, by rw [HY.out]; simp [List.getElem_mem]⟩, rfl⟩
      · have HXY := Lib.hid hxy
        go_wp2_with fail
        go_roundw
        case rel => exact ⟨k + 1, by omega, by go_num, by first | rfl | trivial, Lib.hid (fun j h hj => by
          by_cases e : j = k
          · subst e; rw [← HY.out]; exact fun q => HXY.out q.symm
          · exact HK.out j h (by omega))⟩
        case measure => simp [intOf]; omega
    · obtain rfl : k = l.length := by omega
      go_wp2_with fail
      go_ret
      refine ⟨⟨_, rfl, ?_⟩, rfl⟩
      have : x ∉ l := fun hx => by
        obtain ⟨j, hj, e⟩ := List.getElem_of_mem hx
        exact HK.out j hj hj e
      simp [this]
theorem cont_int (l : List Int) (hl : l.length ≤ 1000) (x : Int) (B : Nat) (v : Value) (w : World) (hO : Ir B v l w) : Calls Try.prog 260 #[v, .int .i64 x] w fun e w' => e = .returned (.bool (decide (x ∈ l))) ∧ w' = w := by
  have HI : Hid (Calls Try.prog 303 #[v, .int .i64 x] w fun e w' => (∃ r : Int, e = .returned (.int .i64 r) ∧ decide (0 ≤ r) = decide (x ∈ l)) ∧ w' = w) := by
    rcases hO.form with ⟨rfl, rfl⟩ | ⟨g, cap, rfl⟩
    · exact Lib.hid ((index_nil x w).mono (by rintro e w' ⟨⟨r, h1, h2⟩, h3⟩; exact ⟨⟨r, h1, by rw [h2]; simp⟩, h3⟩))
    · exact Lib.hid (index_int l hl x B g cap w hO)
  clear hO
  go_enter Try.func260, Try.ntmps260
  go_wp2_with fail
  refine HI.out.mono ?_
  rintro e w' ⟨⟨r, rfl, hr⟩, hw⟩
  obtain rfl := hw.symm
  have HR := Lib.hid hr
  clear hr
  go_wp2_with fail
  go_ret
  exact ⟨by rw [← HR.out]; first | rfl | simp, rfl⟩
theorem least_f (l : List Int) (hl : l.length ≤ 100) (B : Nat) (v : Value) (w : World) (hO : Ir B v l w) : Calls Try.prog 151 #[v] w fun e w' => e = .returned (.int .i64 (Tlast l)) ∧ w' = w := by
  obtain ⟨m1, m2, m3⟩ := mex_spec l
  have HC := Lib.hid (fun x => cont_int l (by omega) x B v w hO)
  have HM1 := Lib.hid m1
  have HM2 := Lib.hid m2
  have HT : Hid (Tlast l = ((mex l : Nat) : Int)) := Lib.hid rfl
  generalize mex l = n at HM1 HM2 m3 HT
  clear m1 m2 hO
  go_enter Try.func151, Try.ntmps151
  go_wp2_with fail
  go_loopw [3] (fun c wr => ∃ k : Nat, k ≤ n ∧ c = .int .i64 k ∧ wr = w) (fun c _ => n - (intOf c).toNat)
  case atStart => exact ⟨0, Nat.zero_le _, rfl, rfl⟩
  case round =>
    obtain ⟨k, hk, rfl, rfl⟩ := hrel
    have HK := Lib.hid (HC.out (k : Int))
    go_wp2_with fail
    refine HK.out.mono ?_
    rintro e w' ⟨rfl, hw⟩
    obtain rfl := hw.symm
    by_cases hlt : k < n
    · have hd : decide ((k : Int) ∈ l) = true := decide_eq_true (HM1.out k hlt)
      rw [hd]
      clear hd
      go_wp2_with fail
      go_roundw
      case rel => exact ⟨k + 1, by omega, by go_num, by first | rfl | trivial⟩
      case measure => simp [intOf]; omega
    · obtain rfl : k = n := by omega
      have hd : decide ((k : Int) ∈ l) = false := decide_eq_false HM2.out
      rw [hd]
      clear hd
      go_wp2_with fail
      go_ret
      exact ⟨by rw [HT.out]; rfl, rfl⟩
theorem missed_f (l : List Int) (hl : l.length ≤ 100) (B : Nat) (v : Value) (w : World) (hO : Ir B v l w) : Calls Try.prog 149 #[v] w fun e w' => e = .returned (.int .i64 (Tmiss l)) ∧ w' = w := by
  have HC := Lib.hid (cont_int l (by omega) 0 B v w hO)
  rcases hO.form with ⟨rfl, rfl⟩ | ⟨g, cap, rfl⟩
  · clear HC hO
    go_enter Try.func149, Try.ntmps149
    go_wp2_with fail
    go_ret
    exact ⟨by simp [Tmiss], rfl⟩
  · clear hO
    by_cases h0 : l.length = 0
    · have e : l = [] := List.length_eq_zero_iff.mp h0
      subst e
      go_enter Try.func149, Try.ntmps149
      go_wp2_with fail
      go_ret
      exact ⟨by simp [Tmiss], rfl⟩
    · have hne : l ≠ [] := fun e => h0 (by rw [e]; rfl)
      have h0' : ¬ (l.length : Int) = 0 := by omega
      have HT : Hid (Tmiss l = if (0 : Int) ∈ l then 1 else 0) := Lib.hid (by simp [Tmiss, hne])
      clear hne
      go_enter Try.func149, Try.ntmps149
      go_wp2_with fail
      refine HC.out.mono ?_
      rintro e w' ⟨rfl, hw⟩
      obtain rfl := hw.symm
      by_cases hm : (0 : Int) ∈ l
      · rw [decide_eq_true hm]
        rw [if_pos hm] at HT
        clear hm
        go_wp2_with fail
        go_ret
        exact ⟨by rw [HT.out]; rfl, rfl⟩
      · rw [decide_eq_false hm]
        rw [if_neg hm] at HT
        clear hm
        go_wp2_with fail
        go_ret
        exact ⟨by rw [HT.out]; rfl, rfl⟩
theorem max_f (l : List Int) (hl : l.length ≤ 100) (hne : 0 < l.length) (B g cap : Nat) (w : World) (hO : Ir B (.slice (some ⟨g, 0, none⟩) l.length cap) l w) : Calls Try.prog 263 #[.slice (some ⟨g, 0, none⟩) l.length cap] w fun e w' => e = .returned (.int .i64 (mxl l)) ∧ w' = w := by
  have HO := Lib.hid hO
  have h1 : ¬ (l.length : Int) < 1 := by omega
  have hp : (0 : Int) < l.length := by omega
  have h00 := hO.at hne
  have HM : Hid (mxl (l.take 1) = l[0]) := Lib.hid (by
    cases l with
    | nil => simp at hne
    | cons a t => simp [mxl])
  clear hO
  generalize l[0] = z at h00 HM
  go_enter Try.func263, Try.ntmps263
  go_wp2_with fail
  go_loopw [3, 4] (fun m c wr => ∃ k : Nat, 1 ≤ k ∧ k ≤ l.length ∧ c = .int .i64 k ∧ m = .int .i64 (mxl (l.take k)) ∧ wr = w) (fun _ c _ => l.length - (intOf c).toNat)
  case atStart => exact ⟨1, Nat.le_refl _, by omega, rfl, by rw [HM.out], rfl⟩
  case round =>
    obtain ⟨k, hk1, hk, rfl, rfl, rfl⟩ := hrel
    by_cases hlt : k < l.length
    · have hlt' : (k : Int) < l.length := by omega
      have hk0 : (0 : Int) ≤ k := by omega
      have hc := HO.out.at hlt
      have HS := Lib.hid (mxl_take hlt (by omega))
      generalize l[k] = y at hc HS
      generalize mxl (l.take k) = m at HS ⊢
      go_wp2_with fail
      go_roundw
      case rel => exact ⟨k + 1, by omega, by omega, by go_num, by rw [HS.out]; first | rfl | (simp; done) | (congr 1; omega), by first | rfl | trivial⟩
      case measure => simp [intOf]; omega
    · obtain rfl : k = l.length := by omega
      rw [List.take_length]
      go_wp2_with fail
      go_ret
      exact ⟨rfl, rfl⟩
theorem min_f (l : List Int) (hl : l.length ≤ 100) (hne : 0 < l.length) (B g cap : Nat) (w : World) (hO : Ir B (.slice (some ⟨g, 0, none⟩) l.length cap) l w) : Calls Try.prog 264 #[.slice (some ⟨g, 0, none⟩) l.length cap] w fun e w' => e = .returned (.int .i64 (mnl l)) ∧ w' = w := by
  have HO := Lib.hid hO
  have h1 : ¬ (l.length : Int) < 1 := by omega
  have hp : (0 : Int) < l.length := by omega
  have h00 := hO.at hne
  have HM : Hid (mnl (l.take 1) = l[0]) := Lib.hid (by
    cases l with
    | nil => simp at hne
    | cons a t => simp [mnl])
  clear hO
  generalize l[0] = z at h00 HM
  go_enter Try.func264, Try.ntmps264
  go_wp2_with fail
  go_loopw [3, 4] (fun m c wr => ∃ k : Nat, 1 ≤ k ∧ k ≤ l.length ∧ c = .int .i64 k ∧ m = .int .i64 (mnl (l.take k)) ∧ wr = w) (fun _ c _ => l.length - (intOf c).toNat)
  case atStart => exact ⟨1, Nat.le_refl _, by omega, rfl, by rw [HM.out], rfl⟩
  case round =>
    obtain ⟨k, hk1, hk, rfl, rfl, rfl⟩ := hrel
    by_cases hlt : k < l.length
    · have hlt' : (k : Int) < l.length := by omega
      have hk0 : (0 : Int) ≤ k := by omega
      have hc := HO.out.at hlt
      have HS := Lib.hid (mnl_take hlt (by omega))
      generalize l[k] = y at hc HS
      generalize mnl (l.take k) = m at HS ⊢
      go_wp2_with fail
      go_roundw
      case rel => exact ⟨k + 1, by omega, by omega, by go_num, by rw [HS.out]; first | rfl | (simp; done) | (congr 1; omega), by first | rfl | trivial⟩
      case measure => simp [intOf]; omega
    · obtain rfl : k = l.length := by omega
      rw [List.take_length]
      go_wp2_with fail
      go_ret
      exact ⟨rfl, rfl⟩
theorem mxl_bd {l : List Int} (h : l ≠ []) {a b : Int} (hb : ∀ x ∈ l, a ≤ x ∧ x ≤ b) : a ≤ mxl l ∧ mxl l ≤ b := hb _ (mxl_in h)
theorem mnl_bd {l : List Int} (h : l ≠ []) {a b : Int} (hb : ∀ x ∈ l, a ≤ x ∧ x ≤ b) : a ≤ mnl l ∧ mnl l ≤ b := hb _ (mnl_in h)
theorem longest_f (l : List Int) (hl : l.length ≤ 100) (hb : ∀ x ∈ l, 0 ≤ x ∧ x ≤ 1000) (B : Nat) (v : Value) (w : World) (hO : Ir B v l w) : Calls Try.prog 159 #[v] w fun e w' => e = .returned (.int .i64 (Tlong l)) ∧ w' = w := by
  rcases hO.form with ⟨rfl, rfl⟩ | ⟨g, cap, rfl⟩
  · clear hO hb
    go_enter Try.func159, Try.ntmps159
    go_wp2_with fail
    go_ret
    exact ⟨by simp [Tlong], rfl⟩
  · by_cases h0 : l.length = 0
    · have e : l = [] := List.length_eq_zero_iff.mp h0
      subst e
      clear hO hb
      go_enter Try.func159, Try.ntmps159
      go_wp2_with fail
      go_ret
      exact ⟨by simp [Tlong], rfl⟩
    · have hne : l ≠ [] := fun e => h0 (by rw [e]; rfl)
      have h0' : ¬ (l.length : Int) = 0 := by omega
      have HC := Lib.hid (max_f l hl (by omega) B g cap w hO)
      obtain ⟨b1, b2⟩ := mxl_bd hne hb
      have HT : Hid (Tlong l = mxl l + 1) := Lib.hid (if_neg hne)
      have e1 : wrap64 (mxl l + 1) = mxl l + 1 := by unfold wrap64; omega
      clear hne hO hb
      generalize mxl l = m at HC HT b1 b2 e1
      go_enter Try.func159, Try.ntmps159
      go_wp2_with fail
      refine HC.out.mono ?_
      rintro e w' ⟨rfl, hw⟩
      obtain rfl := hw.symm
      go_wp2_with fail
      go_ret
      exact ⟨by rw [HT.out]; first | rfl | simp, rfl⟩
theorem shortest_f (l : List Int) (hl : l.length ≤ 100) (hb : ∀ x ∈ l, 0 ≤ x ∧ x ≤ 1000) (B : Nat) (v : Value) (w : World) (hO : Ir B v l w) : Calls Try.prog 160 #[v] w fun e w' => e = .returned (.int .i64 (Tshort l)) ∧ w' = w := by
  rcases hO.form with ⟨rfl, rfl⟩ | ⟨g, cap, rfl⟩
  · clear hO hb
    go_enter Try.func160, Try.ntmps160
    go_wp2_with fail
    go_ret
    exact ⟨by simp [Tshort], rfl⟩
  · by_cases h0 : l.length = 0
    · have e : l = [] := List.length_eq_zero_iff.mp h0
      subst e
      clear hO hb
      go_enter Try.func160, Try.ntmps160
      go_wp2_with fail
      go_ret
      exact ⟨by simp [Tshort], rfl⟩
    · have hne : l ≠ [] := fun e => h0 (by rw [e]; rfl)
      have h0' : ¬ (l.length : Int) = 0 := by omega
      have HC := Lib.hid (min_f l hl (by omega) B g cap w hO)
      obtain ⟨b1, b2⟩ := mnl_bd hne hb
      have HT : Hid (Tshort l = mnl l + 1) := Lib.hid (if_neg hne)
      have e1 : wrap64 (mnl l + 1) = mnl l + 1 := by unfold wrap64; omega
      clear hne hO hb
      generalize mnl l = m at HC HT b1 b2 e1
      go_enter Try.func160, Try.ntmps160
      go_wp2_with fail
      refine HC.out.mono ?_
      rintro e w' ⟨rfl, hw⟩
      obtain rfl := hw.symm
      go_wp2_with fail
      go_ret
      exact ⟨by rw [HT.out]; first | rfl | simp, rfl⟩
end Go.Proofs.Ytkjaaaefcmpokaa
