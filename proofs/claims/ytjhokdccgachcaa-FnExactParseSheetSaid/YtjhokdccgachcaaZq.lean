/- CONTRACTS: a row of signs read; ParseSheet, the code's. -/
import Derived.Test.YtjhokdccgachcaaZi
import Derived.Test.YtjhokdccgachcaaZo
import Derived.WalkKit
import Derived.ProofKit
import Derived.OpenShut
import Derived.Lib.Hide
import Derived.WalkSpells
import Derived.Below
import Derived.BigQuiet
import Derived.LoopN
namespace Go.Proofs.Ytjhokdccgachcaa
open Go.ChangeShapes Go.WideShapes Go.ChangeAt Go.RowKit
set_option linter.unusedVariables false
theorem o6_set {W : World} {F G : Fn6} {g y : Nat} (hy : y < 6) (hne : ∀ j, j < 6 → j ≠ y → rowv (G j) = rowv (F j)) (h : W.heap[g]? = some (o6 F)) : (W.setCell ⟨g, y, none⟩ (.int .i64 (rowv (G y)))).heap[g]? = some (o6 G) := by
  have e := heap_setCell_same W g y _ 25 (.int .i64 (rowv (G y))) h
  rw [e]
  rcases six_n hy with rfl | rfl | rfl | rfl | rfl | rfl
  · unfold o6
    rw [hne 1 (by decide) (by decide), hne 2 (by decide) (by decide), hne 3 (by decide) (by decide), hne 4 (by decide) (by decide), hne 5 (by decide) (by decide)]
    rfl
  · unfold o6
    rw [hne 0 (by decide) (by decide), hne 2 (by decide) (by decide), hne 3 (by decide) (by decide), hne 4 (by decide) (by decide), hne 5 (by decide) (by decide)]
    rfl
  · unfold o6
    rw [hne 0 (by decide) (by decide), hne 1 (by decide) (by decide), hne 3 (by decide) (by decide), hne 4 (by decide) (by decide), hne 5 (by decide) (by decide)]
    rfl
  · unfold o6
    rw [hne 0 (by decide) (by decide), hne 1 (by decide) (by decide), hne 2 (by decide) (by decide), hne 4 (by decide) (by decide), hne 5 (by decide) (by decide)]
    rfl
  · unfold o6
    rw [hne 0 (by decide) (by decide), hne 1 (by decide) (by decide), hne 2 (by decide) (by decide), hne 3 (by decide) (by decide), hne 5 (by decide) (by decide)]
    rfl
  · unfold o6
    rw [hne 0 (by decide) (by decide), hne 1 (by decide) (by decide), hne 2 (by decide) (by decide), hne 3 (by decide) (by decide), hne 4 (by decide) (by decide)]
    rfl
/-- Which signs of a row are black. -/
def rowN (x : ByteArray) : Nat → Bool := fun i => decide (x.data.toList[i]? = some 35)
theorem rowN_yes {x : ByteArray} {i : Nat} (h : i < x.size) (he : x[i] = 35) : rowN x i = true := by
  unfold rowN
  rw [Zi.get_at x i h, he]
  rfl
theorem rowN_no {x : ByteArray} {i : Nat} (h : i < x.size) (he : x[i] ≠ 35) : rowN x i = false := by
  unfold rowN
  rw [Zi.get_at x i h]
  simpa using he
/-- The first k signs. -/
def rowK (x : ByteArray) (k : Nat) : Nat → Bool := fun i => decide (i < k) && rowN x i
theorem rowK_yes {x : ByteArray} {k : Nat} (hk : k < 6) (h : k < x.size) (he : x[k] = 35) : bits .or .i64 (rowv (rowK x k)) (wrap64 (2 ^ k)) = rowv (rowK x (k + 1)) := by
  rw [rowv_or _ hk]
  refine rowv_congr fun i hi => ?_
  by_cases e : i = k
  · subst e
    simp [rowK, rowN_yes h he]
  · have : (i < k + 1) ↔ (i < k) := by omega
    simp [rowK, e, this]
theorem rowK_no {x : ByteArray} {k : Nat} (h : k < x.size) (he : x[k] ≠ 35) : rowv (rowK x (k + 1)) = rowv (rowK x k) := by
  refine rowv_congr fun i hi => ?_
  by_cases e : i = k
  · subst e
    simp [rowK, rowN_no h he]
  · have : (i < k + 1) ↔ (i < k) := by omega
    simp [rowK, this]
theorem rowK_end (x : ByteArray) : rowv (rowK x 6) = rowv (rowN x) := rowv_congr fun i hi => by simp [rowK, hi]
/-- A sign that may stand in a row. -/
def sgn (b : UInt8) : Prop := b = 35 ∨ b = 46
set_option maxHeartbeats 1000000 in
theorem prow_short (x : ByteArray) (h : x.size ≠ 6) (hs : x.size ≤ 1048576) (w : World) : Calls Try.prog 130 #[.string x] w fun e w' => e = .returned (.tuple #[.int .i64 0, .bool false]) ∧ w' = w := by
  have h5 : ((x.size : Int) == 6) = false := by rw [beq_eq_false_iff_ne]; omega
  have h6 : ((x.size : Int) != 6) = true := by rw [bne, h5]; rfl
  clear h
  go_enter Try.func130, Try.ntmps130
  go_wp2_with fail
  go_ret2
  exact ⟨rfl, rfl⟩
set_option maxHeartbeats 1000000 in
theorem prow_yes (x : ByteArray) (h6 : x.size = 6) (hok : ∀ j (h : j < x.size), j < 6 → sgn x[j]) (w : World) : Calls Try.prog 130 #[.string x] w fun e w' => e = .returned (.tuple #[.int .i64 (rowv (rowN x)), .bool true]) ∧ w' = w := by
  have HK := Lib.hid hok
  clear hok
  have h5 : ((x.size : Int) == 6) = true := by rw [beq_iff_eq]; omega
  have h7 : ((x.size : Int) != 6) = false := by rw [bne, h5]; rfl
  have H6 := Lib.hid h6
  have h8 : (x.size : Int) = 6 := by omega
  clear h6
  go_enter Try.func130, Try.ntmps130
  go_wp2_with fail
  go_loopw [4, 11] (fun r c wr => ∃ k : Nat, k ≤ 6 ∧ c = .int .i64 k ∧ r = .int .i64 (rowv (rowK x k)) ∧ wr = w) (fun _ c _ => 6 - (intOf c).toNat)
  case atStart => exact ⟨0, by omega, rfl, rfl, rfl⟩
  case round =>
    obtain ⟨k, hk, rfl, rfl, rfl⟩ := hrel
    by_cases hlt : k < 6
    · have hk6 : k < 6 := by omega
      have hks : k < x.size := by rw [H6.out]; exact hk6
      have hlt' : (k : Int) < 6 := by omega
      have hk0 : (0 : Int) ≤ k := by omega
      rcases HK.out k hks (by omega) with he | he
      · have HE := Lib.hid (rowK_yes hk6 hks he)
        have hb := Zi.at_eq he
        have e35 : ((35 : UInt8).toNat : Int) = 35 := rfl
        rw [e35] at hb
        have ho := HE.out
        clear he
        go_wp2_with fail
        go_roundw
        case rel => exact ⟨k + 1, by omega, by go_num, rfl, by first | rfl | trivial⟩
        case measure => simp [intOf]; omega
      · have hn : x[k] ≠ 35 := by rw [he]; decide
        have HE := Lib.hid (rowK_no hks hn)
        have hb := Zi.at_ne hn
        have hb2 := Zi.at_eq he
        have e35 : ((35 : UInt8).toNat : Int) = 35 := rfl
        have e46 : ((46 : UInt8).toNat : Int) = 46 := rfl
        rw [e35] at hb
        rw [e46] at hb2
        clear he hn
        go_wp2_with fail
        go_roundw
        case rel => exact ⟨k + 1, by omega, by go_num, by rw [HE.out], by first | rfl | trivial⟩
        case measure => simp [intOf]; omega
    · have hge : ¬ ((k : Int) < 6) := by omega
      have HKe := Lib.hid (show rowv (rowN x) = rowv (rowK x k) by rw [show k = 6 by omega, rowK_end])
      go_wp2_with fail
      go_ret2
      exact ⟨by rw [HKe.out]; rfl, rfl⟩
set_option maxHeartbeats 1000000 in
theorem prow_bad (x : ByteArray) (h6 : x.size = 6) (N : Nat) (hN : N < 6) (hok : ∀ j (h : j < x.size), j < N → sgn x[j]) (hbad : ∀ h : N < x.size, ¬ sgn x[N]) (w : World) : Calls Try.prog 130 #[.string x] w fun e w' => e = .returned (.tuple #[.int .i64 0, .bool false]) ∧ w' = w := by
  have HK := Lib.hid hok
  clear hok
  have h5 : ((x.size : Int) == 6) = true := by rw [beq_iff_eq]; omega
  have h7 : ((x.size : Int) != 6) = false := by rw [bne, h5]; rfl
  have H6 := Lib.hid h6
  have h8 : (x.size : Int) = 6 := by omega
  clear h6
  go_enter Try.func130, Try.ntmps130
  go_wp2_with fail
  go_loopw [4, 11] (fun r c wr => ∃ k : Nat, k ≤ N ∧ c = .int .i64 k ∧ r = .int .i64 (rowv (rowK x k)) ∧ wr = w) (fun _ c _ => 6 - (intOf c).toNat)
  case atStart => exact ⟨0, by omega, rfl, rfl, rfl⟩
  case round =>
    obtain ⟨k, hk, rfl, rfl, rfl⟩ := hrel
    by_cases hlt : k < N
    · have hk6 : k < 6 := by omega
      have hks : k < x.size := by rw [H6.out]; exact hk6
      have hlt' : (k : Int) < 6 := by omega
      have hk0 : (0 : Int) ≤ k := by omega
      rcases HK.out k hks (by omega) with he | he
      · have HE := Lib.hid (rowK_yes hk6 hks he)
        have hb := Zi.at_eq he
        have e35 : ((35 : UInt8).toNat : Int) = 35 := rfl
        rw [e35] at hb
        have ho := HE.out
        clear he
        go_wp2_with fail
        go_roundw
        case rel => exact ⟨k + 1, by omega, by go_num, rfl, by first | rfl | trivial⟩
        case measure => simp [intOf]; omega
      · have hn : x[k] ≠ 35 := by rw [he]; decide
        have HE := Lib.hid (rowK_no hks hn)
        have hb := Zi.at_ne hn
        have hb2 := Zi.at_eq he
        have e35 : ((35 : UInt8).toNat : Int) = 35 := rfl
        have e46 : ((46 : UInt8).toNat : Int) = 46 := rfl
        rw [e35] at hb
        rw [e46] at hb2
        clear he hn
        go_wp2_with fail
        go_roundw
        case rel => exact ⟨k + 1, by omega, by go_num, by rw [HE.out], by first | rfl | trivial⟩
        case measure => simp [intOf]; omega
    · obtain rfl : k = N := by omega
      have hks : k < x.size := by rw [H6.out]; exact hN
      have hlt' : (k : Int) < 6 := by omega
      have hk0 : (0 : Int) ≤ k := by omega
      have hn1 : x[k] ≠ 35 := fun h => hbad hks (.inl h)
      have hn2 : x[k] ≠ 46 := fun h => hbad hks (.inr h)
      have hb := Zi.at_ne hn1
      have hb2 := Zi.at_ne hn2
      have e35 : ((35 : UInt8).toNat : Int) = 35 := rfl
      have e46 : ((46 : UInt8).toNat : Int) = 46 := rfl
      rw [e35] at hb
      rw [e46] at hb2
      clear hn1 hn2 hbad
      go_wp2_with fail
      go_ret2
      exact ⟨rfl, rfl⟩
/-- Midway: i rows are read. -/
def gP (P : List ByteArray) (i : Nat) : Fn6 := fun j x => decide (j < i) && rowN (P.getD j ⟨#[]⟩) x
theorem gP_row (P : List ByteArray) {i : Nat} (h : i < P.length) : rowv (rowN P[i]) = rowv (gP P (i + 1) i) := rowv_congr fun x _ => by
  have e : P.getD i ⟨#[]⟩ = P[i] := by rw [List.getD_eq_getElem?_getD, List.getElem?_eq_getElem h]; rfl
  unfold gP
  rw [e]
  simp
theorem gP_ne (P : List ByteArray) {i j : Nat} (h : j ≠ i) : rowv (gP P (i + 1) j) = rowv (gP P i j) := rowv_congr fun x _ => by
  have : (j < i + 1) ↔ (j < i) := by omega
  simp [gP, this]
/-- The rows in a row of their own; the sheet that is made in the block gb. -/
def Rp (w : World) (P : List ByteArray) (g cap gb : Nat) (F : Fn6) (W : World) : Prop :=
  KR 1 [(w.heap.size, oz)] w W ∧ W.ownsRow 0 9 1 (.slice (some ⟨g, 0, none⟩) P.length cap) P.length (P.map Value.string) ∧ W.heap[gb]? = some (o6 F) ∧ w.heap.size + 1 ≤ gb ∧ g ≠ gb
theorem Rp.put {w W : World} {P : List ByteArray} {g cap gb y : Nat} {F G : Fn6} (hy : y < 6) (hne : ∀ j, j < 6 → j ≠ y → rowv (G j) = rowv (F j)) (h : Rp w P g cap gb F W) : Rp w P g cap gb G (W.setCell ⟨gb, y, none⟩ (.int .i64 (rowv (G y)))) := by
  obtain ⟨h1, h2, h3, h4, h6⟩ := h
  exact ⟨h1.set h4, h2.kept (grow_set W ⟨gb, y, none⟩ _) (.inr (by simp [Value.ownBlock, h6])), o6_set hy hne h3, h4, h6⟩
theorem str_at {W : World} {P : List ByteArray} {g cap : Nat} (h : W.ownsRow 0 9 1 (.slice (some ⟨g, 0, none⟩) P.length cap) P.length (P.map Value.string)) {i : Nat} (hi : i < P.length) : W.cell? ⟨g, i, none⟩ = some (.string P[i]) := own_at h (by rw [List.getElem?_map, List.getElem?_eq_getElem hi]; rfl)
theorem ips_far (t : ByteArray) (h : 4000 < t.size) (h1 : t.size ≤ 1048576) (w : World) : Calls Try.prog 70 #[.string t] w fun e w' => e = .returned (.tuple #[.agg #[.int .i64 0, .int .i64 0, .int .i64 0, .int .i64 0, .int .i64 0, .int .i64 0], .bool false]) ∧ Below w.heap.size w w' := by
  have HS := Lib.hid (fun w => Zi.implS_no t ⟨#[47]⟩ (.inl h) h1 (by decide) w)
  clear h h1
  go_enter Try.func70, Try.ntmps70
  go_wp2_with fail
  refine (HS.out _).mono ?_
  rintro e W1 ⟨g, cap, rfl, ho, hge, hb⟩
  have q0 : W1.heap[w.heap.size]? = some oz := rowk (alloc_at rfl) hb rfl
  have hB1 : Below w.heap.size w W1 := below_of (by (repeat (first | exact Below.refl _ _ | assumption | refine Below.setCell ?_ (by first | (simp; done) | (simp; omega)) _ | refine Below.alloc ?_ (by first | (simp; done) | (simp; omega)) _ | refine Below.drew ?_))) hb (by simp)
  clear ho hb HS hge
  have z_c : ∀ j, W1.cell? ⟨w.heap.size, j, none⟩ = (#[.int .i64 0, .int .i64 0, .int .i64 0, .int .i64 0, .int .i64 0, .int .i64 0] : Array Value)[j]? := fun j => cell_of_row W1 _ j _ _ _ q0
  have z_f : ∀ j, W1.frozen? ⟨w.heap.size, j, none⟩ = false := fun j => frozen_of_row W1 _ j _ _ q0
  go_wp2_with fail
  refine bodyPost_ret (v := .tuple #[.agg #[.int .i64 0, .int .i64 0, .int .i64 0, .int .i64 0, .int .i64 0, .int .i64 0], .bool false]) (by simp [results, Try.results70, go_sem, z_c]) rfl ⟨rfl, ?_⟩
  exact below6 hB1 (by omega)
theorem ips_len (t : ByteArray) (ht : t.size ≤ 4000) (P : List ByteArray) (hP : Zi.parts t 47 = P) (hP6 : P.length ≠ 6) (w : World) : Calls Try.prog 70 #[.string t] w fun e w' => e = .returned (.tuple #[.agg #[.int .i64 0, .int .i64 0, .int .i64 0, .int .i64 0, .int .i64 0, .int .i64 0], .bool false]) ∧ Below w.heap.size w w' := by
  have HS := Lib.hid (fun w => Zi.implS_yes t ⟨#[47]⟩ 47 ht rfl rfl w)
  rw [hP] at HS
  have h5 : ((P.length : Int) == 6) = false := by rw [beq_eq_false_iff_ne]; omega
  have h6 : ((P.length : Int) != 6) = true := by rw [bne, h5]; rfl
  clear hP hP6
  go_enter Try.func70, Try.ntmps70
  go_wp2_with fail
  refine (HS.out _).mono ?_
  rintro e W1 ⟨g, cap, rfl, ho, hge, hb⟩
  have q0 : W1.heap[w.heap.size]? = some oz := rowk (alloc_at rfl) hb rfl
  have hB1 : Below w.heap.size w W1 := below_of (by (repeat (first | exact Below.refl _ _ | assumption | refine Below.setCell ?_ (by first | (simp; done) | (simp; omega)) _ | refine Below.alloc ?_ (by first | (simp; done) | (simp; omega)) _ | refine Below.drew ?_))) hb (by simp)
  clear ho hb HS hge
  have z_c : ∀ j, W1.cell? ⟨w.heap.size, j, none⟩ = (#[.int .i64 0, .int .i64 0, .int .i64 0, .int .i64 0, .int .i64 0, .int .i64 0] : Array Value)[j]? := fun j => cell_of_row W1 _ j _ _ _ q0
  have z_f : ∀ j, W1.frozen? ⟨w.heap.size, j, none⟩ = false := fun j => frozen_of_row W1 _ j _ _ q0
  go_wp2_with fail
  refine bodyPost_ret (v := .tuple #[.agg #[.int .i64 0, .int .i64 0, .int .i64 0, .int .i64 0, .int .i64 0, .int .i64 0], .bool false]) (by simp [results, Try.results70, go_sem, z_c]) rfl ⟨rfl, ?_⟩
  exact below6 hB1 (by omega)
set_option maxHeartbeats 1000000 in
theorem ips_yes (t : ByteArray) (ht : t.size ≤ 4000) (P : List ByteArray) (hP : Zi.parts t 47 = P) (hP6 : P.length = 6) (hok : ∀ i (h : i < P.length), i < 6 → (P[i]).size = 6 ∧ ∀ j (h2 : j < (P[i]).size), j < 6 → sgn (P[i])[j]) (w : World) : Calls Try.prog 70 #[.string t] w fun e w' => e = .returned (.tuple #[.agg #[.int .i64 (rowv (gP P 6 0)), .int .i64 (rowv (gP P 6 1)), .int .i64 (rowv (gP P 6 2)), .int .i64 (rowv (gP P 6 3)), .int .i64 (rowv (gP P 6 4)), .int .i64 (rowv (gP P 6 5))], .bool true]) ∧ Below w.heap.size w w' := by
  have HS := Lib.hid (fun w => Zi.implS_yes t ⟨#[47]⟩ 47 ht rfl rfl w)
  rw [hP] at HS
  have HK := Lib.hid hok
  have H6 := Lib.hid hP6
  clear hP hok
  have h6 : (P.length : Int) = 6 := by omega
  go_enter Try.func70, Try.ntmps70
  go_wp2_with fail
  refine (HS.out _).mono ?_
  rintro e W1 ⟨g, cap, rfl, ho, hge, hb⟩
  have q0 : W1.heap[w.heap.size]? = some oz := rowk (alloc_at rfl) hb rfl
  have hB1 : Below w.heap.size w W1 := below_of (by (repeat (first | exact Below.refl _ _ | assumption | refine Below.setCell ?_ (by first | (simp; done) | (simp; omega)) _ | refine Below.alloc ?_ (by first | (simp; done) | (simp; omega)) _ | refine Below.drew ?_))) hb (by simp)
  have HO := Lib.hid (own_mono ho (Nat.zero_le _))
  have hgl := (ho.lt g rfl).2
  clear ho hb HS
  have z_c0 : ∀ j, W1.cell? ⟨w.heap.size, j, none⟩ = (#[.int .i64 0, .int .i64 0, .int .i64 0, .int .i64 0, .int .i64 0, .int .i64 0] : Array Value)[j]? := fun j => cell_of_row W1 _ j _ _ _ q0
  go_wp2_with fail
  have S0 : Hid (Rp w P g cap W1.heap.size (gP P 0) (W1.alloc oz)) := Lib.hid ⟨⟨by simp only [List.mem_singleton]; rintro p rfl; exact ⟨by simp, alloc_past q0⟩, by have := row_lt q0; simp; omega, hB1.alloc hB1.size _⟩, HO.out.alloc _, alloc_at rfl, by have := row_lt q0; omega, by omega⟩
  clear HO hgl q0 hB1 hge z_c0
  unfold oz at S0
  generalize (World.alloc _ _ : World) = W2 at S0 ⊢
  generalize W1.heap.size = gb at S0 ⊢
  go_loopw [26] (fun c wr => ∃ i : Nat, i ≤ 6 ∧ c = .int .i64 i ∧ Hid (Rp w P g cap gb (gP P i) wr)) (fun c _ => 6 - (intOf c).toNat)
  case atStart => exact ⟨0, by omega, rfl, S0⟩
  case round =>
    obtain ⟨i, hi, rfl, HS⟩ := hrel
    by_cases hlt : i < 6
    · have hi6 : i < 6 := by omega
      have hiP : i < P.length := by rw [H6.out]; exact hi6
      have hlt' : (i : Int) < 6 := by omega
      have hi0 : (0 : Int) ≤ i := by omega
      have a1 := str_at HS.out.2.1 hiP
      have HR := Lib.hid (prow_yes P[i] (HK.out i hiP (by omega)).1 (HK.out i hiP (by omega)).2)
      have HE := Lib.hid (gP_row P hiP)
      have b_y := o6_at hi6 HS.out.2.2.1
      have b_f := fun j => frozen_of_row wr _ j _ _ HS.out.2.2.1
      generalize P[i] = x at a1 HR HE
      go_wp2_with fail
      refine (HR.out _).mono ?_
      rintro e Y ⟨rfl, hY⟩
      subst hY
      rw [HE.out]
      go_wp2_with fail
      have HD := Lib.hid (HS.out.put (G := gP P (i + 1)) hi6 (fun j _ hj => gP_ne P hj))
      clear HS a1 b_y b_f
      go_roundw
      case rel => exact ⟨i + 1, by omega, by go_num, HD⟩
      case measure => simp [intOf]; omega
    · have hge : ¬ ((i : Int) < 6) := by omega
      have HI := Lib.hid (show i = 6 by omega)
      have d_c := fun j => cell_of_row wr _ j _ _ _ HS.out.2.2.1
      have z_c : ∀ j, wr.cell? ⟨w.heap.size, j, none⟩ = (#[.int .i64 0, .int .i64 0, .int .i64 0, .int .i64 0, .int .i64 0, .int .i64 0] : Array Value)[j]? := fun j => cell_of_row wr _ j _ _ _ (HS.out.1.row (g := w.heap.size) (o := oz) (by simp))
      have z_f : ∀ j, wr.frozen? ⟨w.heap.size, j, none⟩ = false := fun j => frozen_of_row wr _ j _ _ (HS.out.1.row (g := w.heap.size) (o := oz) (by simp))
      go_wp2_with fail
      refine bodyPost_ret (v := .tuple #[.agg #[.int .i64 (rowv (gP P i 0)), .int .i64 (rowv (gP P i 1)), .int .i64 (rowv (gP P i 2)), .int .i64 (rowv (gP P i 3)), .int .i64 (rowv (gP P i 4)), .int .i64 (rowv (gP P i 5))], .bool true]) (by simp [results, Try.results70, go_sem, z_c]) rfl ⟨by rw [HI.out], ?_⟩
      exact below6 HS.out.1.2.2 (by omega)
set_option maxHeartbeats 1000000 in
theorem ips_bad (t : ByteArray) (ht : t.size ≤ 4000) (P : List ByteArray) (hP : Zi.parts t 47 = P) (hP6 : P.length = 6) (N : Nat) (hN : N < 6) (hok : ∀ i (h : i < P.length), i < N → (P[i]).size = 6 ∧ ∀ j (h2 : j < (P[i]).size), j < 6 → sgn (P[i])[j]) (hbad : ∀ h : N < P.length, ∀ w, Calls Try.prog 130 #[.string P[N]] w fun e w' => e = .returned (.tuple #[.int .i64 0, .bool false]) ∧ w' = w) (w : World) : Calls Try.prog 70 #[.string t] w fun e w' => e = .returned (.tuple #[.agg #[.int .i64 0, .int .i64 0, .int .i64 0, .int .i64 0, .int .i64 0, .int .i64 0], .bool false]) ∧ Below w.heap.size w w' := by
  have HS := Lib.hid (fun w => Zi.implS_yes t ⟨#[47]⟩ 47 ht rfl rfl w)
  rw [hP] at HS
  have HK := Lib.hid hok
  have H6 := Lib.hid hP6
  clear hP hok
  have h6 : (P.length : Int) = 6 := by omega
  go_enter Try.func70, Try.ntmps70
  go_wp2_with fail
  refine (HS.out _).mono ?_
  rintro e W1 ⟨g, cap, rfl, ho, hge, hb⟩
  have q0 : W1.heap[w.heap.size]? = some oz := rowk (alloc_at rfl) hb rfl
  have hB1 : Below w.heap.size w W1 := below_of (by (repeat (first | exact Below.refl _ _ | assumption | refine Below.setCell ?_ (by first | (simp; done) | (simp; omega)) _ | refine Below.alloc ?_ (by first | (simp; done) | (simp; omega)) _ | refine Below.drew ?_))) hb (by simp)
  have HO := Lib.hid (own_mono ho (Nat.zero_le _))
  have hgl := (ho.lt g rfl).2
  clear ho hb HS
  have z_c0 : ∀ j, W1.cell? ⟨w.heap.size, j, none⟩ = (#[.int .i64 0, .int .i64 0, .int .i64 0, .int .i64 0, .int .i64 0, .int .i64 0] : Array Value)[j]? := fun j => cell_of_row W1 _ j _ _ _ q0
  go_wp2_with fail
  have S0 : Hid (Rp w P g cap W1.heap.size (gP P 0) (W1.alloc oz)) := Lib.hid ⟨⟨by simp only [List.mem_singleton]; rintro p rfl; exact ⟨by simp, alloc_past q0⟩, by have := row_lt q0; simp; omega, hB1.alloc hB1.size _⟩, HO.out.alloc _, alloc_at rfl, by have := row_lt q0; omega, by omega⟩
  clear HO hgl q0 hB1 hge z_c0
  unfold oz at S0
  generalize (World.alloc _ _ : World) = W2 at S0 ⊢
  generalize W1.heap.size = gb at S0 ⊢
  go_loopw [26] (fun c wr => ∃ i : Nat, i ≤ N ∧ c = .int .i64 i ∧ Hid (Rp w P g cap gb (gP P i) wr)) (fun c _ => 6 - (intOf c).toNat)
  case atStart => exact ⟨0, by omega, rfl, S0⟩
  case round =>
    obtain ⟨i, hi, rfl, HS⟩ := hrel
    by_cases hlt : i < N
    · have hi6 : i < 6 := by omega
      have hiP : i < P.length := by rw [H6.out]; exact hi6
      have hlt' : (i : Int) < 6 := by omega
      have hi0 : (0 : Int) ≤ i := by omega
      have a1 := str_at HS.out.2.1 hiP
      have HR := Lib.hid (prow_yes P[i] (HK.out i hiP (by omega)).1 (HK.out i hiP (by omega)).2)
      have HE := Lib.hid (gP_row P hiP)
      have b_y := o6_at hi6 HS.out.2.2.1
      have b_f := fun j => frozen_of_row wr _ j _ _ HS.out.2.2.1
      generalize P[i] = x at a1 HR HE
      go_wp2_with fail
      refine (HR.out _).mono ?_
      rintro e Y ⟨rfl, hY⟩
      subst hY
      rw [HE.out]
      go_wp2_with fail
      have HD := Lib.hid (HS.out.put (G := gP P (i + 1)) hi6 (fun j _ hj => gP_ne P hj))
      clear HS a1 b_y b_f
      go_roundw
      case rel => exact ⟨i + 1, by omega, by go_num, HD⟩
      case measure => simp [intOf]; omega
    · have hlt' : (i : Int) < 6 := by omega
      have hi0 : (0 : Int) ≤ i := by omega
      obtain rfl : i = N := by omega
      have hiP : i < P.length := by rw [H6.out]; exact hN
      have a1 := str_at HS.out.2.1 hiP
      have HR := Lib.hid (hbad hiP)
      clear hbad
      generalize P[i] = x at a1 HR
      go_wp2_with fail
      refine (HR.out _).mono ?_
      rintro e Y ⟨rfl, hY⟩
      subst hY
      have z_c : ∀ j, Y.cell? ⟨w.heap.size, j, none⟩ = (#[.int .i64 0, .int .i64 0, .int .i64 0, .int .i64 0, .int .i64 0, .int .i64 0] : Array Value)[j]? := fun j => cell_of_row Y _ j _ _ _ (HS.out.1.row (g := w.heap.size) (o := oz) (by simp))
      have z_f : ∀ j, Y.frozen? ⟨w.heap.size, j, none⟩ = false := fun j => frozen_of_row Y _ j _ _ (HS.out.1.row (g := w.heap.size) (o := oz) (by simp))
      go_wp2_with fail
      refine bodyPost_ret (v := .tuple #[.agg #[.int .i64 0, .int .i64 0, .int .i64 0, .int .i64 0, .int .i64 0, .int .i64 0], .bool false]) (by simp [results, Try.results70, go_sem, z_c]) rfl ⟨rfl, ?_⟩
      exact below6 HS.out.1.2.2 (by omega)
end Go.Proofs.Ytjhokdccgachcaa
