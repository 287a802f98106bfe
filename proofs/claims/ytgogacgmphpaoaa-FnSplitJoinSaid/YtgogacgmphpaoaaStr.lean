/- PLAIN LEMMAS AND CONTRACTS: the laws' own helpers on slices of strings: the size, the copy, the comparison. -/
import Derived.Test.YtgogacgmphpaoaaRows
import Derived.WalkKit
import Derived.ProofKit
import Derived.OpenShut
import Derived.Lib.Hide
import Derived.WalkSpells
import Derived.Below
import Derived.Laws.OwnMore
import Derived.BigQuiet
import Derived.OwnWalk
namespace Go.Proofs.Ytgogacgmphpaoaa
open Go.ChangeShapes Go.WideShapes Go.ChangeAt Go.RowKit
set_option linter.unusedVariables false
/-- The cells from (b, o) on hold these strings. -/
def RdS (w : World) (b o : Nat) (xs : List ByteArray) : Prop := ∀ j x, xs[j]? = some x → w.cell? ⟨b, o + j, none⟩ = some (.string x)
theorem blk_lt {w : World} {a : Addr} {v : Value} (h : w.cell? a = some v) : a.block < w.heap.size := by
  rcases Nat.lt_or_ge a.block w.heap.size with hlt | hge
  · exact hlt
  · simp [World.cell?, Array.getElem?_eq_none hge] at h
theorem RdS.below {w w' : World} {b o : Nat} {xs : List ByteArray} (h : RdS w b o xs) (hb : Below w.heap.size w w') : RdS w' b o xs := fun j x hx => by
  have hlt := blk_lt (h j x hx)
  exact (hb.cell (p := ⟨b, o + j, none⟩) hlt).trans (h j x hx)
theorem RdS.of_own {w : World} {base g n cap : Nat} {xs : List ByteArray} (h : w.ownsRow base 9 1 (.slice (some ⟨g, 0, none⟩) n cap) n (xs.map Value.string)) (hn : n = xs.length) : RdS w g 0 xs := fun j x hx => by
  have hj : j < xs.length := (List.getElem?_eq_some_iff.1 hx).1
  rw [Nat.zero_add, h.cellAt j (by omega)]; simp [hx]
theorem Try.info9 : (Try.prog.info? 9).map (fun i => (i.zero, i.size, i.bytes)) = some (some (.string ByteArray.empty), 1, 16) := by kernel_rfl
/-- What szStringS leaves: a number; where it is not negative there are at most 2^20 elements. -/
def SzPost (xs : List ByteArray) (w : World) (e : Ending) (w' : World) : Prop := ∃ r : Int, e = .returned (.int .i64 r) ∧ (0 ≤ r → xs.length ≤ 1048576 ∧ ∀ x ∈ xs, x.size ≤ 1048576) ∧ w = w'
def smallTo (xs : List ByteArray) (k : Nat) : Prop := ∀ j x, xs[j]? = some x → j < k → x.size ≤ 1048576
theorem smallTo_zero (xs : List ByteArray) : smallTo xs 0 := fun _ _ _ h => absurd h (by omega)
theorem smallTo_succ {xs : List ByteArray} {k : Nat} {x : ByteArray} (h : smallTo xs k) (hx : xs[k]? = some x) (hs : x.size ≤ 1048576) : smallTo xs (k + 1) := fun j y hy hlt => by
  by_cases e : j = k
  · subst e; rw [hx] at hy; cases hy; exact hs
  · exact h j y hy (by omega)
theorem smallTo_all {xs : List ByteArray} {k : Nat} (h : smallTo xs k) (hk : xs.length ≤ k) : ∀ x ∈ xs, x.size ≤ 1048576 := fun x hx => by
  obtain ⟨j, hj, rfl⟩ := List.mem_iff_getElem.1 hx
  exact h j _ (List.getElem?_eq_getElem hj) (by omega)
theorem sz_zero (a : Option Addr) (c : Nat) (w : World) : Calls Try.prog 21 #[.slice a 0 c, .int .i64 1048576] w (SzPost [] w) := by
  go_enter Try.func21, Try.ntmps21
  go_wp2
  refine wp_loop_rounds 1 ?_
  rw [rounds_succ]
  go_wp2
  go_ret
  exact ⟨_, rfl, fun _ => ⟨by simp, by simp⟩, rfl⟩
set_option maxHeartbeats 400000 in
theorem sz_any (b o c : Nat) (xs : List ByteArray) (w : World) (hc0 : RdS w b o xs) (hs0 : ∀ x ∈ xs, x.size ≤ maxLen) (hlen : xs.length ≤ maxLen) :
    Calls Try.prog 21 #[.slice (some ⟨b, o, none⟩) xs.length c, .int .i64 1048576] w (SzPost xs w) := by
  have hc := Lib.hid hc0
  have hs := Lib.hid hs0
  clear hc0 hs0
  unfold maxLen at hlen
  obtain ⟨n, hn⟩ : ∃ n, n = xs.length := ⟨_, rfl⟩
  have HN := Lib.hid hn
  rw [← hn] at hlen ⊢
  clear hn
  by_cases h : n ≤ 1048576
  · go_enter Try.func21, Try.ntmps21
    go_wp2
    go_loop [1, 5] (fun l i => ∃ (k : Nat) (v : Int), k ≤ n ∧ i = .int .i64 k ∧ l = .int .i64 v ∧ 0 ≤ v ∧ v ≤ 1048576 ∧ Hid (smallTo xs k)) (fun _ i => n - (intOf i).toNat)
    case atStart => exact ⟨0, _, Nat.zero_le _, rfl, rfl, by omega, by omega, smallTo_zero xs⟩
    case round =>
      obtain ⟨k, v, hk, rfl, rfl, hv0, hv1, HSM⟩ := hrel
      by_cases hlt : k < n
      · obtain ⟨x, hx⟩ : ∃ x, xs[k]? = some x := ⟨xs[k]'(by rw [← HN.out]; exact hlt), List.getElem?_eq_getElem _⟩
        have hcell := hc.out k x hx
        have hsz := hs.out x (List.mem_of_getElem? hx)
        unfold maxLen at hsz
        have HX := Lib.hid hx
        clear hx
        by_cases hneg : v - (x.size : Int) < 0
        · go_wp2
          go_ret
          exact ⟨_, rfl, fun h => by omega, rfl⟩
        · have HNX := Lib.hid (smallTo_succ HSM.out HX.out (by omega))
          go_wp2
          go_round
          case rel => exact ⟨k + 1, _, by omega, by go_num, rfl, by omega, by omega, HNX.out⟩
          case measure => simp [intOf]; omega
      · have HNX := Lib.hid (smallTo_all HSM.out (by rw [← HN.out]; omega))
        go_wp2
        go_ret
        exact ⟨_, rfl, fun _ => ⟨by rw [← HN.out]; exact h, HNX.out⟩, rfl⟩
  · go_enter Try.func21, Try.ntmps21
    go_wp2
    go_ret
    exact ⟨_, rfl, fun h => by omega, rfl⟩
theorem own_lt {w : World} {base e size g n cap : Nat} {xs : List Value} (h : w.ownsRow base e size (.slice (some ⟨g, 0, none⟩) n cap) n xs) : g < w.heap.size := by
  rcases h.2 with ⟨h', _⟩ | ⟨g', cap', cur, h', _, hg, _⟩
  · simp at h'
  · simp only [Value.slice.injEq, Option.some.injEq, Addr.mk.injEq, and_true, true_and] at h'
    obtain ⟨rfl, rfl⟩ := h'
    exact (Array.getElem?_eq_some_iff.1 hg).1
theorem to_zero (a : Option Addr) (c : Nat) (w : World) : Calls Try.prog 22 #[.slice a 0 c] w fun e w' => e = .returned (.slice (some ⟨w.heap.size, 0, none⟩) 0 0) ∧ Below w.heap.size w w' ∧ w.heap.size < w'.heap.size := by
  obtain ⟨i0, hi, hz0, hz1, hz2⟩ := info_parts Try.info9
  go_enter Try.func22, Try.ntmps22
  go_wp2_with (at_make; refine wpList_make_full _ rfl _ _ 26 rfl w.heap.size 9 i0 (.string ByteArray.empty) 1 Try.underlying26 hi hz0 hz1 .i64 .i64 _ _ 0 rfl rfl (by omega) (by omega) (by rw [hz2]; omega) (by unfold maxLen; omega) (by omega) ?_; intro w1 hown hgrow)
  refine wp_loop_rounds 1 ?_
  rw [rounds_succ]
  go_wp2
  go_ret
  exact ⟨rfl, (Below.refl _ _).grown hgrow (Nat.le_refl _) (fun k h => by cases h), own_lt hown⟩
def dones (xs : List ByteArray) (k : Nat) : List Value := (xs.take k).map Value.string ++ List.replicate (xs.length - k) (.string ByteArray.empty)
theorem dones_zero (xs : List ByteArray) : dones xs 0 = List.replicate xs.length (.string ByteArray.empty) := by simp [dones]
theorem dones_all (xs : List ByteArray) (k : Nat) (h : xs.length ≤ k) : dones xs k = xs.map Value.string := by
  unfold dones; rw [List.take_of_length_le h, show xs.length - k = 0 by omega]; simp
theorem dones_at (xs : List ByteArray) (k : Nat) (h : k < xs.length) : (dones xs k)[k]? = some (.string ByteArray.empty) := by
  unfold dones
  rw [List.getElem?_append_right (by simp; omega)]
  simp [List.getElem?_replicate, List.length_take]; omega
theorem dones_set (xs : List ByteArray) (k : Nat) (x : ByteArray) (h : xs[k]? = some x) : (dones xs k).set k (.string x) = dones xs (k + 1) := by
  have hk := (List.getElem?_eq_some_iff.1 h).1
  have hlen : ((xs.take k).map Value.string).length = k := by simp; omega
  unfold dones
  rw [List.set_append_right _ _ (by omega), hlen, Nat.sub_self, show xs.length - k = (xs.length - (k + 1)) + 1 by omega, List.replicate_succ, List.set_cons_zero, List.take_succ_eq_append_getElem hk, List.map_append, List.append_assoc]
  have hx := (List.getElem?_eq_some_iff.1 h).2
  simp [hx]
set_option maxHeartbeats 400000 in
theorem to_any (b o c : Nat) (xs : List ByteArray) (w : World) (hc0 : RdS w b o xs) (hlen0 : xs.length ≤ 1048576) :
    Calls Try.prog 22 #[.slice (some ⟨b, o, none⟩) xs.length c] w fun e w' => e = .returned (.slice (some ⟨w.heap.size, 0, none⟩) xs.length xs.length) ∧ Below w.heap.size w w' ∧ w.heap.size < w'.heap.size ∧ RdS w' w.heap.size 0 xs := by
  obtain ⟨i0, hi, hz0, hz1, hz2⟩ := info_parts Try.info9
  have hc := Lib.hid hc0
  clear hc0
  obtain ⟨n, hn⟩ : ∃ n, n = xs.length := ⟨_, rfl⟩
  have HN := Lib.hid hn
  rw [← hn] at hlen0 ⊢
  clear hn
  go_enter Try.func22, Try.ntmps22
  go_wp2_with (at_make; refine wpList_make_full _ rfl _ _ 26 rfl w.heap.size 9 i0 (.string ByteArray.empty) 1 Try.underlying26 hi hz0 hz1 .i64 .i64 _ _ n rfl rfl (by omega) (by omega) (by rw [hz2]; omega) (by unfold maxLen; omega) (by omega) ?_; intro w1 hown hgrow)
  have hb1 : Below w.heap.size w w1 := (Below.refl _ _).grown hgrow (Nat.le_refl _) (fun k h => by cases h)
  rw [show (madeCells (Value.string ByteArray.empty).cells (n * 1)).toList = dones xs 0 by rw [dones_zero, ← HN.out, Nat.mul_one]; exact toList_madeCells_one _ _] at hown
  have HO := Lib.hid hown
  have HB := Lib.hid hb1
  clear hown hb1 hgrow
  go_loopw [4] (fun i wr => ∃ k : Nat, k ≤ n ∧ i = .int .i64 k ∧ wr.ownsRow w.heap.size 9 1 (.slice (some ⟨w.heap.size, 0, none⟩) n n) n (dones xs k) ∧ Below w.heap.size w wr) (fun i _ => n - (intOf i).toNat)
  case atStart => exact ⟨0, Nat.zero_le _, rfl, HO.out, HB.out⟩
  case round =>
    obtain ⟨k, hk, rfl, hown, hb⟩ := hrel
    by_cases hlt : k < n
    · obtain ⟨x, hx⟩ : ∃ x, xs[k]? = some x := ⟨xs[k]'(by rw [← HN.out]; exact hlt), List.getElem?_eq_getElem _⟩
      have hcell : wr.cell? ⟨b, o + k, none⟩ = some (.string x) := (RdS.below hc.out hb) k x hx
      have hslot : wr.cell? ⟨w.heap.size, k, none⟩ = some (.string ByteArray.empty) := by rw [hown.cellAt k (by omega)]; exact dones_at xs k (by rw [← HN.out]; exact hlt)
      have hfz : wr.frozen? ⟨w.heap.size, k, none⟩ = false := hown.frozenAt k
      have hst := hown.stored k (.string x)
      rw [dones_set xs k x hx] at hst
      have HS := Lib.hid hst
      have HB2 := Lib.hid hb
      clear hst hown hb hx HO HB
      go_wp2
      go_roundw
      case rel => exact ⟨k + 1, by omega, by go_num, HS.out.1, HB2.out.setCell (p := ⟨w.heap.size, k, none⟩) (Nat.le_refl _) _⟩
      case measure => simp [intOf]; omega
    · have HS := Lib.hid hown
      have HB2 := Lib.hid hb
      clear hown hb HO HB
      go_wp2
      go_ret
      refine ⟨rfl, HB2.out, own_lt HS.out, ?_⟩
      have := HS.out
      rw [dones_all xs k (by rw [← HN.out]; omega)] at this
      exact RdS.of_own this HN.out
set_option maxHeartbeats 400000 in
/-- Two slices that hold the same strings are alike. -/
theorem eqs_yes (b1 o1 c1 b2 o2 c2 : Nat) (xs : List ByteArray) (w : World) (h1 : RdS w b1 o1 xs) (h2 : RdS w b2 o2 xs) (hlen0 : xs.length ≤ maxLen) :
    Calls Try.prog 18 #[.slice (some ⟨b1, o1, none⟩) xs.length c1, .slice (some ⟨b2, o2, none⟩) xs.length c2] w fun e w' => e = .returned (.bool true) ∧ ∃ k, w' = w.drewN k := by
  have H1 := Lib.hid h1
  have H2 := Lib.hid h2
  clear h1 h2
  unfold maxLen at hlen0
  obtain ⟨n, hn⟩ : ∃ n, n = xs.length := ⟨_, rfl⟩
  have HN := Lib.hid hn
  rw [← hn] at hlen0 ⊢
  clear hn
  go_enter Try.func18, Try.ntmps18
  go_wp2
  go_loopw [5] (fun i wr => ∃ k : Nat, k ≤ n ∧ i = .int .i64 k ∧ ∃ m, wr = w.drewN m) (fun i _ => n - (intOf i).toNat)
  case atStart => exact ⟨0, Nat.zero_le _, rfl, 0, by rw [World.drewN_zero]⟩
  case round =>
    obtain ⟨k, hk, rfl, m, rfl⟩ := hrel
    by_cases hlt : k < n
    · obtain ⟨x, hx⟩ : ∃ x, xs[k]? = some x := ⟨xs[k]'(by rw [← HN.out]; exact hlt), List.getElem?_eq_getElem _⟩
      have hcell1 : w.cell? ⟨b1, o1 + k, none⟩ = some (.string x) := H1.out k x hx
      have hcell2 : w.cell? ⟨b2, o2 + k, none⟩ = some (.string x) := H2.out k x hx
      have hk0 : 0 ≤ (k : Int) := by omega
      have hk1 : (k : Int) < n := by omega
      clear hx
      go_wp2
      go_quiet (fail)
      go_wp2
      go_roundw
      case rel => exact ⟨k + 1, by omega, by go_num, _, rfl⟩
      case measure => simp [intOf]; omega
    · go_wp2
      go_ret
      exact ⟨rfl, _, rfl⟩
end Go.Proofs.Ytgogacgmphpaoaa
