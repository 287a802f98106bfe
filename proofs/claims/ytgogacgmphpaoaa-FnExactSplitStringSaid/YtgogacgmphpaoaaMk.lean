/- CONTRACTS: the law's own marks: the text of a mark; the marks written into a row, and held there. -/
import Derived.Test.YtgogacgmphpaoaaStr
import Derived.Laws.IdiomStrings
import Derived.Deep.RegionHeld3
namespace Go.Proofs.Ytgogacgmphpaoaa
open Go.ChangeShapes Go.WideShapes Go.ChangeAt Go.RowKit
set_option linter.unusedVariables false
/-- The digits of k ahead of a text. -/
def mkt (k : Nat) (out : ByteArray) : ByteArray := if h : k = 0 then out else mkt (k / 10) (⟨#[UInt8.ofNat (48 + k % 10)]⟩ ++ out)
termination_by k
decreasing_by omega
theorem mkt_zero (out : ByteArray) : mkt 0 out = out := by rw [mkt, dif_pos rfl]
theorem mkt_step {k : Nat} (h : k ≠ 0) (out : ByteArray) : mkt k out = mkt (k / 10) (⟨#[UInt8.ofNat (48 + k % 10)]⟩ ++ out) := by rw [mkt, dif_neg h]
/-- The text of mark k. -/
def mt (k : Nat) : ByteArray := ⟨#[109]⟩ ++ mkt k ⟨#[]⟩
theorem ret_strm {a b : ByteArray} (h : a = b) : Ending.returned (.string a) = .returned (.string b) := by rw [h]
set_option maxHeartbeats 400000 in
theorem mark_any (k0 : Nat) (h1 : 1 ≤ k0) (h2 : k0 ≤ 100000) (w : World) :
    Calls Try.prog 34 #[.int .i64 (k0 : Int)] w fun e w' => e = .returned (.string (mt k0)) ∧ Below w.heap.size w w' := by
  go_enter Try.func34, Try.ntmps34
  go_wp2
  go_loopw [0, 3] (fun a o wr => ∃ (k : Nat) (out : ByteArray), a = .int .i64 k ∧ o = .string out ∧ out.size + k ≤ k0 ∧ Hid (mkt k out = mkt k0 ⟨#[]⟩) ∧ Below w.heap.size w wr) (fun a _ _ => (intOf a).toNat)
  case atStart => exact ⟨k0, ⟨#[]⟩, rfl, rfl, Nat.le_of_eq (Nat.zero_add _), rfl, Below.refl _ _⟩
  case round =>
    obtain ⟨k, out, rfl, rfl, hsz, HM, hb⟩ := hrel
    by_cases hk : k = 0
    · subst hk
      have HB := Lib.hid hb
      have HE := Lib.hid (show ⟨#[109]⟩ ++ out = mt k0 by unfold mt; rw [← HM.out, mkt_zero])
      clear hb
      go_wp2
      go_ret
      exact ⟨ret_strm HE.out, HB.out⟩
    · have hk1 : 0 < (k : Int) := by omega
      have hk2 : (k : Int) ≤ 100000 := by omega
      have hos : out.size ≤ 100000 := by omega
      have HB := Lib.hid hb
      clear hb
      obtain ⟨x, hx⟩ : ∃ x, x = UInt8.ofNat (48 + k % 10) := ⟨_, rfl⟩
      have hxn : (x.toNat : Int) = 48 + (k : Int) % 10 := by rw [hx]; simp [UInt8.toNat_ofNat']; omega
      have hcv : (convert 22 9 (.slice (some ⟨wr.heap.size, 0, none⟩) 1 1)).run Try.prog (wr.alloc (.cells #[.int .u8 (48 + (k : Int) % 10)] 5)) = .ok (.string ⟨#[x]⟩) (wr.alloc (.cells #[.int .u8 (48 + (k : Int) % 10)] 5)) :=
        run_convert_bytes_back (P := Try.prog) _ 22 9 5 ⟨wr.heap.size, 0, none⟩ 1 [x] Try.underlying22 Try.underlying5 Try.underlying9 (fun j hj => by
          obtain rfl : j = 0 := by simpa using hj
          show (wr.alloc _).cell? ⟨wr.heap.size, 0, none⟩ = _
          rw [World.cell?_alloc_at _ _ _ _ rfl, ← hxn]; rfl)
      have HK := Lib.hid (mkt_step hk out)
      rw [← hx] at HK
      clear hx hxn
      go_wp2
      go_roundw
      case rel => exact ⟨k / 10, ⟨#[x]⟩ ++ out, by go_num, rfl, by rw [ByteArray.size_append]; show 1 + out.size + k / 10 ≤ k0; omega, by show mkt _ _ = _; rw [← HK.out]; exact HM.out, HB.out.alloc HB.out.size _⟩
      case measure => simp [intOf]; omega
theorem mark_call {v : Int} {k0 : Nat} (hv : v = (k0 : Int)) (h1 : 1 ≤ k0) (h2 : k0 ≤ 100000) (w : World) :
    Calls Try.prog 34 #[.int .i64 v] w fun e w' => e = .returned (.string (mt k0)) ∧ Below w.heap.size w w' := by
  subst hv; exact mark_any k0 h1 h2 w
/-- A row of strings whose first i have been marked. -/
def mks (xs : List ByteArray) (i : Nat) : List ByteArray := (List.range i).map (fun j => mt (j + 1)) ++ xs.drop i
theorem mks_zero (xs : List ByteArray) : mks xs 0 = xs := by simp [mks]
theorem mks_len (xs : List ByteArray) {i : Nat} (h : i ≤ xs.length) : (mks xs i).length = xs.length := by simp [mks]; omega
theorem mks_set {xs : List ByteArray} {i : Nat} (h : i < xs.length) : (mks xs i).set i (mt (i + 1)) = mks xs (i + 1) := by
  unfold mks
  rw [List.set_append_right _ _ (by simp), List.length_map, List.length_range, Nat.sub_self, List.drop_eq_getElem_cons h, List.set_cons_zero, List.range_succ, List.map_append, List.append_assoc]
  rfl
theorem mks_at (xs : List ByteArray) {i j : Nat} (h : j < i) : (mks xs i)[j]? = some (mt (j + 1)) := by
  unfold mks
  rw [List.getElem?_append_left (by simpa using h)]
  simp [h]
theorem own_base {w : World} {base e size g n cap : Nat} {xs : List Value} (h : w.ownsRow base e size (.slice (some ⟨g, 0, none⟩) n cap) n xs) : base ≤ g := by
  rcases h.2 with ⟨h', _⟩ | ⟨g', cap', cur, h', hb, _⟩
  · simp at h'
  · simp only [Value.slice.injEq, Option.some.injEq, Addr.mk.injEq, and_true, true_and] at h'
    obtain ⟨rfl, rfl⟩ := h'
    exact hb
theorem own_keep {w w' : World} {base e size g n cap B : Nat} {xs : List Value} (h : w.ownsRow base e size (.slice (some ⟨g, 0, none⟩) n cap) n xs) (hb : Below B w w') (hB : w.heap.size ≤ B) : w'.ownsRow base e size (.slice (some ⟨g, 0, none⟩) n cap) n xs :=
  h.kept (row := none) ⟨hb.os, hb.tape, hb.output, hb.size, fun k hk _ => hb.block k (by omega)⟩ (.inr (by simp [Value.ownBlock]))
set_option maxHeartbeats 400000 in
/-- markStringS: each string of the row becomes its mark. -/
theorem mark_row (g cap B : Nat) (xs : List ByteArray) (w : World) (hown0 : w.ownsRow B 9 1 (.slice (some ⟨g, 0, none⟩) xs.length cap) xs.length (xs.map Value.string)) (hn0 : xs.length ≤ 5000) (hB0 : B ≤ w.heap.size) :
    Calls Try.prog 19 #[.slice (some ⟨g, 0, none⟩) xs.length cap, .int .i64 1] w fun e w' => e = .returned (.int .i64 (xs.length + 1)) ∧ w'.ownsRow B 9 1 (.slice (some ⟨g, 0, none⟩) xs.length cap) xs.length ((mks xs xs.length).map Value.string) ∧ Below B w w' := by
  have HO0 := Lib.hid hown0
  clear hown0
  obtain ⟨n, hn⟩ : ∃ n, n = xs.length := ⟨_, rfl⟩
  have HN := Lib.hid hn
  rw [← hn] at HO0 hn0 ⊢
  clear hn
  go_enter Try.func19, Try.ntmps19
  go_wp2
  go_loopw [1, 5] (fun a b wr => ∃ i : Nat, i ≤ n ∧ a = .int .i64 ((i : Int) + 1) ∧ b = .int .i64 i ∧ wr.ownsRow B 9 1 (.slice (some ⟨g, 0, none⟩) n cap) n ((mks xs i).map Value.string) ∧ Below B w wr) (fun _ b _ => n - (intOf b).toNat)
  case atStart => exact ⟨0, Nat.zero_le _, rfl, rfl, by rw [mks_zero]; exact HO0.out, Below.refl _ _⟩
  case round =>
    obtain ⟨i, hi, rfl, rfl, hown, hb⟩ := hrel
    by_cases hlt : i < n
    · have HO := Lib.hid hown
      have HB := Lib.hid hb
      clear hown hb HO0
      have HC := Lib.hid (mark_call (v := (i : Int) + 1) (k0 := i + 1) (by omega) (by omega) (by omega) wr)
      go_wp2_with fail
      refine HC.out.mono ?_
      rintro e w1 ⟨rfl, hb1⟩
      have hown1 := own_keep HO.out hb1 (Nat.le_refl _)
      obtain ⟨u, hu⟩ : ∃ u, ((mks xs i).map Value.string)[i]? = some u := ⟨((mks xs i).map Value.string)[i]'(by rw [List.length_map, mks_len xs (by rw [← HN.out]; exact hi), ← HN.out]; exact hlt), List.getElem?_eq_getElem _⟩
      have hslot : w1.cell? ⟨g, i, none⟩ = some u := by rw [hown1.cellAt i (by omega)]; exact hu
      have hfz : w1.frozen? ⟨g, i, none⟩ = false := hown1.frozenAt i
      have hst := hown1.stored i (.string (mt (i + 1)))
      have hset : (((mks xs i).map Value.string).set i (.string (mt (i + 1)))) = (mks xs (i + 1)).map Value.string := by
        rw [← mks_set (by rw [← HN.out]; exact hlt), List.map_set]
      rw [hset] at hst
      have HS := Lib.hid hst
      have HB1 := Lib.hid (HB.out.trans (hb1.mono (Nat.le_trans hB0 HB.out.size)))
      have hbg := own_base HO.out
      clear hst hown1 hb1 hu hset HC
      go_wp2
      go_roundw
      case rel => exact ⟨i + 1, by omega, by go_num, by go_num, HS.out.1, HB1.out.setCell (p := ⟨g, i, none⟩) hbg _⟩
      case measure => simp [intOf]; omega
    · obtain rfl : i = n := by omega
      have HO := Lib.hid hown
      have HB := Lib.hid hb
      clear hown hb HO0
      go_wp2
      go_ret
      exact ⟨rfl, HO.out, HB.out⟩
theorem sk_step {wr W w' : World} {p : Addr} {x : Value} (h1 : W.cell? p = some x) (h2 : Below wr.heap.size wr W) (hb : Below W.heap.size W w') : w'.cell? p = some x ∧ Below wr.heap.size wr w' :=
  ⟨(hb.cell (blk_lt h1)).trans h1, h2.trans (hb.mono h2.size)⟩
theorem sk_step2 {wr W w' : World} {p : Addr} {x : Value} (h : W.cell? p = some x ∧ Below wr.heap.size wr W) (hb : Below W.heap.size W w') : w'.cell? p = some x ∧ Below wr.heap.size wr w' := sk_step h.1 h.2 hb
theorem sk_start {wr : World} {p : Addr} {x : Value} (h1 : wr.cell? p = some x) : wr.drew.cell? p = some x ∧ Below wr.heap.size wr wr.drew := ⟨h1, (Below.refl _ _).drew⟩
set_option maxHeartbeats 1000000 in
/-- heldStringS: each string of the row is its mark still. -/
theorem held_row (g cap : Nat) (xs : List ByteArray) (w : World) (hr0 : RdS w g 0 (mks xs xs.length)) (hn0 : xs.length ≤ 5000) :
    Calls Try.prog 20 #[.slice (some ⟨g, 0, none⟩) xs.length cap, .int .i64 1] w fun e w' => e = .returned (.int .i64 (xs.length + 1)) ∧ Below w.heap.size w w' := by
  have HR0 := Lib.hid hr0
  clear hr0
  obtain ⟨n, hn⟩ : ∃ n, n = xs.length := ⟨_, rfl⟩
  have HN := Lib.hid hn
  rw [← hn] at HR0 hn0 ⊢
  clear hn
  go_enter Try.func20, Try.ntmps20
  go_wp2
  go_loopw [1, 5] (fun a b wr => ∃ i : Nat, i ≤ n ∧ a = .int .i64 ((i : Int) + 1) ∧ b = .int .i64 i ∧ Below w.heap.size w wr) (fun _ b _ => n - (intOf b).toNat)
  case atStart => exact ⟨0, Nat.zero_le _, rfl, rfl, Below.refl _ _⟩
  case round =>
    obtain ⟨i, hi, rfl, rfl, hb⟩ := hrel
    by_cases hlt : i < n
    · have hcell : wr.cell? ⟨g, i, none⟩ = some (.string (mt (i + 1))) := by
        have := (RdS.below HR0.out hb) i (mt (i + 1)) (mks_at xs hlt)
        rwa [Nat.zero_add] at this
      have HB := Lib.hid hb
      have HC := Lib.hid (fun W => mark_call (v := (i : Int) + 1) (k0 := i + 1) (by omega) (by omega) (by omega) W)
      have hi1 : (i : Int) < n := by omega
      have hi0 : 0 ≤ (i : Int) := by omega
      clear hb HR0
      go_wp2_with fail
      go_region_held3 (fun W => W.cell? ⟨g, i, none⟩ = some (.string (mt (i + 1))) ∧ Below wr.heap.size wr W) (first | exact sk_start ‹_› | (refine sk_step2 ?_ (by assumption); assumption) | go_keep) (first | (go_at_call 34; refine (HC.out _).mono ?_; rintro e w' ⟨rfl, hb'⟩))
      rename_i hH
      have HX := Lib.hid (HB.out.trans (hH.2.mono HB.out.size))
      clear hH hb'
      go_wp2
      go_roundw
      case rel => exact ⟨i + 1, by omega, by go_num, by go_num, HX.out⟩
      case measure => simp [intOf]; omega
    · obtain rfl : i = n := by omega
      have HB := Lib.hid hb
      clear hb HR0
      go_wp2
      go_ret
      exact ⟨rfl, HB.out⟩
end Go.Proofs.Ytgogacgmphpaoaa
