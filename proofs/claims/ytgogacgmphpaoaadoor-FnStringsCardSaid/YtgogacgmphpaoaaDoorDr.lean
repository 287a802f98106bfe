/- CONTRACTS: what the model draws for the strings' first law: a number, texts; bytes of the code. -/
import Derived.Test.YtgogacgmphpaoaaDoorCu
import Derived.Test.YtgogacgmphpaoaaDoorRd
namespace Go.Proofs.YtgogacgmphpaoaaDoor
open Go.ChangeShapes Go.WideShapes Go.ChangeAt Go.RowKit
set_option linter.unusedVariables false
/-- A number within bounds, and the cursor behind it. -/
def InPost (B g : Nat) (A : Option Addr) (len cap : Nat) (zs : List Int) (m : Int) (w : World) (e : Ending) (w' : World) : Prop := ∃ n : Int, -1000000 ≤ n ∧ n ≤ 1000000 ∧ e = .returned (.int .i64 n) ∧ CuTo B g A len cap zs m w w'
theorem ri_new (w : World) (xs : List Int) : ∀ (j : Nat) x, xs[j]? = some x → (w.alloc (.cells (xs.map (Value.int .i64)).toArray 3)).cell? ⟨w.heap.size, j, none⟩ = some (.int .i64 x) := fun j x hx => by
  rw [World.cell?_alloc_at _ _ _ _ rfl]
  simp [hx]
set_option maxHeartbeats 400000 in
theorem among_any (xs : List Int) (hS : ∀ x ∈ xs, -1000000 ≤ x ∧ x ≤ 1000000) (hx0 : 0 < xs.length) (hx1 : xs.length ≤ 100) {cs : Array Value} (hcs : cs = (xs.map (Value.int .i64)).toArray) {n0 c2 : Nat} (hn0 : n0 = xs.length) {B g : Nat} {A : Option Addr} {len cap : Nat} {zs : List Int} {m : Int} {w : World} (h : Cu w B g A len cap zs m) (hm : m ≤ 900000) :
    Calls Tryd.prog 21 #[.pointer (some ⟨g, 0, none⟩), .slice (some ⟨w.heap.size, 0, none⟩) n0 c2] (w.alloc (.cells cs 3)) fun e w' => InPost B g A len cap zs (m + 2) w e w' := by
  subst hcs
  have hg := h.glt
  have hne : w.heap.size ≠ g := by omega
  have H := Lib.hid (pick_any (n0 : Int) B g A len cap zs m _ (h.alloc (.cells (xs.map (Value.int .i64)).toArray 3)) hm (by omega) (by omega))
  have HL := Lib.hid (ri_new w xs)
  have HN := Lib.hid hn0
  have HS := Lib.hid hS
  rw [← hn0] at hx0 hx1
  obtain ⟨W, hW⟩ : ∃ W, W = w.alloc (.cells (xs.map (Value.int .i64)).toArray 3) := ⟨_, rfl⟩
  have HW := Lib.hid hW
  rw [← hW] at H HL ⊢
  clear h hn0 hS hW
  go_enter Tryd.func21, Tryd.ntmps21
  go_wp2_with fail
  refine H.out.mono ?_
  rintro e w1 ⟨r, rfl, hr0, hr1, hc⟩
  obtain ⟨k, rfl⟩ : ∃ k : Nat, r = k := ⟨r.toNat, by omega⟩
  have hk : k < n0 := by omega
  obtain ⟨x, hx⟩ : ∃ x, xs[k]? = some x := ⟨xs[k]'(by rw [← HN.out]; exact hk), List.getElem?_eq_getElem _⟩
  have hcell : w1.cell? ⟨w.heap.size, k, none⟩ = some (.int .i64 x) := by
    have h1 := HL.out k x hx
    rw [World.cell?_of_block (w := W) (hc.2.block w.heap.size (blk_lt h1) (fun e => by cases e; exact hne rfl))]
    exact h1
  have HX := Lib.hid (HS.out x (List.mem_of_getElem? hx))
  have HC := Lib.hid hc
  have hk1 : (k : Int) < n0 := by omega
  clear hc hx hr1
  go_wp2_with fail
  go_ret
  exact ⟨x, HX.out.1, HX.out.2, rfl, HC.out.1, g_trans (by rw [HW.out]; exact World.grownBy_alloc w _ (some g)) HC.out.2⟩
/-- A number, a text: drawn; of what was there nothing has turned. -/
def DfPost (w : World) (e : Ending) (w' : World) : Prop := ∃ n : Int, -1000000 ≤ n ∧ n ≤ 1000000 ∧ e = .returned (.int .i64 n) ∧ Below w.heap.size w w'
def DtPost (w : World) (e : Ending) (w' : World) : Prop := ∃ t : ByteArray, t.size ≤ 5000 ∧ e = .returned (.string t) ∧ Below w.heap.size w w'
set_option maxHeartbeats 1000000 in
theorem drawFormat (B : Nat) (A : Option Addr) (len cap : Nat) (zs : List Int) (w : World) (h : CodeIn w B A len zs) (hB : B ≤ w.heap.size) (hl : len ≤ 65536) :
    Calls Tryd.prog 9 #[.slice A len cap] w (DfPost w) := by
  have H := Lib.hid (cu_new (cap := cap) h hB hl)
  clear h hB
  go_enter Tryd.func9, Tryd.ntmps9
  go_wp2_with fail
  refine (pick_any 1000 B w.heap.size A len cap zs 0 _ H.out (by omega) (by omega) (by omega)).mono ?_
  rintro e w1 ⟨r, rfl, hr0, hr1, hc⟩
  have HC := Lib.hid hc
  have hr2 : r ≤ 999 := by omega
  clear hc hr1
  go_wp2_with fail
  refine (among_any [0, 1, -1, 10, 999999, -999999, 1000000, -1000000, r - 500] (by
    intro x hx
    simp only [List.mem_cons, List.not_mem_nil, or_false] at hx
    rcases hx with rfl | rfl | rfl | rfl | rfl | rfl | rfl | rfl | rfl <;> omega) (by simp) (by simp) rfl rfl HC.out.1 (by omega)).mono ?_
  rintro e w2 ⟨n, hn0, hn1, rfl, hc2⟩
  have HC2 := Lib.hid hc2
  clear hc2
  go_wp2_with fail
  go_ret
  exact ⟨n, hn0, hn1, rfl, below_g (g_trans HC.out.2 HC2.out.2)⟩
def numL : List ByteArray := [⟨#[]⟩, ⟨#[45]⟩, ⟨#[45, 48]⟩, ⟨#[48, 48]⟩, ⟨#[48, 49]⟩, ⟨#[45, 45, 49]⟩, ⟨#[49, 120]⟩, ⟨#[57, 57, 57, 57, 57, 57]⟩, ⟨#[49, 48, 48, 48, 48, 48, 48]⟩, ⟨#[45, 57, 57, 57, 57, 57, 57]⟩, ⟨#[49, 56, 52, 52, 54, 55, 52, 52, 48, 55, 51, 55, 48, 57, 53, 53, 49, 54, 49, 55]⟩]
theorem numL_size : ∀ x ∈ numL, x.size ≤ 5000 := by decide
set_option maxHeartbeats 1000000 in
theorem drawParse (B : Nat) (A : Option Addr) (len cap : Nat) (zs : List Int) (w : World) (h : CodeIn w B A len zs) (hB : B ≤ w.heap.size) (hl : len ≤ 65536) :
    Calls Tryd.prog 12 #[.slice A len cap] w (DtPost w) := by
  have H := Lib.hid (cu_new (cap := cap) h hB hl)
  clear h hB
  go_enter Tryd.func12, Tryd.ntmps12
  go_wp2_with fail
  refine (one_any 2 B w.heap.size A len cap zs 0 _ H.out (by omega) (by omega) (by omega)).mono ?_
  rintro e w1 ⟨b, rfl, hc⟩
  have HC := Lib.hid hc
  clear hc
  cases b with
  | true =>
    go_wp2_with fail
    refine (of_new (xs := numL) numL_size (by decide) (by decide) rfl rfl HC.out.1 (by omega)).mono ?_
    rintro e w2 ⟨y, hy, rfl, hc2⟩
    have HC2 := Lib.hid hc2
    clear hc2
    go_wp2_with fail
    go_ret
    exact ⟨y, hy, rfl, below_g (g_trans HC.out.2 HC2.out.2)⟩
  | false =>
    go_wp2_with fail
    refine (pick_any 2000 B w.heap.size A len cap zs _ _ HC.out.1 (by omega) (by omega) (by omega)).mono ?_
    rintro e w2 ⟨r, rfl, hr0, hr1, hc2⟩
    have HC2 := Lib.hid hc2
    have hr2 : r ≤ 1999 := by omega
    obtain ⟨t, ht⟩ : ∃ t : ByteArray, t = ⟨(Lib.itoa (r - 1000)).toArray⟩ := ⟨_, rfl⟩
    have HT := Lib.hid (show t.size ≤ 5000 by
      rw [ht]
      have := Lib.itoa_length_le (r - 1000) (by omega) (by omega)
      show (Lib.itoa (r - 1000)).toArray.size ≤ 5000
      simp; omega)
    have HN := Lib.hid (fun W => num_call (n := r - 1000) (by omega) (by omega) ht W)
    clear hc2 hr1 ht
    go_wp2_with fail
    refine (HN.out _).mono ?_
    rintro e w3 ⟨rfl, n3, rfl⟩
    go_wp2_with fail
    go_ret
    exact ⟨t, HT.out, rfl, below_drewN (below_g (g_trans HC.out.2 HC2.out.2)) n3⟩
set_option maxHeartbeats 2000000 in
theorem drawAppend (B : Nat) (A : Option Addr) (len cap : Nat) (zs : List Int) (w : World) (h : CodeIn w B A len zs) (hB : B ≤ w.heap.size) (hl : len ≤ 65536) :
    Calls Tryd.prog 15 #[.slice A len cap] w (DtPost w) := by
  obtain ⟨i5, hi5, hy0, hy1, hy2⟩ := info_parts Tryd.info5
  have H := Lib.hid (cu_new (cap := cap) h hB hl)
  clear h hB
  go_enter Tryd.func15, Tryd.ntmps15
  go_wp2_with fail
  refine (one_any 20 B w.heap.size A len cap zs 0 _ H.out (by omega) (by omega) (by omega)).mono ?_
  rintro e w1 ⟨b, rfl, hc⟩
  have HC := Lib.hid hc
  clear hc
  cases b with
  | true =>
    go_wp2_with fail
    refine (pick_any 10 B w.heap.size A len cap zs _ _ HC.out.1 (by omega) (by omega) (by omega)).mono ?_
    rintro e w2 ⟨r, rfl, hr0, hr1, hc2⟩
    obtain ⟨q, rfl⟩ : ∃ q : Nat, r = q := ⟨r.toNat, by omega⟩
    have hq : q ≤ 9 := by omega
    have HB2 := Lib.hid (below_g (g_trans HC.out.2 hc2.2))
    have hs2 : w.heap.size ≤ w2.heap.size := HB2.out.size
    clear hc2 hr0 hr1
    go_wp2_with (at_make; refine wpList_make_full _ rfl _ _ 22 rfl w2.heap.size 5 i5 (.int .u8 0) 1 Tryd.underlying22 hi5 hy0 hy1 .i64 .i64 _ _ (3990 + q) rfl rfl (by omega) (by omega) (by rw [hy2]; omega) (by unfold maxLen; omega) (by omega) ?_; intro w5 hown5 hgrow5; have hcv := zeros_text hown5; have HB5 := Lib.hid (HB2.out.grown hgrow5 hs2 (fun k e => by cases e)); clear hown5 hgrow5)
    go_ret
    exact ⟨_, zeros_size (by omega), rfl, HB5.out⟩
  | false =>
    go_wp2_with fail
    refine (any1_any B w.heap.size A len cap zs _ _ HC.out.1 (by omega)).mono ?_
    rintro e w2 ⟨x, hx, rfl, hc2⟩
    have HC2 := Lib.hid hc2
    clear hc2
    go_wp2_with fail
    go_ret
    exact ⟨x, by omega, rfl, below_g (g_trans HC.out.2 HC2.out.2)⟩
theorem vBig_no (A : Option Addr) (len cap : Nat) (h : len ≤ 65536) (w : World) : Calls Tryd.prog 8 #[.slice A len cap] w fun e w' => e = .returned (.bool false) ∧ w = w' := by
  have hd : decide (65536 < (len : Int)) = false := by simp; omega
  go_enter Tryd.func8, Tryd.ntmps8
  go_wp2
  go_ret
  exact ⟨rfl, rfl⟩
theorem vBig_yes (A : Option Addr) (len cap : Nat) (h : 65536 < len) (hl : len ≤ maxLen) (w : World) : Calls Tryd.prog 8 #[.slice A len cap] w fun e w' => e = .returned (.bool true) ∧ w = w' := by
  unfold maxLen at hl
  have hd : decide (65536 < (len : Int)) = true := by simp; omega
  go_enter Tryd.func8, Tryd.ntmps8
  go_wp2
  go_ret
  exact ⟨rfl, rfl⟩
/-- A byte of the code, or what stands for one. -/
def VaPost (v : Int) (w : World) (e : Ending) (w' : World) : Prop := e = .returned (.int .i64 v) ∧ w' = w
theorem vAt_any (B : Nat) (A : Option Addr) (len cap : Nat) (zs : List Int) (i : Nat) (hi : i ≤ 100) (hl : len ≤ 65536) : ∃ v : Int, 0 ≤ v ∧ v ≤ 255 ∧ ∀ w, CodeIn w B A len zs → Calls Tryd.prog 19 #[.slice A len cap, .int .i64 (i : Int)] w (VaPost v w) := by
  by_cases h : i < len
  · by_cases hz : 0 ≤ zs.getD i 0 ∧ zs.getD i 0 ≤ 255
    · refine ⟨zs.getD i 0, hz.1, hz.2, fun w hc => ?_⟩
      obtain ⟨b, o, rfl, hb, hcell, h0, h1⟩ := hc i h
      obtain ⟨z, hz'⟩ : ∃ z, z = zs.getD i 0 := ⟨_, rfl⟩
      rw [← hz'] at hcell h0 h1 ⊢
      clear hc hz hz'
      have hi1 : (i : Int) < len := by omega
      go_enter Tryd.func19, Tryd.ntmps19
      go_wp2_with fail
      go_ret
      exact ⟨rfl, rfl⟩
    · refine ⟨0, by omega, by omega, fun w hc => ?_⟩
      obtain ⟨b, o, _, _, _, h0, h1⟩ := hc i h
      exact absurd ⟨h0, h1⟩ hz
  · refine ⟨((i : Int) * 7 + len) % 256, by omega, by omega, fun w _ => ?_⟩
    have hi1 : ¬ (i : Int) < len := by omega
    go_enter Tryd.func19, Tryd.ntmps19
    go_wp2_with fail
    go_ret
    exact ⟨rfl, rfl⟩
end Go.Proofs.YtgogacgmphpaoaaDoor
