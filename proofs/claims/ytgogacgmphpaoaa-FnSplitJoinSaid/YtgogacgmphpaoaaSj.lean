/-
  PROVED HERE: for every slice of bytes the law FnSplitJoin returns true and leaves its argument as it was. No condition.
  The frame around the walk is laid by a small program of the prover's own, after the guide's template.
-/
import Derived.Test.YtgogacgmphpaoaaRows
import Derived.WalkKit
import Derived.ProofKit
import Derived.OpenShut
import Derived.ShutString
import Derived.ChangeOld
import Derived.Below
import Derived.Lib.Hide
import Derived.WalkSpells
import Derived.Test.YtgogacgmphpaoaaIs
import Derived.Test.YtgogacgmphpaoaaJw
import Derived.Test.YtgogacgmphpaoaaRt
import Derived.Test.YtgogacgmphpaoaaDr
namespace Go.Proofs.Ytgogacgmphpaoaa.fnSplitJoin
open Go.ChangeShapes Go.WideShapes Go.ChangeAt Go.RowKit
open Go.ChangeMaps (open_string shut_string)
set_option linter.unusedVariables false
theorem own : ownKnob Try.prog.godebug = none := by kernel_rfl
theorem laidOut : laidOutB Try.prog = true := by kernel_rfl
theorem less_asym : ∀ x y : List UInt8, Op.bytesLess x y = true → Op.bytesLess y x = false
  | [], [], h => by simp [Op.bytesLess] at h
  | _ :: _, [], h => by simp [Op.bytesLess] at h
  | [], _ :: _, _ => by simp [Op.bytesLess]
  | a :: x, b :: y, h => by
    simp only [Op.bytesLess, Bool.or_eq_true, Bool.and_eq_true, decide_eq_true_eq, beq_iff_eq] at h
    simp only [Op.bytesLess, Bool.or_eq_false_iff, Bool.and_eq_false_iff, decide_eq_false_iff_not]
    rcases h with h | ⟨rfl, h⟩
    · have h1 : a.toNat < b.toNat := UInt8.lt_iff_toNat_lt.1 h
      refine ⟨fun h2 => ?_, .inl ?_⟩
      · have h2' : b.toNat < a.toNat := UInt8.lt_iff_toNat_lt.1 h2
        omega
      · rw [beq_eq_false_iff_ne]
        intro e
        rw [e] at h1
        omega
    · exact ⟨fun h2 => by have h2' : a.toNat < a.toNat := UInt8.lt_iff_toNat_lt.1 h2; omega, .inr (less_asym x y h)⟩
theorem implLess {a b : ByteArray} {r : Bool} (h : Op.bytesLess a.toList b.toList = r) (w : World) : Calls Try.prog 15 #[.string a, .string b] w fun e w' => e = .returned (.bool r) ∧ w = w' := by
  subst h
  go_enter Try.func15, Try.ntmps15
  go_wp2
  go_ret
  exact ⟨rfl, rfl⟩
theorem specLess {a b : ByteArray} {r : Bool} (h : Op.bytesLess a.toList b.toList = r) (w : World) : Calls Try.prog 16 #[.string a, .string b] w fun e w' => e = .returned (.bool r) ∧ w = w' := by
  subst h
  go_enter Try.func16, Try.ntmps16
  go_wp2
  go_ret
  exact ⟨rfl, rfl⟩
theorem vBig_no (A : Option Addr) (len cap : Nat) (h : len ≤ 65536) (w : World) : Calls Try.prog 8 #[.slice A len cap] w fun e w' => e = .returned (.bool false) ∧ w = w' := by
  have hd : decide (65536 < (len : Int)) = false := by simp; omega
  go_enter Try.func8, Try.ntmps8
  go_wp2
  go_ret
  exact ⟨rfl, rfl⟩
theorem vBig_yes (A : Option Addr) (len cap : Nat) (h : 65536 < len) (hl : len ≤ maxLen) (w : World) : Calls Try.prog 8 #[.slice A len cap] w fun e w' => e = .returned (.bool true) ∧ w = w' := by
  unfold maxLen at hl
  have hd : decide (65536 < (len : Int)) = true := by simp; omega
  go_enter Try.func8, Try.ntmps8
  go_wp2
  go_ret
  exact ⟨rfl, rfl⟩
theorem own_cap {w : World} {base e size g n cap : Nat} {xs : List Value} (h : w.ownsRow base e size (.slice (some ⟨g, 0, none⟩) n cap) n xs) : n ≤ cap := by
  rcases h.2 with ⟨h', _⟩ | ⟨g', cap', cur, h', _, _, hnc, _⟩
  · simp at h'
  · simp only [Value.slice.injEq, Option.some.injEq, Addr.mk.injEq, and_true, true_and] at h'
    obtain ⟨rfl, rfl⟩ := h'
    exact hnc
theorem below_drewN {B : Nat} {a w : World} (h : Below B a w) (n : Nat) : Below B a (w.drewN n) := ⟨h.os, h.tape, h.output, h.size, h.block⟩
/-- Both JoinStrings say the same of a list in memory. -/
theorem join_pair (g cap : Nat) (xs : List ByteArray) (y : ByteArray) (w : World) (hr : RdS w g 0 xs) (hg : g < w.heap.size) (hs : ∀ x ∈ xs, x.size ≤ 1048576) (hl : xs.length ≤ 1048576) (hc : xs.length ≤ cap) (hy : y.size ≤ 1048576) :
    ∃ res b, (Calls Try.prog 12 #[.slice (some ⟨g, 0, none⟩) xs.length cap, .string y] w fun e w' => e = .returned (.tuple #[.string res, .bool b]) ∧ Below w.heap.size w w') ∧
      (∀ W, Below w.heap.size w W → Calls Try.prog 13 #[.slice (some ⟨g, 0, none⟩) xs.length cap, .string y] W fun e w' => e = .returned (.tuple #[.string res, .bool b]) ∧ Below W.heap.size W w') := by
  by_cases h : 0 < xs.length ∧ y.size = 1
  · obtain ⟨hp, h1⟩ := h
    obtain ⟨c, hcc⟩ : ∃ c, c = y[0]'(by omega) := ⟨_, rfl⟩
    refine ⟨_, _, implJ_any g 0 cap xs c w hr hg hs hl hc hp y h1 hcc, fun W hb => (specJ_any g 0 cap xs c W (hr.below hb) hs hl hp y h1 hcc).mono fun e w' ⟨he, k, hk⟩ => ⟨he, by rw [hk]; exact below_drewN (Below.refl _ _) k⟩⟩
  · have h' : xs.length = 0 ∨ y.size ≠ 1 := by omega
    exact ⟨⟨#[]⟩, false, (implJ_no _ xs.length cap y w h' hl hy).mono fun e w' ⟨he, hw⟩ => ⟨he, hw ▸ Below.refl _ _⟩, fun W _ => (specJ_no _ xs.length cap y W h' hl hy).mono fun e w' ⟨he, hw⟩ => ⟨he, hw ▸ Below.refl _ _⟩⟩
set_option maxHeartbeats 4000000 in
theorem core (A : Option Addr) (len cap : Nat) (zs : List Int) (w : World) (hcode0 : CodeIn w w.heap.size A len zs) (hl : len ≤ 65536) :
    Calls Try.prog 3 #[.slice A len cap] w fun e w' => e = .returned (.bool true) ∧ Below w.heap.size w w' := by
  have hcode := Lib.hid hcode0
  clear hcode0
  go_enter Try.func3, Try.ntmps3
  go_wp2_with fail
  refine (vBig_no A len cap hl w).mono ?_
  rintro e w' ⟨rfl, rfl⟩
  go_wp2_with fail
  refine (drawSplit w.heap.size A len cap zs w hcode.out (Nat.le_refl _) hl).mono ?_
  rintro e w1 ⟨s, sp, hs, hsp, rfl, hb1⟩
  have HB1 := Lib.hid hb1
  clear hb1
  by_cases hone : sp.size = 1
  · obtain ⟨c, hc0⟩ : ∃ c, c = sp[0]'(by omega) := ⟨_, rfl⟩
    have hc := Lib.hid hc0
    clear hc0
    go_wp2_with fail
    refine (implS_yes s sp c (by omega) hone hc.out w1).mono ?_
    rintro e w2 ⟨g, cap1, rfl, hown2, hg2, hb2⟩
    have RL2 := Lib.hid (RdS.of_own hown2 rfl)
    have GL2 := Lib.hid (own_lt hown2)
    have GC2 := Lib.hid (own_cap hown2)
    have HB2 := Lib.hid (HB1.out.trans (hb2.mono HB1.out.size))
    clear hown2 hb2
    go_wp2_with fail
    refine (drawJoin w.heap.size A len cap zs w2 (hcode.out.below HB2.out) HB2.out.size hl).mono ?_
    rintro e w3 ⟨g2, cap2, xs, y, rfl, hown3, hxl, hxs, hy, hb3⟩
    have HR3 := Lib.hid (RdS.of_own hown3 rfl)
    have HG3 := Lib.hid (own_lt hown3)
    have HC3 := Lib.hid (own_cap hown3)
    have HXS := Lib.hid hxs
    have HB3 := Lib.hid (HB2.out.trans (hb3.mono HB2.out.size))
    have RL3 := Lib.hid (RL2.out.below hb3)
    have GL3 := Lib.hid (Nat.lt_of_lt_of_le GL2.out hb3.size)
    obtain ⟨res, b, hI, hS⟩ := join_pair g2 cap2 xs y w3 HR3.out HG3.out (fun x hx => Nat.le_trans (HXS.out x hx) (by omega)) (by omega) HC3.out (by omega)
    have HI := Lib.hid hI
    have HS := Lib.hid hS
    clear hI hS hown3 hxs hb3
    go_wp2_with fail
    refine HI.out.mono ?_
    rintro e w4 ⟨rfl, hb4⟩
    have HB4' := Lib.hid hb4
    have HB4 := Lib.hid (HB3.out.trans (hb4.mono HB3.out.size))
    clear hb4
    go_wp2_with fail
    refine (HS.out w4 HB4'.out).mono ?_
    rintro e w5 ⟨rfl, hb5⟩
    have HB5' := Lib.hid hb5
    have HB5 := Lib.hid (HB4.out.trans (hb5.mono HB4.out.size))
    clear hb5
    go_wp2_with fail
    refine (drawLess w.heap.size A len cap zs w5 (hcode.out.below HB5.out) HB5.out.size hl).mono ?_
    rintro e w6 ⟨a, b2, _, _, rfl, hb6⟩
    have HB6' := Lib.hid hb6
    have HB6 := Lib.hid (HB5.out.trans (hb6.mono HB5.out.size))
    clear hb6
    cases hless : Op.bytesLess a.toList b2.toList
    all_goals
      have HL1 := Lib.hid (fun W => implLess hless W)
      have HL2 := Lib.hid (fun W => specLess hless W)
      have HL3 := Lib.hid (fun (h : Op.bytesLess a.toList b2.toList = true) W => implLess (less_asym _ _ h) W)
      have HLS := Lib.hid hless
      clear hless
    · go_wp2_with fail
      refine (HL1.out _).mono ?_
      rintro e w' ⟨rfl, rfl⟩
      go_wp2_with fail
      refine (HL2.out _).mono ?_
      rintro e w' ⟨rfl, rfl⟩
      go_wp2_with fail
      refine (HL1.out _).mono ?_
      rintro e w' ⟨rfl, rfl⟩
      go_wp2_with fail
      have RL6 := ((RL3.out.below HB4'.out).below HB5'.out).below HB6'.out
      refine (implJ_any g 0 cap1 (parts s c) c w6 RL6 (Nat.lt_of_lt_of_le GL3.out (Nat.le_trans HB4'.out.size (Nat.le_trans HB5'.out.size HB6'.out.size))) (fun x hx => Nat.le_trans (parts_size s c (by omega) x hx) (by omega)) (by have := parts_len s c; omega) GC2.out (parts_pos s c) sp hone hc.out).mono ?_
      rintro e w7 ⟨he, hb7⟩
      rw [JRes_yes (can_parts s c (by omega)), jn_parts] at he
      subst he
      have HB7 := Lib.hid (HB6.out.trans (hb7.mono HB6.out.size))
      clear RL6 hb7
      go_wp2_with fail
      go_ret
      exact ⟨rfl, HB7.out⟩
    · go_wp2_with fail
      refine (HL1.out _).mono ?_
      rintro e w' ⟨rfl, rfl⟩
      go_wp2_with fail
      refine (HL2.out _).mono ?_
      rintro e w' ⟨rfl, rfl⟩
      go_wp2_with fail
      refine (HL1.out _).mono ?_
      rintro e w' ⟨rfl, rfl⟩
      go_wp2_with fail
      refine (HL3.out HLS.out _).mono ?_
      rintro e w' ⟨rfl, rfl⟩
      go_wp2_with fail
      have RL6 := ((RL3.out.below HB4'.out).below HB5'.out).below HB6'.out
      refine (implJ_any g 0 cap1 (parts s c) c w6 RL6 (Nat.lt_of_lt_of_le GL3.out (Nat.le_trans HB4'.out.size (Nat.le_trans HB5'.out.size HB6'.out.size))) (fun x hx => Nat.le_trans (parts_size s c (by omega) x hx) (by omega)) (by have := parts_len s c; omega) GC2.out (parts_pos s c) sp hone hc.out).mono ?_
      rintro e w7 ⟨he, hb7⟩
      rw [JRes_yes (can_parts s c (by omega)), jn_parts] at he
      subst he
      have HB7 := Lib.hid (HB6.out.trans (hb7.mono HB6.out.size))
      clear RL6 hb7
      go_wp2_with fail
      go_ret
      exact ⟨rfl, HB7.out⟩
  · have hne1 : ((sp.size : Int) == 1) = false := by rw [beq_eq_false_iff_ne]; omega
    have hne2 : ((sp.size : Int) != 1) = true := by rw [bne, hne1]; rfl
    go_wp2_with fail
    refine (implS_no s sp (.inr hone) (by omega) (by omega) w1).mono ?_
    rintro e w2 ⟨g, cap1, rfl, hown2, hg2, hb2⟩
    have HB2 := Lib.hid (HB1.out.trans (hb2.mono HB1.out.size))
    clear hown2 hb2 hone
    go_wp2_with fail
    refine (drawJoin w.heap.size A len cap zs w2 (hcode.out.below HB2.out) HB2.out.size hl).mono ?_
    rintro e w3 ⟨g2, cap2, xs, y, rfl, hown3, hxl, hxs, hy, hb3⟩
    have HR3 := Lib.hid (RdS.of_own hown3 rfl)
    have HG3 := Lib.hid (own_lt hown3)
    have HC3 := Lib.hid (own_cap hown3)
    have HXS := Lib.hid hxs
    have HB3 := Lib.hid (HB2.out.trans (hb3.mono HB2.out.size))
    obtain ⟨res, b, hI, hS⟩ := join_pair g2 cap2 xs y w3 HR3.out HG3.out (fun x hx => Nat.le_trans (HXS.out x hx) (by omega)) (by omega) HC3.out (by omega)
    have HI := Lib.hid hI
    have HS := Lib.hid hS
    clear hI hS hown3 hxs hb3
    go_wp2_with fail
    refine HI.out.mono ?_
    rintro e w4 ⟨rfl, hb4⟩
    have HB4' := Lib.hid hb4
    have HB4 := Lib.hid (HB3.out.trans (hb4.mono HB3.out.size))
    clear hb4
    go_wp2_with fail
    refine (HS.out w4 HB4'.out).mono ?_
    rintro e w5 ⟨rfl, hb5⟩
    have HB5' := Lib.hid hb5
    have HB5 := Lib.hid (HB4.out.trans (hb5.mono HB4.out.size))
    clear hb5
    go_wp2_with fail
    refine (drawLess w.heap.size A len cap zs w5 (hcode.out.below HB5.out) HB5.out.size hl).mono ?_
    rintro e w6 ⟨a, b2, _, _, rfl, hb6⟩
    have HB6' := Lib.hid hb6
    have HB6 := Lib.hid (HB5.out.trans (hb6.mono HB5.out.size))
    clear hb6
    cases hless : Op.bytesLess a.toList b2.toList
    all_goals
      have HL1 := Lib.hid (fun W => implLess hless W)
      have HL2 := Lib.hid (fun W => specLess hless W)
      have HL3 := Lib.hid (fun (h : Op.bytesLess a.toList b2.toList = true) W => implLess (less_asym _ _ h) W)
      have HLS := Lib.hid hless
      clear hless
    · go_wp2_with fail
      refine (HL1.out _).mono ?_
      rintro e w' ⟨rfl, rfl⟩
      go_wp2_with fail
      refine (HL2.out _).mono ?_
      rintro e w' ⟨rfl, rfl⟩
      go_wp2_with fail
      refine (HL1.out _).mono ?_
      rintro e w' ⟨rfl, rfl⟩
      go_wp2_with fail
      go_ret
      exact ⟨rfl, HB6.out⟩
    · go_wp2_with fail
      refine (HL1.out _).mono ?_
      rintro e w' ⟨rfl, rfl⟩
      go_wp2_with fail
      refine (HL2.out _).mono ?_
      rintro e w' ⟨rfl, rfl⟩
      go_wp2_with fail
      refine (HL1.out _).mono ?_
      rintro e w' ⟨rfl, rfl⟩
      go_wp2_with fail
      refine (HL3.out HLS.out _).mono ?_
      rintro e w' ⟨rfl, rfl⟩
      go_wp2_with fail
      go_ret
      exact ⟨rfl, HB6.out⟩
/-- A slice of integers that came in: nil, or a row of 'cap' cells. -/
def IsRow (k : IntKind) (w : World) (a : Option Addr) (len cap : Nat) (zs : List Int) : Prop :=
  (a = none ∧ len = 0 ∧ cap = 0 ∧ zs = []) ∨
  ∃ x, a = some x ∧ len ≤ cap ∧ cap ≤ maxLen ∧ zs.length = cap ∧ (∀ i, i < zs.length → w.cell? (x.add i) = some (.int k (zs.getD i 0))) ∧ ∀ n ∈ zs, (Lit.int k n).wf = true
theorem code_of {w : World} {A : Option Addr} {len cap : Nat} {zs : List Int} (h : IsRow .u8 w A len cap zs) : CodeIn w w.heap.size A len zs := fun k hk => by
  rcases h with ⟨_, h, _⟩ | ⟨x, rfl, hl, hm, hz, hc, hw⟩
  · omega
  · obtain ⟨b, off, spot⟩ := x
    have hspot : spot = none := by simpa [Addr.add] using World.cell?_spot (hc 0 (by omega))
    subst hspot
    have h1 := hc k (by omega)
    rw [Go.WideShapes.add_plain] at h1
    have hmem : zs.getD k 0 ∈ zs := by
      rw [List.getD_eq_getElem?_getD, List.getElem?_eq_getElem (by omega)]; exact List.getElem_mem _
    have hb := bounds_u8 (hw _ hmem)
    exact ⟨b, off, rfl, blk_lt h1, h1, hb.1, hb.2⟩
theorem row_max {w : World} {A : Option Addr} {len cap : Nat} {zs : List Int} (h : IsRow .u8 w A len cap zs) : len ≤ maxLen := by
  rcases h with ⟨_, h, _⟩ | ⟨x, rfl, hl, hm, _⟩
  · rw [h]; exact Nat.zero_le _
  · exact Nat.le_trans hl hm

theorem walk (w : World) (a0 : Option Addr) (len0 cap0 : Nat) (z0 : List Int) (w0 : IsRow .u8 w a0 len0 cap0 z0)  :
    Calls Try.prog 3 #[.slice a0 len0 cap0] w fun e w' => e = .returned (.bool true) ∧ Below w.heap.size w w' := by
  by_cases hl : len0 ≤ 65536
  · exact core a0 len0 cap0 z0 w (code_of w0) hl
  · have hm := row_max w0
    clear w0
    have HV := Lib.hid (vBig_yes a0 len0 cap0 (by omega) hm w)
    clear hm hl
    go_enter Try.func3, Try.ntmps3
    go_wp2_with fail
    refine HV.out.mono ?_
    rintro e w' ⟨rfl, rfl⟩
    go_wp2_with fail
    go_ret
    exact ⟨rfl, Below.refl _ _⟩
set_option maxRecDepth 100000 in
theorem lifted (os : Os) (started : os.Started) (H : Type) (enc : TypeId × Value → H) :
    ReturnsInHanded {} Try.checked os 3 .any (Rows.fnSplitJoinSpec.pre6 enc Try.prog Try.f3 Rows.fnSplitJoinRow.domain false) (Rows.fnSplitJoinSpec.post enc Try.prog Try.f3 false true false false) := by
  refine returnsInHanded_of_change (C := Try.checked) own started (by kernel_rfl) Try.func3
    (ChangeSpec.witness6 (enc := enc) (C := Try.checked) false ⟨#[], #[.slice none 0 0], []⟩ 8 (by kernel_rfl) (by kernel_rfl) (by kernel_rfl) (by kernel_rfl)) ?_
  intro W base args ds gs before hval0 hW hcnd _
  have hval : ∀ (j : Nat) t v, Try.f3.params[j]? = some t → args[j]? = some v → Value.okWide Try.prog W .any base t v := hval0
  have hW' := hW
  obtain ⟨p, q, hA0, hV, rfl, hfz, hnd⟩ := hW
  have hA : DataW.TrodAll enc Try.prog W 0 (fun _ => true) true Try.f3.params.toList args.toList ds p := hA0
  rw [Try.params3] at hA hval
  obtain ⟨v0, vs0, d0, ds0, p0, q0, hargs, rfl, rfl, h0, r0⟩ := trodAll_cons hA
  obtain ⟨rfl, rfl, rfl⟩ := trodAll_nil r0
  obtain rfl : args = #[v0] := by cases args; simp_all
  obtain ⟨rfl, rfl⟩ := trodVars_none hV
  have k0 := h0
  have lt0 : ∀ x ∈ p0, x.block < W.heap.size := by obtain ⟨m, hm⟩ := k0; exact DataW.trod_lt m _ _ _ hm
  obtain ⟨a0, len0, cap0, rfl⟩ := okWide_slice Try.underlying22 (hval 0 22 v0 rfl rfl)
  obtain ⟨z0, w0⟩ : ∃ zs, IsRow .u8 W a0 len0 cap0 zs := by
    obtain ⟨fuel, hf⟩ := h0
    rcases open_ints Try.underlying22 Try.underlying5 (by kernel_rfl) hf with ⟨hcs, _⟩ | ⟨x, l, c, zs, hcs, _, hl, hm, hz, _, hcell, hwz⟩
    · simp [Value.cells] at hcs
      obtain ⟨rfl, rfl, rfl⟩ := hcs
      exact ⟨[], .inl ⟨rfl, rfl, rfl, rfl⟩⟩
    · simp [Value.cells] at hcs
      obtain ⟨rfl, rfl, rfl⟩ := hcs
      exact ⟨zs, .inr ⟨_, rfl, hl, hm, by simpa using hz, hcell, hwz⟩⟩
  clear hA0 hval0
  refine (walk W a0 len0 cap0 z0 w0 ).mono fun e W' ⟨he, bel⟩ => ?_
  subst he
  exact ⟨_, rfl, _, _, _, [], _, [], hW', trodAll_mk1 (shut_bool Try.underlying4 _), (trodAll_cons_mk (Below.trod laidOut (by kernel_rfl) (of_decide_eq_true (by kernel_rfl)) k0 bel lt0) (trodAll_mk0)), rfl, bel.frame _, fun h => by cases h⟩
theorem over : Rows.fnSplitJoinRow.holds Try.pinned (OpenSpec.ofChange Rows.fnSplitJoinSpec) :=
  OpenClaim.holds_of_wide 3 Try.f3 rfl rfl rfl rfl rfl rfl rfl ⟨rfl, rfl, rfl, rfl, rfl⟩ rfl rfl rfl rfl rfl (by kernel_rfl) Try.func3 (by kernel_rfl)
    (of_decide_eq_true (by kernel_rfl)) (by unfold Func.isWrapper; first | (rw [if_pos (by decide +kernel)]; kernel_rfl) | (rw [if_neg (by decide +kernel)]; exact ⟨rfl, rfl⟩))
    (fun os started H enc _ => lifted os started H enc)
theorem proved : Rows.FnSplitJoinSaid := over
#print axioms proved
end Go.Proofs.Ytgogacgmphpaoaa.fnSplitJoin
