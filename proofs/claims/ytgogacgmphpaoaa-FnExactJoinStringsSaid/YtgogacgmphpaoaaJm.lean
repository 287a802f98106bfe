/-
  PROVED HERE: for every slice of strings and every string the law FnExactJoinStrings returns true and leaves its arguments as they were. No condition.
  The frame around the walk is laid by a small program of the prover's own, after the guide's template.
-/
import Derived.Test.YtgogacgmphpaoaaRows
import Derived.WalkKit
import Derived.ProofKit
import Derived.OpenShut
import Derived.ShutString
import Derived.ChangeOld
import Derived.Below
import Derived.Lib.Hide
import Derived.WalkSpells
import Derived.SliceStrings
import Derived.Test.YtgogacgmphpaoaaJw
namespace Go.Proofs.Ytgogacgmphpaoaa.fnExactJoinStrings
open Go.ChangeShapes Go.WideShapes Go.ChangeAt Go.RowKit
open Go.ChangeMaps (open_string shut_string)
set_option linter.unusedVariables false
theorem own : ownKnob Try.prog.godebug = none := by kernel_rfl
theorem laidOut : laidOutB Try.prog = true := by kernel_rfl
/-- A slice of strings that came in: nil, or a row of 'cap' cells. -/
def IsStrs (w : World) (a : Option Addr) (len cap : Nat) (zs : List ByteArray) : Prop :=
  (a = none ∧ len = 0 ∧ cap = 0 ∧ zs = []) ∨
  ∃ x, a = some x ∧ len ≤ cap ∧ cap ≤ maxLen ∧ zs.length = cap ∧ (∀ i, i < zs.length → w.cell? (x.add i) = some (.string (zs.getD i ByteArray.empty))) ∧ ∀ s ∈ zs, s.size ≤ maxLen
/-- Of such a slice: it is empty, or it leads to a row that holds its strings. -/
theorem IsStrs.view {w : World} {a : Option Addr} {len cap : Nat} {zs : List ByteArray} (h : IsStrs w a len cap zs) :
    len = 0 ∨ ∃ b o xs, a = some ⟨b, o, none⟩ ∧ xs.length = len ∧ 0 < xs.length ∧ len ≤ cap ∧ xs.length ≤ maxLen ∧ RdS w b o xs ∧ ∀ s ∈ xs, s.size ≤ maxLen := by
  rcases h with ⟨_, h, _⟩ | ⟨x, rfl, hl, hm, hz, hc, hs⟩
  · exact .inl h
  · rcases Nat.eq_zero_or_pos len with h0 | hp
    · exact .inl h0
    · right
      obtain ⟨b, off, spot⟩ := x
      have hspot : spot = none := by simpa [Addr.add] using World.cell?_spot (hc 0 (by omega))
      subst hspot
      refine ⟨b, off, zs.take len, rfl, by rw [List.length_take]; omega, by rw [List.length_take]; omega, hl, by rw [List.length_take]; omega, fun j x hx => ?_, fun s hs' => hs s (List.mem_of_mem_take hs')⟩
      have hj : j < (zs.take len).length := (List.getElem?_eq_some_iff.1 hx).1
      rw [List.length_take] at hj
      have := hc j (by omega)
      rw [Go.WideShapes.add_plain] at this
      rw [this]
      rw [List.getElem?_take, if_pos (by omega)] at hx
      simp [List.getD, hx]
/-- The law's own way, once it is known what each callee does. -/
theorem core (w : World) (a : Option Addr) (cap : Nat) (xs : List ByteArray) (sp res : ByteArray) (okb : Bool) (hsp : sp.size ≤ 1048576)
    (hZ0 : Calls Try.prog 21 #[.slice a xs.length cap, .int .i64 1048576] w (SzPost xs w))
    (hT0 : xs.length ≤ 1048576 → ∀ W, Below w.heap.size w W → Calls Try.prog 22 #[.slice a xs.length cap] W fun e w' => e = .returned (.slice (some ⟨W.heap.size, 0, none⟩) xs.length xs.length) ∧ Below W.heap.size W w' ∧ W.heap.size < w'.heap.size ∧ RdS w' W.heap.size 0 xs)
    (hS0 : xs.length ≤ 1048576 → (∀ x ∈ xs, x.size ≤ 1048576) → ∀ W b, RdS W b 0 xs → Calls Try.prog 13 #[.slice (some ⟨b, 0, none⟩) xs.length xs.length, .string sp] W fun e w' => e = .returned (.tuple #[.string res, .bool okb]) ∧ ∃ k, w' = W.drewN k)
    (hI0 : xs.length ≤ 1048576 → (∀ x ∈ xs, x.size ≤ 1048576) → ∀ W b, RdS W b 0 xs → b < W.heap.size → Calls Try.prog 12 #[.slice (some ⟨b, 0, none⟩) xs.length xs.length, .string sp] W fun e w' => e = .returned (.tuple #[.string res, .bool okb]) ∧ Below W.heap.size W w') :
    Calls Try.prog 5 #[.slice a xs.length cap, .string sp] w fun e w' => e = .returned (.bool true) ∧ Below w.heap.size w w' := by
  have hZ := Lib.hid hZ0
  have hT := Lib.hid hT0
  have hS := Lib.hid hS0
  have hI := Lib.hid hI0
  clear hZ0 hT0 hS0 hI0
  go_enter Try.func5, Try.ntmps5
  go_wp2_with fail
  refine hZ.out.mono ?_
  rintro e w' ⟨r, rfl, hr, rfl⟩
  have HR := Lib.hid hr
  clear hr hZ
  by_cases hneg : r < 0
  · go_wp2_with fail
    go_ret
    exact ⟨rfl, Below.refl _ _⟩
  · have hn := (HR.out (by omega)).1
    have HP := Lib.hid (HR.out (by omega)).2
    clear HR
    go_wp2_with fail
    refine (hT.out hn w (Below.refl _ _)).mono ?_
    rintro e w1 ⟨rfl, hb1, hlt1, hR1⟩
    have HB1 := Lib.hid hb1; have HR1 := Lib.hid hR1; clear hb1 hR1
    go_wp2_with fail
    refine (hS.out hn HP.out _ _ HR1.out).mono ?_
    rintro e w2 ⟨rfl, k2, hw2⟩
    have HB2 := Lib.hid (show Below w.heap.size w w2 by rw [hw2]; exact ⟨HB1.out.os, HB1.out.tape, HB1.out.output, HB1.out.size, HB1.out.block⟩)
    clear hw2 HR1 hlt1 HB1
    go_wp2_with fail
    refine (hT.out hn w2 HB2.out).mono ?_
    rintro e w3 ⟨rfl, hb3, hlt3, hR3⟩
    have HB3 := Lib.hid hb3; have HR3 := Lib.hid hR3; have HL3 := Lib.hid hlt3; clear hb3 hR3 hlt3
    go_wp2_with fail
    refine (hI.out hn HP.out _ _ HR3.out HL3.out).mono ?_
    rintro e w4 ⟨rfl, hb4⟩
    have HB4 := Lib.hid hb4; clear hb4
    have HW4 := Lib.hid (HB2.out.trans (HB3.out.mono HB2.out.size |>.trans (HB4.out.mono (Nat.le_trans HB2.out.size HB3.out.size))))
    go_wp2_with fail
    all_goals first
      | (exfalso; revert ‹_›; simp; done)
      | skip
    refine (hT.out hn w4 HW4.out).mono ?_
    rintro e w5 ⟨rfl, hb5, hlt5, hR5⟩
    have HB5 := Lib.hid hb5; have HR5 := Lib.hid hR5; clear hb5 hR5 hlt5
    go_wp2_with fail
    refine (eqs_yes _ 0 _ _ 0 _ xs _ ((HR3.out.below HB4.out).below HB5.out) HR5.out (by unfold maxLen; omega)).mono ?_
    rintro e w6 ⟨rfl, k6, hw6⟩
    have HW6 := Lib.hid (show Below w.heap.size w w6 by
      rw [hw6]
      have := HW4.out.trans (HB5.out.mono HW4.out.size)
      exact ⟨this.os, this.tape, this.output, this.size, this.block⟩)
    clear hw6
    go_wp2_with fail
    go_ret
    exact ⟨rfl, HW6.out⟩
theorem walk (w : World) (a0 : Option Addr) (len0 cap0 : Nat) (z0 : List ByteArray) (w0 : IsStrs w a0 len0 cap0 z0) (a1 : ByteArray) (w1 : a1.size ≤ maxLen)  :
    Calls Try.prog 5 #[.slice a0 len0 cap0, .string a1] w fun e w' => e = .returned (.bool true) ∧ Below w.heap.size w w' := by
  by_cases hs : a1.size ≤ 1048576
  · rcases w0.view with rfl | ⟨b, o, xs, rfl, rfl, hpos, hcap, hmax, hR, hS⟩
    · exact core w a0 cap0 [] a1 ⟨#[]⟩ false hs (sz_zero a0 cap0 w)
        (fun _ W _ => (to_zero a0 cap0 W).mono fun e w' ⟨h1, h2, h3⟩ => ⟨h1, h2, h3, fun j x hx => by simp at hx⟩)
        (fun _ _ W b _ => (specJ_no (some ⟨b, 0, none⟩) 0 0 a1 W (.inl rfl) (by omega) hs).mono fun e w' ⟨h1, h2⟩ => ⟨h1, 0, by rw [World.drewN_zero, h2]⟩)
        (fun _ _ W b _ _ => (implJ_no (some ⟨b, 0, none⟩) 0 0 a1 W (.inl rfl) (by omega) hs).mono fun e w' ⟨h1, h2⟩ => ⟨h1, h2 ▸ Below.refl _ _⟩)
    · have hT : xs.length ≤ 1048576 → ∀ W, Below w.heap.size w W → Calls Try.prog 22 #[.slice (some ⟨b, o, none⟩) xs.length cap0] W fun e w' => e = .returned (.slice (some ⟨W.heap.size, 0, none⟩) xs.length xs.length) ∧ Below W.heap.size W w' ∧ W.heap.size < w'.heap.size ∧ RdS w' W.heap.size 0 xs :=
        fun hn W hb => to_any b o cap0 xs W (hR.below hb) hn
      by_cases h1 : a1.size = 1
      · obtain ⟨c, hc⟩ : ∃ c, c = a1[0]'(by omega) := ⟨_, rfl⟩
        obtain ⟨res, okb, hres⟩ : ∃ res okb, JRes xs c = .tuple #[.string res, .bool okb] := ⟨_, _, rfl⟩
        exact core w _ cap0 xs a1 res okb hs (sz_any b o cap0 xs w hR hS hmax) hT
          (fun hn hp W b' hR' => by rw [← hres]; exact specJ_any b' 0 xs.length xs c W hR' hp hn hpos a1 h1 hc)
          (fun hn hp W b' hR' hlt => by rw [← hres]; exact implJ_any b' 0 xs.length xs c W hR' hlt hp hn (Nat.le_refl _) hpos a1 h1 hc)
      · exact core w _ cap0 xs a1 ⟨#[]⟩ false hs (sz_any b o cap0 xs w hR hS hmax) hT
          (fun hn _ W b' _ => (specJ_no (some ⟨b', 0, none⟩) xs.length xs.length a1 W (.inr h1) hn hs).mono fun e w' ⟨h1, h2⟩ => ⟨h1, 0, by rw [World.drewN_zero, h2]⟩)
          (fun hn _ W b' _ _ => (implJ_no (some ⟨b', 0, none⟩) xs.length xs.length a1 W (.inr h1) hn hs).mono fun e w' ⟨h1, h2⟩ => ⟨h1, h2 ▸ Below.refl _ _⟩)
  · unfold maxLen at w1
    clear w0
    go_enter Try.func5, Try.ntmps5
    go_wp2_with fail
    go_ret
    exact ⟨rfl, Below.refl _ _⟩
set_option maxRecDepth 100000 in
theorem lifted (os : Os) (started : os.Started) (H : Type) (enc : TypeId × Value → H) :
    ReturnsInHanded {} Try.checked os 5 .any (Rows.fnExactJoinStringsSpec.pre6 enc Try.prog Try.f5 Rows.fnExactJoinStringsRow.domain false) (Rows.fnExactJoinStringsSpec.post enc Try.prog Try.f5 false true false false) := by
  refine returnsInHanded_of_change (C := Try.checked) own started (by kernel_rfl) Try.func5
    (ChangeSpec.witness6 (enc := enc) (C := Try.checked) false ⟨#[], #[.slice none 0 0, .string ByteArray.empty], []⟩ 8 (by kernel_rfl) (by kernel_rfl) (by kernel_rfl) (by kernel_rfl)) ?_
  intro W base args ds gs before hval0 hW hcnd _
  have hval : ∀ (j : Nat) t v, Try.f5.params[j]? = some t → args[j]? = some v → Value.okWide Try.prog W .any base t v := hval0
  have hW' := hW
  obtain ⟨p, q, hA0, hV, rfl, hfz, hnd⟩ := hW
  have hA : DataW.TrodAll enc Try.prog W 0 (fun _ => true) true Try.f5.params.toList args.toList ds p := hA0
  rw [Try.params5] at hA hval
  obtain ⟨v0, vs0, d0, ds0, p0, q0, hargs, rfl, rfl, h0, r0⟩ := trodAll_cons hA
  obtain ⟨v1, vs1, d1, ds1, p1, q1, rfl, rfl, rfl, h1, r1⟩ := trodAll_cons r0
  obtain ⟨rfl, rfl, rfl⟩ := trodAll_nil r1
  obtain rfl : args = #[v0, v1] := by cases args; simp_all
  obtain ⟨rfl, rfl⟩ := trodVars_none hV
  have k0 := h0
  have lt0 : ∀ x ∈ p0, x.block < W.heap.size := by obtain ⟨m, hm⟩ := k0; exact DataW.trod_lt m _ _ _ hm
  obtain ⟨a0, len0, cap0, rfl⟩ := okWide_slice Try.underlying26 (hval 0 26 v0 rfl rfl)
  obtain ⟨z0, w0⟩ : ∃ zs, IsStrs W a0 len0 cap0 zs := by
    obtain ⟨fuel, hf⟩ := h0
    rcases open_strings Try.underlying26 Try.underlying9 (by kernel_rfl) hf with ⟨hcs, _⟩ | ⟨x, l, c, zs, hcs, hp, hl, hm, hz, _, hcell, hws⟩
    · simp [Value.cells] at hcs
      obtain ⟨rfl, rfl, rfl⟩ := hcs
      exact ⟨[], .inl ⟨rfl, rfl, rfl, rfl⟩⟩
    · simp [Value.cells] at hcs
      obtain ⟨rfl, rfl, rfl⟩ := hcs
      exact ⟨zs, .inr ⟨_, rfl, hl, hm, by simpa using hz, hcell, hws⟩⟩
  have k1 := h1
  have lt1 : ∀ x ∈ p1, x.block < W.heap.size := by obtain ⟨m, hm⟩ := k1; exact DataW.trod_lt m _ _ _ hm
  obtain ⟨a1, rfl, rfl, rfl, w1⟩ := open_string Try.underlying9 (hval 1 9 v1 rfl rfl) h1
  clear hA0 hval0
  refine (walk W a0 len0 cap0 z0 w0 a1 w1 ).mono fun e W' ⟨he, bel⟩ => ?_
  subst he
  exact ⟨_, rfl, _, _, _, [], _, [], hW', trodAll_mk1 (shut_bool Try.underlying4 _), (trodAll_cons_mk (Below.trod laidOut (by kernel_rfl) (of_decide_eq_true (by kernel_rfl)) k0 bel lt0) (trodAll_cons_mk (Below.trod laidOut (by kernel_rfl) (of_decide_eq_true (by kernel_rfl)) k1 bel lt1) (trodAll_mk0))), rfl, bel.frame _, fun h => by cases h⟩
theorem over : Rows.fnExactJoinStringsRow.holds Try.pinned (OpenSpec.ofChange Rows.fnExactJoinStringsSpec) :=
  OpenClaim.holds_of_wide 5 Try.f5 rfl rfl rfl rfl rfl rfl rfl ⟨rfl, rfl, rfl, rfl, rfl⟩ rfl rfl rfl rfl rfl (by kernel_rfl) Try.func5 (by kernel_rfl)
    (of_decide_eq_true (by kernel_rfl)) (by unfold Func.isWrapper; first | (rw [if_pos (by decide +kernel)]; kernel_rfl) | (rw [if_neg (by decide +kernel)]; exact ⟨rfl, rfl⟩))
    (fun os started H enc _ => lifted os started H enc)
theorem proved : Rows.FnExactJoinStringsSaid := over
#print axioms proved
end Go.Proofs.Ytgogacgmphpaoaa.fnExactJoinStrings
