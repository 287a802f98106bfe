/-
  PROVED HERE: for every two strings the law FnExactSplitString returns true and leaves its arguments as they were. No condition.
  The frame around the walk is laid by a small program of the prover's own, after the guide's template.
-/
import Derived.Test.YtgogacgmphpaoaaRows
import Derived.WalkKit
import Derived.ProofKit
import Derived.OpenShut
import Derived.ShutString
import Derived.ChangeOld
import Derived.Below
import Derived.Lib.Hide
import Derived.WalkSpells
import Derived.Test.YtgogacgmphpaoaaIs
import Derived.Test.YtgogacgmphpaoaaMk
namespace Go.Proofs.Ytgogacgmphpaoaa.fnExactSplitString
open Go.ChangeShapes Go.WideShapes Go.ChangeAt Go.RowKit
open Go.ChangeMaps (open_string shut_string)
set_option linter.unusedVariables false
theorem own : ownKnob Try.prog.godebug = none := by kernel_rfl
theorem laidOut : laidOutB Try.prog = true := by kernel_rfl
/-- What either SplitString leaves: a new slice that owns these strings. -/
def SPost (xs : List ByteArray) (b : Bool) (w : World) (e : Ending) (w' : World) : Prop :=
  ∃ g cap, e = .returned (.tuple #[.slice (some ⟨g, 0, none⟩) xs.length cap, .bool b]) ∧ w'.ownsRow w.heap.size 9 1 (.slice (some ⟨g, 0, none⟩) xs.length cap) xs.length (xs.map Value.string) ∧ w.heap.size ≤ g ∧ Below w.heap.size w w'
theorem below_drewN {B : Nat} {a w : World} (h : Below B a w) (n : Nat) : Below B a (w.drewN n) := ⟨h.os, h.tape, h.output, h.size, h.block⟩
theorem of_drewN {B : Nat} {w w' : World} {n : Nat} (h : Below B (w.drewN n) w') : Below B w w' := ⟨h.os, h.tape, h.output, h.size, h.block⟩
theorem rd_keep {w w' : World} {b o B : Nat} {xs : List ByteArray} (h : RdS w b o xs) (hb : Below B w w') (hB : b < B) : RdS w' b o xs := fun j x hx => (hb.cell (p := ⟨b, o + j, none⟩) hB).trans (h j x hx)
theorem core (w : World) (s sp : ByteArray) (xs : List ByteArray) (b : Bool) (hs : s.size ≤ 1048576) (hsp : sp.size ≤ 1048576) (hn0 : xs.length ≤ 5000)
    (hS0 : Calls Try.prog 17 #[.string s, .string sp] w (SPost xs b w)) (hI0 : ∀ W, Calls Try.prog 10 #[.string s, .string sp] W (SPost xs b W)) :
    Calls Try.prog 4 #[.string s, .string sp] w fun e w' => e = .returned (.bool true) ∧ Below w.heap.size w w' := by
  have hS := Lib.hid hS0
  have hI := Lib.hid hI0
  clear hS0 hI0
  have hml : xs.length ≤ maxLen := by unfold maxLen; omega
  have HML := Lib.hid hml
  clear hml
  go_enter Try.func4, Try.ntmps4
  go_wp2_with fail
  refine hS.out.mono ?_
  rintro e w1 ⟨ga, ca, rfl, hownA, hga, hbA⟩
  have RA1 := Lib.hid (RdS.of_own hownA rfl)
  have HLA := Lib.hid (own_lt hownA)
  have HB1 := Lib.hid hbA
  clear hownA hbA
  go_wp2_with fail
  refine (hI.out w1).mono ?_
  rintro e w2 ⟨gb, cb, rfl, hownB, hgb, hbB⟩
  have HOB := Lib.hid hownB
  have RA2 := Lib.hid (rd_keep RA1.out hbB HLA.out)
  have HB2 := Lib.hid (HB1.out.trans (hbB.mono HB1.out.size))
  have HZ := Lib.hid hbB.size
  clear hownB hbB
  go_wp2_with fail
  refine (eqs_yes gb 0 cb ga 0 ca xs w2 (RdS.of_own HOB.out rfl) RA2.out HML.out).mono ?_
  rintro e w3 ⟨rfl, k3, rfl⟩
  go_wp2_with fail
  refine (mark_row gb cb w1.heap.size xs (w2.drewN k3) HOB.out hn0 HZ.out).mono ?_
  rintro e w4 ⟨rfl, hown4, hb4⟩
  have hb4' : Below w1.heap.size w2 w4 := of_drewN hb4
  have RA4 := Lib.hid (rd_keep RA2.out hb4' HLA.out)
  have HO4 := Lib.hid hown4
  have HB4 := Lib.hid (HB2.out.trans (hb4'.mono HB1.out.size))
  have hml4 : (mks xs xs.length).length = xs.length := mks_len xs (Nat.le_refl _)
  have RB4 := Lib.hid (RdS.of_own hown4 hml4.symm)
  have HL4 := Lib.hid (own_lt hown4)
  have HZ4 := Lib.hid hb4'.size
  clear hb4 hb4' hown4 hml4
  go_wp2_with fail
  refine (held_row gb cb xs w4 RB4.out hn0).mono ?_
  rintro e w5 ⟨rfl, hb5⟩
  have RA5 := Lib.hid (RA4.out.below hb5)
  have RB5 := Lib.hid (RB4.out.below hb5)
  have HB5 := Lib.hid (HB4.out.trans (hb5.mono HB4.out.size))
  clear hb5
  go_wp2_with fail
  refine (hI.out w5).mono ?_
  rintro e w6 ⟨gc, cc, rfl, hownC, hgc, hbC⟩
  have RC6 := Lib.hid (RdS.of_own hownC rfl)
  have RA6 := Lib.hid (RA5.out.below hbC)
  have RB6 := Lib.hid (RB5.out.below hbC)
  have HB6 := Lib.hid (HB5.out.trans (hbC.mono HB5.out.size))
  clear hownC hbC
  go_wp2_with fail
  refine (eqs_yes gc 0 cc ga 0 ca xs w6 RC6.out RA6.out HML.out).mono ?_
  rintro e w7 ⟨rfl, k7, rfl⟩
  go_wp2_with fail
  refine (held_row gb cb xs (w6.drewN k7) RB6.out hn0).mono ?_
  rintro e w8 ⟨rfl, hb8⟩
  have HB8 := Lib.hid ((below_drewN HB6.out k7).trans (hb8.mono (below_drewN HB6.out k7).size))
  clear hb8
  go_wp2_with fail
  go_ret
  exact ⟨rfl, HB8.out⟩
theorem walk (w : World) (a0 : ByteArray) (w0 : a0.size ≤ maxLen) (a1 : ByteArray) (w1 : a1.size ≤ maxLen)  :
    Calls Try.prog 4 #[.string a0, .string a1] w fun e w' => e = .returned (.bool true) ∧ Below w.heap.size w w' := by
  by_cases h1 : a0.size ≤ 1048576
  · by_cases h2 : a1.size ≤ 1048576
    · by_cases h : a0.size ≤ 4000 ∧ a1.size = 1
      · obtain ⟨hs, hsp⟩ := h
        obtain ⟨c, hc⟩ : ∃ c, c = a1[0]'(by omega) := ⟨_, rfl⟩
        exact core w a0 a1 (parts a0 c) true h1 h2 (by have := parts_len a0 c; omega) (specS_yes a0 a1 c hs hsp hc w) (fun W => implS_yes a0 a1 c hs hsp hc W)
      · have h' : 4000 < a0.size ∨ a1.size ≠ 1 := by omega
        exact core w a0 a1 [] false h1 h2 (by simp) (specS_no a0 a1 h' h1 h2 w) (fun W => implS_no a0 a1 h' h1 h2 W)
    · unfold maxLen at w1
      clear w0
      go_enter Try.func4, Try.ntmps4
      go_wp2_with fail
      go_ret
      exact ⟨rfl, Below.refl _ _⟩
  · unfold maxLen at w0
    clear w1
    go_enter Try.func4, Try.ntmps4
    go_wp2_with fail
    go_ret
    exact ⟨rfl, Below.refl _ _⟩
set_option maxRecDepth 100000 in
theorem lifted (os : Os) (started : os.Started) (H : Type) (enc : TypeId × Value → H) :
    ReturnsInHanded {} Try.checked os 4 .any (Rows.fnExactSplitStringSpec.pre6 enc Try.prog Try.f4 Rows.fnExactSplitStringRow.domain false) (Rows.fnExactSplitStringSpec.post enc Try.prog Try.f4 false true false false) := by
  refine returnsInHanded_of_change (C := Try.checked) own started (by kernel_rfl) Try.func4
    (ChangeSpec.witness6 (enc := enc) (C := Try.checked) false ⟨#[], #[.string ByteArray.empty, .string ByteArray.empty], []⟩ 8 (by kernel_rfl) (by kernel_rfl) (by kernel_rfl) (by kernel_rfl)) ?_
  intro W base args ds gs before hval0 hW hcnd _
  have hval : ∀ (j : Nat) t v, Try.f4.params[j]? = some t → args[j]? = some v → Value.okWide Try.prog W .any base t v := hval0
  have hW' := hW
  obtain ⟨p, q, hA0, hV, rfl, hfz, hnd⟩ := hW
  have hA : DataW.TrodAll enc Try.prog W 0 (fun _ => true) true Try.f4.params.toList args.toList ds p := hA0
  rw [Try.params4] at hA hval
  obtain ⟨v0, vs0, d0, ds0, p0, q0, hargs, rfl, rfl, h0, r0⟩ := trodAll_cons hA
  obtain ⟨v1, vs1, d1, ds1, p1, q1, rfl, rfl, rfl, h1, r1⟩ := trodAll_cons r0
  obtain ⟨rfl, rfl, rfl⟩ := trodAll_nil r1
  obtain rfl : args = #[v0, v1] := by cases args; simp_all
  obtain ⟨rfl, rfl⟩ := trodVars_none hV
  have k0 := h0
  have lt0 : ∀ x ∈ p0, x.block < W.heap.size := by obtain ⟨m, hm⟩ := k0; exact DataW.trod_lt m _ _ _ hm
  obtain ⟨a0, rfl, rfl, rfl, w0⟩ := open_string Try.underlying9 (hval 0 9 v0 rfl rfl) h0
  have k1 := h1
  have lt1 : ∀ x ∈ p1, x.block < W.heap.size := by obtain ⟨m, hm⟩ := k1; exact DataW.trod_lt m _ _ _ hm
  obtain ⟨a1, rfl, rfl, rfl, w1⟩ := open_string Try.underlying9 (hval 1 9 v1 rfl rfl) h1
  clear hA0 hval0
  refine (walk W a0 w0 a1 w1 ).mono fun e W' ⟨he, bel⟩ => ?_
  subst he
  exact ⟨_, rfl, _, _, _, [], _, [], hW', trodAll_mk1 (shut_bool Try.underlying4 _), (trodAll_cons_mk (Below.trod laidOut (by kernel_rfl) (of_decide_eq_true (by kernel_rfl)) k0 bel lt0) (trodAll_cons_mk (Below.trod laidOut (by kernel_rfl) (of_decide_eq_true (by kernel_rfl)) k1 bel lt1) (trodAll_mk0))), rfl, bel.frame _, fun h => by cases h⟩
theorem over : Rows.fnExactSplitStringRow.holds Try.pinned (OpenSpec.ofChange Rows.fnExactSplitStringSpec) :=
  OpenClaim.holds_of_wide 4 Try.f4 rfl rfl rfl rfl rfl rfl rfl ⟨rfl, rfl, rfl, rfl, rfl⟩ rfl rfl rfl rfl rfl (by kernel_rfl) Try.func4 (by kernel_rfl)
    (of_decide_eq_true (by kernel_rfl)) (by unfold Func.isWrapper; first | (rw [if_pos (by decide +kernel)]; kernel_rfl) | (rw [if_neg (by decide +kernel)]; exact ⟨rfl, rfl⟩))
    (fun os started H enc _ => lifted os started H enc)
theorem proved : Rows.FnExactSplitStringSaid := over
#print axioms proved
end Go.Proofs.Ytgogacgmphpaoaa.fnExactSplitString
