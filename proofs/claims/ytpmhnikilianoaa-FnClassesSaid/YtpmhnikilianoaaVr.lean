/- vCut OF ANY SLICE OF BYTES. -/
import Derived.Test.YtpmhnikilianoaaVq
import Derived.WalkKit
import Derived.ProofKit
import Derived.OpenShut
import Derived.Lib.Hide
import Derived.WalkSpells
import Derived.Below
import Derived.BigQuiet
import Derived.LoopN
namespace Go.Proofs.Ytpmhnikilianoaa
open Go.ChangeShapes Go.WideShapes Go.ChangeAt Go.RowKit
set_option linter.unusedVariables false
set_option maxHeartbeats 4000000 in
theorem vcut_zero_x (x : Addr) (n len cap : Nat) (w : World) (hn1 : 1 ≤ n) (hn2 : n ≤ 2) (hlt : len ≤ n) (hc : len ≤ cap) (hcm : cap ≤ maxLen) : Calls Try.prog 64 #[.slice (some x) len cap, .int .i64 (n : Int)] w (VcPost w) := by
  obtain ⟨i0, hi, hz0, hz1, hz2⟩ := info_parts infoB
  unfold maxLen at hcm
  have HO := Lib.hid (World.ownsRow_lit (base := w.heap.size) (e := 5) (size := 1) w #[] 0 (Nat.le_refl _) (by unfold maxLen; omega) rfl)
  have hc2 : IntKind.u8.wrap (len : Int) = (len : Int) := by rw [IntKind.wrap_u8]; omega
  have hl0 : (0 : Int) ≤ len := by omega
  have hlc : (len : Int) ≤ cap := by omega
  have hcm' : (cap : Int) ≤ 9223372036854775807 := by omega
  rcases Nat.lt_or_eq_of_le hlt with hgt | hgt
  · have hg : (n : Int) > len := by omega
    have hg' : (len : Int) < n := by omega
    rcases Nat.lt_or_eq_of_le hc with hcl | hcl
    · have hnc : ¬ (cap = len) := by omega
      go_enter Try.func64, Try.ntmps64
      go_wp2_with (first | (at_builtin; refine wpList_append_own _ rfl (.tmp 11) (.tmp 14) 68 rfl w.heap.size 5 i0 (.int .u8 0) 1 1 Try.underlying68 hi hz0 hz1 hz2 rfl (by decide) (.slice (some ⟨w.heap.size, 0, none⟩) 0 0) 0 [] rfl HO.out _ 0 _ [] (by rfl) rfl (by simp) (by simp) (by unfold maxLen; omega) (by omega) (by simp) ?_; intro v1 w1 hown1 hgr1 hn1; obtain ⟨g1, cap1, rfl, hown2⟩ := own_some hown1 (fun e => by have := (hn1.mp e).1; simp at this); have HO1 := Lib.hid (hown2.alloc (.cells #[.int .u8 (len : Int)] 5)); have HB1 := Lib.hid (((Below.refl w.heap.size w).alloc (Nat.le_refl _) (.cells #[] 5)).grown hgr1 (by simp) (fun k hk => by simp [Value.ownBlock] at hk; omega)); have hgl := Lib.hid (hown2.lt g1 rfl).1; clear hown1 hown2 hgr1 hn1 HO) | (at_builtin; refine wpList_append_lies _ rfl (.tmp 15) (.tmp 18) 68 rfl w.heap.size 5 i0 (.int .u8 0) 1 1 Try.underlying68 hi hz0 hz1 hz2 rfl (by decide) (.slice (some ⟨g1, 0, none⟩) 0 cap1) 0 [] rfl HO1.out ⟨w1.heap.size, 0, none⟩ 1 1 [.int .u8 (len : Int)] (by rfl) rfl (cell_one_new _ _ _) (by simp; rfl) (by decide) (by unfold maxLen; omega) (by omega) (by have := HB1.out.size; simp; omega) _ rfl ?_; intro g2 cap2 w2 hown2 hgr2 hat2 hlt2))
      go_ret
      have HB2 : Below w.heap.size w w2 := (HB1.out.alloc HB1.out.size (.cells #[.int .u8 (len : Int)] 5)).grown hgr2 (by have := HB1.out.size; simp; omega) (fun k hk => by simp [Value.ownBlock] at hk; have := hgl.out; omega)
      exact vc_fin (w := w) (w' := w2) (g := g2) (cap := cap2) (l := []) (x := (len : Int)) (by simp) (by simp) (by omega) hown2 HB2
    · subst hcl
      go_enter Try.func64, Try.ntmps64
      go_wp2_with (first | (at_builtin; refine wpList_append_own _ rfl (.tmp 11) (.tmp 14) 68 rfl w.heap.size 5 i0 (.int .u8 0) 1 1 Try.underlying68 hi hz0 hz1 hz2 rfl (by decide) (.slice (some ⟨w.heap.size, 0, none⟩) 0 0) 0 [] rfl HO.out _ 0 _ [] (by rfl) rfl (by simp) (by simp) (by unfold maxLen; omega) (by omega) (by simp) ?_; intro v1 w1 hown1 hgr1 hn1; obtain ⟨g1, cap1, rfl, hown2⟩ := own_some hown1 (fun e => by have := (hn1.mp e).1; simp at this); have HO1 := Lib.hid (hown2.alloc (.cells #[.int .u8 (len : Int)] 5)); have HB1 := Lib.hid (((Below.refl w.heap.size w).alloc (Nat.le_refl _) (.cells #[] 5)).grown hgr1 (by simp) (fun k hk => by simp [Value.ownBlock] at hk; omega)); have hgl := Lib.hid (hown2.lt g1 rfl).1; clear hown1 hown2 hgr1 hn1 HO) | (at_builtin; refine wpList_append_lies _ rfl (.tmp 15) (.tmp 18) 68 rfl w.heap.size 5 i0 (.int .u8 0) 1 1 Try.underlying68 hi hz0 hz1 hz2 rfl (by decide) (.slice (some ⟨g1, 0, none⟩) 0 cap1) 0 [] rfl HO1.out ⟨w1.heap.size, 0, none⟩ 1 1 [.int .u8 (len : Int)] (by rfl) rfl (cell_one_new _ _ _) (by simp; rfl) (by decide) (by unfold maxLen; omega) (by omega) (by have := HB1.out.size; simp; omega) _ rfl ?_; intro g2 cap2 w2 hown2 hgr2 hat2 hlt2))
      go_ret
      have HB2 : Below w.heap.size w w2 := (HB1.out.alloc HB1.out.size (.cells #[.int .u8 (len : Int)] 5)).grown hgr2 (by have := HB1.out.size; simp; omega) (fun k hk => by simp [Value.ownBlock] at hk; have := hgl.out; omega)
      exact vc_fin (w := w) (w' := w2) (g := g2) (cap := cap2) (l := []) (x := (len : Int)) (by simp) (by simp) (by omega) hown2 HB2
  · subst hgt
    rcases Nat.lt_or_eq_of_le hc with hcl | hcl
    · have hnc : ¬ (cap = len) := by omega
      go_enter Try.func64, Try.ntmps64
      go_wp2_with (first | (at_builtin; refine wpList_append_own _ rfl (.tmp 11) (.tmp 14) 68 rfl w.heap.size 5 i0 (.int .u8 0) 1 1 Try.underlying68 hi hz0 hz1 hz2 rfl (by decide) (.slice (some ⟨w.heap.size, 0, none⟩) 0 0) 0 [] rfl HO.out _ 0 _ [] (by rfl) rfl (by simp) (by simp) (by unfold maxLen; omega) (by omega) (by simp) ?_; intro v1 w1 hown1 hgr1 hn1; obtain ⟨g1, cap1, rfl, hown2⟩ := own_some hown1 (fun e => by have := (hn1.mp e).1; simp at this); have HO1 := Lib.hid (hown2.alloc (.cells #[.int .u8 (len : Int)] 5)); have HB1 := Lib.hid (((Below.refl w.heap.size w).alloc (Nat.le_refl _) (.cells #[] 5)).grown hgr1 (by simp) (fun k hk => by simp [Value.ownBlock] at hk; omega)); have hgl := Lib.hid (hown2.lt g1 rfl).1; clear hown1 hown2 hgr1 hn1 HO) | (at_builtin; refine wpList_append_lies _ rfl (.tmp 15) (.tmp 18) 68 rfl w.heap.size 5 i0 (.int .u8 0) 1 1 Try.underlying68 hi hz0 hz1 hz2 rfl (by decide) (.slice (some ⟨g1, 0, none⟩) 0 cap1) 0 [] rfl HO1.out ⟨w1.heap.size, 0, none⟩ 1 1 [.int .u8 (len : Int)] (by rfl) rfl (cell_one_new _ _ _) (by simp; rfl) (by decide) (by unfold maxLen; omega) (by omega) (by have := HB1.out.size; simp; omega) _ rfl ?_; intro g2 cap2 w2 hown2 hgr2 hat2 hlt2))
      go_ret
      have HB2 : Below w.heap.size w w2 := (HB1.out.alloc HB1.out.size (.cells #[.int .u8 (len : Int)] 5)).grown hgr2 (by have := HB1.out.size; simp; omega) (fun k hk => by simp [Value.ownBlock] at hk; have := hgl.out; omega)
      exact vc_fin (w := w) (w' := w2) (g := g2) (cap := cap2) (l := []) (x := (len : Int)) (by simp) (by simp) (by omega) hown2 HB2
    · subst hcl
      go_enter Try.func64, Try.ntmps64
      go_wp2_with (first | (at_builtin; refine wpList_append_own _ rfl (.tmp 11) (.tmp 14) 68 rfl w.heap.size 5 i0 (.int .u8 0) 1 1 Try.underlying68 hi hz0 hz1 hz2 rfl (by decide) (.slice (some ⟨w.heap.size, 0, none⟩) 0 0) 0 [] rfl HO.out _ 0 _ [] (by rfl) rfl (by simp) (by simp) (by unfold maxLen; omega) (by omega) (by simp) ?_; intro v1 w1 hown1 hgr1 hn1; obtain ⟨g1, cap1, rfl, hown2⟩ := own_some hown1 (fun e => by have := (hn1.mp e).1; simp at this); have HO1 := Lib.hid (hown2.alloc (.cells #[.int .u8 (len : Int)] 5)); have HB1 := Lib.hid (((Below.refl w.heap.size w).alloc (Nat.le_refl _) (.cells #[] 5)).grown hgr1 (by simp) (fun k hk => by simp [Value.ownBlock] at hk; omega)); have hgl := Lib.hid (hown2.lt g1 rfl).1; clear hown1 hown2 hgr1 hn1 HO) | (at_builtin; refine wpList_append_lies _ rfl (.tmp 15) (.tmp 18) 68 rfl w.heap.size 5 i0 (.int .u8 0) 1 1 Try.underlying68 hi hz0 hz1 hz2 rfl (by decide) (.slice (some ⟨g1, 0, none⟩) 0 cap1) 0 [] rfl HO1.out ⟨w1.heap.size, 0, none⟩ 1 1 [.int .u8 (len : Int)] (by rfl) rfl (cell_one_new _ _ _) (by simp; rfl) (by decide) (by unfold maxLen; omega) (by omega) (by have := HB1.out.size; simp; omega) _ rfl ?_; intro g2 cap2 w2 hown2 hgr2 hat2 hlt2))
      go_ret
      have HB2 : Below w.heap.size w w2 := (HB1.out.alloc HB1.out.size (.cells #[.int .u8 (len : Int)] 5)).grown hgr2 (by have := HB1.out.size; simp; omega) (fun k hk => by simp [Value.ownBlock] at hk; have := hgl.out; omega)
      exact vc_fin (w := w) (w' := w2) (g := g2) (cap := cap2) (l := []) (x := (len : Int)) (by simp) (by simp) (by omega) hown2 HB2

def SlOk (A : Option Addr) (len cap : Nat) : Prop := (A = none ∧ len = 0 ∧ cap = 0) ∨ ∃ x, A = some x ∧ len ≤ cap ∧ cap ≤ maxLen
theorem vcut_all (A : Option Addr) (len cap : Nat) (zs : List Int) (w : World) (hcode : CodeIn w w.heap.size A len zs) (hr : SlOk A len cap) (hl : len ≤ 65536) (n : Nat) (hn1 : 1 ≤ n) (hn2 : n ≤ 2) (W : World) (hb : Below w.heap.size w W) : Calls Try.prog 64 #[.slice A len cap, .int .i64 (n : Int)] W fun e w' => ∃ g c zs, zs.length ≤ 65536 ∧ CodeIn w' w'.heap.size (some ⟨g, 0, none⟩) zs.length zs ∧ e = .returned (.slice (some ⟨g, 0, none⟩) zs.length c) ∧ Below W.heap.size W w' := by
  suffices h : Calls Try.prog 64 #[.slice A len cap, .int .i64 (n : Int)] W (VcPost W) from h.mono fun e w' ⟨g, c, zs, h1, h2, h3, h4⟩ => ⟨g, c, zs, h2, h3, h1, h4⟩
  rcases hr with ⟨rfl, rfl, rfl⟩ | ⟨x, rfl, hlc, hm⟩
  · exact vcut_none n W hn1 hn2
  · by_cases hlt : len ≤ n
    · exact vcut_zero_x x n len cap W hn1 hn2 hlt hlc hm
    · obtain ⟨b, o, e, _⟩ := hcode 0 (by omega)
      cases e
      exact vcut_pos w.heap.size b o n len cap zs W (hcode.below hb (Nat.le_refl _)) hb.size hl hlc hm hn1 hn2 (by omega)
end Go.Proofs.Ytpmhnikilianoaa
