/- THE LAW's WALK: FewestPrints. -/
import Derived.Test.YtcjomhjgjdjigaaCt8
import Derived.Test.YtcjomhjgjdjigaaMg9
import Derived.Test.YtcjomhjgjdjigaaEn8
import Derived.WalkKit
import Derived.ProofKit
import Derived.OpenShut
import Derived.Lib.Hide
import Derived.WalkSpells
import Derived.Below
import Derived.BigQuiet
import Derived.LoopN
namespace Go.Proofs.Ytcjomhjgjdjigaa
open Go.ChangeShapes Go.WideShapes Go.ChangeAt Go.RowKit
set_option linter.unusedVariables false
theorem Oy.grown9 {n : Nat} {R : List (Nat × Obj)} {w U U' : World} {ows : List OwT} {g : Nat} (h : Oy n R w ows U) (hg : U.grownBy U' (some g)) (hw : w.heap.size + n ≤ g) (hne : ∀ o ∈ ows, o.1 ≠ g) : Oy n R w ows U' :=
  ⟨h.1.grown hg (fun k hk => by cases hk; exact hw), fun o ho => ⟨(h.2.1 o ho).1, (h.2.1 o ho).2.grown hg (hne o ho)⟩, h.2.2⟩
set_option maxRecDepth 8000 in
set_option maxHeartbeats 4000000 in
theorem few_core (z : List Pn) (a : Option Addr) (cap : Nat) (hm : z.length ≤ maxLen) (l : List Nat) (hl : l.length ≤ 100) (t : Bool) (HS : Hid (z.length ≤ 1048576 → ∀ (w : World) (g c : Nat), Op9 0 g c z w → Calls Try.prog 55 #[.slice (some ⟨g, 0, none⟩) z.length c] w (IPb l t w))) (HI : Hid (z.length ≤ 1048576 → ∀ (w : World) (g c : Nat), Op9 0 g c z w → Calls Try.prog 56 #[.slice (some ⟨g, 0, none⟩) z.length c] w (IPb l t w))) (w : World) (hP : IsPrints w a z) : Calls Try.prog 14 #[.slice a z.length cap] w fun e w' => e = .returned (.bool true) ∧ Below w.heap.size w w' := by
  have HZ := Lib.hid (size_prints a z.length cap hm)
  have HP := Lib.hid hP
  clear hP
  by_cases hbig : 1048576 < z.length
  · simp only [hbig, if_true] at HZ
    clear HS HI
    go_enter Try.func14, Try.ntmps14
    go_wp2_with fail
    have K0 := kr0_8 w
    refine (HZ.out _).mono ?_
    rintro e w' ⟨rfl, hw⟩
    obtain rfl := hw.symm
    go_wp2_with fail
    go_ret
    exact ⟨rfl, K0.2.2⟩
  · have hz : z.length ≤ 1048576 := by omega
    have hge : ¬ ((1048576 : Int) - (z.length : Int) < 0) := by omega
    simp only [hbig, if_false] at HZ
    have HT := Lib.hid (fun (W : World) (hW : Below w.heap.size w W) => toprints_any z hz a cap W (HP.out.below hW))
    have HS := Lib.hid (HS.out hz)
    have HI := Lib.hid (HI.out hz)
    have HQ := Lib.hid (eqprints_same z hz 0 0)
    have HMP := Lib.hid (fun (g c : Nat) (W : World) (h : Op9 0 g c z W) => mark_prints g c z.length hz W h.mk)
    have hcv := nvs_len l
    obtain ⟨M, hM⟩ : ∃ M : Int, M = (l.length : Int) + 1 := ⟨_, rfl⟩
    have hM1 : 0 ≤ M := by omega
    have HM := Lib.hid hM
    obtain ⟨N, hN⟩ : ∃ N : Int, N = (z.length : Int) * 9 + 1 := ⟨_, rfl⟩
    have hN1 : ¬ (N < 0) := by omega
    rw [← hN] at HMP
    have HC := Lib.hid hcv
    have HL := Lib.hid hl
    clear hM hcv hl hN
    go_enter Try.func14, Try.ntmps14
    go_wp2_with fail
    have K0 := kr0_8 w
    have D0 : Hid (Oy 0 [] w [] w) := Lib.hid ⟨K0, by simp, List.Pairwise.nil⟩
    clear K0
    refine (HZ.out _).mono ?_
    rintro e w' ⟨rfl, hw⟩
    obtain rfl := hw.symm
    go_wp2_with fail
    refine (HT.out _ D0.out.below0).mono ?_
    intro e W1 hp
    obtain ⟨ga, rfl, ho, hb⟩ := hp.get
    have oa : Hid (Op9 0 ga z.length z W1) := Lib.hid (ho.mono (Nat.zero_le _))
    have D1 := Lib.hid (D0.out.below hb rfl)
    clear ho hb hp D0
    go_wp2_with fail
    refine (HS.out _ _ _ oa.out).mono ?_
    intro e W2 hp
    obtain ⟨g1, c1, rfl, ho, hb⟩ := IPb.out hp
    have D2 : Hid (Oy 0 [] w [(g1, c1, l.length, nvs l)] W2) := Lib.hid (D1.out.call ho hb rfl)
    have hg1 := (ho.lt g1 rfl).2
    clear ho hb hp D1 oa
    go_wp2_with fail
    refine (HT.out _ D2.out.below0).mono ?_
    intro e W3 hp
    obtain ⟨gx, rfl, ho, hb⟩ := hp.get
    have hgx := (ho.lt gx rfl).1
    have hne1 : g1 ≠ gx := by omega
    have hgxw : w.heap.size + 0 ≤ gx := by have := D2.out.1.2.1; omega
    have hgx3 := (ho.lt gx rfl).2
    have ox : Hid (Op9 0 gx z.length z W3) := Lib.hid (ho.mono (Nat.zero_le _))
    have D3 := Lib.hid (D2.out.below hb rfl)
    clear ho hb hp D2 hg1 hgx
    go_wp2_with fail
    refine (HI.out _ _ _ ox.out).mono ?_
    intro e W4 hp
    obtain ⟨g2, c2, rfl, ho, hb⟩ := IPb.out hp
    have hne2 : g2 ≠ gx := by have := (ho.lt g2 rfl).1; omega
    have D4 : Hid (Oy 0 [] w [(g2, c2, l.length, nvs l), (g1, c1, l.length, nvs l)] W4) := Lib.hid (D3.out.call ho hb rfl)
    have ox := Lib.hid (ox.out.below hb rfl)
    clear ho hb hp D3 hgx3
    go_wp2_with fail
    refine (eqints_same l HL.out 0 0 g2 c2 g1 c1 W4 D4.out.hd D4.out.hd2).mono ?_
    rintro e W5 ⟨rfl, hb⟩
    have D5 := Lib.hid (D4.out.below hb rfl)
    have ox := Lib.hid (ox.out.below hb rfl)
    clear hb D4
    go_wp2_with fail
    refine (HT.out _ D5.out.below0).mono ?_
    intro e W6 hp
    obtain ⟨gc, rfl, ho, hb⟩ := hp.get
    have oc : Hid (Op9 0 gc z.length z W6) := Lib.hid (ho.mono (Nat.zero_le _))
    have D6 := Lib.hid (D5.out.below hb rfl)
    have ox := Lib.hid (ox.out.below hb rfl)
    clear ho hb hp D5
    go_wp2_with fail
    refine (HQ.out _ _ _ _ _ ox.out oc.out).mono ?_
    rintro e W7 ⟨rfl, hb⟩
    have D7 := Lib.hid (D6.out.below hb rfl)
    have ox := Lib.hid (ox.out.below hb rfl)
    clear hb D6 oc
    go_wp2_with fail
    refine (HMP.out _ _ _ ox.out).mono ?_
    rintro e W8 ⟨rfl, hg⟩
    have D8 : Hid (Oy 0 [] w [(g2, c2, l.length, nvs l), (g1, c1, l.length, nvs l)] W8) := Lib.hid (D7.out.grown9 hg hgxw (by
      intro o hm
      simp only [List.mem_cons, List.mem_nil_iff, or_false] at hm
      rcases hm with rfl | rfl
      · exact hne2
      · exact hne1))
    clear hg D7 ox
    go_wp2_with fail
    refine (eqints_same l HL.out 0 0 g2 c2 g1 c1 W8 D8.out.hd D8.out.hd2).mono ?_
    rintro e W9 ⟨rfl, hb⟩
    have D9 := Lib.hid (D8.out.below hb rfl)
    clear hb D8
    go_wp2_with fail
    refine (mark_ints g2 c2 0 l.length (nvs l) HL.out W9 D9.out.hd).mono ?_
    rintro e W10 ⟨rfl, o, hg⟩
    have D10 := Lib.hid (D9.out.mark o hg)
    clear hg o D9
    rw [← HM.out]
    go_wp2_with fail
    have HH := held_ints g2 c2 0 l.length (nvs l) HL.out W10 HC.out D10.out.hd
    rw [← HM.out] at HH
    refine HH.mono ?_
    rintro e W11 ⟨rfl, hw7⟩
    obtain rfl := hw7.symm
    clear HH
    go_wp2_with fail
    refine (HT.out _ D10.out.below0).mono ?_
    intro e W12 hp
    obtain ⟨gd, rfl, ho, hb⟩ := hp.get
    have od : Hid (Op9 0 gd z.length z W12) := Lib.hid (ho.mono (Nat.zero_le _))
    have D12 := Lib.hid (D10.out.below hb rfl)
    clear ho hb hp D10
    go_wp2_with fail
    refine (HI.out _ _ _ od.out).mono ?_
    intro e W13 hp
    obtain ⟨g5, c5, rfl, ho, hb⟩ := IPb.out hp
    have D13 : Hid (Oy 0 [] w [(g5, c5, l.length, nvs l), (g2, c2, l.length, mks (nvs l) l.length), (g1, c1, l.length, nvs l)] W13) := Lib.hid (D12.out.call ho hb rfl)
    clear ho hb hp D12 od
    go_wp2_with fail
    refine (eqints_same l HL.out 0 0 g5 c5 g1 c1 W13 D13.out.hd D13.out.hd3).mono ?_
    rintro e W14 ⟨rfl, hb⟩
    have D14 := Lib.hid (D13.out.below hb rfl)
    clear hb D13
    go_wp2_with fail
    have HH := held_ints g2 c2 0 l.length (nvs l) HL.out W14 HC.out D14.out.hd2
    rw [← HM.out] at HH
    refine HH.mono ?_
    rintro e W15 ⟨rfl, hw11⟩
    obtain rfl := hw11.symm
    clear HH
    go_wp2_with fail
    go_ret
    exact ⟨rfl, D14.out.below0⟩

theorem few_law (z : List Pn) (a : Option Addr) (cap : Nat) (hm : z.length ≤ maxLen) (hwf : ∀ p ∈ z, (Lit.int .i64 p.x).wf = true ∧ (Lit.int .i64 p.y).wf = true) (w : World) (hP : IsPrints w a z) : Calls Try.prog 14 #[.slice a z.length cap] w fun e w' => e = .returned (.bool true) ∧ Below w.heap.size w w' := by
  by_cases hz : z.length ≤ 1048576
  · obtain ⟨l, t, hl, h1, h2⟩ := few_pair z hz hwf
    exact few_core z a cap hm l (by omega) t (Lib.hid fun _ => h1) (Lib.hid fun _ => h2) w hP
  · exact few_core z a cap hm [] (by simp) false (Lib.hid fun h => absurd h hz) (Lib.hid fun h => absurd h hz) w hP
end Go.Proofs.Ytcjomhjgjdjigaa
