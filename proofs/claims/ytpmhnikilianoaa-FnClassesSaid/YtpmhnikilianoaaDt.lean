/- CONTRACTS: a drawn sheet: the walk. -/
import Derived.Test.YtpmhnikilianoaaDs
import Derived.WalkKit
import Derived.ProofKit
import Derived.OpenShut
import Derived.Lib.Hide
import Derived.WalkSpells
import Derived.Below
import Derived.BigQuiet
import Derived.LoopN
namespace Go.Proofs.Ytpmhnikilianoaa
open Go.ChangeShapes Go.WideShapes Go.ChangeAt Go.RowKit
set_option linter.unusedVariables false
theorem Sh.mono {w W : World} {k B g : Nat} {A : Option Addr} {len cap : Nat} {zs : List Int} {m m' : Int} (h : Sh w k B g A len cap zs m W) (hm : m ≤ m') : Sh w k B g A len cap zs m' W := ⟨h.1.mono hm, h.2⟩
theorem Sh.alloc {w W : World} {k B g : Nat} {A : Option Addr} {len cap : Nat} {zs : List Int} {m : Int} (h : Sh w k B g A len cap zs m W) (o : Obj) : Sh w k B g A len cap zs m (W.alloc o) := by
  obtain ⟨h1, h2, r0, r1, r2, r3, r4, r5, hw, h3⟩ := h
  exact ⟨h1.alloc o, alloc_past h2, r0, r1, r2, r3, r4, r5, hw, alloc_past h3⟩
def ShPost (B g : Nat) (A : Option Addr) (len cap : Nat) (zs : List Int) (m : Int) (w : World) (e : Ending) (w' : World) : Prop := ∃ (r0 r1 r2 r3 r4 r5 : Int), Wf6 r0 r1 r2 r3 r4 r5 ∧ e = .returned (.agg #[.int .i64 r0, .int .i64 r1, .int .i64 r2, .int .i64 r3, .int .i64 r4, .int .i64 r5]) ∧ CuTo B g A len cap zs m w w'
set_option maxHeartbeats 4000000 in
theorem sheet_dr (B g : Nat) (A : Option Addr) (len cap : Nat) (zs : List Int) (m : Int) (w : World) (h : Cu w B g A len cap zs m) (hm : m ≤ 700000) :
    Calls Try.prog 154 #[.pointer (some ⟨g, 0, none⟩)] w (ShPost B g A len cap zs (m + 90) w) := by
  have hgl := h.glt
  have H := Lib.hid h
  clear h
  go_enter Try.func154, Try.ntmps154
  go_wp2_with fail
  generalize hW : (World.alloc _ _ : World) = W0
  have H0 := Lib.hid (show CuTo B g A len cap zs m w W0 by rw [← hW]; exact CuTo.alloc (CuTo.alloc ⟨H.out, g_refl w g⟩ _) _)
  have Q0 := Lib.hid (show W0.heap[w.heap.size]? = some (.cells #[.int .i64 0, .int .i64 0, .int .i64 0, .int .i64 0, .int .i64 0, .int .i64 0] 28 (0, 0)) by rw [← hW]; exact alloc_past (alloc_at rfl))
  have L0 := Lib.hid (show ∀ k x, ([2, 4, 3, 1, 6] : List Int)[k]? = some x → W0.cell? ⟨w.heap.size + 1, k, none⟩ = some (.int .i64 x) by
    rw [← hW]
    have := new_ints (w.alloc (.cells #[.int .i64 0, .int .i64 0, .int .i64 0, .int .i64 0, .int .i64 0, .int .i64 0] 28)) [2, 4, 3, 1, 6]
    simpa using this)
  have hz0 : w.heap.size + 2 ≤ W0.heap.size := by rw [← hW]; simp
  clear hW
  refine (among_any (w.heap.size + 1) 5 [2, 4, 3, 1, 6] B g A len cap zs m W0 H0.out.1 (by omega) L0.out (by omega) (by decide) (by decide)).mono ?_
  rintro e W1 ⟨few, hf, rfl, hc⟩
  have hf1 : 1 ≤ few ∧ few ≤ 6 := by
    simp only [List.mem_cons, List.mem_nil_iff, or_false] at hf
    omega
  have hz1 : w.heap.size + 2 ≤ W1.heap.size := Nat.le_trans hz0 hc.2.size
  have H1 := Lib.hid (H0.out.step hc)
  have Q1 := Lib.hid (rowg Q0.out hc.2 (by omega))
  clear hc H0 Q0 L0 hf hz0
  go_wp2_with fail
  generalize hW : (World.alloc _ _ : World) = W1a
  have S0 := Lib.hid (show Sh w W1.heap.size B g A len cap zs (m + 2) W1a by
    rw [← hW]
    exact ⟨H1.out.alloc _, alloc_past Q1.out, 0, 0, 0, 0, 0, 0, ⟨by decide, by decide, by decide, by decide, by decide, by decide⟩, alloc_at rfl⟩)
  clear hW H1 Q1
  have hk : w.heap.size < W1.heap.size := by omega
  clear hz1
  generalize W1.heap.size = k at S0 hk ⊢
  go_loopw [5] (fun y wr => ∃ j : Nat, j ≤ 6 ∧ y = .int .i64 j ∧ Hid (Sh w k B g A len cap zs (m + 2 + 12 * j) wr)) (fun y _ => 6 - (intOf y).toNat)
  case atStart => exact ⟨0, by omega, rfl, Lib.hid (S0.out.mono (by omega))⟩
  case round =>
    obtain ⟨j, hj, rfl, HS⟩ := hrel
    by_cases hlt : j < 6
    · have hlt' : (j : Int) < 6 := by omega
      have hlt2 : decide ((j : Int) < 6) = true := decide_eq_true hlt'
      go_wp2_with fail
      try rw [hlt2]
      clear hlt2
      go_loopw [6] (fun x wr2 => ∃ i : Nat, i ≤ 6 ∧ x = .int .i64 i ∧ Hid (Sh w k B g A len cap zs (m + 2 + 12 * j + 2 * i) wr2)) (fun x _ => 6 - (intOf x).toNat)
      case atStart => exact ⟨0, by omega, rfl, Lib.hid (HS.out.mono (by omega))⟩
      case round =>
        obtain ⟨i, hi, rfl, HI⟩ := hrel
        by_cases hli : i < 6
        · have hli' : (i : Int) < 6 := by omega
          go_wp2_with fail
          refine (one_any few B g A len cap zs (m + 2 + 12 * j + 2 * i) wr HI.out.1.1 (by omega) (by omega) (by omega)).mono ?_
          rintro e W2 ⟨b, rfl, hc⟩
          have HJ := Lib.hid (HI.out.step hc hgl hk)
          clear hc
          cases b
          · go_wp2_with fail
            go_roundw
            case rel => exact ⟨i + 1, by omega, by go_num, Lib.hid (HJ.out.mono (by omega))⟩
            case measure => simp [intOf]; omega
          · obtain ⟨_, _, r0, r1, r2, r3, r4, r5, hw, h3⟩ := HJ.out
            have HR := Lib.hid h3
            obtain ⟨q0, q1, q2, q3, q4, q5, hwq, HF0⟩ := flip_wf r0 r1 r2 r3 r4 r5 hw i j ⟨by omega, by omega⟩ ⟨by omega, by omega⟩
            have HF := Lib.hid HF0
            have HQ := Lib.hid hwq
            have c_c := fun j => cell_of_row W2 _ j _ _ _ h3
            clear HF0 hwq hw h3
            go_wp2_with fail
            refine (HF.out _).mono ?_
            rintro e W3 ⟨rfl, hb⟩
            have HB := Lib.hid hb
            have h4 := rowk HR.out hb rfl
            clear hb c_c
            have d_c := fun j => cell_of_row W3 _ j _ _ _ h4
            have d_f := fun j => frozen_of_row W3 _ j _ _ h4
            clear h4
            go_wp2_with fail
            go_roundw
            case rel => exact ⟨i + 1, by omega, by go_num, Lib.hid ((Sh.flip HQ.out HJ.out HB.out rfl hgl hk).mono (by omega))⟩
            case measure => simp [intOf]; omega
        · go_wp2_with fail
          go_roundw
          case rel => exact ⟨j + 1, by omega, by go_num, Lib.hid (HI.out.mono (by omega))⟩
          case measure => simp [intOf]; omega
    · go_wp2_with fail
      refine (pick_any 40 B g A len cap zs _ wr HS.out.1.1 (by omega) (by omega) (by omega)).mono ?_
      rintro e W2 ⟨r, rfl, hr0, hr1, hc⟩
      have HJ := Lib.hid (HS.out.step hc hgl hk)
      clear hc HS
      have hne : w.heap.size ≠ k := by omega
      by_cases e0 : r = 0
      · subst e0
        go_wp2_with fail
        refine (pick_any 6 B g A len cap zs (m + 2 + 12 * j + 2) W2 HJ.out.1.1 (by omega) (by omega) (by omega)).mono ?_
        rintro e W3 ⟨p, rfl, hp0, hp1, hc⟩
        have HK := Lib.hid (HJ.out.step hc hgl hk)
        clear hc HJ
        go_wp2_with fail
        generalize hW : (World.alloc _ _ : World) = W3a
        have HK1 := Lib.hid (show Sh w k B g A len cap zs (m + 2 + 12 * j + 2 + 2) W3a by rw [← hW]; exact HK.out.alloc _)
        have L3 := Lib.hid (show ∀ k x, ([-1, 64, 4611686018427387904] : List Int)[k]? = some x → W3a.cell? ⟨W3.heap.size, k, none⟩ = some (.int .i64 x) by rw [← hW]; exact new_ints W3 [-1, 64, 4611686018427387904])
        have hgz : g < W3.heap.size := HK.out.1.1.glt
        clear hW HK
        refine (among_any W3.heap.size 3 [-1, 64, 4611686018427387904] B g A len cap zs (m + 2 + 12 * j + 2 + 2) W3a HK1.out.1.1 (by omega) L3.out (by omega) (by decide) (by decide)).mono ?_
        rintro e W4 ⟨v, hv, rfl, hc⟩
        have HM := Lib.hid (HK1.out.step hc hgl hk)
        have hvw : (Lit.int .i64 v).wf = true := by
          simp only [List.mem_cons, List.mem_nil_iff, or_false] at hv
          rcases hv with rfl | rfl | rfl <;> decide
        have HV := Lib.hid hvw
        clear hc HK1 L3 hv hvw
        obtain ⟨_, hz, a0, a1, a2, a3, a4, a5, hw, h3⟩ := HM.out
        have HW := Lib.hid hw
        have c_c := fun j => cell_of_row W4 _ j _ _ _ h3
        have c_f := fun j => frozen_of_row W4 _ j _ _ h3
        have z_c := fun j => cell_of_row W4 _ j _ _ _ hz
        have z_f := fun j => frozen_of_row W4 _ j _ _ hz
        clear hw h3 hz
        rcases six (show 0 ≤ p ∧ p ≤ 5 by omega) with rfl | rfl | rfl | rfl | rfl | rfl
        · go_wp2_with fail
          refine bodyPost_ret (v := .agg #[.int .i64 v, .int .i64 a1, .int .i64 a2, .int .i64 a3, .int .i64 a4, .int .i64 a5]) (by simp [results, Try.results154, go_sem, z_c]) rfl ⟨v, a1, a2, a3, a4, a5, ⟨HV.out, HW.out.2.1, HW.out.2.2.1, HW.out.2.2.2.1, HW.out.2.2.2.2.1, HW.out.2.2.2.2.2⟩, rfl, ?_⟩
          exact CuTo.set6 _ _ _ _ _ _ ((HM.out.1.mono (by omega)).set hgl (Nat.le_of_lt hk) _) hgl (Nat.le_refl _)
        · go_wp2_with fail
          refine bodyPost_ret (v := .agg #[.int .i64 a0, .int .i64 v, .int .i64 a2, .int .i64 a3, .int .i64 a4, .int .i64 a5]) (by simp [results, Try.results154, go_sem, z_c]) rfl ⟨a0, v, a2, a3, a4, a5, ⟨HW.out.1, HV.out, HW.out.2.2.1, HW.out.2.2.2.1, HW.out.2.2.2.2.1, HW.out.2.2.2.2.2⟩, rfl, ?_⟩
          exact CuTo.set6 _ _ _ _ _ _ ((HM.out.1.mono (by omega)).set hgl (Nat.le_of_lt hk) _) hgl (Nat.le_refl _)
        · go_wp2_with fail
          refine bodyPost_ret (v := .agg #[.int .i64 a0, .int .i64 a1, .int .i64 v, .int .i64 a3, .int .i64 a4, .int .i64 a5]) (by simp [results, Try.results154, go_sem, z_c]) rfl ⟨a0, a1, v, a3, a4, a5, ⟨HW.out.1, HW.out.2.1, HV.out, HW.out.2.2.2.1, HW.out.2.2.2.2.1, HW.out.2.2.2.2.2⟩, rfl, ?_⟩
          exact CuTo.set6 _ _ _ _ _ _ ((HM.out.1.mono (by omega)).set hgl (Nat.le_of_lt hk) _) hgl (Nat.le_refl _)
        · go_wp2_with fail
          refine bodyPost_ret (v := .agg #[.int .i64 a0, .int .i64 a1, .int .i64 a2, .int .i64 v, .int .i64 a4, .int .i64 a5]) (by simp [results, Try.results154, go_sem, z_c]) rfl ⟨a0, a1, a2, v, a4, a5, ⟨HW.out.1, HW.out.2.1, HW.out.2.2.1, HV.out, HW.out.2.2.2.2.1, HW.out.2.2.2.2.2⟩, rfl, ?_⟩
          exact CuTo.set6 _ _ _ _ _ _ ((HM.out.1.mono (by omega)).set hgl (Nat.le_of_lt hk) _) hgl (Nat.le_refl _)
        · go_wp2_with fail
          refine bodyPost_ret (v := .agg #[.int .i64 a0, .int .i64 a1, .int .i64 a2, .int .i64 a3, .int .i64 v, .int .i64 a5]) (by simp [results, Try.results154, go_sem, z_c]) rfl ⟨a0, a1, a2, a3, v, a5, ⟨HW.out.1, HW.out.2.1, HW.out.2.2.1, HW.out.2.2.2.1, HV.out, HW.out.2.2.2.2.2⟩, rfl, ?_⟩
          exact CuTo.set6 _ _ _ _ _ _ ((HM.out.1.mono (by omega)).set hgl (Nat.le_of_lt hk) _) hgl (Nat.le_refl _)
        · go_wp2_with fail
          refine bodyPost_ret (v := .agg #[.int .i64 a0, .int .i64 a1, .int .i64 a2, .int .i64 a3, .int .i64 a4, .int .i64 v]) (by simp [results, Try.results154, go_sem, z_c]) rfl ⟨a0, a1, a2, a3, a4, v, ⟨HW.out.1, HW.out.2.1, HW.out.2.2.1, HW.out.2.2.2.1, HW.out.2.2.2.2.1, HV.out⟩, rfl, ?_⟩
          exact CuTo.set6 _ _ _ _ _ _ ((HM.out.1.mono (by omega)).set hgl (Nat.le_of_lt hk) _) hgl (Nat.le_refl _)
      · obtain ⟨_, hz, a0, a1, a2, a3, a4, a5, hw, h3⟩ := HJ.out
        have HW := Lib.hid hw
        have c_c := fun j => cell_of_row W2 _ j _ _ _ h3
        have c_f := fun j => frozen_of_row W2 _ j _ _ h3
        have z_c := fun j => cell_of_row W2 _ j _ _ _ hz
        have z_f := fun j => frozen_of_row W2 _ j _ _ hz
        clear hw h3 hz
        by_cases e1 : r = 1
        · subst e1
          go_wp2_with fail
          refine bodyPost_ret (v := .agg #[.int .i64 0, .int .i64 0, .int .i64 0, .int .i64 0, .int .i64 0, .int .i64 0]) (by simp [results, Try.results154, go_sem, z_c]) rfl ⟨0, 0, 0, 0, 0, 0, ⟨by decide, by decide, by decide, by decide, by decide, by decide⟩, rfl, ?_⟩
          exact CuTo.set6 _ _ _ _ _ _ (HJ.out.1.mono (by omega)) hgl (Nat.le_refl _)
        · by_cases e2 : r = 2 ∨ r = 3
          · rcases e2 with rfl | rfl
            all_goals
              go_wp2_with fail
              refine wp_loop_rounds 6 ?_
              iterate 6
                rw [rounds_succ]
                go_wp2_with fail
              refine bodyPost_ret (v := .agg #[.int .i64 a0, .int .i64 a1, .int .i64 a0, .int .i64 a1, .int .i64 a0, .int .i64 a1]) (by simp [results, Try.results154, go_sem, z_c]) rfl ⟨a0, a1, a0, a1, a0, a1, ⟨HW.out.1, HW.out.2.1, HW.out.1, HW.out.2.1, HW.out.1, HW.out.2.1⟩, rfl, ?_⟩
              exact CuTo.set6 _ _ _ _ _ _ ((((((HJ.out.1.mono (by omega)).set hgl (Nat.le_of_lt hk) _).set hgl (Nat.le_of_lt hk) _).set hgl (Nat.le_of_lt hk) _).set hgl (Nat.le_of_lt hk) _).set hgl (Nat.le_of_lt hk) _) hgl (Nat.le_refl _)
          · have n2 : r ≠ 2 := fun e => e2 (.inl e)
            have n3 : r ≠ 3 := fun e => e2 (.inr e)
            clear e2
            go_wp2_with fail
            refine bodyPost_ret (v := .agg #[.int .i64 a0, .int .i64 a1, .int .i64 a2, .int .i64 a3, .int .i64 a4, .int .i64 a5]) (by simp [results, Try.results154, go_sem, z_c]) rfl ⟨a0, a1, a2, a3, a4, a5, HW.out, rfl, ?_⟩
            exact CuTo.set6 _ _ _ _ _ _ (HJ.out.1.mono (by omega)) hgl (Nat.le_refl _)
end Go.Proofs.Ytpmhnikilianoaa
