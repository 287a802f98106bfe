/- CONTRACTS: a drawn stamp. -/
import Derived.Test.YtpmhnikilianoaaDt
import Derived.RegionTactic
import Derived.WalkKit
import Derived.ProofKit
import Derived.OpenShut
import Derived.Lib.Hide
import Derived.WalkSpells
import Derived.Below
import Derived.BigQuiet
import Derived.LoopN
namespace Go.Proofs.Ytpmhnikilianoaa
open Go.ChangeShapes Go.WideShapes Go.ChangeAt Go.RowKit
set_option linter.unusedVariables false
theorem Sh.drew {w W : World} {k B g : Nat} {A : Option Addr} {len cap : Nat} {zs : List Int} {m : Int} (h : Sh w k B g A len cap zs m W) : Sh w k B g A len cap zs m W.drew := by
  obtain ⟨⟨⟨h1, h2, h3, a, s, h4, h5, h6, h7⟩, hgr⟩, hz, hr⟩ := h
  exact ⟨⟨⟨h1, h2, h3, a, s, h4, h5, h6, h7⟩, ⟨hgr.os, hgr.tape, hgr.output, hgr.size, hgr.block⟩⟩, hz, hr⟩
set_option maxHeartbeats 4000000 in
theorem stamp_dr (B g : Nat) (A : Option Addr) (len cap : Nat) (zs : List Int) (m : Int) (w : World) (h : Cu w B g A len cap zs m) (hm : m ≤ 600000) :
    Calls Try.prog 174 #[.pointer (some ⟨g, 0, none⟩)] w (ShPost B g A len cap zs (m + 100) w) := by
  have hgl := h.glt
  have H := Lib.hid h
  clear h
  go_enter Try.func174, Try.ntmps174
  go_wp2_with fail
  generalize hW : (World.alloc _ _ : World) = W0
  have H0 := Lib.hid (show CuTo B g A len cap zs m w W0 by rw [← hW]; exact CuTo.alloc ⟨H.out, g_refl w g⟩ _)
  have Q0 := Lib.hid (show W0.heap[w.heap.size]? = some (.cells #[.int .i64 0, .int .i64 0, .int .i64 0, .int .i64 0, .int .i64 0, .int .i64 0] 28 (0, 0)) by rw [← hW]; exact alloc_at rfl)
  have hz0 : w.heap.size + 1 ≤ W0.heap.size := by rw [← hW]; simp
  clear hW
  refine (one_any 12 B g A len cap zs m W0 H0.out.1 (by omega) (by omega) (by omega)).mono ?_
  rintro e W1 ⟨b, rfl, hc⟩
  have hz1 : w.heap.size + 1 ≤ W1.heap.size := Nat.le_trans hz0 hc.2.size
  have H1 := Lib.hid (H0.out.step hc)
  have Q1 := Lib.hid (rowg Q0.out hc.2 (by omega))
  clear hc H0 Q0 hz0
  cases b
  case true =>
    go_wp2_with fail
    refine (sheet_dr B g A len cap zs (m + 2) W1 H1.out.1 (by omega)).mono ?_
    rintro e W2 ⟨r0, r1, r2, r3, r4, r5, hw, rfl, hc⟩
    have H2 := Lib.hid (H1.out.step hc)
    have HW := Lib.hid hw
    have q := rowg Q1.out hc.2 (by omega)
    clear hc hw H1 Q1
    have z_c := fun j => cell_of_row W2 _ j _ _ _ q
    have z_f := fun j => frozen_of_row W2 _ j _ _ q
    clear q
    go_wp2_with fail
    refine bodyPost_ret (v := .agg #[.int .i64 r0, .int .i64 r1, .int .i64 r2, .int .i64 r3, .int .i64 r4, .int .i64 r5]) (by simp [results, Try.results174, go_sem, z_c]) rfl ⟨r0, r1, r2, r3, r4, r5, HW.out, rfl, ?_⟩
    exact CuTo.set6 _ _ _ _ _ _ (H2.out.mono (by omega)) hgl (Nat.le_refl _)
  case false =>
    go_wp2_with fail
    generalize hW : (World.alloc _ _ : World) = W1a
    have H1a := Lib.hid (show CuTo B g A len cap zs (m + 2) w W1a by rw [← hW]; exact H1.out.alloc _)
    have Q1a := Lib.hid (show W1a.heap[w.heap.size]? = some (.cells #[.int .i64 0, .int .i64 0, .int .i64 0, .int .i64 0, .int .i64 0, .int .i64 0] 28 (0, 0)) by rw [← hW]; exact alloc_past Q1.out)
    have L1 := Lib.hid (show ∀ k x, ([2, 3, 2, 6] : List Int)[k]? = some x → W1a.cell? ⟨W1.heap.size, k, none⟩ = some (.int .i64 x) by rw [← hW]; exact new_ints W1 [2, 3, 2, 6])
    have hg1 : g < W1.heap.size := H1.out.1.glt
    have hz2 : w.heap.size + 1 ≤ W1a.heap.size := by rw [← hW]; simp; omega
    clear hW H1 Q1
    refine (among_any W1.heap.size 4 [2, 3, 2, 6] B g A len cap zs (m + 2) W1a H1a.out.1 (by omega) L1.out (by omega) (by decide) (by decide)).mono ?_
    rintro e W2 ⟨wide, hf, rfl, hc⟩
    have hwd : 2 ≤ wide ∧ wide ≤ 6 := by
      simp only [List.mem_cons, List.mem_nil_iff, or_false] at hf
      omega
    have hz3 : w.heap.size + 1 ≤ W2.heap.size := Nat.le_trans hz2 hc.2.size
    have H2 := Lib.hid (H1a.out.step hc)
    have Q2 := Lib.hid (rowg Q1a.out hc.2 (by omega))
    clear hc H1a Q1a L1 hf hz1 hz2 hg1
    go_wp2_with fail
    generalize hW : (World.alloc _ _ : World) = W2a
    have S0 := Lib.hid (show Sh w W2.heap.size B g A len cap zs (m + 2 + 2) W2a by
      rw [← hW]
      exact Sh.alloc (show Sh w W2.heap.size B g A len cap zs (m + 2 + 2) (W2.alloc (.cells #[.int .i64 0, .int .i64 0, .int .i64 0, .int .i64 0, .int .i64 0, .int .i64 0] 28)) from ⟨H2.out.alloc _, alloc_past Q2.out, 0, 0, 0, 0, 0, 0, ⟨by decide, by decide, by decide, by decide, by decide, by decide⟩, alloc_at rfl⟩) _)
    have L2 := Lib.hid (show ∀ k x, ([3, 2, 1, 4, 5, 0] : List Int)[k]? = some x → W2a.cell? ⟨W2.heap.size + 1, k, none⟩ = some (.int .i64 x) by
      rw [← hW]
      have := new_ints (W2.alloc (.cells #[.int .i64 0, .int .i64 0, .int .i64 0, .int .i64 0, .int .i64 0, .int .i64 0] 28)) [3, 2, 1, 4, 5, 0]
      simpa using this)
    have hg2 : g < W2.heap.size := H2.out.1.glt
    have hk : w.heap.size < W2.heap.size := by omega
    clear hW H2 Q2 hz3
    refine (among_any (W2.heap.size + 1) 6 [3, 2, 1, 4, 5, 0] B g A len cap zs (m + 2 + 2) W2a S0.out.1.1 (by omega) L2.out (by omega) (by decide) (by decide)).mono ?_
    rintro e W3 ⟨n, hf, rfl, hc⟩
    have hn : 0 ≤ n ∧ n ≤ 5 := by
      simp only [List.mem_cons, List.mem_nil_iff, or_false] at hf
      omega
    have S1 := Lib.hid (S0.out.step hc hgl hk)
    clear hc S0 L2 hf hg2
    generalize W2.heap.size = k at S1 hk ⊢
    obtain ⟨c0, rfl⟩ : ∃ c : Nat, n = c := ⟨n.toNat, by omega⟩
    have hne : w.heap.size ≠ k := by omega
    go_wp2_with fail
    go_loopw [5] (fun n wr => ∃ c : Nat, c ≤ 5 ∧ n = .int .i64 c ∧ Hid (Sh w k B g A len cap zs (m + 6 + 4 * (5 - (c : Int))) wr)) (fun n _ => (intOf n).toNat)
    case atStart => exact ⟨c0, by omega, rfl, Lib.hid (S1.out.mono (by omega))⟩
    case round =>
      obtain ⟨c, hc5, rfl, HS⟩ := hrel
      by_cases hp : 0 < c
      · obtain ⟨d, rfl⟩ : ∃ d, c = d + 1 := ⟨c - 1, by omega⟩
        have hp' : (0 : Int) < ((d + 1 : Nat) : Int) := by omega
        go_wp2_with fail
        refine (pick_any wide B g A len cap zs (m + 6 + 4 * (5 - ((d + 1 : Nat) : Int))) wr HS.out.1.1 (by omega) (by omega) (by omega)).mono ?_
        rintro e W4 ⟨x, rfl, hx0, hx1, hc⟩
        have hx5 : x ≤ 5 := by omega
        have HT := Lib.hid (HS.out.step hc hgl hk)
        clear hc hx1 HS
        go_wp2_with fail
        refine (pick_any wide B g A len cap zs (m + 6 + 4 * (5 - ((d + 1 : Nat) : Int)) + 2) W4 HT.out.1.1 (by omega) (by omega) (by omega)).mono ?_
        rintro e W5 ⟨y, rfl, hy0, hy1, hc⟩
        have hy5 : 0 ≤ y ∧ y ≤ 5 := by omega
        have HJ := Lib.hid (HT.out.step hc hgl hk)
        clear hc hy1 hy0 HT
        obtain ⟨_, hz, a0, a1, a2, a3, a4, a5, hw, h3⟩ := HJ.out
        have HW := Lib.hid hw
        have HZ := Lib.hid hz
        have HR := Lib.hid h3
        have c_c := fun j => cell_of_row W5 _ j _ _ _ h3
        have c_f := fun j => frozen_of_row W5 _ j _ _ h3
        clear hw h3 hz
        rcases six hy5 with rfl | rfl | rfl | rfl | rfl | rfl
        · go_wp2_with fail
          go_region
          go_wp2_with fail
          go_roundw
          case rel => exact ⟨d, by omega, by go_num, Lib.hid (Sh.mono (m := m + 6 + 4 * (5 - ((d + 1 : Nat) : Int)) + 2 + 2) (Sh.drew (show Sh w k B g A len cap zs _ (W5.setCell ⟨k, 0, none⟩ (.int .i64 (bits .or .i64 a0 (wrap64 (2 ^ x.toNat))))) from ⟨HJ.out.1.set hgl (Nat.le_of_lt hk) _, (Below.heap_setCell _ _ _ _ hne).trans HZ.out, (bits .or .i64 a0 (wrap64 (2 ^ x.toNat))), a1, a2, a3, a4, a5, ⟨wfb _ _ _, HW.out.2.1, HW.out.2.2.1, HW.out.2.2.2.1, HW.out.2.2.2.2.1, HW.out.2.2.2.2.2⟩, heap_setCell_same W5 k 0 _ 28 _ HR.out⟩)) (by omega))⟩
          case measure => first | (simp [intOf]; done) | (simp [intOf]; omega)
        · go_wp2_with fail
          go_region
          go_wp2_with fail
          go_roundw
          case rel => exact ⟨d, by omega, by go_num, Lib.hid (Sh.mono (m := m + 6 + 4 * (5 - ((d + 1 : Nat) : Int)) + 2 + 2) (Sh.drew (show Sh w k B g A len cap zs _ (W5.setCell ⟨k, 1, none⟩ (.int .i64 (bits .or .i64 a1 (wrap64 (2 ^ x.toNat))))) from ⟨HJ.out.1.set hgl (Nat.le_of_lt hk) _, (Below.heap_setCell _ _ _ _ hne).trans HZ.out, a0, (bits .or .i64 a1 (wrap64 (2 ^ x.toNat))), a2, a3, a4, a5, ⟨HW.out.1, wfb _ _ _, HW.out.2.2.1, HW.out.2.2.2.1, HW.out.2.2.2.2.1, HW.out.2.2.2.2.2⟩, heap_setCell_same W5 k 1 _ 28 _ HR.out⟩)) (by omega))⟩
          case measure => first | (simp [intOf]; done) | (simp [intOf]; omega)
        · go_wp2_with fail
          go_region
          go_wp2_with fail
          go_roundw
          case rel => exact ⟨d, by omega, by go_num, Lib.hid (Sh.mono (m := m + 6 + 4 * (5 - ((d + 1 : Nat) : Int)) + 2 + 2) (Sh.drew (show Sh w k B g A len cap zs _ (W5.setCell ⟨k, 2, none⟩ (.int .i64 (bits .or .i64 a2 (wrap64 (2 ^ x.toNat))))) from ⟨HJ.out.1.set hgl (Nat.le_of_lt hk) _, (Below.heap_setCell _ _ _ _ hne).trans HZ.out, a0, a1, (bits .or .i64 a2 (wrap64 (2 ^ x.toNat))), a3, a4, a5, ⟨HW.out.1, HW.out.2.1, wfb _ _ _, HW.out.2.2.2.1, HW.out.2.2.2.2.1, HW.out.2.2.2.2.2⟩, heap_setCell_same W5 k 2 _ 28 _ HR.out⟩)) (by omega))⟩
          case measure => first | (simp [intOf]; done) | (simp [intOf]; omega)
        · go_wp2_with fail
          go_region
          go_wp2_with fail
          go_roundw
          case rel => exact ⟨d, by omega, by go_num, Lib.hid (Sh.mono (m := m + 6 + 4 * (5 - ((d + 1 : Nat) : Int)) + 2 + 2) (Sh.drew (show Sh w k B g A len cap zs _ (W5.setCell ⟨k, 3, none⟩ (.int .i64 (bits .or .i64 a3 (wrap64 (2 ^ x.toNat))))) from ⟨HJ.out.1.set hgl (Nat.le_of_lt hk) _, (Below.heap_setCell _ _ _ _ hne).trans HZ.out, a0, a1, a2, (bits .or .i64 a3 (wrap64 (2 ^ x.toNat))), a4, a5, ⟨HW.out.1, HW.out.2.1, HW.out.2.2.1, wfb _ _ _, HW.out.2.2.2.2.1, HW.out.2.2.2.2.2⟩, heap_setCell_same W5 k 3 _ 28 _ HR.out⟩)) (by omega))⟩
          case measure => first | (simp [intOf]; done) | (simp [intOf]; omega)
        · go_wp2_with fail
          go_region
          go_wp2_with fail
          go_roundw
          case rel => exact ⟨d, by omega, by go_num, Lib.hid (Sh.mono (m := m + 6 + 4 * (5 - ((d + 1 : Nat) : Int)) + 2 + 2) (Sh.drew (show Sh w k B g A len cap zs _ (W5.setCell ⟨k, 4, none⟩ (.int .i64 (bits .or .i64 a4 (wrap64 (2 ^ x.toNat))))) from ⟨HJ.out.1.set hgl (Nat.le_of_lt hk) _, (Below.heap_setCell _ _ _ _ hne).trans HZ.out, a0, a1, a2, a3, (bits .or .i64 a4 (wrap64 (2 ^ x.toNat))), a5, ⟨HW.out.1, HW.out.2.1, HW.out.2.2.1, HW.out.2.2.2.1, wfb _ _ _, HW.out.2.2.2.2.2⟩, heap_setCell_same W5 k 4 _ 28 _ HR.out⟩)) (by omega))⟩
          case measure => first | (simp [intOf]; done) | (simp [intOf]; omega)
        · go_wp2_with fail
          go_region
          go_wp2_with fail
          go_roundw
          case rel => exact ⟨d, by omega, by go_num, Lib.hid (Sh.mono (m := m + 6 + 4 * (5 - ((d + 1 : Nat) : Int)) + 2 + 2) (Sh.drew (show Sh w k B g A len cap zs _ (W5.setCell ⟨k, 5, none⟩ (.int .i64 (bits .or .i64 a5 (wrap64 (2 ^ x.toNat))))) from ⟨HJ.out.1.set hgl (Nat.le_of_lt hk) _, (Below.heap_setCell _ _ _ _ hne).trans HZ.out, a0, a1, a2, a3, a4, (bits .or .i64 a5 (wrap64 (2 ^ x.toNat))), ⟨HW.out.1, HW.out.2.1, HW.out.2.2.1, HW.out.2.2.2.1, HW.out.2.2.2.2.1, wfb _ _ _⟩, heap_setCell_same W5 k 5 _ 28 _ HR.out⟩)) (by omega))⟩
          case measure => first | (simp [intOf]; done) | (simp [intOf]; omega)
      · obtain rfl : c = 0 := by omega
        obtain ⟨_, hz, a0, a1, a2, a3, a4, a5, hw, h3⟩ := HS.out
        have HW := Lib.hid hw
        have c_c := fun j => cell_of_row wr _ j _ _ _ h3
        have c_f := fun j => frozen_of_row wr _ j _ _ h3
        have z_c := fun j => cell_of_row wr _ j _ _ _ hz
        have z_f := fun j => frozen_of_row wr _ j _ _ hz
        clear hw h3 hz
        go_wp2_with fail
        refine bodyPost_ret (v := .agg #[.int .i64 a0, .int .i64 a1, .int .i64 a2, .int .i64 a3, .int .i64 a4, .int .i64 a5]) (by simp [results, Try.results174, go_sem, z_c]) rfl ⟨a0, a1, a2, a3, a4, a5, HW.out, rfl, ?_⟩
        exact CuTo.set6 _ _ _ _ _ _ (HS.out.1.mono (by omega)) hgl (Nat.le_refl _)
end Go.Proofs.Ytpmhnikilianoaa
