/- CONTRACTS: Overlaps of both, where the list has prints and where not; the pair. -/
import Derived.Test.YtcjomhjgjdjigaaOw9
import Derived.WalkKit
import Derived.ProofKit
import Derived.OpenShut
import Derived.Lib.Hide
import Derived.WalkSpells
import Derived.Below
import Derived.BigQuiet
import Derived.LoopN
namespace Go.Proofs.Ytcjomhjgjdjigaa
open Go.ChangeShapes Go.WideShapes Go.ChangeAt Go.RowKit
set_option linter.unusedVariables false
set_option maxRecDepth 8000 in
set_option maxHeartbeats 2000000 in
theorem sover_yes (z : List Pn) (hz : z.length ≤ 1048576) (hok : lok z = true) (g c : Nat) (w : World) (h0 : Op9 0 g c z w) : Calls Try.prog 50 #[.slice (some ⟨g, 0, none⟩) z.length c] w (LPb (ovl z z.length) true w) := by
  obtain ⟨i0, hi, hz0, hz1, hz2⟩ := info_parts info44
  obtain ⟨hl6, hall⟩ := lok_get hok
  have HL := Lib.hid (slist_any z hz 0 g c)
  rw [hok] at HL
  have HK := Lib.hid hall
  have hgw := (h0.lt g rfl).2
  have H0 := Lib.hid h0
  clear h0 hok hall
  go_enter Try.func50, Try.ntmps50
  go_wp2_with fail
  have S0 : Hid (Ov9 w z g c [] (.slice (some ⟨w.heap.size, 0, none⟩) 0 0) (w.alloc (.cells #[] 32))) := Lib.hid ⟨Rl.start (kr0_8 w), H0.out.below (M := w.heap.size) ((Below.refl _ _).alloc (Nat.le_refl _) _) rfl, hgw⟩
  clear H0
  generalize (World.alloc _ _ : World) = W1 at S0 ⊢
  generalize hv0 : (Value.slice (some ⟨w.heap.size, 0, none⟩) 0 0) = v0 at S0 ⊢
  clear hv0
  refine (HL.out _ S0.out.2.1).mono ?_
  rintro e W2 ⟨rfl, hb⟩
  have S1 := Lib.hid (S0.out.below hb rfl)
  clear hb S0 HL
  go_wp2_with fail
  go_loopw [4, 5] (fun v n wr => ∃ i : Nat, i ≤ z.length ∧ n = .int .i64 i ∧ Hid (Ov9 w z g c (ovl z i) v wr)) (fun _ n _ => z.length - (intOf n).toNat)
  case atStart => exact ⟨0, by omega, rfl, S1⟩
  case round =>
    obtain ⟨i, hi', rfl, HS⟩ := hrel
    by_cases hlt : i < z.length
    · have hlt' : (i : Int) < z.length := by omega
      have hi0 : (0 : Int) ≤ i := by omega
      have ew : wrap64 ((i : Int) + 1) = ((i + 1 : Nat) : Int) := by unfold wrap64; omega
      have HT0 : Hid (Ov9 w z g c (ovl z i ++ iv8 (ovb z i) i (i + 1)) _ wr) := Lib.hid (by rw [iv8_low _ _ _ (Nat.le_refl _), List.append_nil]; exact HS.out)
      clear HS
      go_wp2_with fail
      go_loopw [4, 6] (fun v n wr => ∃ j : Nat, i + 1 ≤ j ∧ j ≤ z.length ∧ n = .int .i64 j ∧ Hid (Ov9 w z g c (ovl z i ++ iv8 (ovb z i) i j) v wr)) (fun _ n _ => z.length - (intOf n).toNat)
      case atStart => exact ⟨i + 1, by omega, by omega, by first | rfl | (simp; done), HT0⟩
      case round =>
        obtain ⟨j, hij, hj', rfl, HT⟩ := hrel
        by_cases hlj : j < z.length
        · have hlj' : (j : Int) < z.length := by omega
          have hj0 : (0 : Int) ≤ j := by omega
          have HLX := ovl_six z hl6 hlt hj'
          have hob : ovb z i j = !emp8 (an8 (gsP z[i]) (gsP z[j])) := by unfold ovb; rw [getD9 hlt, getD9 hlj]
          have E0 : Hid (ovb z i j = false → ovl z i ++ iv8 (ovb z i) i (j + 1) = ovl z i ++ iv8 (ovb z i) i j) := Lib.hid fun h => by rw [iv8_no h]
          have E1 : Hid (ovb z i j = true → ovl z i ++ iv8 (ovb z i) i (j + 1) = (ovl z i ++ iv8 (ovb z i) i j) ++ [(i, j)]) := Lib.hid fun h => by rw [iv8_yes (by omega) h, List.append_assoc]
          generalize ovl z i ++ iv8 (ovb z i) i j = xs at HT E0 E1 HLX
          generalize ovb z i j = b at E0 E1 hob
          obtain ⟨⟨_, gv, cv2, rfl, _⟩, _⟩ := HT.out
          obtain ⟨k1, f1, x1, y1, hc1, hx1, hy1, hg1, _⟩ := okR_ex (HK.out i hlt)
          obtain ⟨k2, f2, x2, y2, hc2, hx2, hy2, hg2, _⟩ := okR_ex (HK.out j hlj)
          rw [hg1, hg2] at hob
          clear hg1 hg2
          have HA := Lib.hid (scell_f k1 f1 hx1 hy1)
          have HB := Lib.hid (scell_f k2 f2 hx2 hy2)
          have HC := Lib.hid (sand_8 (sf x1 y1 f1) (sf x2 y2 f2))
          generalize sf x1 y1 f1 = F at HA HC hob
          generalize sf x2 y2 f2 = G at HB HC hob
          have HD := Lib.hid (scount_8 (an8 F G))
          have hd := cnt8_pos (an8 F G)
          rw [← hob] at hd
          generalize cnt8 (an8 F G) = n at HD hd
          have HC1 := Lib.hid hc1
          have HC2 := Lib.hid hc2
          clear hob hc1 hc2
          have Hd := Lib.hid hd
          clear hd
          have hk := HT.out
          go_wp2_with fail
          set_option maxRecDepth 8000 in
          go_region_held3 (fun U => U.cell? ⟨g, i * 9, none⟩ = some (.int .i64 k1) ∧ U.cell? ⟨g, i * 9 + 1, none⟩ = some (.int .i64 (rowv (f1 0))) ∧ U.cell? ⟨g, i * 9 + 2, none⟩ = some (.int .i64 (rowv (f1 1))) ∧ U.cell? ⟨g, i * 9 + 3, none⟩ = some (.int .i64 (rowv (f1 2))) ∧ U.cell? ⟨g, i * 9 + 4, none⟩ = some (.int .i64 (rowv (f1 3))) ∧ U.cell? ⟨g, i * 9 + 5, none⟩ = some (.int .i64 (rowv (f1 4))) ∧ U.cell? ⟨g, i * 9 + 6, none⟩ = some (.int .i64 (rowv (f1 5))) ∧ U.cell? ⟨g, i * 9 + 7, none⟩ = some (.int .i64 (x1 : Int)) ∧ U.cell? ⟨g, i * 9 + 8, none⟩ = some (.int .i64 (y1 : Int)) ∧ U.cell? ⟨g, j * 9, none⟩ = some (.int .i64 k2) ∧ U.cell? ⟨g, j * 9 + 1, none⟩ = some (.int .i64 (rowv (f2 0))) ∧ U.cell? ⟨g, j * 9 + 2, none⟩ = some (.int .i64 (rowv (f2 1))) ∧ U.cell? ⟨g, j * 9 + 3, none⟩ = some (.int .i64 (rowv (f2 2))) ∧ U.cell? ⟨g, j * 9 + 4, none⟩ = some (.int .i64 (rowv (f2 3))) ∧ U.cell? ⟨g, j * 9 + 5, none⟩ = some (.int .i64 (rowv (f2 4))) ∧ U.cell? ⟨g, j * 9 + 6, none⟩ = some (.int .i64 (rowv (f2 5))) ∧ U.cell? ⟨g, j * 9 + 7, none⟩ = some (.int .i64 (x2 : Int)) ∧ U.cell? ⟨g, j * 9 + 8, none⟩ = some (.int .i64 (y2 : Int)) ∧ Ov9 w z g c xs (.slice (some ⟨gv, 0, none⟩) xs.length cv2) U) (with_reducible refine SKo ?_ hlt hlj HC1.out HC2.out; (first | with_reducible assumption | (with_reducible refine Ov9.drew ?_; with_reducible assumption))) (first | (go_at_call 86; with_reducible refine (HA.out _).mono ?_; rintro e w' ⟨rfl, hb'⟩; have hk : Ov9 w z g c xs (.slice (some ⟨gv, 0, none⟩) xs.length cv2) w' := Ov9.below (by (first | with_reducible assumption | (with_reducible refine Ov9.drew ?_; with_reducible assumption))) hb' rfl) | (go_at_call 86; with_reducible refine (HB.out _).mono ?_; rintro e w' ⟨rfl, hb'⟩; have hk : Ov9 w z g c xs (.slice (some ⟨gv, 0, none⟩) xs.length cv2) w' := Ov9.below (by (first | with_reducible assumption | (with_reducible refine Ov9.drew ?_; with_reducible assumption))) hb' rfl) | (go_at_call 94; with_reducible refine (HC.out _).mono ?_; rintro e w' ⟨rfl, hb'⟩; have hk : Ov9 w z g c xs (.slice (some ⟨gv, 0, none⟩) xs.length cv2) w' := Ov9.below (by (first | with_reducible assumption | (with_reducible refine Ov9.drew ?_; with_reducible assumption))) hb' rfl) | (go_at_call 83; with_reducible refine (HD.out _).mono ?_; rintro e w' ⟨rfl, hb'⟩; have hk : Ov9 w z g c xs (.slice (some ⟨gv, 0, none⟩) xs.length cv2) w' := Ov9.below (by (first | with_reducible assumption | (with_reducible refine Ov9.drew ?_; with_reducible assumption))) hb' rfl))
          all_goals
            have HJ := Lib.hid hk
            rename_i hS
            clear hS hk HA HB HC HD HC1 HC2 HT
            cases b
            · have hn : ¬ (0 < n) := by simpa using Hd.out
              go_wp2_with fail
              go_roundw
              case rel => exact ⟨j + 1, by omega, by omega, by go_num, by rw [E0.out (by first | rfl | trivial)]; exact HJ⟩
              case measure => simp [intOf]; omega
            · have hn : 0 < n := by simpa using Hd.out
              obtain ⟨⟨hK, _, _, _, ho⟩, _⟩ := HJ.out
              have HO := ho.kept (grown_below ((Below.refl _ _).alloc (Nat.le_refl _) (.cells #[.int .i64 (i : Int), .int .i64 (j : Int)] 32)) rfl) (.inr (by simp [Value.ownBlock]))
              have HY := Lib.hid (HJ.out.al (.cells #[.int .i64 (i : Int), .int .i64 (j : Int)] 32))
              have hks := hK.2.1
              clear ho HJ hK
              go_wp2_with (at_builtin; refine wpList_append_own_at _ rfl _ _ 68 rfl (w.heap.size + 0) 32 i0 (.agg #[.int .i64 0, .int .i64 0]) 2 16 Try.underlying68 hi hz0 hz1 hz2 rfl (by decide) _ _ _ rfl HO ⟨w'.heap.size, 0, none⟩ 1 1 [.int .i64 (i : Int), .int .i64 (j : Int)] rfl rfl (two_new _ _ _ _) (ints_one _ _) (by have := HLX; unfold maxLen; omega) (by have := HLX; omega) (by have := hks; simp; omega) ?_; intro v' w1 hown' hgrow hnn hat; have R := Lib.hid (HY.out.snoc hown' hgrow hnn); clear hown' hgrow hnn hat HY HO HLX hks)
              go_roundw
              case rel => exact ⟨j + 1, by omega, by omega, by go_num, by rw [E1.out (by first | rfl | trivial)]; exact R⟩
              case measure => simp [intOf]; omega
        · obtain rfl : j = z.length := by omega
          go_wp2_with fail
          go_roundw
          case rel => exact ⟨i + 1, by omega, by go_num, HT⟩
          case measure => simp [intOf]; omega
    · obtain rfl : i = z.length := by omega
      obtain ⟨g2, cap2, rfl, h2, h3⟩ := HS.out.1.post
      have H2 := Lib.hid h2
      have H3 := Lib.hid h3
      clear h2 h3 HS hi hz0 hz1 hz2
      go_wp2_with fail
      go_ret2
      exact ⟨g2, cap2, rfl, H2.out, H3.out⟩
set_option maxRecDepth 8000 in
set_option maxHeartbeats 2000000 in
theorem iover_yes (z : List Pn) (hz : z.length ≤ 1048576) (hwf : ∀ p ∈ z, (Lit.int .i64 p.x).wf = true ∧ (Lit.int .i64 p.y).wf = true) (hok : lok z = true) (g c : Nat) (w : World) (h0 : Op9 0 g c z w) : Calls Try.prog 51 #[.slice (some ⟨g, 0, none⟩) z.length c] w (LPb (ovl z z.length) true w) := by
  obtain ⟨i0, hi, hz0, hz1, hz2⟩ := info_parts info44
  obtain ⟨hl6, hall⟩ := lok_get hok
  have HL := Lib.hid (ilist_any z hz hwf 0 g c)
  rw [hok] at HL
  have HK := Lib.hid hall
  have hgw := (h0.lt g rfl).2
  have H0 := Lib.hid h0
  clear h0 hok hall hwf
  go_enter Try.func51, Try.ntmps51
  go_wp2_with fail
  have S0 : Hid (Ov9 w z g c [] (.slice (some ⟨w.heap.size, 0, none⟩) 0 0) (w.alloc (.cells #[] 32))) := Lib.hid ⟨Rl.start (kr0_8 w), H0.out.below (M := w.heap.size) ((Below.refl _ _).alloc (Nat.le_refl _) _) rfl, hgw⟩
  clear H0
  generalize (World.alloc _ _ : World) = W1 at S0 ⊢
  generalize hv0 : (Value.slice (some ⟨w.heap.size, 0, none⟩) 0 0) = v0 at S0 ⊢
  clear hv0
  refine (HL.out _ S0.out.2.1).mono ?_
  rintro e W2 ⟨rfl, hb⟩
  have S1 := Lib.hid (S0.out.below hb rfl)
  clear hb S0 HL
  go_wp2_with fail
  go_loopw [4, 15] (fun v n wr => ∃ i : Nat, i ≤ z.length ∧ n = .int .i64 i ∧ Hid (Ov9 w z g c (ovl z i) v wr)) (fun _ n _ => z.length - (intOf n).toNat)
  case atStart => exact ⟨0, by omega, rfl, S1⟩
  case round =>
    obtain ⟨i, hi', rfl, HS⟩ := hrel
    by_cases hlt : i < z.length
    · have hlt' : (i : Int) < z.length := by omega
      have hi0 : (0 : Int) ≤ i := by omega
      have ew : wrap64 ((i : Int) + 1) = ((i + 1 : Nat) : Int) := by unfold wrap64; omega
      obtain ⟨k1, f1, x1, y1, hc1, hx1, hy1, hg1, _⟩ := okR_ex (HK.out i hlt)
      have hr := HS.out.2.1.range hlt
      rw [hc1] at hr
      have HR := Lib.hid hr
      have HG1 := Lib.hid hg1
      have HS0 := HS
      clear HS hr hc1 hg1
      obtain ⟨⟨_, gv, cv2, rfl, hov⟩, _⟩ := HS0.out
      have hgv := (hov.lt gv rfl).2
      clear hov
      go_wp2_with ((with_reducible refine wpLm g (i * 9) [.int .i64 k1, .int .i64 (rowv (f1 0)), .int .i64 (rowv (f1 1)), .int .i64 (rowv (f1 2)), .int .i64 (rowv (f1 3)), .int .i64 (rowv (f1 4)), .int .i64 (rowv (f1 5)), .int .i64 (x1 : Int), .int .i64 (y1 : Int)] HR.out _ Try.underlying38 ?_ ?_ ?_ ?_); rfl; rfl; kernel_rfl)
      have HT0 : Hid (Ow9 w z g c (ovl z i) _ wr.heap.size (pr9 k1 f1 x1 y1) (wr.alloc (pr9 k1 f1 x1 y1))) := Lib.hid ⟨HS0.out.al _, alloc_at rfl, by simp only [Value.ownBlock, ne_eq, Option.some.injEq]; omega⟩
      clear HS0 HR
      unfold pr9 at HT0
      generalize (World.alloc _ _ : World) = X0 at HT0 ⊢
      generalize wr.heap.size = gb at HT0 ⊢
      change Hid (Ow9 w z g c _ _ gb (pr9 k1 f1 x1 y1) X0) at HT0
      clear hgv
      go_loopw [4, 7] (fun v n wr => ∃ j : Nat, i + 1 ≤ j ∧ j ≤ z.length ∧ n = .int .i64 j ∧ Hid (Ow9 w z g c (ovl z i ++ iv8 (ovb z i) i j) v gb (pr9 k1 f1 x1 y1) wr)) (fun _ n _ => z.length - (intOf n).toNat)
      case atStart => exact ⟨i + 1, by omega, by omega, by first | rfl | (simp; done), by rw [iv8_low _ _ _ (Nat.le_refl _), List.append_nil]; exact HT0⟩
      case round =>
        obtain ⟨j, hij, hj', rfl, HT⟩ := hrel
        by_cases hlj : j < z.length
        · have hlj' : (j : Int) < z.length := by omega
          have hj0 : (0 : Int) ≤ j := by omega
          have HLX := ovl_six z hl6 hlt hj'
          have hob : ovb z i j = !emp8 (an8 (gsP z[i]) (gsP z[j])) := by unfold ovb; rw [getD9 hlt, getD9 hlj]
          have E0 : Hid (ovb z i j = false → ovl z i ++ iv8 (ovb z i) i (j + 1) = ovl z i ++ iv8 (ovb z i) i j) := Lib.hid fun h => by rw [iv8_no h]
          have E1 : Hid (ovb z i j = true → ovl z i ++ iv8 (ovb z i) i (j + 1) = (ovl z i ++ iv8 (ovb z i) i j) ++ [(i, j)]) := Lib.hid fun h => by rw [iv8_yes (by omega) h, List.append_assoc]
          generalize ovl z i ++ iv8 (ovb z i) i j = xs at HT E0 E1 HLX
          generalize ovb z i j = b at E0 E1 hob
          obtain ⟨⟨⟨_, gv, cv2, rfl, _⟩, _⟩, _⟩ := HT.out
          obtain ⟨k2, f2, x2, y2, hc2, hx2, hy2, hg2, _⟩ := okR_ex (HK.out j hlj)
          rw [HG1.out, hg2] at hob
          clear hg2
          have HB := Lib.hid (isheet_f k2 f2 hx2 hy2)
          have HA := Lib.hid (iapart_f k1 f1 (sf x2 y2 f2) hx1 hy1)
          generalize sf x1 y1 f1 = F at HA hob
          generalize sf x2 y2 f2 = G at HA HB hob
          generalize emp8 (an8 F G) = b2 at HA hob
          obtain rfl : b2 = !b := by rw [hob]; simp
          have HC2 := Lib.hid hc2
          clear hob hc2
          have hk := HT.out
          go_wp2_with fail
          set_option maxRecDepth 8000 in
          go_region_held3 (fun U => U.cell? ⟨gb, 0, none⟩ = some (.int .i64 k1) ∧ U.cell? ⟨gb, 1, none⟩ = some (.int .i64 (rowv (f1 0))) ∧ U.cell? ⟨gb, 2, none⟩ = some (.int .i64 (rowv (f1 1))) ∧ U.cell? ⟨gb, 3, none⟩ = some (.int .i64 (rowv (f1 2))) ∧ U.cell? ⟨gb, 4, none⟩ = some (.int .i64 (rowv (f1 3))) ∧ U.cell? ⟨gb, 5, none⟩ = some (.int .i64 (rowv (f1 4))) ∧ U.cell? ⟨gb, 6, none⟩ = some (.int .i64 (rowv (f1 5))) ∧ U.cell? ⟨gb, 7, none⟩ = some (.int .i64 (x1 : Int)) ∧ U.cell? ⟨gb, 8, none⟩ = some (.int .i64 (y1 : Int)) ∧ U.cell? ⟨g, j * 9, none⟩ = some (.int .i64 k2) ∧ U.cell? ⟨g, j * 9 + 1, none⟩ = some (.int .i64 (rowv (f2 0))) ∧ U.cell? ⟨g, j * 9 + 2, none⟩ = some (.int .i64 (rowv (f2 1))) ∧ U.cell? ⟨g, j * 9 + 3, none⟩ = some (.int .i64 (rowv (f2 2))) ∧ U.cell? ⟨g, j * 9 + 4, none⟩ = some (.int .i64 (rowv (f2 3))) ∧ U.cell? ⟨g, j * 9 + 5, none⟩ = some (.int .i64 (rowv (f2 4))) ∧ U.cell? ⟨g, j * 9 + 6, none⟩ = some (.int .i64 (rowv (f2 5))) ∧ U.cell? ⟨g, j * 9 + 7, none⟩ = some (.int .i64 (x2 : Int)) ∧ U.cell? ⟨g, j * 9 + 8, none⟩ = some (.int .i64 (y2 : Int)) ∧ Ow9 w z g c xs (.slice (some ⟨gv, 0, none⟩) xs.length cv2) gb (pr9 k1 f1 x1 y1) U) (with_reducible refine SKw ?_ hlj HC2.out; (first | with_reducible assumption | (with_reducible refine Ow9.drew ?_; with_reducible assumption))) (first | (go_at_call 95; with_reducible refine (HB.out _).mono ?_; rintro e w' ⟨rfl, hb'⟩; have hk : Ow9 w z g c xs (.slice (some ⟨gv, 0, none⟩) xs.length cv2) gb (pr9 k1 f1 x1 y1) w' := Ow9.below (by (first | with_reducible assumption | (with_reducible refine Ow9.drew ?_; with_reducible assumption))) hb' rfl) | (go_at_call 87; with_reducible refine (HA.out _).mono ?_; rintro e w' ⟨rfl, hb'⟩; have hk : Ow9 w z g c xs (.slice (some ⟨gv, 0, none⟩) xs.length cv2) gb (pr9 k1 f1 x1 y1) w' := Ow9.below (by (first | with_reducible assumption | (with_reducible refine Ow9.drew ?_; with_reducible assumption))) hb' rfl))
          all_goals
            have HJ := Lib.hid hk
            rename_i hS
            clear hS hk HA HB HC2 HT
            cases b
            · go_wp2_with fail
              go_roundw
              case rel => exact ⟨j + 1, by omega, by omega, by go_num, by rw [E0.out (by first | rfl | trivial)]; exact HJ⟩
              case measure => simp [intOf]; omega
            · obtain ⟨⟨⟨hK, _, _, _, ho⟩, _⟩, _⟩ := HJ.out
              have HO := ho.kept (grown_below ((Below.refl _ _).alloc (Nat.le_refl _) (.cells #[.int .i64 (i : Int), .int .i64 (j : Int)] 32)) rfl) (.inr (by simp [Value.ownBlock]))
              have HY := Lib.hid (HJ.out.al (.cells #[.int .i64 (i : Int), .int .i64 (j : Int)] 32))
              have hks := hK.2.1
              clear ho HJ hK
              go_wp2_with (at_builtin; refine wpList_append_own_at _ rfl _ _ 68 rfl (w.heap.size + 0) 32 i0 (.agg #[.int .i64 0, .int .i64 0]) 2 16 Try.underlying68 hi hz0 hz1 hz2 rfl (by decide) _ _ _ rfl HO ⟨w'.heap.size, 0, none⟩ 1 1 [.int .i64 (i : Int), .int .i64 (j : Int)] rfl rfl (two_new _ _ _ _) (ints_one _ _) (by have := HLX; unfold maxLen; omega) (by have := HLX; omega) (by have := hks; simp; omega) ?_; intro v' w1 hown' hgrow hnn hat; have R := Lib.hid (HY.out.snoc hown' hgrow hnn hat); clear hown' hgrow hnn hat HY HO HLX hks)
              go_roundw
              case rel => exact ⟨j + 1, by omega, by omega, by go_num, by rw [E1.out (by first | rfl | trivial)]; exact R⟩
              case measure => simp [intOf]; omega
        · obtain rfl : j = z.length := by omega
          go_wp2_with fail
          go_roundw
          case rel => exact ⟨i + 1, by omega, by go_num, Lib.hid HT.out.1⟩
          case measure => simp [intOf]; omega
    · obtain rfl : i = z.length := by omega
      obtain ⟨g2, cap2, rfl, h2, h3⟩ := HS.out.1.post
      have H2 := Lib.hid h2
      have H3 := Lib.hid h3
      clear h2 h3 HS hi hz0 hz1 hz2
      go_wp2_with fail
      go_ret2
      exact ⟨g2, cap2, rfl, H2.out, H3.out⟩
set_option maxHeartbeats 1000000 in
theorem sover_no (z : List Pn) (hz : z.length ≤ 1048576) (hwf : ∀ p ∈ z, (Lit.int .i64 p.x).wf = true ∧ (Lit.int .i64 p.y).wf = true) (hok : lok z = false) (g c : Nat) (w : World) (h0 : Op9 0 g c z w) : Calls Try.prog 50 #[.slice (some ⟨g, 0, none⟩) z.length c] w (LPb [] false w) := by
  have HL := Lib.hid (slist_any z hz 0 g c)
  rw [hok] at HL
  have hgw := (h0.lt g rfl).2
  have H0 := Lib.hid h0
  clear h0 hok hwf
  go_enter Try.func50, Try.ntmps50
  go_wp2_with fail
  have S0 : Hid (Ov9 w z g c [] (.slice (some ⟨w.heap.size, 0, none⟩) 0 0) (w.alloc (.cells #[] 32))) := Lib.hid ⟨Rl.start (kr0_8 w), H0.out.below (M := w.heap.size) ((Below.refl _ _).alloc (Nat.le_refl _) _) rfl, hgw⟩
  clear H0
  generalize (World.alloc _ _ : World) = W1 at S0 ⊢
  generalize hv0 : (Value.slice (some ⟨w.heap.size, 0, none⟩) 0 0) = v0 at S0 ⊢
  clear hv0
  refine (HL.out _ S0.out.2.1).mono ?_
  rintro e W2 ⟨rfl, hb⟩
  have S1 := Lib.hid (S0.out.below hb rfl)
  clear hb S0 HL
  obtain ⟨g2, cap2, rfl, h2, h3⟩ := S1.out.1.post
  have H2 := Lib.hid h2
  have H3 := Lib.hid h3
  clear h2 h3 S1
  go_wp2_with fail
  go_ret2
  exact ⟨g2, cap2, rfl, H2.out, H3.out⟩
set_option maxHeartbeats 1000000 in
theorem iover_no (z : List Pn) (hz : z.length ≤ 1048576) (hwf : ∀ p ∈ z, (Lit.int .i64 p.x).wf = true ∧ (Lit.int .i64 p.y).wf = true) (hok : lok z = false) (g c : Nat) (w : World) (h0 : Op9 0 g c z w) : Calls Try.prog 51 #[.slice (some ⟨g, 0, none⟩) z.length c] w (LPb [] false w) := by
  have HL := Lib.hid (ilist_any z hz hwf 0 g c)
  rw [hok] at HL
  have hgw := (h0.lt g rfl).2
  have H0 := Lib.hid h0
  clear h0 hok hwf
  go_enter Try.func51, Try.ntmps51
  go_wp2_with fail
  have S0 : Hid (Ov9 w z g c [] (.slice (some ⟨w.heap.size, 0, none⟩) 0 0) (w.alloc (.cells #[] 32))) := Lib.hid ⟨Rl.start (kr0_8 w), H0.out.below (M := w.heap.size) ((Below.refl _ _).alloc (Nat.le_refl _) _) rfl, hgw⟩
  clear H0
  generalize (World.alloc _ _ : World) = W1 at S0 ⊢
  generalize hv0 : (Value.slice (some ⟨w.heap.size, 0, none⟩) 0 0) = v0 at S0 ⊢
  clear hv0
  refine (HL.out _ S0.out.2.1).mono ?_
  rintro e W2 ⟨rfl, hb⟩
  have S1 := Lib.hid (S0.out.below hb rfl)
  clear hb S0 HL
  obtain ⟨g2, cap2, rfl, h2, h3⟩ := S1.out.1.post
  have H2 := Lib.hid h2
  have H3 := Lib.hid h3
  clear h2 h3 S1
  go_wp2_with fail
  go_ret2
  exact ⟨g2, cap2, rfl, H2.out, H3.out⟩
theorem over_pair (z : List Pn) (hz : z.length ≤ 1048576) (hwf : ∀ p ∈ z, (Lit.int .i64 p.x).wf = true ∧ (Lit.int .i64 p.y).wf = true) : ∃ (l : List (Nat × Nat)) (t : Bool), l.length ≤ 36 ∧ (∀ (w : World) (g c : Nat), Op9 0 g c z w → Calls Try.prog 50 #[.slice (some ⟨g, 0, none⟩) z.length c] w (LPb l t w)) ∧ (∀ (w : World) (g c : Nat), Op9 0 g c z w → Calls Try.prog 51 #[.slice (some ⟨g, 0, none⟩) z.length c] w (LPb l t w)) := by
  cases hok : lok z
  · exact ⟨[], false, by simp, fun w g c h => sover_no z hz hwf hok g c w h, fun w g c h => iover_no z hz hwf hok g c w h⟩
  · have h6 := (lok_get hok).1
    have hl := ovl_len z z.length
    have h36 : z.length * z.length ≤ 6 * 6 := Nat.mul_le_mul h6 h6
    exact ⟨ovl z z.length, true, by omega, fun w g c h => sover_yes z hz hok g c w h, fun w g c h => iover_yes z hz hwf hok g c w h⟩
end Go.Proofs.Ytcjomhjgjdjigaa
