/- CONTRACTS: the picture of prints made in an order, of the model and of the code. -/
import Derived.Test.YtcjomhjgjdjigaaMc8
import Derived.WalkKit
import Derived.ProofKit
import Derived.OpenShut
import Derived.Lib.Hide
import Derived.WalkSpells
import Derived.Below
import Derived.BigQuiet
import Derived.LoopN
namespace Go.Proofs.Ytcjomhjgjdjigaa
open Go.ChangeShapes Go.WideShapes Go.ChangeAt Go.RowKit
set_option linter.unusedVariables false
set_option maxRecDepth 8000 in
set_option maxHeartbeats 500000 in
theorem sall_f (z : List Pn) (hz : z.length ≤ 1048576) (o : List Nat) (ho : o.length ≤ 1048576) (hok : ∀ i (hi : i < z.length), okR z[i] = true) (hin : ∀ i (hi : i < o.length), o[i] < z.length) (gz cz go co : Nat) (w : World) (h1 : Op9 0 gz cz z w) (h2 : On8 0 go co o w) : Calls Try.prog 72 #[.slice (some ⟨gz, 0, none⟩) z.length cz, .slice (some ⟨go, 0, none⟩) o.length co] w fun e w' => e = .returned (pv (al8 z o)) ∧ Below w.heap.size w w' := by
  have hgz := (h1.lt gz rfl).2
  have hgo := (h2.lt go rfl).2
  have HK := Lib.hid hok
  have HN := Lib.hid hin
  obtain ⟨R, hR⟩ : ∃ R, R = al8 z o := ⟨_, rfl⟩
  rw [← hR]
  have HR := Lib.hid hR
  clear hok hin hR
  go_enter Try.func72, Try.ntmps72
  have q1 : ((w.alloc (pb 27 fun _ => 0)).alloc (pb 27 fun _ => 0)).heap[w.heap.size + 1]? = some (pb 27 fun _ => 0) := alloc_at (by simp)
  go_wp2_with (first | with_reducible refine wpAlP w.heap.size rfl ?_ | with_reducible refine wpAlP (w.heap.size + 1) (by simp) ?_ | with_reducible refine wpBdP ?_ | ((with_reducible refine wpS36 (w.heap.size + 1) (fun _ => 0) 27 _ q1 ?_ ?_ ?_ ?_); rfl; rfl; kernel_rfl))
  generalize hW0 : ((w.alloc (pb 27 fun _ => 0)).alloc (pb 27 fun _ => 0)) = W0 at q1 ⊢
  generalize hW : (World.setCells _ _ _ _ : World) = W1
  have S0 : Hid (Al9 w 1 [(w.heap.size, pb 27 fun _ => 0)] (w.heap.size + 1) (al8 z (o.take 0)) z gz cz o go co W1) := by
    have hb : Below w.heap.size w W0 := by rw [← hW0]; exact ((Below.refl _ _).alloc (Nat.le_refl _) _).alloc (by simp) _
    have S : Al9 w 1 [(w.heap.size, pb 27 fun _ => 0)] (w.heap.size + 1) (fun _ => 0) z gz cz o go co W0 := ⟨by rw [← hW0]; exact kr1_two w _ _, q1, Nat.le_refl _, row_lt q1, h1.below hb rfl, h2.below hb rfl, by omega, by omega⟩
    rw [← hW]
    exact Lib.hid (S.put fun _ => 0)
  clear hW hW0 q1 h1 h2 hgz hgo
  go_loopw [6] (fun c wr => ∃ i : Nat, i ≤ o.length ∧ c = .int .i64 i ∧ Hid (Al9 w 1 [(w.heap.size, pb 27 fun _ => 0)] (w.heap.size + 1) (al8 z (o.take i)) z gz cz o go co wr)) (fun c _ => o.length - (intOf c).toNat)
  case atStart => exact ⟨0, by omega, rfl, S0⟩
  case round =>
    obtain ⟨i, hi, rfl, HS⟩ := hrel
    by_cases hlt : i < o.length
    · have hlt' : (i : Int) < o.length := by omega
      have hi0 : (0 : Int) ≤ i := by omega
      have hoi := HN.out i hlt
      have HE := Lib.hid (al8_succ z o hlt hoi)
      have c1 := HS.out.2.2.2.2.2.1.at hlt
      generalize al8 z (o.take i) = q at HS HE
      generalize o[i] = j at c1 hoi HE
      have hj' : (j : Int) < z.length := by omega
      have hj0 : (0 : Int) ≤ j := by omega
      have HM := Lib.hid (smade_p q (HK.out j hoi))
      have HP := Lib.hid (run_loadP2 HS.out.2.1)
      have H9 := Lib.hid (run_load92 (HS.out.2.2.2.2.1.range hoi))
      have HD := Lib.hid (HS.out.below (M := wr.heap.size) (Below.refl _ _).drew rfl)
      generalize z[j] = p at HM H9 HE
      unfold md8 at HE
      generalize mp8 q p.k (gsP p) 36 = q2 at HM HE
      generalize (p.cells).toArray = pc at HM H9
      clear HS
      go_wp2_with fail
      refine wp_region_still_tail 8 (by kernel_rfl) (by kernel_rfl) ?_
      simp only [List.take_succ_cons, List.take_zero, List.drop_succ_cons, List.drop_zero]
      repeat (first | ((with_reducible refine wpStillL (ty := 27) (HP.out _ rfl) ?_ ?_); rfl) | ((with_reducible refine wpStillL (ty := 38) (H9.out _ rfl) ?_ ?_); rfl) | still_step)
      refine wpStill_nil ?_
      change wpList _ _ _ _ _ wr.drew
      go_wp2_with fail
      refine (HM.out _).mono ?_
      rintro e W2 ⟨rfl, hb⟩
      have HJ := Lib.hid (HD.out.below hb rfl)
      have hw2 := Lib.hid HJ.out.2.1
      clear hb HD HM H9 HP c1
      go_wp2_with ((with_reducible refine wpS36 (w.heap.size + 1) q2 27 _ hw2.out ?_ ?_ ?_ ?_); rfl; rfl; kernel_rfl)
      have HX := Lib.hid (HJ.out.put q2)
      clear HJ hw2
      generalize (World.setCells _ _ _ _ : World) = X at HX ⊢
      go_roundw
      case rel => exact ⟨i + 1, by omega, by go_num, by rw [HE.out]; exact HX⟩
      case measure => simp [intOf]; omega
    · obtain rfl : i = o.length := by omega
      have h1 := HS.out.2.1
      have h2 := Lib.hid (HS.out.1.row (g := w.heap.size) (o := pb 27 fun _ => 0) (by simp))
      have hB0 := Lib.hid HS.out.1.2.2
      rw [List.take_length, ← HR.out] at h1
      have h1 := Lib.hid h1
      clear HS S0
      go_wp2_with (first | ((with_reducible refine wpL36 (w.heap.size + 1) 27 R h1.out _ Try.underlying27 ?_ ?_ ?_ ?_); rfl; rfl; kernel_rfl) | ((with_reducible refine wpS36 w.heap.size R 27 _ h2.out ?_ ?_ ?_ ?_); rfl; rfl; kernel_rfl))
      have hr := pb_sets R h2.out
      have hB := setCells_below (b := w.heap.size) (cs36 R) 0 hB0.out (by omega)
      generalize (World.setCells _ _ _ _ : World) = X at hr hB ⊢
      exact bodyPost_ret (v := pv R) (res36 (a := 4) (t := 27) rfl rfl (run_loadP hr)) rfl ⟨rfl, hB⟩
set_option maxRecDepth 8000 in
set_option maxHeartbeats 500000 in
theorem iby_f (z : List Pn) (hz : z.length ≤ 1048576) (o : List Nat) (ho : o.length ≤ 1048576) (hok : ∀ i (hi : i < z.length), okR z[i] = true) (hin : ∀ i (hi : i < o.length), o[i] < z.length) (gz cz go co : Nat) (w : World) (h1 : Op9 0 gz cz z w) (h2 : On8 0 go co o w) : Calls Try.prog 75 #[.slice (some ⟨gz, 0, none⟩) z.length cz, .slice (some ⟨go, 0, none⟩) o.length co] w fun e w' => e = .returned (pv (al8 z o)) ∧ Below w.heap.size w w' := by
  have hgz := (h1.lt gz rfl).2
  have hgo := (h2.lt go rfl).2
  have HK := Lib.hid hok
  have HN := Lib.hid hin
  obtain ⟨R, hR⟩ : ∃ R, R = al8 z o := ⟨_, rfl⟩
  rw [← hR]
  have HR := Lib.hid hR
  clear hok hin hR
  go_enter Try.func75, Try.ntmps75
  go_wp2_with (first | with_reducible refine wpAlP w.heap.size rfl ?_ | with_reducible refine wpAlP (w.heap.size + 1) (by simp) ?_)
  generalize hW : (World.alloc _ _ : World) = W1
  have S0 : Hid (Al9 w 1 [(w.heap.size, pb 27 fun _ => 0)] (w.heap.size + 1) (al8 z (o.take 0)) z gz cz o go co W1) := by
    rw [← hW]
    refine Lib.hid ⟨kr1_two w (pb 27 fun _ => 0) (pb 27 fun _ => 0), alloc_at (by simp), Nat.le_refl _, by simp, ?_, ?_, by omega, by omega⟩
    · exact h1.below (M := w.heap.size) (((Below.refl _ _).alloc (Nat.le_refl _) _).alloc (by simp) _) rfl
    · exact h2.below (M := w.heap.size) (((Below.refl _ _).alloc (Nat.le_refl _) _).alloc (by simp) _) rfl
  clear hW h1 h2 hgz hgo
  go_loopw [10] (fun c wr => ∃ i : Nat, i ≤ o.length ∧ c = .int .i64 i ∧ Hid (Al9 w 1 [(w.heap.size, pb 27 fun _ => 0)] (w.heap.size + 1) (al8 z (o.take i)) z gz cz o go co wr)) (fun c _ => o.length - (intOf c).toNat)
  case atStart => exact ⟨0, by omega, rfl, S0⟩
  case round =>
    obtain ⟨i, hi, rfl, HS⟩ := hrel
    by_cases hlt : i < o.length
    · have hlt' : (i : Int) < o.length := by omega
      have hi0 : (0 : Int) ≤ i := by omega
      have hoi := HN.out i hlt
      have HE := Lib.hid (al8_succ z o hlt hoi)
      have c1 := HS.out.2.2.2.2.2.1.at hlt
      generalize al8 z (o.take i) = q at HS HE
      generalize o[i] = j at c1 hoi HE
      have hj' : (j : Int) < z.length := by omega
      have hj0 : (0 : Int) ≤ j := by omega
      have HM := Lib.hid (iprinted_p q (HK.out j hoi))
      have HP := Lib.hid (run_loadP2 HS.out.2.1)
      have H9 := Lib.hid (run_load92 (HS.out.2.2.2.2.1.range hoi))
      have HD := Lib.hid (HS.out.below (M := wr.heap.size) (Below.refl _ _).drew rfl)
      generalize z[j] = p at HM H9 HE
      unfold md8 at HE
      generalize mp8 q p.k (gsP p) 36 = q2 at HM HE
      generalize (p.cells).toArray = pc at HM H9
      clear HS
      go_wp2_with fail
      refine wp_region_still_tail 5 (by kernel_rfl) (by kernel_rfl) ?_
      simp only [List.take_succ_cons, List.take_zero, List.drop_succ_cons, List.drop_zero]
      repeat (first | ((with_reducible refine wpStillL (ty := 27) (HP.out _ rfl) ?_ ?_); rfl) | ((with_reducible refine wpStillL (ty := 38) (H9.out _ rfl) ?_ ?_); rfl) | still_step)
      refine wpStill_nil ?_
      change wpList _ _ _ _ _ wr.drew
      go_wp2_with fail
      refine (HM.out _).mono ?_
      rintro e W2 ⟨rfl, hb⟩
      have HJ := Lib.hid (HD.out.below hb rfl)
      have hw2 := Lib.hid HJ.out.2.1
      clear hb HD HM H9 HP c1
      go_wp2_with ((with_reducible refine wpS36 (w.heap.size + 1) q2 27 _ hw2.out ?_ ?_ ?_ ?_); rfl; rfl; kernel_rfl)
      have HX := Lib.hid (HJ.out.put q2)
      clear HJ hw2
      generalize (World.setCells _ _ _ _ : World) = X at HX ⊢
      go_roundw
      case rel => exact ⟨i + 1, by omega, by go_num, by rw [HE.out]; exact HX⟩
      case measure => simp [intOf]; omega
    · obtain rfl : i = o.length := by omega
      have h1 := HS.out.2.1
      have h2 := Lib.hid (HS.out.1.row (g := w.heap.size) (o := pb 27 fun _ => 0) (by simp))
      have hB0 := Lib.hid HS.out.1.2.2
      rw [List.take_length, ← HR.out] at h1
      have h1 := Lib.hid h1
      clear HS S0
      go_wp2_with (first | ((with_reducible refine wpL36 (w.heap.size + 1) 27 R h1.out _ Try.underlying27 ?_ ?_ ?_ ?_); rfl; rfl; kernel_rfl) | ((with_reducible refine wpS36 w.heap.size R 27 _ h2.out ?_ ?_ ?_ ?_); rfl; rfl; kernel_rfl))
      have hr := pb_sets R h2.out
      have hB := setCells_below (b := w.heap.size) (cs36 R) 0 hB0.out (by omega)
      generalize (World.setCells _ _ _ _ : World) = X at hr hB ⊢
      exact bodyPost_ret (v := pv R) (res36 (a := 4) (t := 27) rfl rfl (run_loadP hr)) rfl ⟨rfl, hB⟩
end Go.Proofs.Ytcjomhjgjdjigaa
