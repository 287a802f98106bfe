/- CONTRACTS: InkSheet of both, where the arguments are valid and where not; the pair. -/
import Derived.Test.YtcjomhjgjdjigaaIm8
import Derived.Test.YtcjomhjgjdjigaaVi8
import Derived.RegionTactic
import Derived.StillTailTactics
import Derived.WalkKit
import Derived.ProofKit
import Derived.OpenShut
import Derived.Lib.Hide
import Derived.WalkSpells
import Derived.Below
import Derived.BigQuiet
import Derived.LoopN
namespace Go.Proofs.Ytcjomhjgjdjigaa
open Go.ChangeShapes Go.WideShapes Go.ChangeAt Go.RowKit
set_option linter.unusedVariables false
theorem kr2p (w : World) (a b : Obj) : KR 2 [(w.heap.size, a), (w.heap.size + 1, b)] w ((w.alloc a).alloc b) := by
  refine ⟨?_, by simp, by (repeat (first | exact Below.refl _ _ | assumption | refine Below.setCell ?_ (by first | (simp; done) | (simp; omega)) _ | refine Below.alloc ?_ (by first | (simp; done) | (simp; omega)) _ | refine Below.drew ?_))⟩
  intro p hp
  simp only [List.mem_cons, List.mem_nil_iff, or_false] at hp
  rcases hp with rfl | rfl
  · exact ⟨by simp, alloc_past (alloc_at rfl)⟩
  · exact ⟨by simp, alloc_at (by simp)⟩
set_option maxRecDepth 8000 in
set_option maxHeartbeats 1000000 in
theorem sinks_any (m : Nat → Int) (k : Int) (b1 b2 : Bool) (H1 : Hid (∀ w, Calls Try.prog 64 #[pv m] w fun e w' => e = .returned (.bool b1) ∧ Below w.heap.size w w')) (H2 : Hid (∀ w, Calls Try.prog 79 #[.int .i64 k, .int .i64 0, .int .i64 4] w fun e w' => e = .returned (.bool b2) ∧ w' = w)) (r0 r1 r2 r3 r4 r5 : Int) (t : Bool) (hr : Hid ((b1 && b2) = true → (.agg #[.int .i64 r0, .int .i64 r1, .int .i64 r2, .int .i64 r3, .int .i64 r4, .int .i64 r5] : Value) = .agg #[.int .i64 (rowv (im8 m k 36 0)), .int .i64 (rowv (im8 m k 36 1)), .int .i64 (rowv (im8 m k 36 2)), .int .i64 (rowv (im8 m k 36 3)), .int .i64 (rowv (im8 m k 36 4)), .int .i64 (rowv (im8 m k 36 5))] ∧ t = true)) (hn : Hid ((b1 && b2) = false → (.agg #[.int .i64 r0, .int .i64 r1, .int .i64 r2, .int .i64 r3, .int .i64 r4, .int .i64 r5] : Value) = .agg #[.int .i64 (0), .int .i64 (0), .int .i64 (0), .int .i64 (0), .int .i64 (0), .int .i64 (0)] ∧ t = false)) (w : World) : Calls Try.prog 30 #[pv m, .int .i64 k] w fun e w' => e = .returned (.tuple #[.agg #[.int .i64 r0, .int .i64 r1, .int .i64 r2, .int .i64 r3, .int .i64 r4, .int .i64 r5], .bool t]) ∧ Below w.heap.size w w' := by
  have HF := Lib.hid (sink_f m k)
  go_enter Try.func30, Try.ntmps30
  have K0 := kr2p w (pb 27 m) oz
  have q0 := K0.row (g := w.heap.size) (o := pb 27 m) (by simp)
  unfold oz at q0
  go_wp2_with (first | ((with_reducible refine wpB36 m ?_ ?_); rfl) | ((with_reducible refine wpL36 w.heap.size 27 m q0 _ Try.underlying27 ?_ ?_ ?_ ?_); rfl; rfl; kernel_rfl))
  clear q0
  change KR 2 _ w ((w.alloc (pb 27 m)).alloc (.cells #[.int .i64 0, .int .i64 0, .int .i64 0, .int .i64 0, .int .i64 0, .int .i64 0] 36 (0, 0))) at K0
  generalize (World.alloc _ _ : World) = W1 at K0 ⊢
  refine (H1.out _).mono ?_
  rintro e W2 ⟨rfl, hb⟩
  have K1 := K0.far hb rfl
  clear hb K0
  have hz := K1.row (g := w.heap.size + 1) (o := oz) (by simp)
  have z_c := fun j => cell_of_row W2 _ j _ _ _ hz
  have z_f := fun j => frozen_of_row W2 _ j _ _ hz
  clear hz
  cases b1
  · go_wp2_with fail
    refine bodyPost_ret (v := .tuple #[.agg #[.int .i64 (0), .int .i64 (0), .int .i64 (0), .int .i64 (0), .int .i64 (0), .int .i64 (0)], .bool false]) (by simp [results, Try.results30, go_sem, z_c]) rfl ⟨by rw [(hn.out rfl).1, (hn.out rfl).2], ?_⟩
    exact below6 K1.2.2 (by omega)
  go_wp2_with fail
  refine (H2.out _).mono ?_
  rintro e W3 ⟨rfl, hw⟩
  obtain rfl := hw.symm
  cases b2
  · go_wp2_with fail
    refine bodyPost_ret (v := .tuple #[.agg #[.int .i64 (0), .int .i64 (0), .int .i64 (0), .int .i64 (0), .int .i64 (0), .int .i64 (0)], .bool false]) (by simp [results, Try.results30, go_sem, z_c]) rfl ⟨by rw [(hn.out rfl).1, (hn.out rfl).2], ?_⟩
    exact below6 K1.2.2 (by omega)
  have q1 := K1.row (g := w.heap.size) (o := pb 27 m) (by simp)
  clear z_c z_f
  go_wp2_with ((with_reducible refine wpL36 w.heap.size 27 m q1 _ Try.underlying27 ?_ ?_ ?_ ?_); rfl; rfl; kernel_rfl)
  refine (HF.out _).mono ?_
  rintro e W4 ⟨rfl, hb⟩
  have K2 := K1.far hb rfl
  clear hb K1 q1
  have hz := K2.row (g := w.heap.size + 1) (o := oz) (by simp)
  have z_c := fun j => cell_of_row W4 _ j _ _ _ hz
  have z_f := fun j => frozen_of_row W4 _ j _ _ hz
  clear hz
  go_wp2_with fail
  refine bodyPost_ret (v := .tuple #[.agg #[.int .i64 (rowv (im8 m k 36 0)), .int .i64 (rowv (im8 m k 36 1)), .int .i64 (rowv (im8 m k 36 2)), .int .i64 (rowv (im8 m k 36 3)), .int .i64 (rowv (im8 m k 36 4)), .int .i64 (rowv (im8 m k 36 5))], .bool true]) (by simp [results, Try.results30, go_sem, z_c]) rfl ⟨by rw [(hr.out rfl).1, (hr.out rfl).2], ?_⟩
  exact below6 K2.2.2 (by omega)
set_option maxRecDepth 8000 in
set_option maxHeartbeats 1000000 in
theorem iinks_no (m : Nat → Int) (k : Int) (b1 b2 : Bool) (hbb : (b1 && b2) = false) (H1 : Hid (∀ w, Calls Try.prog 20 #[pv m] w fun e w' => e = .returned (.bool b1) ∧ Below w.heap.size w w')) (H2 : Hid (∀ w, Calls Try.prog 66 #[.int .i64 k] w fun e w' => e = .returned (.bool b2) ∧ w' = w)) (w : World) : Calls Try.prog 31 #[pv m, .int .i64 k] w fun e w' => e = .returned (.tuple #[.agg #[.int .i64 (0), .int .i64 (0), .int .i64 (0), .int .i64 (0), .int .i64 (0), .int .i64 (0)], .bool false]) ∧ Below w.heap.size w w' := by
  go_enter Try.func31, Try.ntmps31
  have K0 := kr2p w (pb 27 m) oz
  have q0 := K0.row (g := w.heap.size) (o := pb 27 m) (by simp)
  unfold oz at q0
  go_wp2_with (first | ((with_reducible refine wpB36 m ?_ ?_); rfl) | ((with_reducible refine wpL36 w.heap.size 27 m q0 _ Try.underlying27 ?_ ?_ ?_ ?_); rfl; rfl; kernel_rfl))
  clear q0
  change KR 2 _ w ((w.alloc (pb 27 m)).alloc (.cells #[.int .i64 0, .int .i64 0, .int .i64 0, .int .i64 0, .int .i64 0, .int .i64 0] 36 (0, 0))) at K0
  generalize (World.alloc _ _ : World) = W1 at K0 ⊢
  refine (H1.out _).mono ?_
  rintro e W2 ⟨rfl, hb⟩
  have K1 := K0.far hb rfl
  clear hb K0
  have hz := K1.row (g := w.heap.size + 1) (o := oz) (by simp)
  have z_c := fun j => cell_of_row W2 _ j _ _ _ hz
  have z_f := fun j => frozen_of_row W2 _ j _ _ hz
  clear hz
  cases b1
  · go_wp2_with fail
    refine bodyPost_ret (v := .tuple #[.agg #[.int .i64 (0), .int .i64 (0), .int .i64 (0), .int .i64 (0), .int .i64 (0), .int .i64 (0)], .bool false]) (by simp [results, Try.results31, go_sem, z_c]) rfl ⟨rfl, ?_⟩
    exact below6 K1.2.2 (by omega)
  obtain rfl : b2 = false := by simpa using hbb
  clear hbb
  go_wp2_with fail
  refine (H2.out _).mono ?_
  rintro e W3 ⟨rfl, hw⟩
  obtain rfl := hw.symm
  go_wp2_with fail
  refine bodyPost_ret (v := .tuple #[.agg #[.int .i64 (0), .int .i64 (0), .int .i64 (0), .int .i64 (0), .int .i64 (0), .int .i64 (0)], .bool false]) (by simp [results, Try.results31, go_sem, z_c]) rfl ⟨rfl, ?_⟩
  exact below6 K1.2.2 (by omega)
set_option maxRecDepth 8000 in
set_option maxHeartbeats 2000000 in
theorem iinks_yes (m : Nat → Int) (k : Int) (H1 : Hid (∀ w, Calls Try.prog 20 #[pv m] w fun e w' => e = .returned (.bool true) ∧ Below w.heap.size w w')) (H2 : Hid (∀ w, Calls Try.prog 66 #[.int .i64 k] w fun e w' => e = .returned (.bool true) ∧ w' = w)) (w : World) : Calls Try.prog 31 #[pv m, .int .i64 k] w fun e w' => e = .returned (.tuple #[.agg #[.int .i64 (rowv (im8 m k 36 0)), .int .i64 (rowv (im8 m k 36 1)), .int .i64 (rowv (im8 m k 36 2)), .int .i64 (rowv (im8 m k 36 3)), .int .i64 (rowv (im8 m k 36 4)), .int .i64 (rowv (im8 m k 36 5))], .bool true]) ∧ Below w.heap.size w w' := by
  go_enter Try.func31, Try.ntmps31
  have K0 := kr2p w (pb 27 m) oz
  have q0 := K0.row (g := w.heap.size) (o := pb 27 m) (by simp)
  unfold oz at q0
  go_wp2_with (first | ((with_reducible refine wpB36 m ?_ ?_); rfl) | ((with_reducible refine wpL36 w.heap.size 27 m q0 _ Try.underlying27 ?_ ?_ ?_ ?_); rfl; rfl; kernel_rfl))
  clear q0
  change KR 2 _ w ((w.alloc (pb 27 m)).alloc (.cells #[.int .i64 0, .int .i64 0, .int .i64 0, .int .i64 0, .int .i64 0, .int .i64 0] 36 (0, 0))) at K0
  generalize (World.alloc _ _ : World) = W1 at K0 ⊢
  refine (H1.out _).mono ?_
  rintro e W2 ⟨rfl, hb⟩
  have K1 := K0.far hb rfl
  clear hb K0
  go_wp2_with fail
  refine (H2.out _).mono ?_
  rintro e W3 ⟨rfl, hw⟩
  obtain rfl := hw.symm
  have S0 : Hid (Rm8 w 2 [(w.heap.size, pb 27 m), (w.heap.size + 1, oz)] W2.heap.size (im8 m k (6 * 0)) (W2.alloc oz)) := Lib.hid ⟨K1.al, by rw [Nat.mul_zero, im8_zero]; exact alloc_at rfl, K1.2.1, by simp⟩
  have q1 : (W2.alloc oz).heap[w.heap.size]? = some (pb 27 m) := S0.out.1.row (g := w.heap.size) (o := pb 27 m) (by simp)
  clear K1
  unfold oz at q1
  go_wp2_with ((with_reducible refine wpL36 w.heap.size 27 m q1 _ Try.underlying23 ?_ ?_ ?_ ?_); rfl; rfl; kernel_rfl)
  clear q1
  change Hid (Rm8 w 2 _ W2.heap.size _ (W2.alloc (.cells #[.int .i64 0, .int .i64 0, .int .i64 0, .int .i64 0, .int .i64 0, .int .i64 0] 36 (0, 0)))) at S0
  generalize (World.alloc _ _ : World) = W4 at S0 ⊢
  generalize W2.heap.size = gb at S0 ⊢
  go_loopw [22] (fun c wr => ∃ y : Nat, y ≤ 6 ∧ c = .int .i64 y ∧ Hid (Rm8 w 2 [(w.heap.size, pb 27 m), (w.heap.size + 1, oz)] gb (im8 m k (6 * y)) wr)) (fun c _ => 6 - (intOf c).toNat)
  case atStart => exact ⟨0, by omega, rfl, S0⟩
  case round =>
    obtain ⟨y, hy, rfl, HS⟩ := hrel
    by_cases hlt : y < 6
    · have hlt' : (y : Int) < 6 := by omega
      have hlt2 : decide ((y : Int) < 6) = true := decide_eq_true hlt'
      have hr := row36 m y hlt
      go_wp2_with fail
      try rw [hlt2]
      have HA : Hid (Rm8 w 2 [(w.heap.size, pb 27 m), (w.heap.size + 1, oz)] gb (im8 m k (6 * y + 0)) (wr.alloc (.cells #[.int .i64 (m (y * 6)), .int .i64 (m (y * 6 + 1)), .int .i64 (m (y * 6 + 2)), .int .i64 (m (y * 6 + 3)), .int .i64 (m (y * 6 + 4)), .int .i64 (m (y * 6 + 5))] 22))) := Lib.hid (HS.out.below ((Below.refl _ _).alloc (Nat.le_refl _) _) rfl)
      clear hlt2 hr HS
      generalize (World.alloc _ _ : World) = W5 at HA ⊢
      go_loopw [27] (fun c wr => ∃ x : Nat, x ≤ 6 ∧ c = .int .i64 x ∧ Hid (Rm8 w 2 [(w.heap.size, pb 27 m), (w.heap.size + 1, oz)] gb (im8 m k (6 * y + x)) wr)) (fun c _ => 6 - (intOf c).toNat)
      case atStart => exact ⟨0, by omega, rfl, HA⟩
      case round =>
        obtain ⟨x, hx, rfl, HT⟩ := hrel
        by_cases hlx : x < 6
        · have hlx' : (x : Int) < 6 := by omega
          have hy0 : (0 : Int) ≤ y := by omega
          have hx0 : (0 : Int) ≤ x := by omega
          have he : ∀ W, (Instr.index 22 (.agg #[.int .i64 (m (y * 6)), .int .i64 (m (y * 6 + 1)), .int .i64 (m (y * 6 + 2)), .int .i64 (m (y * 6 + 3)), .int .i64 (m (y * 6 + 4)), .int .i64 (m (y * 6 + 5))]) (.int .i64 x)).run Try.prog W = .ok (.int .i64 (m (y * 6 + x))) W := el6 (fun j => m (y * 6 + j)) x hlx
          have HN := Lib.hid (im8_no (m := m) (k := k) (y := y) hlx)
          have HY := Lib.hid (im8_yes (m := m) (k := k) (y := y) hlx)
          generalize m (y * 6 + x) = v at he HN HY
          by_cases hv : v = k
          · have hq : (v == k) = true := by simpa using hv
            have HV := Lib.hid hv
            clear hv
            have b_y := o8_at hlt HT.out.2.1
            have b_f := fun j => frozen_of_row wr _ j _ _ HT.out.2.1
            have ho := oc8_row (im8 m k (6 * y + x)) hlx y
            go_wp2_with fail
            refine wp_region_still_tail 9 (by kernel_rfl) (by kernel_rfl) ?_
            simp only [List.take_succ_cons, List.take_zero, List.drop_succ_cons, List.drop_zero]
            repeat still_step
            refine wpStill_nil ?_
            change wpList _ _ _ _ _ wr.drew
            go_wp2_with fail
            have HJ := Lib.hid (((HT.out.below (M := wr.heap.size) (Below.refl _ _).drew rfl).put (x := x) hlt).same (G := im8 m k (6 * y + x + 1)) fun j _ => HY.out HV.out j)
            clear b_y b_f ho HT
            go_roundw
            case rel => exact ⟨x + 1, by omega, by go_num, HJ⟩
            case measure => simp [intOf]; omega
          · have hq : (v == k) = false := by simpa using hv
            have HV := Lib.hid hv
            clear hv
            go_wp2_with fail
            have HJ := Lib.hid (HT.out.same (G := im8 m k (6 * y + x + 1)) fun j _ => HN.out HV.out j)
            go_roundw
            case rel => exact ⟨x + 1, by omega, by go_num, HJ⟩
            case measure => simp [intOf]; omega
        · obtain rfl : x = 6 := by omega
          go_wp2_with fail
          go_roundw
          case rel => exact ⟨y + 1, by omega, by go_num, Lib.hid HT.out⟩
          case measure => simp [intOf]; omega
    · obtain rfl : y = 6 := by omega
      have d_c := fun j => cell_of_row wr _ j _ _ _ HS.out.2.1
      have hz := HS.out.1.row (g := w.heap.size + 1) (o := oz) (by simp)
      have z_c := fun j => cell_of_row wr _ j _ _ _ hz
      have z_f := fun j => frozen_of_row wr _ j _ _ hz
      clear hz
      go_wp2_with fail
      refine bodyPost_ret (v := .tuple #[.agg #[.int .i64 (rowv (im8 m k 36 0)), .int .i64 (rowv (im8 m k 36 1)), .int .i64 (rowv (im8 m k 36 2)), .int .i64 (rowv (im8 m k 36 3)), .int .i64 (rowv (im8 m k 36 4)), .int .i64 (rowv (im8 m k 36 5))], .bool true]) (by simp [results, Try.results31, go_sem, z_c]) rfl ⟨rfl, ?_⟩
      exact below6 HS.out.1.2.2 (by omega)
theorem inks_pair (m : Nat → Int) (k : Int) : ∃ (r0 r1 r2 r3 r4 r5 : Int) (t : Bool), (∀ w, Calls Try.prog 30 #[pv m, .int .i64 k] w fun e w' => e = .returned (.tuple #[.agg #[.int .i64 r0, .int .i64 r1, .int .i64 r2, .int .i64 r3, .int .i64 r4, .int .i64 r5], .bool t]) ∧ Below w.heap.size w w') ∧ (∀ w, Calls Try.prog 31 #[pv m, .int .i64 k] w fun e w' => e = .returned (.tuple #[.agg #[.int .i64 r0, .int .i64 r1, .int .i64 r2, .int .i64 r3, .int .i64 r4, .int .i64 r5], .bool t]) ∧ Below w.heap.size w w') := by
  have H1 := Lib.hid (spic_any m)
  have H2 := Lib.hid (l1in_any k 0 4)
  have H3 := Lib.hid (impic_any m)
  have H4 := Lib.hid (ink_any k)
  generalize okp m = b1 at H1 H3
  generalize (decide (0 ≤ k) && decide (k ≤ 4)) = b2 at H2 H4
  cases e : (b1 && b2)
  · exact ⟨0, 0, 0, 0, 0, 0, false, sinks_any m k b1 b2 H1 H2 0 0 0 0 0 0 false (Lib.hid fun h => by rw [e] at h; cases h) (Lib.hid fun _ => ⟨rfl, rfl⟩), iinks_no m k b1 b2 e H3 H4⟩
  · obtain ⟨rfl, rfl⟩ : b1 = true ∧ b2 = true := by simpa using e
    exact ⟨_, _, _, _, _, _, true, sinks_any m k true true H1 H2 _ _ _ _ _ _ true (Lib.hid fun _ => ⟨rfl, rfl⟩) (Lib.hid fun h => by cases h), iinks_yes m k H3 H4⟩
end Go.Proofs.Ytcjomhjgjdjigaa
