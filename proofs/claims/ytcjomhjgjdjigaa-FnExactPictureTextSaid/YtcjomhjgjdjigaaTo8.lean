/- CONTRACTS: a picture's copy. -/
import Derived.Test.YtcjomhjgjdjigaaPw8
import Derived.WalkKit
import Derived.ProofKit
import Derived.OpenShut
import Derived.Lib.Hide
import Derived.WalkSpells
import Derived.Below
import Derived.BigQuiet
import Derived.LoopN
namespace Go.Proofs.Ytcjomhjgjdjigaa
open Go.ChangeShapes Go.WideShapes Go.ChangeAt Go.RowKit
set_option linter.unusedVariables false
set_option maxRecDepth 8000 in
set_option maxHeartbeats 400000 in
theorem to66_any (m : Nat → Int) (w : World) : Calls Try.prog 65 #[pv m] w fun e w' => e = .returned (pv m) ∧ Below w.heap.size w w' := by
  have HA := Lib.hid a6_any
  go_enter Try.func65, Try.ntmps65
  go_wp2_with (refine wpList_box36 rfl 23 _ rfl m rfl ?_)
  generalize hW : (World.alloc _ _ : World) = W1
  have S0 : Hid (Rp8 23 w m (0 * 6) W1) := by
    rw [← hW]
    exact Lib.hid ⟨alloc_past (alloc_past (alloc_at rfl)), alloc_past (alloc_at (by simp)), by rw [pb_zero]; exact alloc_at (by simp), by (repeat (first | exact Below.refl _ _ | assumption | refine Below.setCell ?_ (by first | (simp; done) | (simp; omega)) _ | refine Below.alloc ?_ (by first | (simp; done) | (simp; omega)) _ | refine Below.drew ?_)), by simp⟩
  clear hW
  go_loopw [4] (fun c wr => ∃ k : Nat, k ≤ 6 ∧ c = .int .i64 k ∧ Hid (Rp8 23 w m (k * 6) wr)) (fun c _ => 6 - (intOf c).toNat)
  case atStart => exact ⟨0, by omega, rfl, S0⟩
  case round =>
    obtain ⟨k, hk, rfl, HS⟩ := hrel
    by_cases hlt : k < 6
    · have hlt' : (k : Int) < 6 := by omega
      have hk0 : (0 : Int) ≤ k := by omega
      have c0 := pb_range6 hlt HS.out.1
      have HP := Lib.hid (fun (U : World) (h : Rp8 23 w m (k * 6) U) => h.put hlt)
      have HC := Lib.hid (fun (U : World) (h : Rp8 23 w m (k * 6) U) => pb_there6 hlt h.2.2.1)
      generalize m (k * 6) = v0 at c0 HP
      generalize m (k * 6 + 1) = v1 at c0 HP
      generalize m (k * 6 + 2) = v2 at c0 HP
      generalize m (k * 6 + 3) = v3 at c0 HP
      generalize m (k * 6 + 4) = v4 at c0 HP
      generalize m (k * 6 + 5) = v5 at c0 HP
      have C0 := Lib.hid c0
      clear c0
      go_wp2_with (refine wpList_load_mid rfl 22 _ rfl w.heap.size (k * 6) rfl [.int .i64 v0, .int .i64 v1, .int .i64 v2, .int .i64 v3, .int .i64 v4, .int .i64 v5] _ C0.out Try.underlying22 rfl (by kernel_rfl) ?_)
      refine (HA.out _ _ _ _ _ _ _).mono ?_
      rintro e W3 ⟨rfl, hb⟩
      have HE := Lib.hid (HS.out.below hb rfl)
      have HT := Lib.hid (HC.out _ HE.out)
      clear hb HS C0 HC
      go_wp2_with ((with_reducible change wpList _ _ _ (Oper.mk _ (Op.store _ _ _) _ _ _ _ :: _) _ _); refine wpList_store_mid ?_ 22 (.tmp 14) (.tmp 13) ?_ (w.heap.size + 1 + 1) (k * 6) #[.int .i64 v0, .int .i64 v1, .int .i64 v2, .int .i64 v3, .int .i64 v4, .int .i64 v5] ?_ ?_ HT.out ?_ ?_ ?_; rfl; rfl; rfl; rfl; kernel_rfl; kernel_rfl)
      have HI : Hid (Rp8 23 w m ((k + 1) * 6) (W3.setCells (w.heap.size + 1 + 1) (k * 6) [.int .i64 v0, .int .i64 v1, .int .i64 v2, .int .i64 v3, .int .i64 v4, .int .i64 v5])) := Lib.hid (HP.out _ HE.out)
      clear HT HE HP
      generalize (World.setCells _ _ _ _ : World) = X at HI ⊢
      go_roundw
      case rel => exact ⟨k + 1, by omega, by go_num, HI⟩
      case measure => simp [intOf]; omega
    · obtain rfl : k = 6 := by omega
      obtain ⟨h1, h2, h3, h4, h5⟩ := HS.out
      rw [pb_end] at h3
      clear HS S0
      have h2 := Lib.hid h2
      have h3 := Lib.hid h3
      have h4 := Lib.hid h4
      go_wp2_with (first | refine wpList_load36 rfl 23 _ rfl (w.heap.size + 1 + 1) rfl 23 m h3.out (.array 6 22) (by kernel_rfl) rfl (by kernel_rfl) ?_ | refine wpList_store36 rfl 23 _ _ rfl (w.heap.size + 1) rfl m rfl 23 _ h2.out (by kernel_rfl) ?_)
      have hr := pb_sets m h2.out
      have hB := setCells_below (b := w.heap.size + 1) (cs36 m) 0 h4.out (by omega)
      generalize (World.setCells _ _ _ _ : World) = X at hr hB ⊢
      exact bodyPost_ret (v := pv m) (res36 (a := 2) (t := 23) rfl rfl (run_load36 hr 23 (.array 6 22) (by kernel_rfl) rfl (by kernel_rfl))) rfl ⟨rfl, hB⟩
end Go.Proofs.Ytcjomhjgjdjigaa
