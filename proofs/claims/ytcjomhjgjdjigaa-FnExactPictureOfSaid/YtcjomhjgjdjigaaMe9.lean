/- CONTRACTS: two equal pictures are equal; PictureOf, the law's walk. -/
import Derived.Test.YtcjomhjgjdjigaaMd9
import Derived.Test.YtcjomhjgjdjigaaTp8
import Derived.Deep.RegionHeld3
import Derived.WalkKit
import Derived.ProofKit
import Derived.OpenShut
import Derived.Lib.Hide
import Derived.WalkSpells
import Derived.Below
import Derived.BigQuiet
import Derived.LoopN
namespace Go.Proofs.Ytcjomhjgjdjigaa
open Go.ChangeShapes Go.WideShapes Go.ChangeAt Go.RowKit
set_option linter.unusedVariables false
theorem kr2q (w : World) (a b : Obj) : KR 2 [(w.heap.size, a), (w.heap.size + 1, b)] w ((w.alloc a).alloc b) := by
  refine ⟨?_, by simp, by (repeat (first | exact Below.refl _ _ | assumption | refine Below.setCell ?_ (by first | (simp; done) | (simp; omega)) _ | refine Below.alloc ?_ (by first | (simp; done) | (simp; omega)) _ | refine Below.drew ?_))⟩
  intro p hp
  simp only [List.mem_cons, List.mem_nil_iff, or_false] at hp
  rcases hp with rfl | rfl
  · exact ⟨by simp, alloc_past (alloc_at rfl)⟩
  · exact ⟨by simp, alloc_at (by simp)⟩
theorem SKm {w U : World} {m : Nat → Int} {k : Nat} {v0 v1 v2 v3 v4 v5 : Int} (h : KR 2 [(w.heap.size, pb 23 m), (w.heap.size + 1, pb 23 m)] w U) (hk : k < 6) (hv : m (k * 6) = v0 ∧ m (k * 6 + 1) = v1 ∧ m (k * 6 + 2) = v2 ∧ m (k * 6 + 3) = v3 ∧ m (k * 6 + 4) = v4 ∧ m (k * 6 + 5) = v5) : U.cell? ⟨w.heap.size, k * 6, none⟩ = some (.int .i64 v0) ∧ U.cell? ⟨w.heap.size, k * 6 + 1, none⟩ = some (.int .i64 v1) ∧ U.cell? ⟨w.heap.size, k * 6 + 2, none⟩ = some (.int .i64 v2) ∧ U.cell? ⟨w.heap.size, k * 6 + 3, none⟩ = some (.int .i64 v3) ∧ U.cell? ⟨w.heap.size, k * 6 + 4, none⟩ = some (.int .i64 v4) ∧ U.cell? ⟨w.heap.size, k * 6 + 5, none⟩ = some (.int .i64 v5) ∧ U.cell? ⟨w.heap.size + 1, k * 6, none⟩ = some (.int .i64 v0) ∧ U.cell? ⟨w.heap.size + 1, k * 6 + 1, none⟩ = some (.int .i64 v1) ∧ U.cell? ⟨w.heap.size + 1, k * 6 + 2, none⟩ = some (.int .i64 v2) ∧ U.cell? ⟨w.heap.size + 1, k * 6 + 3, none⟩ = some (.int .i64 v3) ∧ U.cell? ⟨w.heap.size + 1, k * 6 + 4, none⟩ = some (.int .i64 v4) ∧ U.cell? ⟨w.heap.size + 1, k * 6 + 5, none⟩ = some (.int .i64 v5) ∧ KR 2 [(w.heap.size, pb 23 m), (w.heap.size + 1, pb 23 m)] w U := by
  have q1 := pb_cell (h.row (g := w.heap.size) (o := pb 23 m) (List.mem_cons_self ..))
  have q2 := pb_cell (h.row (g := w.heap.size + 1) (o := pb 23 m) (List.mem_cons_of_mem _ (List.mem_cons_self ..)))
  obtain ⟨e0, e1, e2, e3, e4, e5⟩ := hv
  subst e0 e1 e2 e3 e4 e5
  exact ⟨by rw [q1, if_pos (by omega)], by rw [q1, if_pos (by omega)], by rw [q1, if_pos (by omega)], by rw [q1, if_pos (by omega)], by rw [q1, if_pos (by omega)], by rw [q1, if_pos (by omega)], by rw [q2, if_pos (by omega)], by rw [q2, if_pos (by omega)], by rw [q2, if_pos (by omega)], by rw [q2, if_pos (by omega)], by rw [q2, if_pos (by omega)], by rw [q2, if_pos (by omega)], h⟩
set_option maxRecDepth 8000 in
set_option maxHeartbeats 1000000 in
theorem eq66_p (m : Nat → Int) (w : World) : Calls Try.prog 77 #[pv m, pv m] w fun e w' => e = .returned (.bool true) ∧ Below w.heap.size w w' := by
  have HE := Lib.hid eq6_same
  go_enter Try.func77, Try.ntmps77
  go_wp2_with (first | ((with_reducible refine wpB36 m ?_ ?_); rfl))
  have S0 : Hid (KR 2 [(w.heap.size, pb 23 m), (w.heap.size + 1, pb 23 m)] w ((w.alloc (pb 23 m)).alloc (pb 23 m))) := by
    refine Lib.hid ⟨?_, by simp, by (repeat (first | exact Below.refl _ _ | assumption | refine Below.setCell ?_ (by first | (simp; done) | (simp; omega)) _ | refine Below.alloc ?_ (by first | (simp; done) | (simp; omega)) _ | refine Below.drew ?_))⟩
    intro p hp
    simp only [List.mem_cons, List.mem_nil_iff, or_false] at hp
    rcases hp with rfl | rfl
    · exact ⟨by simp, alloc_past (alloc_at rfl)⟩
    · exact ⟨by simp, alloc_at (by simp)⟩
  generalize (World.alloc _ _ : World) = W1 at S0 ⊢
  go_loopw [5] (fun c wr => ∃ k : Nat, k ≤ 6 ∧ c = .int .i64 k ∧ Hid (KR 2 [(w.heap.size, pb 23 m), (w.heap.size + 1, pb 23 m)] w wr)) (fun c _ => 6 - (intOf c).toNat)
  case atStart => exact ⟨0, by omega, rfl, S0⟩
  case round =>
    obtain ⟨k, hk, rfl, HB⟩ := hrel
    by_cases hlt : k < 6
    · have hlt' : (k : Int) < 6 := by omega
      have hk0 : (0 : Int) ≤ k := by omega
      obtain ⟨v0, v1, v2, v3, v4, v5, hv⟩ : ∃ v0 v1 v2 v3 v4 v5, m (k * 6) = v0 ∧ m (k * 6 + 1) = v1 ∧ m (k * 6 + 2) = v2 ∧ m (k * 6 + 3) = v3 ∧ m (k * 6 + 4) = v4 ∧ m (k * 6 + 5) = v5 := ⟨_, _, _, _, _, _, rfl, rfl, rfl, rfl, rfl, rfl⟩
      have HV := Lib.hid hv
      clear hv
      have k0 := HB.out
      go_wp2_with fail
      set_option maxRecDepth 8000 in
      go_region_held3 (fun U => U.cell? ⟨w.heap.size, k * 6, none⟩ = some (.int .i64 v0) ∧ U.cell? ⟨w.heap.size, k * 6 + 1, none⟩ = some (.int .i64 v1) ∧ U.cell? ⟨w.heap.size, k * 6 + 2, none⟩ = some (.int .i64 v2) ∧ U.cell? ⟨w.heap.size, k * 6 + 3, none⟩ = some (.int .i64 v3) ∧ U.cell? ⟨w.heap.size, k * 6 + 4, none⟩ = some (.int .i64 v4) ∧ U.cell? ⟨w.heap.size, k * 6 + 5, none⟩ = some (.int .i64 v5) ∧ U.cell? ⟨w.heap.size + 1, k * 6, none⟩ = some (.int .i64 v0) ∧ U.cell? ⟨w.heap.size + 1, k * 6 + 1, none⟩ = some (.int .i64 v1) ∧ U.cell? ⟨w.heap.size + 1, k * 6 + 2, none⟩ = some (.int .i64 v2) ∧ U.cell? ⟨w.heap.size + 1, k * 6 + 3, none⟩ = some (.int .i64 v3) ∧ U.cell? ⟨w.heap.size + 1, k * 6 + 4, none⟩ = some (.int .i64 v4) ∧ U.cell? ⟨w.heap.size + 1, k * 6 + 5, none⟩ = some (.int .i64 v5) ∧ KR 2 [(w.heap.size, pb 23 m), (w.heap.size + 1, pb 23 m)] w U) (with_reducible refine SKm ?_ hlt HV.out; (first | with_reducible assumption | (with_reducible refine KR.drew ?_; with_reducible assumption))) ((go_at_call 81; with_reducible refine (HE.out _ _ _ _ _ _ _).mono ?_; rintro e w' ⟨rfl, hb'⟩; have k0 : KR 2 [(w.heap.size, pb 23 m), (w.heap.size + 1, pb 23 m)] w w' := KR.far (by (first | with_reducible assumption | (with_reducible refine KR.drew ?_; with_reducible assumption))) hb' rfl))
      all_goals
        have HB2 := Lib.hid k0
        rename_i hS
        clear hS k0 HB
        go_wp2_with fail
        go_roundw
        case rel => exact ⟨k + 1, by omega, by go_num, HB2⟩
        case measure => simp [intOf]; omega
    · obtain rfl : k = 6 := by omega
      go_wp2_with fail
      go_ret
      exact ⟨rfl, HB.out.2.2⟩
set_option maxRecDepth 8000 in
set_option maxHeartbeats 1000000 in
theorem eqpic_same (m : Nat → Int) (w : World) : Calls Try.prog 28 #[pv m, pv m] w fun e w' => e = .returned (.bool true) ∧ Below w.heap.size w w' := by
  have HE := Lib.hid (eq66_p m)
  go_enter Try.func28, Try.ntmps28
  have K0 := kr2q w (pb 27 m) (pb 27 m)
  have q1 := K0.row (g := w.heap.size) (o := pb 27 m) (by simp)
  have q2 := K0.row (g := w.heap.size + 1) (o := pb 27 m) (by simp)
  have hB := K0.2.2
  have hs : (w.alloc (pb 27 m)).heap.size = w.heap.size + 1 := by simp
  clear K0
  go_wp2_with (first | ((with_reducible refine wpB36 m ?_ ?_); rfl) | ((with_reducible refine wpL36 w.heap.size 27 m q1 _ Try.underlying23 ?_ ?_ ?_ ?_); rfl; rfl; kernel_rfl) | ((with_reducible refine wpL36 (w.heap.size + 1) 27 m q2 _ Try.underlying23 ?_ ?_ ?_ ?_); rfl; rfl; kernel_rfl))
  refine (HE.out _).mono ?_
  rintro e W2 ⟨rfl, hb⟩
  have hB2 := below_of hB hb hB.size
  clear hb hB q1 q2 hs
  go_wp2_with fail
  go_ret
  exact ⟨rfl, hB2⟩
end Go.Proofs.Ytcjomhjgjdjigaa
