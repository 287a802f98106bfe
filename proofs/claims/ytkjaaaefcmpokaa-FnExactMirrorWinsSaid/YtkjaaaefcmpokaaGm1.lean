/- CONTRACTS: a press that is free. -/
import Derived.Test.YtkjaaaefcmpokaaCb6
import Derived.Test.YtkjaaaefcmpokaaGm0
import Derived.Deep.RegionHeld3
import Derived.WalkKit
import Derived.ProofKit
import Derived.OpenShut
import Derived.Lib.Hide
import Derived.WalkSpells
import Derived.Below
import Derived.BigQuiet
import Derived.LoopN
namespace Go.Proofs.Ytkjaaaefcmpokaa
open Go.ChangeShapes Go.WideShapes Go.ChangeAt Go.RowKit
set_option linter.unusedVariables false
def eqf (f g : Fn6) : Bool := rowv (f 0) == rowv (g 0) && rowv (f 1) == rowv (g 1) && rowv (f 2) == rowv (g 2) && rowv (f 3) == rowv (g 3) && rowv (f 4) == rowv (g 4) && rowv (f 5) == rowv (g 5)
theorem eqf_iff (f g : Fn6) : eqf f g = true ↔ Ag f g := by
  unfold eqf
  simp only [Bool.and_eq_true, beq_iff_eq]
  constructor
  · rintro ⟨⟨⟨⟨⟨h0, h1⟩, h2⟩, h3⟩, h4⟩, h5⟩ j i hj hi
    rcases six_n hj with rfl | rfl | rfl | rfl | rfl | rfl
    · exact rowv_inj h0 i hi
    · exact rowv_inj h1 i hi
    · exact rowv_inj h2 i hi
    · exact rowv_inj h3 i hi
    · exact rowv_inj h4 i hi
    · exact rowv_inj h5 i hi
  · intro h
    exact ⟨⟨⟨⟨⟨rowv_congr fun i hi => h 0 i (by decide) hi, rowv_congr fun i hi => h 1 i (by decide) hi⟩, rowv_congr fun i hi => h 2 i (by decide) hi⟩, rowv_congr fun i hi => h 3 i (by decide) hi⟩, rowv_congr fun i hi => h 4 i (by decide) hi⟩, rowv_congr fun i hi => h 5 i (by decide) hi⟩
theorem eqf_ag {f f' g g' : Fn6} (h : Ag f f') (k : Ag g g') : eqf f g = eqf f' g' := by
  rw [Bool.eq_iff_iff, eqf_iff, eqf_iff]
  exact ⟨fun q => h.symm.trans (q.trans k), fun q => h.trans (q.trans k.symm)⟩
/-- Where a press is free. -/
def frf (f p : Fn6) : Fn6 := fun j i => eqf (af f (sf i j p)) zf
theorem frf_ag (f p : Fn6) : Ag (frf f p) (shr (nf f) p) := by
  intro j i hj hi
  rw [Bool.eq_iff_iff, shr_iff]
  unfold frf
  rw [eqf_iff]
  constructor
  · intro h b a hb ha hp
    have := h ((j + b) % 6) ((i + a) % 6) (Nat.mod_lt _ (by decide)) (Nat.mod_lt _ (by decide))
    unfold af sf zf at this
    rw [show ((j + b) % 6 + 6 - j) % 6 = b by omega, show ((i + a) % 6 + 6 - i) % 6 = a by omega, hp, Bool.and_true] at this
    unfold nf
    rw [this]
    rfl
  · intro h b a hb ha
    unfold af sf zf
    cases hp : p ((b + 6 - j) % 6) ((a + 6 - i) % 6)
    · simp
    · have := h _ _ (Nat.mod_lt _ (by decide)) (Nat.mod_lt _ (by decide)) hp
      rw [show (j + (b + 6 - j) % 6) % 6 = b by omega, show (i + (a + 6 - i) % 6) % 6 = a by omega] at this
      unfold nf at this
      simpa using this
theorem bl_cong {f g : Fn6} (h : Ag f g) : ∀ k, k ≤ 36 → bl f k = bl g k
  | 0, _ => rfl
  | k + 1, hk => by rw [bl_k, bl_k, bl_cong h k (by omega), h (k / 6) (k % 6) (by omega) (Nat.mod_lt _ (by decide))]
theorem frf_zero (f p : Fn6) (x y : Nat) : (rowv (af f (sf x y p) 0) == 0 && rowv (af f (sf x y p) 1) == 0 && rowv (af f (sf x y p) 2) == 0 && rowv (af f (sf x y p) 3) == 0 && rowv (af f (sf x y p) 4) == 0 && rowv (af f (sf x y p) 5) == 0) = frf f p y x := rfl
theorem SKg {w U : World} {f p : Fn6} {x y : Nat} (h : KR 3 [(w.heap.size, o6 f), (w.heap.size + 1, o6 p), (w.heap.size + 2, oc x y)] w U) : U.cell? ⟨w.heap.size, 0, none⟩ = some (.int .i64 (rowv (f 0))) ∧ U.cell? ⟨w.heap.size, 1, none⟩ = some (.int .i64 (rowv (f 1))) ∧ U.cell? ⟨w.heap.size, 2, none⟩ = some (.int .i64 (rowv (f 2))) ∧ U.cell? ⟨w.heap.size, 3, none⟩ = some (.int .i64 (rowv (f 3))) ∧ U.cell? ⟨w.heap.size, 4, none⟩ = some (.int .i64 (rowv (f 4))) ∧ U.cell? ⟨w.heap.size, 5, none⟩ = some (.int .i64 (rowv (f 5))) ∧ U.cell? ⟨w.heap.size + 1, 0, none⟩ = some (.int .i64 (rowv (p 0))) ∧ U.cell? ⟨w.heap.size + 1, 1, none⟩ = some (.int .i64 (rowv (p 1))) ∧ U.cell? ⟨w.heap.size + 1, 2, none⟩ = some (.int .i64 (rowv (p 2))) ∧ U.cell? ⟨w.heap.size + 1, 3, none⟩ = some (.int .i64 (rowv (p 3))) ∧ U.cell? ⟨w.heap.size + 1, 4, none⟩ = some (.int .i64 (rowv (p 4))) ∧ U.cell? ⟨w.heap.size + 1, 5, none⟩ = some (.int .i64 (rowv (p 5))) ∧ U.cell? ⟨w.heap.size + 2, 0, none⟩ = some (.int .i64 (x : Int)) ∧ U.cell? ⟨w.heap.size + 2, 1, none⟩ = some (.int .i64 (y : Int)) ∧ KR 3 [(w.heap.size, o6 f), (w.heap.size + 1, o6 p), (w.heap.size + 2, oc x y)] w U :=
  have h0 := fun j => cell_of_row U _ j _ _ _ (h.row (g := w.heap.size) (o := o6 f) (List.mem_cons_self ..))
  have h1 := fun j => cell_of_row U _ j _ _ _ (h.row (g := w.heap.size + 1) (o := o6 p) (List.mem_cons_of_mem _ (List.mem_cons_self ..)))
  have h2 := fun j => cell_of_row U _ j _ _ _ (h.row (g := w.heap.size + 2) (o := oc x y) (List.mem_cons_of_mem _ (List.mem_cons_of_mem _ (List.mem_cons_self ..))))
  ⟨h0 0, h0 1, h0 2, h0 3, h0 4, h0 5, h1 0, h1 1, h1 2, h1 3, h1 4, h1 5, h2 0, h2 1, h⟩
set_option maxHeartbeats 4000000 in
theorem lisfree_f (f p : Fn6) {x y : Nat} (hx : x < 6) (hy : y < 6) (w : World) : Calls Try.prog 162 #[.agg #[.int .i64 (rowv (f 0)), .int .i64 (rowv (f 1)), .int .i64 (rowv (f 2)), .int .i64 (rowv (f 3)), .int .i64 (rowv (f 4)), .int .i64 (rowv (f 5))], .agg #[.int .i64 (rowv (p 0)), .int .i64 (rowv (p 1)), .int .i64 (rowv (p 2)), .int .i64 (rowv (p 3)), .int .i64 (rowv (p 4)), .int .i64 (rowv (p 5))], .agg #[.int .i64 (x : Int), .int .i64 (y : Int)]] w fun e w' => e = .returned (.bool (frf f p y x)) ∧ Below w.heap.size w w' := by
  have HF := Lib.hid (l2at_n p hx hy)
  have HA := Lib.hid (land_f f (sf x y p))
  have HE := Lib.hid (eq26 (rowv (af f (sf x y p) 0)) (rowv (af f (sf x y p) 1)) (rowv (af f (sf x y p) 2)) (rowv (af f (sf x y p) 3)) (rowv (af f (sf x y p) 4)) (rowv (af f (sf x y p) 5)) 0 0 0 0 0 0)
  simp only [frf_zero] at HE
  generalize frf f p y x = r at HE ⊢
  go_enter Try.func162, Try.ntmps162
  go_wp2_with fail
  generalize hW : (World.alloc _ _ : World) = W0
  have hk : KR 3 [(w.heap.size, o6 f), (w.heap.size + 1, o6 p), (w.heap.size + 2, oc x y)] w W0 := by
    rw [← hW]
    refine ⟨?_, by simp, by (repeat (first | exact Below.refl _ _ | assumption | refine Below.setCell ?_ (by first | (simp; done) | (simp; omega)) _ | refine Below.alloc ?_ (by first | (simp; done) | (simp; omega)) _ | refine Below.drew ?_))⟩
    have q0 : (((w.alloc (o6 f)).alloc (o6 p)).alloc (oc x y)).heap[w.heap.size]? = some (o6 f) := alloc_past (alloc_past (alloc_at rfl))
    have q1 : (((w.alloc (o6 f)).alloc (o6 p)).alloc (oc x y)).heap[w.heap.size + 1]? = some (o6 p) := alloc_past (alloc_at (by simp))
    have q2 : (((w.alloc (o6 f)).alloc (o6 p)).alloc (oc x y)).heap[w.heap.size + 2]? = some (oc x y) := alloc_at (by simp)
    intro q hq
    simp only [List.mem_cons, List.not_mem_nil, or_false] at hq
    rcases hq with rfl | rfl | rfl
    · exact ⟨by dsimp only; omega, q0⟩
    · exact ⟨by dsimp only; omega, q1⟩
    · exact ⟨by dsimp only; omega, q2⟩
  clear hW
  have hz0 := KR.le hk
  have he := HE.out
  set_option maxRecDepth 8000 in
  go_region_held3 (fun U => U.cell? ⟨w.heap.size, 0, none⟩ = some (.int .i64 (rowv (f 0))) ∧ U.cell? ⟨w.heap.size, 1, none⟩ = some (.int .i64 (rowv (f 1))) ∧ U.cell? ⟨w.heap.size, 2, none⟩ = some (.int .i64 (rowv (f 2))) ∧ U.cell? ⟨w.heap.size, 3, none⟩ = some (.int .i64 (rowv (f 3))) ∧ U.cell? ⟨w.heap.size, 4, none⟩ = some (.int .i64 (rowv (f 4))) ∧ U.cell? ⟨w.heap.size, 5, none⟩ = some (.int .i64 (rowv (f 5))) ∧ U.cell? ⟨w.heap.size + 1, 0, none⟩ = some (.int .i64 (rowv (p 0))) ∧ U.cell? ⟨w.heap.size + 1, 1, none⟩ = some (.int .i64 (rowv (p 1))) ∧ U.cell? ⟨w.heap.size + 1, 2, none⟩ = some (.int .i64 (rowv (p 2))) ∧ U.cell? ⟨w.heap.size + 1, 3, none⟩ = some (.int .i64 (rowv (p 3))) ∧ U.cell? ⟨w.heap.size + 1, 4, none⟩ = some (.int .i64 (rowv (p 4))) ∧ U.cell? ⟨w.heap.size + 1, 5, none⟩ = some (.int .i64 (rowv (p 5))) ∧ U.cell? ⟨w.heap.size + 2, 0, none⟩ = some (.int .i64 (x : Int)) ∧ U.cell? ⟨w.heap.size + 2, 1, none⟩ = some (.int .i64 (y : Int)) ∧ KR 3 [(w.heap.size, o6 f), (w.heap.size + 1, o6 p), (w.heap.size + 2, oc x y)] w U) (with_reducible refine SKg ?_; (repeat (first | with_reducible assumption | with_reducible refine KR.al ?_ | with_reducible refine KR.drew ?_))) (first | (go_at_call 153; with_reducible refine (HF.out _).mono ?_; rintro e w' ⟨rfl, hb'⟩; have hk : KR 3 [(w.heap.size, o6 f), (w.heap.size + 1, o6 p), (w.heap.size + 2, oc x y)] w w' := KR.far (by (repeat (first | with_reducible assumption | with_reducible refine KR.al ?_ | with_reducible refine KR.drew ?_))) hb' rfl) | (go_at_call 168; with_reducible refine (HA.out _).mono ?_; rintro e w' ⟨rfl, hb'⟩; have hk : KR 3 [(w.heap.size, o6 f), (w.heap.size + 1, o6 p), (w.heap.size + 2, oc x y)] w w' := KR.far (by (repeat (first | with_reducible assumption | with_reducible refine KR.al ?_ | with_reducible refine KR.drew ?_))) hb' rfl))
  all_goals
    go_wp2_with fail
    go_ret
    exact ⟨rfl, hk.2.2⟩
end Go.Proofs.Ytkjaaaefcmpokaa
