/- CONTRACTS: the laws' own helpers on sheets and cells; the model's ways to join two sheets. -/
import Derived.Test.YtnkjamdpafpcpaaSa
import Derived.RegionTactic
import Derived.WalkKit
import Derived.ProofKit
import Derived.OpenShut
import Derived.Lib.Hide
import Derived.WalkSpells
import Derived.Below
import Derived.BigQuiet
import Derived.LoopN
namespace Go.Proofs.Ytnkjamdpafpcpaa
open Go.ChangeShapes Go.WideShapes Go.ChangeAt Go.RowKit
set_option linter.unusedVariables false
theorem row_keep {N g : Nat} {W W' : World} {o : Obj} (hb : Below N W W') (hg : g < N) (h : W.heap[g]? = some o) : W'.heap[g]? = some o := (hb.block g hg).trans h
theorem alloc_at {w : World} {o : Obj} {g : Nat} (h : g = w.heap.size) : (w.alloc o).heap[g]? = some o := by
  subst h; exact Array.getElem?_push_size
theorem alloc_past {w : World} {o v : Obj} {g : Nat} (h : w.heap[g]? = some v) : (w.alloc o).heap[g]? = some v := by
  have hlt : g < w.heap.size := by
    by_cases hlt : g < w.heap.size
    · exact hlt
    · have : w.heap[g]? = none := Array.getElem?_eq_none (by omega)
      rw [this] at h; cases h
  rw [Below.heap_alloc _ _ _ hlt]; exact h
theorem drew_row {w : World} {v : Obj} {g : Nat} (h : w.heap[g]? = some v) : w.drew.heap[g]? = some v := h
theorem below_of {B N : Nat} {w W W' : World} (h : Below B w W) (hb : Below N W W') (hN : B ≤ N) : Below B w W' := h.trans (hb.mono hN)
theorem a6_any (a0 a1 a2 a3 a4 a5 : Int) (w : World) : Calls Try.prog 107 #[.agg #[.int .i64 a0, .int .i64 a1, .int .i64 a2, .int .i64 a3, .int .i64 a4, .int .i64 a5]] w fun e w' => e = .returned (.agg #[.int .i64 a0, .int .i64 a1, .int .i64 a2, .int .i64 a3, .int .i64 a4, .int .i64 a5]) ∧ Below w.heap.size w w' := by
  go_enter Try.func107, Try.ntmps107
  go_wp2_with fail
  refine wp_loop_rounds 7 ?_
  iterate 7
    rw [rounds_succ]
    go_wp2_with fail
  refine bodyPost_ret (v := .agg #[.int .i64 a0, .int .i64 a1, .int .i64 a2, .int .i64 a3, .int .i64 a4, .int .i64 a5]) (by simp [results, Try.results107, go_sem]) rfl ⟨rfl, ?_⟩
  (repeat (first | exact Below.refl _ _ | assumption | refine Below.setCell ?_ (by first | (simp; done) | (simp; omega)) _ | refine Below.alloc ?_ (by first | (simp; done) | (simp; omega)) _ | refine Below.drew ?_))
theorem below6 {B g : Nat} {a w : World} {v0 v1 v2 v3 v4 v5 : Value} (h : Below B a w) (hB : B ≤ g) : Below B a ((((((w.setCell ⟨g, 0, none⟩ v0).setCell ⟨g, 1, none⟩ v1).setCell ⟨g, 2, none⟩ v2).setCell ⟨g, 3, none⟩ v3).setCell ⟨g, 4, none⟩ v4).setCell ⟨g, 5, none⟩ v5) :=
  (((((h.setCell hB _).setCell hB _).setCell hB _).setCell hB _).setCell hB _).setCell hB _
set_option maxHeartbeats 1000000 in
theorem to_sheet (a0 a1 a2 a3 a4 a5 : Int) (w : World) : Calls Try.prog 22 #[.agg #[.int .i64 a0, .int .i64 a1, .int .i64 a2, .int .i64 a3, .int .i64 a4, .int .i64 a5]] w fun e w' => e = .returned (.agg #[.int .i64 a0, .int .i64 a1, .int .i64 a2, .int .i64 a3, .int .i64 a4, .int .i64 a5]) ∧ Below w.heap.size w w' := by
  go_enter Try.func22, Try.ntmps22
  go_wp2_with fail
  refine (a6_any a0 a1 a2 a3 a4 a5 _).mono ?_
  rintro e w' ⟨rfl, hb⟩
  have r1 := row_keep (o := .cells (#[.int .i64 0, .int .i64 0, .int .i64 0, .int .i64 0, .int .i64 0, .int .i64 0]) 28 (0, 0)) (g := w.heap.size + 1) hb (by first | (simp; done) | (simp; omega)) (by repeat (first | (refine alloc_at ?_; first | (simp; done) | (simp; omega)) | refine drew_row ?_ | refine alloc_past ?_ | assumption))
  have r1_c := fun j => cell_of_row _ _ j _ _ _ r1
  have r1_f := fun j => frozen_of_row _ _ j _ _ r1
  have r2 := row_keep (o := .cells (#[.int .i64 0, .int .i64 0, .int .i64 0, .int .i64 0, .int .i64 0, .int .i64 0]) 28 (0, 0)) (g := w.heap.size + 1 + 1) hb (by first | (simp; done) | (simp; omega)) (by repeat (first | (refine alloc_at ?_; first | (simp; done) | (simp; omega)) | refine drew_row ?_ | refine alloc_past ?_ | assumption))
  have r2_c := fun j => cell_of_row _ _ j _ _ _ r2
  have r2_f := fun j => frozen_of_row _ _ j _ _ r2
  have hB := below_of (B := w.heap.size) (w := w) (by (repeat (first | exact Below.refl _ _ | assumption | refine Below.setCell ?_ (by first | (simp; done) | (simp; omega)) _ | refine Below.alloc ?_ (by first | (simp; done) | (simp; omega)) _ | refine Below.drew ?_))) hb (by first | (simp; done) | (simp; omega))
  clear r1 r2 hb
  go_wp2_with fail
  refine bodyPost_ret (v := .agg #[.int .i64 a0, .int .i64 a1, .int .i64 a2, .int .i64 a3, .int .i64 a4, .int .i64 a5]) (by simp [results, Try.results22, go_sem, r1_c]) rfl ⟨rfl, ?_⟩
  exact below6 (below6 hB (by omega)) (by omega)
theorem a2_any (x y : Int) (w : World) : Calls Try.prog 138 #[.agg #[.int .i64 x, .int .i64 y]] w fun e w' => e = .returned (.agg #[.int .i64 x, .int .i64 y]) ∧ Below w.heap.size w w' := by
  go_enter Try.func138, Try.ntmps138
  go_wp2_with fail
  refine wp_loop_rounds 3 ?_
  iterate 3
    rw [rounds_succ]
    go_wp2_with fail
  refine bodyPost_ret (v := .agg #[.int .i64 x, .int .i64 y]) (by simp [results, Try.results138, go_sem]) rfl ⟨rfl, ?_⟩
  (repeat (first | exact Below.refl _ _ | assumption | refine Below.setCell ?_ (by first | (simp; done) | (simp; omega)) _ | refine Below.alloc ?_ (by first | (simp; done) | (simp; omega)) _ | refine Below.drew ?_))
theorem eq6_same (a0 a1 a2 a3 a4 a5 : Int) (w : World) : Calls Try.prog 144 #[.agg #[.int .i64 a0, .int .i64 a1, .int .i64 a2, .int .i64 a3, .int .i64 a4, .int .i64 a5], .agg #[.int .i64 a0, .int .i64 a1, .int .i64 a2, .int .i64 a3, .int .i64 a4, .int .i64 a5]] w fun e w' => e = .returned (.bool true) ∧ Below w.heap.size w w' := by
  go_enter Try.func144, Try.ntmps144
  go_wp2_with fail
  refine wp_loop_rounds 7 ?_
  iterate 6
    rw [rounds_succ]
    go_wp2_with fail
    go_region
    go_wp2_with fail
  rw [rounds_succ]
  go_wp2_with fail
  go_ret
  exact ⟨rfl, by (repeat (first | exact Below.refl _ _ | assumption | refine Below.setCell ?_ (by first | (simp; done) | (simp; omega)) _ | refine Below.alloc ?_ (by first | (simp; done) | (simp; omega)) _ | refine Below.drew ?_))⟩
theorem eq_same (a0 a1 a2 a3 a4 a5 : Int) (w : World) : Calls Try.prog 59 #[.agg #[.int .i64 a0, .int .i64 a1, .int .i64 a2, .int .i64 a3, .int .i64 a4, .int .i64 a5], .agg #[.int .i64 a0, .int .i64 a1, .int .i64 a2, .int .i64 a3, .int .i64 a4, .int .i64 a5]] w fun e w' => e = .returned (.bool true) ∧ Below w.heap.size w w' := by
  go_enter Try.func59, Try.ntmps59
  go_wp2_with fail
  refine (eq6_same a0 a1 a2 a3 a4 a5 _).mono ?_
  rintro e w' ⟨rfl, hb⟩
  have hB := below_of (B := w.heap.size) (w := w) (by (repeat (first | exact Below.refl _ _ | assumption | refine Below.setCell ?_ (by first | (simp; done) | (simp; omega)) _ | refine Below.alloc ?_ (by first | (simp; done) | (simp; omega)) _ | refine Below.drew ?_))) hb (by first | (simp; done) | (simp; omega))
  go_wp2_with fail
  go_ret
  exact ⟨rfl, hB⟩
theorem l2and_any (a0 a1 a2 a3 a4 a5 : Int) (b0 b1 b2 b3 b4 b5 : Int) (w : World) : Calls Try.prog 109 #[.agg #[.int .i64 a0, .int .i64 a1, .int .i64 a2, .int .i64 a3, .int .i64 a4, .int .i64 a5], .agg #[.int .i64 b0, .int .i64 b1, .int .i64 b2, .int .i64 b3, .int .i64 b4, .int .i64 b5]] w fun e w' => e = .returned (.agg #[.int .i64 (bits .and .i64 a0 b0), .int .i64 (bits .and .i64 a1 b1), .int .i64 (bits .and .i64 a2 b2), .int .i64 (bits .and .i64 a3 b3), .int .i64 (bits .and .i64 a4 b4), .int .i64 (bits .and .i64 a5 b5)]) ∧ Below w.heap.size w w' := by
  go_enter Try.func109, Try.ntmps109
  go_wp2_with fail
  refine wp_loop_rounds 7 ?_
  iterate 6
    rw [rounds_succ]
    go_wp2_with fail
    go_region
    go_wp2_with fail
  rw [rounds_succ]
  go_wp2_with fail
  refine bodyPost_ret (v := .agg #[.int .i64 (bits .and .i64 a0 b0), .int .i64 (bits .and .i64 a1 b1), .int .i64 (bits .and .i64 a2 b2), .int .i64 (bits .and .i64 a3 b3), .int .i64 (bits .and .i64 a4 b4), .int .i64 (bits .and .i64 a5 b5)]) (by simp [results, Try.results109, go_sem]) rfl ⟨rfl, ?_⟩
  (repeat (first | exact Below.refl _ _ | assumption | refine Below.setCell ?_ (by first | (simp; done) | (simp; omega)) _ | refine Below.alloc ?_ (by first | (simp; done) | (simp; omega)) _ | refine Below.drew ?_))
theorem l2xor_any (a0 a1 a2 a3 a4 a5 : Int) (b0 b1 b2 b3 b4 b5 : Int) (w : World) : Calls Try.prog 160 #[.agg #[.int .i64 a0, .int .i64 a1, .int .i64 a2, .int .i64 a3, .int .i64 a4, .int .i64 a5], .agg #[.int .i64 b0, .int .i64 b1, .int .i64 b2, .int .i64 b3, .int .i64 b4, .int .i64 b5]] w fun e w' => e = .returned (.agg #[.int .i64 (bits .xor .i64 a0 b0), .int .i64 (bits .xor .i64 a1 b1), .int .i64 (bits .xor .i64 a2 b2), .int .i64 (bits .xor .i64 a3 b3), .int .i64 (bits .xor .i64 a4 b4), .int .i64 (bits .xor .i64 a5 b5)]) ∧ Below w.heap.size w w' := by
  go_enter Try.func160, Try.ntmps160
  go_wp2_with fail
  refine wp_loop_rounds 7 ?_
  iterate 6
    rw [rounds_succ]
    go_wp2_with fail
    go_region
    go_wp2_with fail
  rw [rounds_succ]
  go_wp2_with fail
  refine bodyPost_ret (v := .agg #[.int .i64 (bits .xor .i64 a0 b0), .int .i64 (bits .xor .i64 a1 b1), .int .i64 (bits .xor .i64 a2 b2), .int .i64 (bits .xor .i64 a3 b3), .int .i64 (bits .xor .i64 a4 b4), .int .i64 (bits .xor .i64 a5 b5)]) (by simp [results, Try.results160, go_sem]) rfl ⟨rfl, ?_⟩
  (repeat (first | exact Below.refl _ _ | assumption | refine Below.setCell ?_ (by first | (simp; done) | (simp; omega)) _ | refine Below.alloc ?_ (by first | (simp; done) | (simp; omega)) _ | refine Below.drew ?_))
theorem l2or_any (a0 a1 a2 a3 a4 a5 : Int) (b0 b1 b2 b3 b4 b5 : Int) (w : World) : Calls Try.prog 150 #[.agg #[.int .i64 a0, .int .i64 a1, .int .i64 a2, .int .i64 a3, .int .i64 a4, .int .i64 a5], .agg #[.int .i64 b0, .int .i64 b1, .int .i64 b2, .int .i64 b3, .int .i64 b4, .int .i64 b5]] w fun e w' => e = .returned (.agg #[.int .i64 (bits .or .i64 a0 b0), .int .i64 (bits .or .i64 a1 b1), .int .i64 (bits .or .i64 a2 b2), .int .i64 (bits .or .i64 a3 b3), .int .i64 (bits .or .i64 a4 b4), .int .i64 (bits .or .i64 a5 b5)]) ∧ Below w.heap.size w w' := by
  go_enter Try.func150, Try.ntmps150
  go_wp2_with fail
  refine wp_loop_rounds 7 ?_
  iterate 6
    rw [rounds_succ]
    go_wp2_with fail
    go_region
    go_wp2_with fail
  rw [rounds_succ]
  go_wp2_with fail
  refine bodyPost_ret (v := .agg #[.int .i64 (bits .or .i64 a0 b0), .int .i64 (bits .or .i64 a1 b1), .int .i64 (bits .or .i64 a2 b2), .int .i64 (bits .or .i64 a3 b3), .int .i64 (bits .or .i64 a4 b4), .int .i64 (bits .or .i64 a5 b5)]) (by simp [results, Try.results150, go_sem]) rfl ⟨rfl, ?_⟩
  (repeat (first | exact Below.refl _ _ | assumption | refine Below.setCell ?_ (by first | (simp; done) | (simp; omega)) _ | refine Below.alloc ?_ (by first | (simp; done) | (simp; omega)) _ | refine Below.drew ?_))
theorem l2not_any (a0 a1 a2 a3 a4 a5 : Int) (w : World) : Calls Try.prog 167 #[.agg #[.int .i64 a0, .int .i64 a1, .int .i64 a2, .int .i64 a3, .int .i64 a4, .int .i64 a5]] w fun e w' => e = .returned (.agg #[.int .i64 (wrap64 (63 - a0)), .int .i64 (wrap64 (63 - a1)), .int .i64 (wrap64 (63 - a2)), .int .i64 (wrap64 (63 - a3)), .int .i64 (wrap64 (63 - a4)), .int .i64 (wrap64 (63 - a5))]) ∧ Below w.heap.size w w' := by
  go_enter Try.func167, Try.ntmps167
  go_wp2_with fail
  refine wp_loop_rounds 7 ?_
  iterate 6
    rw [rounds_succ]
    go_wp2_with fail
    try go_region
    go_wp2_with fail
  rw [rounds_succ]
  go_wp2_with fail
  refine bodyPost_ret (v := .agg #[.int .i64 (wrap64 (63 - a0)), .int .i64 (wrap64 (63 - a1)), .int .i64 (wrap64 (63 - a2)), .int .i64 (wrap64 (63 - a3)), .int .i64 (wrap64 (63 - a4)), .int .i64 (wrap64 (63 - a5))]) (by simp [results, Try.results167, go_sem]) rfl ⟨rfl, ?_⟩
  (repeat (first | exact Below.refl _ _ | assumption | refine Below.setCell ?_ (by first | (simp; done) | (simp; omega)) _ | refine Below.alloc ?_ (by first | (simp; done) | (simp; omega)) _ | refine Below.drew ?_))
end Go.Proofs.Ytnkjamdpafpcpaa
