/- CONTRACTS: a shop's copy; whether a shop is valid, of the model and of the code; equal shops. -/
import Derived.Test.YtnkjamdpafpcpaaSc
import Derived.Test.YtnkjamdpafpcpaaSb
import Derived.Test.YtnkjamdpafpcpaaRk
import Derived.WalkKit
import Derived.ProofKit
import Derived.OpenShut
import Derived.Lib.Hide
import Derived.WalkSpells
import Derived.Below
import Derived.BigQuiet
import Derived.LoopN
namespace Go.Proofs.Ytnkjamdpafpcpaa
open Go.ChangeShapes Go.WideShapes Go.ChangeAt Go.RowKit
set_option linter.unusedVariables false
theorem s12_5 {W : World} {g : Nat} {T : TypeId} {v0 v1 v2 v3 v4 v5 v6 v7 v8 v9 v10 v11 v12 v13 : Value} (u0 u1 u2 u3 u4 u5 : Value) (h : W.heap[g]? = some (.cells #[v0, v1, v2, v3, v4, v5, v6, v7, v8, v9, v10, v11, v12, v13] T (0, 0))) : ((((((W.setCell ⟨g, 0, none⟩ u0).setCell ⟨g, 1, none⟩ u1).setCell ⟨g, 2, none⟩ u2).setCell ⟨g, 3, none⟩ u3).setCell ⟨g, 4, none⟩ u4).setCell ⟨g, 5, none⟩ u5).heap[g]? = some (.cells #[u0, u1, u2, u3, u4, u5, v6, v7, v8, v9, v10, v11, v12, v13] T (0, 0)) := by
  have h1 := heap_setCell_same W g 0 _ _ u0 h
  have h2 := heap_setCell_same _ g 1 _ _ u1 h1
  have h3 := heap_setCell_same _ g 2 _ _ u2 h2
  have h4 := heap_setCell_same _ g 3 _ _ u3 h3
  have h5 := heap_setCell_same _ g 4 _ _ u4 h4
  have h6 := heap_setCell_same _ g 5 _ _ u5 h5
  exact h6
theorem s12_11 {W : World} {g : Nat} {T : TypeId} {v0 v1 v2 v3 v4 v5 v6 v7 v8 v9 v10 v11 v12 v13 : Value} (u0 u1 u2 u3 u4 u5 : Value) (h : W.heap[g]? = some (.cells #[v0, v1, v2, v3, v4, v5, v6, v7, v8, v9, v10, v11, v12, v13] T (0, 0))) : ((((((W.setCell ⟨g, 6, none⟩ u0).setCell ⟨g, 7, none⟩ u1).setCell ⟨g, 8, none⟩ u2).setCell ⟨g, 9, none⟩ u3).setCell ⟨g, 10, none⟩ u4).setCell ⟨g, 11, none⟩ u5).heap[g]? = some (.cells #[v0, v1, v2, v3, v4, v5, u0, u1, u2, u3, u4, u5, v12, v13] T (0, 0)) := by
  have h1 := heap_setCell_same W g 6 _ _ u0 h
  have h2 := heap_setCell_same _ g 7 _ _ u1 h1
  have h3 := heap_setCell_same _ g 8 _ _ u2 h2
  have h4 := heap_setCell_same _ g 9 _ _ u3 h3
  have h5 := heap_setCell_same _ g 10 _ _ u4 h4
  have h6 := heap_setCell_same _ g 11 _ _ u5 h5
  exact h6
theorem bel0_12 {B g : Nat} {w W : World} (v1 v2 v3 v4 v5 v6 : Value) (h : Below B w W) (hB : B ≤ g) : Below B w ((((((W.setCell ⟨g, 0, none⟩ v1).setCell ⟨g, 1, none⟩ v2).setCell ⟨g, 2, none⟩ v3).setCell ⟨g, 3, none⟩ v4).setCell ⟨g, 4, none⟩ v5).setCell ⟨g, 5, none⟩ v6) := (((((h.setCell hB _).setCell hB _).setCell hB _).setCell hB _).setCell hB _).setCell hB _
theorem bel6_12 {B g : Nat} {w W : World} (v1 v2 v3 v4 v5 v6 : Value) (h : Below B w W) (hB : B ≤ g) : Below B w ((((((W.setCell ⟨g, 6, none⟩ v1).setCell ⟨g, 7, none⟩ v2).setCell ⟨g, 8, none⟩ v3).setCell ⟨g, 9, none⟩ v4).setCell ⟨g, 10, none⟩ v5).setCell ⟨g, 11, none⟩ v6) := (((((h.setCell hB _).setCell hB _).setCell hB _).setCell hB _).setCell hB _).setCell hB _
theorem oth0_12 {W : World} {g h : Nat} (v1 v2 v3 v4 v5 v6 : Value) (hg : h ≠ g) : ((((((W.setCell ⟨g, 0, none⟩ v1).setCell ⟨g, 1, none⟩ v2).setCell ⟨g, 2, none⟩ v3).setCell ⟨g, 3, none⟩ v4).setCell ⟨g, 4, none⟩ v5).setCell ⟨g, 5, none⟩ v6).heap[h]? = W.heap[h]? := by
  rw [Below.heap_setCell _ _ _ _ hg, Below.heap_setCell _ _ _ _ hg, Below.heap_setCell _ _ _ _ hg, Below.heap_setCell _ _ _ _ hg, Below.heap_setCell _ _ _ _ hg, Below.heap_setCell _ _ _ _ hg]
theorem oth6_12 {W : World} {g h : Nat} (v1 v2 v3 v4 v5 v6 : Value) (hg : h ≠ g) : ((((((W.setCell ⟨g, 6, none⟩ v1).setCell ⟨g, 7, none⟩ v2).setCell ⟨g, 8, none⟩ v3).setCell ⟨g, 9, none⟩ v4).setCell ⟨g, 10, none⟩ v5).setCell ⟨g, 11, none⟩ v6).heap[h]? = W.heap[h]? := by
  rw [Below.heap_setCell _ _ _ _ hg, Below.heap_setCell _ _ _ _ hg, Below.heap_setCell _ _ _ _ hg, Below.heap_setCell _ _ _ _ hg, Below.heap_setCell _ _ _ _ hg, Below.heap_setCell _ _ _ _ hg]
theorem bel16_12 {B g h : Nat} {w W : World} (u7 u8 v0 v1 v2 v3 v4 v5 v6 v7 v8 v9 v10 v11 v12 v13 : Value) (hb : Below B w W) (hB : B ≤ g) (hC : B ≤ h) : Below B w ((((((((((((((((W.setCell ⟨h, 12, none⟩ u7).setCell ⟨h, 13, none⟩ u8).setCell ⟨g, 0, none⟩ v0).setCell ⟨g, 1, none⟩ v1).setCell ⟨g, 2, none⟩ v2).setCell ⟨g, 3, none⟩ v3).setCell ⟨g, 4, none⟩ v4).setCell ⟨g, 5, none⟩ v5).setCell ⟨g, 6, none⟩ v6).setCell ⟨g, 7, none⟩ v7).setCell ⟨g, 8, none⟩ v8).setCell ⟨g, 9, none⟩ v9).setCell ⟨g, 10, none⟩ v10).setCell ⟨g, 11, none⟩ v11).setCell ⟨g, 12, none⟩ v12).setCell ⟨g, 13, none⟩ v13) := (((((((((((((((hb.setCell hC _).setCell hC _).setCell hB _).setCell hB _).setCell hB _).setCell hB _).setCell hB _).setCell hB _).setCell hB _).setCell hB _).setCell hB _).setCell hB _).setCell hB _).setCell hB _).setCell hB _).setCell hB _
set_option maxRecDepth 8000 in
set_option maxHeartbeats 1000000 in
theorem to_shop (a0 a1 a2 a3 a4 a5 : Int) (b0 b1 b2 b3 b4 b5 : Int) (p c : Int) (w : World) : Calls Try.prog 19 #[.agg #[.int .i64 a0, .int .i64 a1, .int .i64 a2, .int .i64 a3, .int .i64 a4, .int .i64 a5, .int .i64 b0, .int .i64 b1, .int .i64 b2, .int .i64 b3, .int .i64 b4, .int .i64 b5, .int .i64 p, .int .i64 c]] w fun e w' => e = .returned (.agg #[.int .i64 a0, .int .i64 a1, .int .i64 a2, .int .i64 a3, .int .i64 a4, .int .i64 a5, .int .i64 b0, .int .i64 b1, .int .i64 b2, .int .i64 b3, .int .i64 b4, .int .i64 b5, .int .i64 p, .int .i64 c]) ∧ Below w.heap.size w w' := by
  have HS := Lib.hid (to_sheet a0 a1 a2 a3 a4 a5)
  have HA := Lib.hid (to_sheet b0 b1 b2 b3 b4 b5)
  go_enter Try.func19, Try.ntmps19
  go_wp2_with fail
  generalize hW : (World.alloc _ _ : World) = W1
  have r0 : W1.heap[w.heap.size]? = some (.cells #[.int .i64 a0, .int .i64 a1, .int .i64 a2, .int .i64 a3, .int .i64 a4, .int .i64 a5, .int .i64 b0, .int .i64 b1, .int .i64 b2, .int .i64 b3, .int .i64 b4, .int .i64 b5, .int .i64 p, .int .i64 c] 26 (0, 0)) := by rw [← hW]; exact alloc_past (alloc_past (alloc_at rfl))
  have r1 : W1.heap[w.heap.size + 1]? = some (.cells #[.int .i64 0, .int .i64 0, .int .i64 0, .int .i64 0, .int .i64 0, .int .i64 0, .int .i64 0, .int .i64 0, .int .i64 0, .int .i64 0, .int .i64 0, .int .i64 0, .int .i64 0, .int .i64 0] 30 (0, 0)) := by rw [← hW]; exact alloc_past (alloc_at (by simp))
  have r2 : W1.heap[w.heap.size + 1 + 1]? = some (.cells #[.int .i64 0, .int .i64 0, .int .i64 0, .int .i64 0, .int .i64 0, .int .i64 0, .int .i64 0, .int .i64 0, .int .i64 0, .int .i64 0, .int .i64 0, .int .i64 0, .int .i64 0, .int .i64 0] 30 (0, 0)) := by rw [← hW]; exact alloc_at (by simp)
  have hB : Below w.heap.size w W1 := by rw [← hW]; (repeat (first | exact Below.refl _ _ | assumption | refine Below.setCell ?_ (by first | (simp; done) | (simp; omega)) _ | refine Below.alloc ?_ (by first | (simp; done) | (simp; omega)) _ | refine Below.drew ?_))
  have hz : w.heap.size + 1 + 1 < W1.heap.size := by rw [← hW]; simp
  clear hW
  refine (HS.out _).mono ?_
  rintro e W2 ⟨rfl, hb⟩
  have r0 := rowk r0 hb rfl
  have r1 := rowk r1 hb rfl
  have r2 := rowk r2 hb rfl
  have hB := below_of hB hb (by omega)
  have hz : w.heap.size + 1 + 1 < W2.heap.size := Nat.lt_of_lt_of_le hz hb.size
  clear hb
  rename_i r0' r1' r2' hB' hz'
  clear r0' r1' r2' hB' hz'
  have b_c := fun j => cell_of_row W2 _ j _ _ _ r2
  have b_f := fun j => frozen_of_row W2 _ j _ _ r2
  have a_c := fun j => cell_of_row W2 _ j _ _ _ r0
  have R0 := Lib.hid r0
  have R1 := Lib.hid r1
  have R2 := Lib.hid r2
  have HB := Lib.hid hB
  clear r0 r1 r2 hB
  go_wp2_with fail
  clear b_c b_f a_c
  generalize hW : (World.setCell _ _ _ : World) = V
  have r2 : V.heap[w.heap.size + 1 + 1]? = some (.cells #[.int .i64 a0, .int .i64 a1, .int .i64 a2, .int .i64 a3, .int .i64 a4, .int .i64 a5, .int .i64 0, .int .i64 0, .int .i64 0, .int .i64 0, .int .i64 0, .int .i64 0, .int .i64 0, .int .i64 0] 30 (0, 0)) := by rw [← hW]; exact s12_5 _ _ _ _ _ _ R2.out
  have r1 : V.heap[w.heap.size + 1]? = some (.cells #[.int .i64 0, .int .i64 0, .int .i64 0, .int .i64 0, .int .i64 0, .int .i64 0, .int .i64 0, .int .i64 0, .int .i64 0, .int .i64 0, .int .i64 0, .int .i64 0, .int .i64 0, .int .i64 0] 30 (0, 0)) := by
    rw [← hW, oth0_12 _ _ _ _ _ _ (by omega)]
    exact R1.out
  have r0 : V.heap[w.heap.size]? = some (.cells #[.int .i64 a0, .int .i64 a1, .int .i64 a2, .int .i64 a3, .int .i64 a4, .int .i64 a5, .int .i64 b0, .int .i64 b1, .int .i64 b2, .int .i64 b3, .int .i64 b4, .int .i64 b5, .int .i64 p, .int .i64 c] 26 (0, 0)) := by
    rw [← hW, oth0_12 _ _ _ _ _ _ (by omega)]
    exact R0.out
  have hB : Below w.heap.size w V := by
    rw [← hW]
    exact bel0_12 _ _ _ _ _ _ HB.out (by omega)
  have hz : w.heap.size + 1 + 1 < V.heap.size := by rw [← hW]; simpa using hz
  clear hW R0 R1 R2 HB
  refine (HA.out _).mono ?_
  rintro e W3 ⟨rfl, hb⟩
  have r0 := rowk r0 hb rfl
  have r1 := rowk r1 hb rfl
  have r2 := rowk r2 hb rfl
  have hB := below_of hB hb (by omega)
  clear hb
  rename_i r0' r1' r2' hB'
  clear r0' r1' r2' hB'
  have c_c := fun j => cell_of_row W3 _ j _ _ _ r0
  have b_c := fun j => cell_of_row W3 _ j _ _ _ r2
  have b_f := fun j => frozen_of_row W3 _ j _ _ r2
  have a_c := fun j => cell_of_row W3 _ j _ _ _ r1
  have a_f := fun j => frozen_of_row W3 _ j _ _ r1
  have HB := Lib.hid hB
  clear r0 r1 r2 hB hz
  go_wp2_with fail
  refine bodyPost_ret (v := .agg #[.int .i64 a0, .int .i64 a1, .int .i64 a2, .int .i64 a3, .int .i64 a4, .int .i64 a5, .int .i64 b0, .int .i64 b1, .int .i64 b2, .int .i64 b3, .int .i64 b4, .int .i64 b5, .int .i64 p, .int .i64 c]) (by simp [results, Try.results19, go_sem, a_c]) rfl ⟨rfl, ?_⟩
  exact bel16_12 _ _ _ _ _ _ _ _ _ _ _ _ _ _ _ _ (bel6_12 _ _ _ _ _ _ HB.out (by omega)) (by omega) (by omega)
end Go.Proofs.Ytnkjamdpafpcpaa
