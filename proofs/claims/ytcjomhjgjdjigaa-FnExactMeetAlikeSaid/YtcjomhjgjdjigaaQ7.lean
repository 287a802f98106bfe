/- CONTRACTS: ShiftsTo of the code. -/
import Derived.Test.YtcjomhjgjdjigaaP7
import Derived.WalkKit
import Derived.ProofKit
import Derived.OpenShut
import Derived.Lib.Hide
import Derived.WalkSpells
import Derived.Below
import Derived.BigQuiet
import Derived.LoopN
namespace Go.Proofs.Ytcjomhjgjdjigaa
open Go.ChangeShapes Go.WideShapes Go.ChangeAt Go.RowKit
set_option linter.unusedVariables false
theorem shifted_v (f : Fn6) {x y : Nat} (hx : x < 6) (hy : y < 6) (w : World) : Calls Try.prog 147 #[.agg #[.int .i64 (rowv (f 0)), .int .i64 (rowv (f 1)), .int .i64 (rowv (f 2)), .int .i64 (rowv (f 3)), .int .i64 (rowv (f 4)), .int .i64 (rowv (f 5))], .int .i64 (x : Int), .int .i64 (y : Int)] w fun e w' => e = .returned (.agg #[.int .i64 (rowv (sf x y f 0)), .int .i64 (rowv (sf x y f 1)), .int .i64 (rowv (sf x y f 2)), .int .i64 (rowv (sf x y f 3)), .int .i64 (rowv (sf x y f 4)), .int .i64 (rowv (sf x y f 5))]) ∧ Below w.heap.size w w' := shifted_f f (x : Int) (y : Int) (WalkArith.wf_i64 (by omega)) (WalkArith.wf_i64 (by omega)) hx hy (by omega) (by omega) w
set_option maxHeartbeats 1000000 in
theorem shiftedby_n (f : Fn6) {x y : Nat} (hx : x < 6) (hy : y < 6) (w : World) : Calls Try.prog 127 #[.agg #[.int .i64 (rowv (f 0)), .int .i64 (rowv (f 1)), .int .i64 (rowv (f 2)), .int .i64 (rowv (f 3)), .int .i64 (rowv (f 4)), .int .i64 (rowv (f 5))], .agg #[.int .i64 (x : Int), .int .i64 (y : Int)]] w fun e w' => e = .returned (.agg #[.int .i64 (rowv (sf x y f 0)), .int .i64 (rowv (sf x y f 1)), .int .i64 (rowv (sf x y f 2)), .int .i64 (rowv (sf x y f 3)), .int .i64 (rowv (sf x y f 4)), .int .i64 (rowv (sf x y f 5))]) ∧ Below w.heap.size w w' := by
  have HF := Lib.hid (shifted_v f hx hy)
  go_enter Try.func127, Try.ntmps127
  go_wp2_with fail
  generalize hW : (World.alloc _ _ : World) = W0
  have hB0 : Below w.heap.size w W0 := by rw [← hW]; (repeat (first | exact Below.refl _ _ | assumption | refine Below.setCell ?_ (by first | (simp; done) | (simp; omega)) _ | refine Below.alloc ?_ (by first | (simp; done) | (simp; omega)) _ | refine Below.drew ?_))
  have qz : W0.heap[(w.heap.size + 1 + 1 : Nat)]? = some oz := by
    rw [← hW]
    repeat (first | (refine alloc_at ?_; first | (simp; done) | (simp; omega)) | refine drew_row ?_ | refine alloc_past ?_ | assumption)
  clear hW
  refine (HF.out _).mono ?_
  rintro e W1 ⟨rfl, hb⟩
  have qz1 := rowk qz hb rfl
  have hB1 := below_of hB0 hb hB0.size
  clear hb hB0 qz
  unfold oz at qz1
  have z_c := fun j => cell_of_row W1 _ j _ _ _ qz1
  have z_f := fun j => frozen_of_row W1 _ j _ _ qz1
  go_wp2_with fail
  have qr := set6a (.int .i64 (rowv (sf x y f 0))) (.int .i64 (rowv (sf x y f 1))) (.int .i64 (rowv (sf x y f 2))) (.int .i64 (rowv (sf x y f 3))) (.int .i64 (rowv (sf x y f 4))) (.int .i64 (rowv (sf x y f 5))) qz1
  have hB2 := below6 (v0 := .int .i64 (rowv (sf x y f 0))) (v1 := .int .i64 (rowv (sf x y f 1))) (v2 := .int .i64 (rowv (sf x y f 2))) (v3 := .int .i64 (rowv (sf x y f 3))) (v4 := .int .i64 (rowv (sf x y f 4))) (v5 := .int .i64 (rowv (sf x y f 5))) hB1 (show w.heap.size ≤ w.heap.size + 1 + 1 by omega)
  clear z_c z_f qz1 hB1
  generalize (World.setCell _ _ _ : World) = X at qr hB2 ⊢
  have x_c := fun j => cell_of_row X _ j _ _ _ qr
  exact bodyPost_ret (v := .agg #[.int .i64 (rowv (sf x y f 0)), .int .i64 (rowv (sf x y f 1)), .int .i64 (rowv (sf x y f 2)), .int .i64 (rowv (sf x y f 3)), .int .i64 (rowv (sf x y f 4)), .int .i64 (rowv (sf x y f 5))]) (by simp [results, Try.results127, go_sem, x_c]) rfl ⟨rfl, hB2⟩
/-- Midway: the two sheets, the list of all vectors, the answer so far, and in block gc the vector that is looked at. -/
def Qp (w : World) (a b : Fn6) (gl cl : Nat) (xs : List (Nat × Nat)) (v : Value) (gc x y : Nat) (U : World) : Prop := Rl 2 [(w.heap.size, o6 a), (w.heap.size + 1, o6 b)] w xs v U ∧ U.ownsRow 0 32 2 (.slice (some ⟨gl, 0, none⟩) (vl 36).length cl) (vl 36).length (cv (vl 36)) ∧ U.heap[gc]? = some (oc x y)
theorem Qp.below {w U U' : World} {a b : Fn6} {gl cl : Nat} {xs : List (Nat × Nat)} {v : Value} {gc x y M : Nat} (h : Qp w a b gl cl xs v gc x y U) (hb : Below M U U') (hM : M = U.heap.size) : Qp w a b gl cl xs v gc x y U' := ⟨h.1.below hb hM, h.2.1.kept (grown_below hb hM) (.inr (by simp [Value.ownBlock])), rowk h.2.2 hb hM⟩
theorem Qp.drew {w U : World} {a b : Fn6} {gl cl : Nat} {xs : List (Nat × Nat)} {v : Value} {gc x y : Nat} (h : Qp w a b gl cl xs v gc x y U) : Qp w a b gl cl xs v gc x y U.drew := h.below (M := U.heap.size) (Below.refl _ _).drew rfl
theorem SKp {w U : World} {a b : Fn6} {gl cl : Nat} {xs : List (Nat × Nat)} {v : Value} {gc x y : Nat} (h : Qp w a b gl cl xs v gc x y U) : U.cell? ⟨w.heap.size, 0, none⟩ = some (.int .i64 (rowv (a 0))) ∧ U.cell? ⟨w.heap.size, 1, none⟩ = some (.int .i64 (rowv (a 1))) ∧ U.cell? ⟨w.heap.size, 2, none⟩ = some (.int .i64 (rowv (a 2))) ∧ U.cell? ⟨w.heap.size, 3, none⟩ = some (.int .i64 (rowv (a 3))) ∧ U.cell? ⟨w.heap.size, 4, none⟩ = some (.int .i64 (rowv (a 4))) ∧ U.cell? ⟨w.heap.size, 5, none⟩ = some (.int .i64 (rowv (a 5))) ∧ U.cell? ⟨w.heap.size + 1, 0, none⟩ = some (.int .i64 (rowv (b 0))) ∧ U.cell? ⟨w.heap.size + 1, 1, none⟩ = some (.int .i64 (rowv (b 1))) ∧ U.cell? ⟨w.heap.size + 1, 2, none⟩ = some (.int .i64 (rowv (b 2))) ∧ U.cell? ⟨w.heap.size + 1, 3, none⟩ = some (.int .i64 (rowv (b 3))) ∧ U.cell? ⟨w.heap.size + 1, 4, none⟩ = some (.int .i64 (rowv (b 4))) ∧ U.cell? ⟨w.heap.size + 1, 5, none⟩ = some (.int .i64 (rowv (b 5))) ∧ U.cell? ⟨gc, 0, none⟩ = some (.int .i64 (x : Int)) ∧ U.cell? ⟨gc, 1, none⟩ = some (.int .i64 (y : Int)) ∧ Qp w a b gl cl xs v gc x y U :=
  have h0 := fun j => cell_of_row U _ j _ _ _ (h.1.1.row (g := w.heap.size) (o := o6 a) (List.mem_cons_self ..))
  have h1 := fun j => cell_of_row U _ j _ _ _ (h.1.1.row (g := w.heap.size + 1) (o := o6 b) (List.mem_cons_of_mem _ (List.mem_cons_self ..)))
  have h2 := fun j => cell_of_row U _ j _ _ _ h.2.2
  ⟨h0 0, h0 1, h0 2, h0 3, h0 4, h0 5, h1 0, h1 1, h1 2, h1 3, h1 4, h1 5, h2 0, h2 1, h⟩
end Go.Proofs.Ytcjomhjgjdjigaa
