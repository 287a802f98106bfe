/- CONTRACTS: the model's stamp at a cell. -/
import Derived.Test.YtnkjamdpafpcpaaPi
import Derived.Deep.RegionHeld3
import Derived.WalkKit
import Derived.ProofKit
import Derived.OpenShut
import Derived.Lib.Hide
import Derived.WalkSpells
import Derived.Below
import Derived.BigQuiet
import Derived.LoopN
namespace Go.Proofs.Ytnkjamdpafpcpaa
open Go.ChangeShapes Go.WideShapes Go.ChangeAt Go.RowKit
set_option linter.unusedVariables false
theorem l2at_n (s : Nat → Nat → Bool) {x y : Nat} (hx : x < 6) (hy : y < 6) (w : World) : Calls Try.prog 151 #[.agg #[.int .i64 (rowv (s 0)), .int .i64 (rowv (s 1)), .int .i64 (rowv (s 2)), .int .i64 (rowv (s 3)), .int .i64 (rowv (s 4)), .int .i64 (rowv (s 5))], .agg #[.int .i64 (x : Int), .int .i64 (y : Int)]] w fun e w' => e = .returned (.agg #[.int .i64 (rowv (sf x y s 0)), .int .i64 (rowv (sf x y s 1)), .int .i64 (rowv (sf x y s 2)), .int .i64 (rowv (sf x y s 3)), .int .i64 (rowv (sf x y s 4)), .int .i64 (rowv (sf x y s 5))]) ∧ Below w.heap.size w w' := by
  have HF := Lib.hid (fun w => l2shift_f s (x : Int) (y : Int) (WalkArith.wf_i64 (by omega)) (WalkArith.wf_i64 (by omega)) hx hy (by omega) (by omega) w)
  go_enter Try.func151, Try.ntmps151
  go_wp2_with fail
  generalize hW : (World.alloc _ _ : World) = W0
  have hB0 : Below w.heap.size w W0 := by rw [← hW]; (repeat (first | exact Below.refl _ _ | assumption | refine Below.setCell ?_ (by first | (simp; done) | (simp; omega)) _ | refine Below.alloc ?_ (by first | (simp; done) | (simp; omega)) _ | refine Below.drew ?_))
  have qz : W0.heap[(w.heap.size + 2 : Nat)]? = some oz := by
    rw [← hW]
    repeat (first | (refine alloc_at ?_; first | (simp; done) | (simp; omega)) | refine drew_row ?_ | refine alloc_past ?_ | assumption)
  clear hW
  refine (HF.out _).mono ?_
  rintro e W1 ⟨rfl, hb⟩
  have qz1 := rowk qz hb rfl
  have hB1 := below_of hB0 hb hB0.size
  clear hb hB0 qz
  have z_c := fun j => cell_of_row W1 _ j _ _ _ qz1
  have z_f := fun j => frozen_of_row W1 _ j _ _ qz1
  go_wp2_with fail
  have qx := set6a (.int .i64 (rowv (sf x y s 0))) (.int .i64 (rowv (sf x y s 1))) (.int .i64 (rowv (sf x y s 2))) (.int .i64 (rowv (sf x y s 3))) (.int .i64 (rowv (sf x y s 4))) (.int .i64 (rowv (sf x y s 5))) qz1
  have hB := below6 (g := w.heap.size + 2) (v0 := .int .i64 (rowv (sf x y s 0))) (v1 := .int .i64 (rowv (sf x y s 1))) (v2 := .int .i64 (rowv (sf x y s 2))) (v3 := .int .i64 (rowv (sf x y s 3))) (v4 := .int .i64 (rowv (sf x y s 4))) (v5 := .int .i64 (rowv (sf x y s 5))) hB1 (by omega)
  generalize (World.setCell _ _ _ : World) = X at qx hB ⊢
  have x_c := fun j => cell_of_row X _ j _ _ _ qx
  exact bodyPost_ret (v := .agg #[.int .i64 (rowv (sf x y s 0)), .int .i64 (rowv (sf x y s 1)), .int .i64 (rowv (sf x y s 2)), .int .i64 (rowv (sf x y s 3)), .int .i64 (rowv (sf x y s 4)), .int .i64 (rowv (sf x y s 5))]) (by simp [results, Try.results151, go_sem, x_c]) rfl ⟨rfl, hB⟩
end Go.Proofs.Ytnkjamdpafpcpaa
