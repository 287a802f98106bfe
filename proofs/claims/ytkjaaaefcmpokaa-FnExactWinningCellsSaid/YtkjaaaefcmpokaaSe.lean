/- CONTRACTS: parts of a sheet; the other colors; a flipped cell; in the model and in the code. -/
import Derived.Test.YtkjaaaefcmpokaaSb
import Derived.Test.YtkjaaaefcmpokaaSd
import Derived.Test.YtkjaaaefcmpokaaKp
import Derived.Test.YtkjaaaefcmpokaaSc
import Derived.Deep.RegionHeld3
import Derived.WalkKit
import Derived.ProofKit
import Derived.OpenShut
import Derived.Lib.Hide
import Derived.WalkSpells
import Derived.Below
import Derived.BigQuiet
import Derived.LoopN
namespace Go.Proofs.Ytkjaaaefcmpokaa
open Go.ChangeShapes Go.WideShapes Go.ChangeAt Go.RowKit
set_option linter.unusedVariables false
theorem l2part_any (a0 a1 a2 a3 a4 a5 : Int) (b0 b1 b2 b3 b4 b5 : Int) (w : World) : Calls Try.prog 278 #[.agg #[.int .i64 a0, .int .i64 a1, .int .i64 a2, .int .i64 a3, .int .i64 a4, .int .i64 a5], .agg #[.int .i64 b0, .int .i64 b1, .int .i64 b2, .int .i64 b3, .int .i64 b4, .int .i64 b5]] w fun e w' => e = .returned (.bool (bits .and .i64 a0 b0 == a0 && bits .and .i64 a1 b1 == a1 && bits .and .i64 a2 b2 == a2 && bits .and .i64 a3 b3 == a3 && bits .and .i64 a4 b4 == a4 && bits .and .i64 a5 b5 == a5)) ∧ Below w.heap.size w w' := by
  have E := eq26 (bits .and .i64 a0 b0) (bits .and .i64 a1 b1) (bits .and .i64 a2 b2) (bits .and .i64 a3 b3) (bits .and .i64 a4 b4) (bits .and .i64 a5 b5) a0 a1 a2 a3 a4 a5
  go_enter Try.func278, Try.ntmps278
  go_wp2_with fail
  generalize hW : (World.alloc _ _ : World) = W0
  have k0 : W0.cell? ⟨w.heap.size, 0, none⟩ = some (.int .i64 a0) ∧ W0.cell? ⟨w.heap.size, 1, none⟩ = some (.int .i64 a1) ∧ W0.cell? ⟨w.heap.size, 2, none⟩ = some (.int .i64 a2) ∧ W0.cell? ⟨w.heap.size, 3, none⟩ = some (.int .i64 a3) ∧ W0.cell? ⟨w.heap.size, 4, none⟩ = some (.int .i64 a4) ∧ W0.cell? ⟨w.heap.size, 5, none⟩ = some (.int .i64 a5) ∧ W0.cell? ⟨w.heap.size + 1, 0, none⟩ = some (.int .i64 b0) ∧ W0.cell? ⟨w.heap.size + 1, 1, none⟩ = some (.int .i64 b1) ∧ W0.cell? ⟨w.heap.size + 1, 2, none⟩ = some (.int .i64 b2) ∧ W0.cell? ⟨w.heap.size + 1, 3, none⟩ = some (.int .i64 b3) ∧ W0.cell? ⟨w.heap.size + 1, 4, none⟩ = some (.int .i64 b4) ∧ W0.cell? ⟨w.heap.size + 1, 5, none⟩ = some (.int .i64 b5) ∧ Below w.heap.size w W0 := by
    subst hW
    refine ⟨by go_simp, by go_simp, by go_simp, by go_simp, by go_simp, by go_simp, by go_simp, by go_simp, by go_simp, by go_simp, by go_simp, by go_simp, ?_⟩
    (repeat (first | exact Below.refl _ _ | assumption | refine Below.setCell ?_ (by first | (simp; done) | (simp; omega)) _ | refine Below.alloc ?_ (by first | (simp; done) | (simp; omega)) _ | refine Below.drew ?_))
  clear hW
  go_region_held3 (fun U => U.cell? ⟨w.heap.size, 0, none⟩ = some (.int .i64 a0) ∧ U.cell? ⟨w.heap.size, 1, none⟩ = some (.int .i64 a1) ∧ U.cell? ⟨w.heap.size, 2, none⟩ = some (.int .i64 a2) ∧ U.cell? ⟨w.heap.size, 3, none⟩ = some (.int .i64 a3) ∧ U.cell? ⟨w.heap.size, 4, none⟩ = some (.int .i64 a4) ∧ U.cell? ⟨w.heap.size, 5, none⟩ = some (.int .i64 a5) ∧ U.cell? ⟨w.heap.size + 1, 0, none⟩ = some (.int .i64 b0) ∧ U.cell? ⟨w.heap.size + 1, 1, none⟩ = some (.int .i64 b1) ∧ U.cell? ⟨w.heap.size + 1, 2, none⟩ = some (.int .i64 b2) ∧ U.cell? ⟨w.heap.size + 1, 3, none⟩ = some (.int .i64 b3) ∧ U.cell? ⟨w.heap.size + 1, 4, none⟩ = some (.int .i64 b4) ∧ U.cell? ⟨w.heap.size + 1, 5, none⟩ = some (.int .i64 b5) ∧ Below w.heap.size w U) (first | exact drewc12 k0 | assumption) (first | (go_at_call 168; refine (l2and_any _ _ _ _ _ _ _ _ _ _ _ _ _).mono ?_; rintro e w' ⟨rfl, hb'⟩; have hk := keepc12 (by assumption) hb' rfl))
  have hB := hk.2.2.2.2.2.2.2.2.2.2.2.2
  clear hk k0
  go_wp2_with fail
  go_ret
  exact ⟨rfl, hB⟩
end Go.Proofs.Ytkjaaaefcmpokaa
