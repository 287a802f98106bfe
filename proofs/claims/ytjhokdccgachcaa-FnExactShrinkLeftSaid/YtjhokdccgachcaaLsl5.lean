/- THE LAW's WALK over two contracts: ShrinkLeft. -/
import Derived.Test.YtjhokdccgachcaaSc
import Derived.Test.YtjhokdccgachcaaKp
import Derived.Test.YtjhokdccgachcaaRg
import Derived.Test.YtjhokdccgachcaaRh
import Derived.Test.YtjhokdccgachcaaRj
import Derived.Deep.RegionHeld3
import Derived.WalkKit
import Derived.ProofKit
import Derived.OpenShut
import Derived.Lib.Hide
import Derived.WalkSpells
import Derived.Below
import Derived.BigQuiet
import Derived.LoopN
namespace Go.Proofs.Ytjhokdccgachcaa
open Go.ChangeShapes Go.WideShapes Go.ChangeAt Go.RowKit
set_option linter.unusedVariables false
set_option maxHeartbeats 4000000 in
theorem left_core (a0 a1 a2 a3 a4 a5 : Int) (b0 b1 b2 b3 b4 b5 : Int) (r0 r1 r2 r3 r4 r5 : Int) (n : Int) (t : Bool) (HS : Hid (∀ w, Calls Try.prog 45 #[.agg #[.int .i64 a0, .int .i64 a1, .int .i64 a2, .int .i64 a3, .int .i64 a4, .int .i64 a5], .agg #[.int .i64 b0, .int .i64 b1, .int .i64 b2, .int .i64 b3, .int .i64 b4, .int .i64 b5]] w fun e w' => e = .returned (.tuple #[.int .i64 n, .agg #[.int .i64 r0, .int .i64 r1, .int .i64 r2, .int .i64 r3, .int .i64 r4, .int .i64 r5], .bool t]) ∧ Below w.heap.size w w')) (HI : Hid (∀ w, Calls Try.prog 46 #[.agg #[.int .i64 a0, .int .i64 a1, .int .i64 a2, .int .i64 a3, .int .i64 a4, .int .i64 a5], .agg #[.int .i64 b0, .int .i64 b1, .int .i64 b2, .int .i64 b3, .int .i64 b4, .int .i64 b5]] w fun e w' => e = .returned (.tuple #[.int .i64 n, .agg #[.int .i64 r0, .int .i64 r1, .int .i64 r2, .int .i64 r3, .int .i64 r4, .int .i64 r5], .bool t]) ∧ Below w.heap.size w w')) (w : World) : Calls Try.prog 13 #[.agg #[.int .i64 a0, .int .i64 a1, .int .i64 a2, .int .i64 a3, .int .i64 a4, .int .i64 a5], .agg #[.int .i64 b0, .int .i64 b1, .int .i64 b2, .int .i64 b3, .int .i64 b4, .int .i64 b5]] w fun e w' => e = .returned (.bool true) ∧ Below w.heap.size w w' := by
  go_enter Try.func13, Try.ntmps13
  go_wp2_with fail
  generalize hW : (World.alloc _ _ : World) = W0
  have k0 : W0.cell? ⟨w.heap.size, 0, none⟩ = some (.int .i64 a0) ∧ W0.cell? ⟨w.heap.size, 1, none⟩ = some (.int .i64 a1) ∧ W0.cell? ⟨w.heap.size, 2, none⟩ = some (.int .i64 a2) ∧ W0.cell? ⟨w.heap.size, 3, none⟩ = some (.int .i64 a3) ∧ W0.cell? ⟨w.heap.size, 4, none⟩ = some (.int .i64 a4) ∧ W0.cell? ⟨w.heap.size, 5, none⟩ = some (.int .i64 a5) ∧ W0.cell? ⟨w.heap.size + 1, 0, none⟩ = some (.int .i64 b0) ∧ W0.cell? ⟨w.heap.size + 1, 1, none⟩ = some (.int .i64 b1) ∧ W0.cell? ⟨w.heap.size + 1, 2, none⟩ = some (.int .i64 b2) ∧ W0.cell? ⟨w.heap.size + 1, 3, none⟩ = some (.int .i64 b3) ∧ W0.cell? ⟨w.heap.size + 1, 4, none⟩ = some (.int .i64 b4) ∧ W0.cell? ⟨w.heap.size + 1, 5, none⟩ = some (.int .i64 b5) ∧ Below w.heap.size w W0 := by
    subst hW
    refine ⟨by go_simp, by go_simp, by go_simp, by go_simp, by go_simp, by go_simp, by go_simp, by go_simp, by go_simp, by go_simp, by go_simp, by go_simp, ?_⟩
    (repeat (first | exact Below.refl _ _ | assumption | refine Below.setCell ?_ (by first | (simp; done) | (simp; omega)) _ | refine Below.alloc ?_ (by first | (simp; done) | (simp; omega)) _ | refine Below.drew ?_))
  clear hW
  have hz0 := blk_lt k0.1; have hz6 := blk_lt k0.2.2.2.2.2.2.1
  go_region_held3 (fun U => U.cell? ⟨w.heap.size, 0, none⟩ = some (.int .i64 a0) ∧ U.cell? ⟨w.heap.size, 1, none⟩ = some (.int .i64 a1) ∧ U.cell? ⟨w.heap.size, 2, none⟩ = some (.int .i64 a2) ∧ U.cell? ⟨w.heap.size, 3, none⟩ = some (.int .i64 a3) ∧ U.cell? ⟨w.heap.size, 4, none⟩ = some (.int .i64 a4) ∧ U.cell? ⟨w.heap.size, 5, none⟩ = some (.int .i64 a5) ∧ U.cell? ⟨w.heap.size + 1, 0, none⟩ = some (.int .i64 b0) ∧ U.cell? ⟨w.heap.size + 1, 1, none⟩ = some (.int .i64 b1) ∧ U.cell? ⟨w.heap.size + 1, 2, none⟩ = some (.int .i64 b2) ∧ U.cell? ⟨w.heap.size + 1, 3, none⟩ = some (.int .i64 b3) ∧ U.cell? ⟨w.heap.size + 1, 4, none⟩ = some (.int .i64 b4) ∧ U.cell? ⟨w.heap.size + 1, 5, none⟩ = some (.int .i64 b5) ∧ Below w.heap.size w U) (first | with_reducible exact drewc12 k0 | with_reducible exact drewc12 (allocc12 k0) | with_reducible assumption | (with_reducible refine allocc12 ?_; with_reducible assumption) | (with_reducible refine storel12 ?_ (by omega) (by omega); with_reducible assumption)) (first | (go_at_call 24; refine (to_sheet _ _ _ _ _ _ _).mono ?_; rintro e w' ⟨rfl, hb'⟩; have hk := keepc12 (by with_reducible assumption) hb' rfl; have hz0 := blk_lt hk.1; have hz6 := blk_lt hk.2.2.2.2.2.2.1; (first | have hq := rowk hq hb' rfl | have hq := rowk (drew_row (alloc_at rfl)) hb' rfl | have hq := rowk (alloc_at rfl) hb' rfl | skip)) | (go_at_call 45; refine (HS.out _).mono ?_; rintro e w' ⟨rfl, hb'⟩; have hk := keepc12 (by with_reducible assumption) hb' rfl; have hz0 := blk_lt hk.1; have hz6 := blk_lt hk.2.2.2.2.2.2.1; (first | have hq := rowk hq hb' rfl | have hq := rowk (drew_row (alloc_at rfl)) hb' rfl | have hq := rowk (alloc_at rfl) hb' rfl | skip); (first | (have hz6 := zero6 hq; obtain ⟨z0, z1, z2, z3, z4, z5, f0, f1, f2, f3, f4, f5⟩ := hz6) | skip)))
  all_goals
    first
    | (have k1 := growc12 (.int .i64 r0) (.int .i64 r1) (.int .i64 r2) (.int .i64 r3) (.int .i64 r4) (.int .i64 r5) 25 hk
       obtain ⟨W1, hX⟩ : ∃ X, X = w'.alloc (.cells #[.int .i64 r0, .int .i64 r1, .int .i64 r2, .int .i64 r3, .int .i64 r4, .int .i64 r5] 25) := ⟨_, rfl⟩
       rw [← hX] at k1 ⊢
       clear hX
       generalize w'.heap.size = G1 at k1 ⊢)
    | (have k1 := grows12 (.int .i64 r0) (.int .i64 r1) (.int .i64 r2) (.int .i64 r3) (.int .i64 r4) (.int .i64 r5) hq hk (by omega)
       generalize hX : World.setCell _ _ _ = W1 at k1 ⊢
       clear hX
       obtain ⟨G1, hG⟩ := gOf hq
       rw [← hG] at k1 ⊢
       clear hG)
    clear k0
    go_wp2_with fail
    have hz0 := blk_lt k1.1; have hz6 := blk_lt k1.2.2.2.2.2.2.1; have hz12 := blk_lt k1.2.2.2.2.2.2.2.2.2.2.2.2.1
    go_region_held3 (fun U => U.cell? ⟨G1, 0, none⟩ = some (.int .i64 r0) ∧ U.cell? ⟨G1, 1, none⟩ = some (.int .i64 r1) ∧ U.cell? ⟨G1, 2, none⟩ = some (.int .i64 r2) ∧ U.cell? ⟨G1, 3, none⟩ = some (.int .i64 r3) ∧ U.cell? ⟨G1, 4, none⟩ = some (.int .i64 r4) ∧ U.cell? ⟨G1, 5, none⟩ = some (.int .i64 r5) ∧ U.cell? ⟨w.heap.size, 0, none⟩ = some (.int .i64 a0) ∧ U.cell? ⟨w.heap.size, 1, none⟩ = some (.int .i64 a1) ∧ U.cell? ⟨w.heap.size, 2, none⟩ = some (.int .i64 a2) ∧ U.cell? ⟨w.heap.size, 3, none⟩ = some (.int .i64 a3) ∧ U.cell? ⟨w.heap.size, 4, none⟩ = some (.int .i64 a4) ∧ U.cell? ⟨w.heap.size, 5, none⟩ = some (.int .i64 a5) ∧ U.cell? ⟨w.heap.size + 1, 0, none⟩ = some (.int .i64 b0) ∧ U.cell? ⟨w.heap.size + 1, 1, none⟩ = some (.int .i64 b1) ∧ U.cell? ⟨w.heap.size + 1, 2, none⟩ = some (.int .i64 b2) ∧ U.cell? ⟨w.heap.size + 1, 3, none⟩ = some (.int .i64 b3) ∧ U.cell? ⟨w.heap.size + 1, 4, none⟩ = some (.int .i64 b4) ∧ U.cell? ⟨w.heap.size + 1, 5, none⟩ = some (.int .i64 b5) ∧ Below w.heap.size w U) (first | with_reducible exact drewc18 k1 | with_reducible exact drewc18 (allocc18 k1) | with_reducible assumption | (with_reducible refine allocc18 ?_; with_reducible assumption) | (with_reducible refine storel18 ?_ (by omega) (by omega); with_reducible assumption)) (first | (go_at_call 24; refine (to_sheet _ _ _ _ _ _ _).mono ?_; rintro e w' ⟨rfl, hb'⟩; have hk := keepc18 (by with_reducible assumption) hb' rfl; have hz0 := blk_lt hk.1; have hz6 := blk_lt hk.2.2.2.2.2.2.1; have hz12 := blk_lt hk.2.2.2.2.2.2.2.2.2.2.2.2.1; (first | have hq := rowk hq hb' rfl | have hq := rowk (drew_row (alloc_at rfl)) hb' rfl | have hq := rowk (alloc_at rfl) hb' rfl | skip)) | (go_at_call 46; refine (HI.out _).mono ?_; rintro e w' ⟨rfl, hb'⟩; have hk := keepc18 (by with_reducible assumption) hb' rfl; have hz0 := blk_lt hk.1; have hz6 := blk_lt hk.2.2.2.2.2.2.1; have hz12 := blk_lt hk.2.2.2.2.2.2.2.2.2.2.2.2.1; (first | have hq := rowk hq hb' rfl | have hq := rowk (drew_row (alloc_at rfl)) hb' rfl | have hq := rowk (alloc_at rfl) hb' rfl | skip); (first | (have hz6 := zero6 hq; obtain ⟨z0, z1, z2, z3, z4, z5, f0, f1, f2, f3, f4, f5⟩ := hz6) | skip)))
    all_goals
      first
      | (have k2 := growc18 (.int .i64 r0) (.int .i64 r1) (.int .i64 r2) (.int .i64 r3) (.int .i64 r4) (.int .i64 r5) 25 hk
         obtain ⟨W2, hX⟩ : ∃ X, X = w'.alloc (.cells #[.int .i64 r0, .int .i64 r1, .int .i64 r2, .int .i64 r3, .int .i64 r4, .int .i64 r5] 25) := ⟨_, rfl⟩
         rw [← hX] at k2 ⊢
         clear hX
         generalize w'.heap.size = G2 at k2 ⊢)
      | (have k2 := grows18 (.int .i64 r0) (.int .i64 r1) (.int .i64 r2) (.int .i64 r3) (.int .i64 r4) (.int .i64 r5) hq hk (by omega)
         generalize hX : World.setCell _ _ _ = W2 at k2 ⊢
         clear hX
         obtain ⟨G2, hG⟩ := gOf hq
         rw [← hG] at k2 ⊢
         clear hG)
      obtain ⟨y0, y1, y2, y3, y4, y5, y6, y7, y8, y9, y10, y11, y12, y13, y14, y15, y16, y17, y18, y19, y20, y21, y22, y23, hB⟩ := k2
      go_wp2_with fail
      refine (eq_same r0 r1 r2 r3 r4 r5 _).mono ?_
      rintro e W3 ⟨rfl, hb⟩
      have hB3 := below_of hB hb hB.size
      clear hb hB y0 y1 y2 y3 y4 y5 y6 y7 y8 y9 y10 y11 y12 y13 y14 y15 y16 y17 y18 y19 y20 y21 y22 y23
      go_wp2_with fail
      go_ret
      exact ⟨rfl, hB3⟩
end Go.Proofs.Ytjhokdccgachcaa
