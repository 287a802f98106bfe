/- THE LAWS' WALKS over two contracts each: MotionBehind and MotionBack. -/
import Derived.Test.YtpgfmigbjffemaaNn
import Derived.Test.YtpgfmigbjffemaaKs
import Derived.Deep.RegionHeld3
import Derived.WalkKit
import Derived.ProofKit
import Derived.OpenShut
import Derived.Lib.Hide
import Derived.WalkSpells
import Derived.Below
import Derived.BigQuiet
import Derived.LoopN
namespace Go.Proofs.Ytpgfmigbjffemaa
open Go.ChangeShapes Go.WideShapes Go.ChangeAt Go.RowKit
set_option linter.unusedVariables false
set_option maxHeartbeats 2000000 in
theorem mback_core (m0 m1 m2 : Int) (r0 r1 r2 : Int) (t : Bool) (HS : Hid (∀ w, Calls Try.prog 72 #[.agg #[.int .i64 m0, .int .i64 m1, .int .i64 m2]] w fun e w' => e = .returned (.tuple #[.agg #[.int .i64 r0, .int .i64 r1, .int .i64 r2], .bool t]) ∧ Below w.heap.size w w')) (HI : Hid (∀ w, Calls Try.prog 73 #[.agg #[.int .i64 m0, .int .i64 m1, .int .i64 m2]] w fun e w' => e = .returned (.tuple #[.agg #[.int .i64 r0, .int .i64 r1, .int .i64 r2], .bool t]) ∧ Below w.heap.size w w')) (w : World) : Calls Try.prog 14 #[.agg #[.int .i64 m0, .int .i64 m1, .int .i64 m2]] w fun e w' => e = .returned (.bool true) ∧ Below w.heap.size w w' := by
  have HT := Lib.hid (a3_any m0 m1 m2)
  go_enter Try.func14, Try.ntmps14
  go_wp2_with fail
  generalize hW : (World.alloc _ _ : World) = W0
  have k0 : W0.cell? ⟨w.heap.size, 0, none⟩ = some (.int .i64 m0) ∧ W0.cell? ⟨w.heap.size, 1, none⟩ = some (.int .i64 m1) ∧ W0.cell? ⟨w.heap.size, 2, none⟩ = some (.int .i64 m2) ∧ Below w.heap.size w W0 := by
    subst hW
    refine ⟨by go_simp, by go_simp, by go_simp, ?_⟩
    (repeat (first | exact Below.refl _ _ | assumption | refine Below.setCell ?_ (by first | (simp; done) | (simp; omega)) _ | refine Below.alloc ?_ (by first | (simp; done) | (simp; omega)) _ | refine Below.drew ?_))
  clear hW
  refine (HT.out _).mono ?_
  rintro e w' ⟨rfl, hb⟩
  have hk := keepc3 k0 hb rfl
  clear hb k0
  have k1 := hk
  clear hk
  have hc := k1
  obtain ⟨y0, y1, y2, hy⟩ := hc
  go_wp2_with fail
  refine (HS.out _).mono ?_
  rintro e w' ⟨rfl, hb⟩
  have hk := keepc3 k1 hb rfl
  clear hb k1 y0 y1 y2 hy
  have hz := blk_lt hk.1
  have hz2 := blk_lt hk.1
  have hc := hk
  obtain ⟨y0, y1, y2, hy⟩ := hc
  go_wp2_with fail
  have k2 := growcv3 (.int .i64 r0) (.int .i64 r1) (.int .i64 r2) 67 hk
  obtain ⟨W2, hX⟩ : ∃ X, X = w'.alloc (.cells #[.int .i64 r0, .int .i64 r1, .int .i64 r2] 67) := ⟨_, rfl⟩
  rw [← hX] at k2 ⊢
  clear hX hk hz hz2 hy y0 y1 y2
  generalize w'.heap.size = G2 at k2 ⊢
  have hc := k2
  obtain ⟨y0, y1, y2, y3, y4, y5, hy⟩ := hc
  refine (HT.out _).mono ?_
  rintro e w' ⟨rfl, hb⟩
  have hk := keepc6 k2 hb rfl
  clear hb k2 y0 y1 y2 y3 y4 y5 hy
  have k3 := hk
  clear hk
  have hc := k3
  obtain ⟨y0, y1, y2, y3, y4, y5, hy⟩ := hc
  go_wp2_with fail
  refine (HI.out _).mono ?_
  rintro e w' ⟨rfl, hb⟩
  have hk := keepc6 k3 hb rfl
  clear hb k3 y0 y1 y2 y3 y4 y5 hy
  have hz := blk_lt hk.2.2.2.1
  have hz2 := blk_lt hk.1
  have hc := hk
  obtain ⟨y0, y1, y2, y3, y4, y5, hy⟩ := hc
  go_wp2_with fail
  have k4 := growcv6 (.int .i64 r0) (.int .i64 r1) (.int .i64 r2) 67 hk
  obtain ⟨W4, hX⟩ : ∃ X, X = w'.alloc (.cells #[.int .i64 r0, .int .i64 r1, .int .i64 r2] 67) := ⟨_, rfl⟩
  rw [← hX] at k4 ⊢
  clear hX hk hz hz2 hy y0 y1 y2 y3 y4 y5
  generalize w'.heap.size = G4 at k4 ⊢
  have hc := k4
  obtain ⟨y0, y1, y2, y3, y4, y5, y6, y7, y8, hy⟩ := hc
  refine (eq3_same r0 r1 r2 _).mono ?_
  rintro e W9 ⟨rfl, hb⟩
  have hB := below_of hy hb hy.size
  clear hb hy k4 y0 y1 y2 y3 y4 y5 y6 y7 y8
  go_wp2_with fail
  go_ret
  exact ⟨rfl, hB⟩
set_option maxHeartbeats 4000000 in
theorem mbehind_core (m0 m1 m2 : Int) (n0 n1 n2 : Int) (r0 r1 r2 : Int) (t : Bool) (HS : Hid (∀ w, Calls Try.prog 69 #[.agg #[.int .i64 m0, .int .i64 m1, .int .i64 m2], .agg #[.int .i64 n0, .int .i64 n1, .int .i64 n2]] w fun e w' => e = .returned (.tuple #[.agg #[.int .i64 r0, .int .i64 r1, .int .i64 r2], .bool t]) ∧ Below w.heap.size w w')) (HI : Hid (∀ w, Calls Try.prog 70 #[.agg #[.int .i64 m0, .int .i64 m1, .int .i64 m2], .agg #[.int .i64 n0, .int .i64 n1, .int .i64 n2]] w fun e w' => e = .returned (.tuple #[.agg #[.int .i64 r0, .int .i64 r1, .int .i64 r2], .bool t]) ∧ Below w.heap.size w w')) (w : World) : Calls Try.prog 13 #[.agg #[.int .i64 m0, .int .i64 m1, .int .i64 m2], .agg #[.int .i64 n0, .int .i64 n1, .int .i64 n2]] w fun e w' => e = .returned (.bool true) ∧ Below w.heap.size w w' := by
  go_enter Try.func13, Try.ntmps13
  go_wp2_with fail
  generalize hW : (World.alloc _ _ : World) = W0
  have k0 : W0.cell? ⟨w.heap.size, 0, none⟩ = some (.int .i64 m0) ∧ W0.cell? ⟨w.heap.size, 1, none⟩ = some (.int .i64 m1) ∧ W0.cell? ⟨w.heap.size, 2, none⟩ = some (.int .i64 m2) ∧ W0.cell? ⟨w.heap.size + 1, 0, none⟩ = some (.int .i64 n0) ∧ W0.cell? ⟨w.heap.size + 1, 1, none⟩ = some (.int .i64 n1) ∧ W0.cell? ⟨w.heap.size + 1, 2, none⟩ = some (.int .i64 n2) ∧ Below w.heap.size w W0 := by
    subst hW
    refine ⟨by go_simp, by go_simp, by go_simp, by go_simp, by go_simp, by go_simp, ?_⟩
    (repeat (first | exact Below.refl _ _ | assumption | refine Below.setCell ?_ (by first | (simp; done) | (simp; omega)) _ | refine Below.alloc ?_ (by first | (simp; done) | (simp; omega)) _ | refine Below.drew ?_))
  clear hW
  have hz0 := blk_lt k0.1; have hz3 := blk_lt k0.2.2.2.1
  go_region_held3 (fun U => U.cell? ⟨w.heap.size, 0, none⟩ = some (.int .i64 m0) ∧ U.cell? ⟨w.heap.size, 1, none⟩ = some (.int .i64 m1) ∧ U.cell? ⟨w.heap.size, 2, none⟩ = some (.int .i64 m2) ∧ U.cell? ⟨w.heap.size + 1, 0, none⟩ = some (.int .i64 n0) ∧ U.cell? ⟨w.heap.size + 1, 1, none⟩ = some (.int .i64 n1) ∧ U.cell? ⟨w.heap.size + 1, 2, none⟩ = some (.int .i64 n2) ∧ Below w.heap.size w U) (first | with_reducible exact drewc6 k0 | with_reducible exact drewc6 (allocc6 k0) | with_reducible assumption | (with_reducible refine allocc6 ?_; with_reducible assumption) | (with_reducible refine storelv6 ?_ (by omega) (by omega); with_reducible assumption)) (first | (go_at_call 65; refine (a3_any _ _ _ _).mono ?_; rintro e w' ⟨rfl, hb'⟩; have hk := keepc6 (by with_reducible assumption) hb' rfl; have hz0 := blk_lt hk.1; have hz3 := blk_lt hk.2.2.2.1; (first | have hq := rowk hq hb' rfl | have hq := rowk (drew_row (alloc_at rfl)) hb' rfl | have hq := rowk (alloc_at rfl) hb' rfl | skip)) | (go_at_call 69; refine (HS.out _).mono ?_; rintro e w' ⟨rfl, hb'⟩; have hk := keepc6 (by with_reducible assumption) hb' rfl; have hz0 := blk_lt hk.1; have hz3 := blk_lt hk.2.2.2.1; (first | have hq := rowk hq hb' rfl | have hq := rowk (drew_row (alloc_at rfl)) hb' rfl | have hq := rowk (alloc_at rfl) hb' rfl | skip); (first | (have hz6 := zeroc3 hq; obtain ⟨z0, z1, z2, f0, f1, f2⟩ := hz6) | skip)))
  all_goals
    first
    | (have k1 := growcv6 (.int .i64 r0) (.int .i64 r1) (.int .i64 r2) 67 hk
       obtain ⟨W1, hX⟩ : ∃ X, X = w'.alloc (.cells #[.int .i64 r0, .int .i64 r1, .int .i64 r2] 67) := ⟨_, rfl⟩
       rw [← hX] at k1 ⊢
       clear hX
       generalize w'.heap.size = G1 at k1 ⊢)
    | (have k1 := growsv6 (.int .i64 r0) (.int .i64 r1) (.int .i64 r2) hq hk (by omega)
       generalize hX : World.setCell _ _ _ = W1 at k1 ⊢
       clear hX
       obtain ⟨G1, hG⟩ := gOf hq
       rw [← hG] at k1 ⊢
       clear hG)
    clear k0
    go_wp2_with fail
    have hz0 := blk_lt k1.1; have hz3 := blk_lt k1.2.2.2.1; have hz6 := blk_lt k1.2.2.2.2.2.2.1
    go_region_held3 (fun U => U.cell? ⟨G1, 0, none⟩ = some (.int .i64 r0) ∧ U.cell? ⟨G1, 1, none⟩ = some (.int .i64 r1) ∧ U.cell? ⟨G1, 2, none⟩ = some (.int .i64 r2) ∧ U.cell? ⟨w.heap.size, 0, none⟩ = some (.int .i64 m0) ∧ U.cell? ⟨w.heap.size, 1, none⟩ = some (.int .i64 m1) ∧ U.cell? ⟨w.heap.size, 2, none⟩ = some (.int .i64 m2) ∧ U.cell? ⟨w.heap.size + 1, 0, none⟩ = some (.int .i64 n0) ∧ U.cell? ⟨w.heap.size + 1, 1, none⟩ = some (.int .i64 n1) ∧ U.cell? ⟨w.heap.size + 1, 2, none⟩ = some (.int .i64 n2) ∧ Below w.heap.size w U) (first | with_reducible exact drewc9 k1 | with_reducible exact drewc9 (allocc9 k1) | with_reducible assumption | (with_reducible refine allocc9 ?_; with_reducible assumption) | (with_reducible refine storelv9 ?_ (by omega) (by omega); with_reducible assumption)) (first | (go_at_call 65; refine (a3_any _ _ _ _).mono ?_; rintro e w' ⟨rfl, hb'⟩; have hk := keepc9 (by with_reducible assumption) hb' rfl; have hz0 := blk_lt hk.1; have hz3 := blk_lt hk.2.2.2.1; have hz6 := blk_lt hk.2.2.2.2.2.2.1; (first | have hq := rowk hq hb' rfl | have hq := rowk (drew_row (alloc_at rfl)) hb' rfl | have hq := rowk (alloc_at rfl) hb' rfl | skip)) | (go_at_call 70; refine (HI.out _).mono ?_; rintro e w' ⟨rfl, hb'⟩; have hk := keepc9 (by with_reducible assumption) hb' rfl; have hz0 := blk_lt hk.1; have hz3 := blk_lt hk.2.2.2.1; have hz6 := blk_lt hk.2.2.2.2.2.2.1; (first | have hq := rowk hq hb' rfl | have hq := rowk (drew_row (alloc_at rfl)) hb' rfl | have hq := rowk (alloc_at rfl) hb' rfl | skip); (first | (have hz6 := zeroc3 hq; obtain ⟨z0, z1, z2, f0, f1, f2⟩ := hz6) | skip)))
    all_goals
      first
      | (have k2 := growcv9 (.int .i64 r0) (.int .i64 r1) (.int .i64 r2) 67 hk
         obtain ⟨W2, hX⟩ : ∃ X, X = w'.alloc (.cells #[.int .i64 r0, .int .i64 r1, .int .i64 r2] 67) := ⟨_, rfl⟩
         rw [← hX] at k2 ⊢
         clear hX
         generalize w'.heap.size = G2 at k2 ⊢)
      | (have k2 := growsv9 (.int .i64 r0) (.int .i64 r1) (.int .i64 r2) hq hk (by omega)
         generalize hX : World.setCell _ _ _ = W2 at k2 ⊢
         clear hX
         obtain ⟨G2, hG⟩ := gOf hq
         rw [← hG] at k2 ⊢
         clear hG)
      obtain ⟨y0, y1, y2, y3, y4, y5, y6, y7, y8, y9, y10, y11, hB⟩ := k2
      go_wp2_with fail
      refine (eq3_same r0 r1 r2 _).mono ?_
      rintro e W3 ⟨rfl, hb⟩
      have hB3 := below_of hB hb hB.size
      clear hb hB y0 y1 y2 y3 y4 y5 y6 y7 y8 y9 y10 y11
      go_wp2_with fail
      go_ret
      exact ⟨rfl, hB3⟩
end Go.Proofs.Ytpgfmigbjffemaa
