/- THE WALK of a motion behind another one, in the model. -/
import Derived.Test.YtpgfmigbjffemaaVc
import Derived.Test.YtpgfmigbjffemaaNu
import Derived.Test.YtpgfmigbjffemaaNv
import Derived.Test.YtpgfmigbjffemaaKs
import Derived.Test.YtpgfmigbjffemaaWn
import Derived.Deep.RegionHeld3
import Derived.WalkKit
import Derived.ProofKit
import Derived.OpenShut
import Derived.Lib.Hide
import Derived.WalkSpells
import Derived.Below
import Derived.BigQuiet
import Derived.LoopN
namespace Go.Proofs.Ytpgfmigbjffemaa
open Go.ChangeShapes Go.WideShapes Go.ChangeAt Go.RowKit
set_option linter.unusedVariables false
/-- A motion behind another one. -/
def mb0 (k m : Nat) : Nat := tb k m
def mb1 (x y m u : Nat) : Nat := ((vec m x y).1 + u) % 6
def mb2 (x y m v : Nat) : Nat := ((vec m x y).2 + v) % 6
theorem mod_sum {a b : Nat} (ha : a < 6) (hb : b < 6) (w : World) : Calls Try.prog 155 #[.int .i64 ((a : Int) + (b : Int))] w fun e w' => e = .returned (.int .i64 (((a + b) % 6 : Nat) : Int)) ∧ w' = w := by
  have H := l2mod_any ((a : Int) + b) (WalkArith.wf_i64 (by omega)) w
  rw [show ((a : Int) + b) % 6 = (((a + b) % 6 : Nat) : Int) by omega] at H
  exact H
set_option maxHeartbeats 8000000 in
theorem lbehind_go (k x y m u v p q s t N P Q : Int) (a0 a1 a2 a3 a4 a5 : Int) (b0 b1 b2 b3 b4 b5 : Int) (c0 c1 c2 c3 c4 c5 : Int) (HM : Hid (∀ w, Calls Try.prog 143 #[] w fun e w' => e = .returned (.agg #[.int .i64 a0, .int .i64 a1, .int .i64 a2, .int .i64 a3, .int .i64 a4, .int .i64 a5]) ∧ Below w.heap.size w w')) (HT : Hid (∀ w, Calls Try.prog 139 #[.agg #[.int .i64 a0, .int .i64 a1, .int .i64 a2, .int .i64 a3, .int .i64 a4, .int .i64 a5], .int .i64 k] w fun e w' => e = .returned (.agg #[.int .i64 b0, .int .i64 b1, .int .i64 b2, .int .i64 b3, .int .i64 b4, .int .i64 b5]) ∧ Below w.heap.size w w')) (HU : Hid (∀ w, Calls Try.prog 139 #[.agg #[.int .i64 b0, .int .i64 b1, .int .i64 b2, .int .i64 b3, .int .i64 b4, .int .i64 b5], .int .i64 m] w fun e w' => e = .returned (.agg #[.int .i64 c0, .int .i64 c1, .int .i64 c2, .int .i64 c3, .int .i64 c4, .int .i64 c5]) ∧ Below w.heap.size w w')) (HN : Hid (∀ w, Calls Try.prog 142 #[.agg #[.int .i64 c0, .int .i64 c1, .int .i64 c2, .int .i64 c3, .int .i64 c4, .int .i64 c5]] w fun e w' => e = .returned (.int .i64 N) ∧ Below w.heap.size w w')) (HV : Hid (∀ w, Calls Try.prog 151 #[.int .i64 m, .int .i64 x, .int .i64 y] w fun e w' => e = .returned (.tuple #[.int .i64 p, .int .i64 q]) ∧ w' = w)) (HX : Hid (∀ w, Calls Try.prog 155 #[.int .i64 s] w fun e w' => e = .returned (.int .i64 P) ∧ Below w.heap.size w w')) (HY : Hid (∀ w, Calls Try.prog 155 #[.int .i64 t] w fun e w' => e = .returned (.int .i64 Q) ∧ Below w.heap.size w w')) (s1 : wrap64 (p + u) = s) (s2 : wrap64 (q + v) = t) (s3 : IntKind.i64.wrap (p + u) = s) (s4 : IntKind.i64.wrap (q + v) = t) (w : World) : Calls Try.prog 153 #[.agg #[.int .i64 k, .int .i64 x, .int .i64 y], .agg #[.int .i64 m, .int .i64 u, .int .i64 v]] w fun e w' => e = .returned (.agg #[.int .i64 N, .int .i64 P, .int .i64 Q]) ∧ Below w.heap.size w w' := by
  go_enter Try.func153, Try.ntmps153
  go_wp2_with fail
  refine (HV.out _).mono ?_
  rintro e w1 ⟨rfl, rfl⟩
  go_wp2_with fail
  generalize hW : (World.alloc _ _ : World) = W0
  have k0 : (fun U => U.cell? ⟨w.heap.size, 0, none⟩ = some (.int .i64 k) ∧ U.cell? ⟨w.heap.size, 1, none⟩ = some (.int .i64 x) ∧ U.cell? ⟨w.heap.size, 2, none⟩ = some (.int .i64 y) ∧ U.cell? ⟨w.heap.size + 1, 0, none⟩ = some (.int .i64 m) ∧ U.cell? ⟨w.heap.size + 1, 1, none⟩ = some (.int .i64 u) ∧ U.cell? ⟨w.heap.size + 1, 2, none⟩ = some (.int .i64 v) ∧ Below w.heap.size w U) W0 := by
    subst hW
    refine ⟨by go_simp, by go_simp, by go_simp, by go_simp, by go_simp, by go_simp, ?_⟩
    (repeat (first | exact Below.refl _ _ | assumption | refine Below.setCell ?_ (by first | (simp; done) | (simp; omega)) _ | refine Below.alloc ?_ (by first | (simp; done) | (simp; omega)) _ | refine Below.drew ?_))
  have qz2 : W0.drew.heap[(w.heap.size + 1 + 1 : Nat)]? = some (Obj.cells #[.int .i64 0, .int .i64 0, .int .i64 0] 67 (0, 0)) := by
    rw [← hW]
    exact drew_row (alloc_at (by simp))
  dsimp only at k0
  clear hW
  go_region_held3 (fun U => U.cell? ⟨w.heap.size, 0, none⟩ = some (.int .i64 k) ∧ U.cell? ⟨w.heap.size, 1, none⟩ = some (.int .i64 x) ∧ U.cell? ⟨w.heap.size, 2, none⟩ = some (.int .i64 y) ∧ U.cell? ⟨w.heap.size + 1, 0, none⟩ = some (.int .i64 m) ∧ U.cell? ⟨w.heap.size + 1, 1, none⟩ = some (.int .i64 u) ∧ U.cell? ⟨w.heap.size + 1, 2, none⟩ = some (.int .i64 v) ∧ Below w.heap.size w U) (first | with_reducible exact drewc6 k0 | with_reducible assumption | (with_reducible refine stc6_3 (m := w.heap.size + 1) ?_ ⟨Nat.le_succ _, Nat.le_succ _, Nat.le_succ _, Nat.le_refl _, Nat.le_refl _, Nat.le_refl _⟩ (by omega) (by omega); with_reducible assumption)) (first | (go_at_call 143; with_reducible refine (HM.out _).mono ?_; rintro e w' ⟨rfl, hb'⟩; have hk := keepc6 (by with_reducible assumption) hb' rfl; (first | have hq := rowk hq hb' rfl | have hq := rowk qz2 hb' rfl)) | (go_at_call 139; with_reducible refine (HT.out _).mono ?_; rintro e w' ⟨rfl, hb'⟩; have hk := keepc6 (by with_reducible assumption) hb' rfl; (first | have hq := rowk hq hb' rfl | have hq := rowk qz2 hb' rfl)) | (go_at_call 139; with_reducible refine (HU.out _).mono ?_; rintro e w' ⟨rfl, hb'⟩; have hk := keepc6 (by with_reducible assumption) hb' rfl; (first | have hq := rowk hq hb' rfl | have hq := rowk qz2 hb' rfl)) | (go_at_call 142; with_reducible refine (HN.out _).mono ?_; rintro e w' ⟨rfl, hb'⟩; have hk := keepc6 (by with_reducible assumption) hb' rfl; (first | have hq := rowk hq hb' rfl | have hq := rowk qz2 hb' rfl)) | (go_at_call 155; with_reducible refine (HX.out _).mono ?_; rintro e w' ⟨rfl, hb'⟩; have hk := keepc6 (by with_reducible assumption) hb' rfl; (first | have hq := rowk hq hb' rfl | have hq := rowk qz2 hb' rfl)) | (go_at_call 155; with_reducible refine (HY.out _).mono ?_; rintro e w' ⟨rfl, hb'⟩; have hk := keepc6 (by with_reducible assumption) hb' rfl; (first | have hq := rowk hq hb' rfl | have hq := rowk qz2 hb' rfl); obtain ⟨z0, z1, z2, f0, f1, f2⟩ := zeroc3 hq))
  all_goals
    have hBe := hk.2.2.2.2.2.2
    clear hk k0
    go_wp2_with fail
    refine bodyPost_ret (v := .agg #[.int .i64 N, .int .i64 P, .int .i64 Q]) (by simp [results, Try.results153, go_sem, z0, z1, z2]) rfl ⟨rfl, ?_⟩
    exact belowc3 hBe (by omega)
end Go.Proofs.Ytpgfmigbjffemaa
