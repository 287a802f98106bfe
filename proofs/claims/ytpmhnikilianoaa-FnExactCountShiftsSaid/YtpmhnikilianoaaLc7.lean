/- THE WALK of CountShifts's law. -/
import Derived.Test.YtpmhnikilianoaaKr
import Derived.Test.YtpmhnikilianoaaSc
import Derived.RegionTactic
import Derived.Deep.RegionHeld3
import Derived.WalkKit
import Derived.ProofKit
import Derived.OpenShut
import Derived.Lib.Hide
import Derived.WalkSpells
import Derived.Below
import Derived.BigQuiet
import Derived.LoopN
namespace Go.Proofs.Ytpmhnikilianoaa
open Go.ChangeShapes Go.WideShapes Go.ChangeAt Go.RowKit
set_option linter.unusedVariables false
set_option maxHeartbeats 2000000 in
theorem shifts_core (a0 a1 a2 a3 a4 a5 : Int) (r : Int) (t : Bool) (HS : Hid (∀ w, Calls Try.prog 31 #[.agg #[.int .i64 a0, .int .i64 a1, .int .i64 a2, .int .i64 a3, .int .i64 a4, .int .i64 a5]] w fun e w' => e = .returned (.tuple #[.int .i64 r, .bool t]) ∧ Below w.heap.size w w')) (HI : Hid (∀ w, Calls Try.prog 32 #[.agg #[.int .i64 a0, .int .i64 a1, .int .i64 a2, .int .i64 a3, .int .i64 a4, .int .i64 a5]] w fun e w' => e = .returned (.tuple #[.int .i64 r, .bool t]) ∧ Below w.heap.size w w')) (w : World) : Calls Try.prog 5 #[.agg #[.int .i64 a0, .int .i64 a1, .int .i64 a2, .int .i64 a3, .int .i64 a4, .int .i64 a5]] w fun e w' => e = .returned (.bool true) ∧ Below w.heap.size w w' := by
  have HT := Lib.hid (to_sheet a0 a1 a2 a3 a4 a5)
  go_enter Try.func5, Try.ntmps5
  go_wp2_with fail
  generalize hW : (World.alloc _ _ : World) = W0
  have k0 : W0.cell? ⟨w.heap.size, 0, none⟩ = some (.int .i64 a0) ∧ W0.cell? ⟨w.heap.size, 1, none⟩ = some (.int .i64 a1) ∧ W0.cell? ⟨w.heap.size, 2, none⟩ = some (.int .i64 a2) ∧ W0.cell? ⟨w.heap.size, 3, none⟩ = some (.int .i64 a3) ∧ W0.cell? ⟨w.heap.size, 4, none⟩ = some (.int .i64 a4) ∧ W0.cell? ⟨w.heap.size, 5, none⟩ = some (.int .i64 a5) ∧ Below w.heap.size w W0 := by
    subst hW
    refine ⟨by go_simp, by go_simp, by go_simp, by go_simp, by go_simp, by go_simp, ?_⟩
    (repeat (first | exact Below.refl _ _ | assumption | refine Below.setCell ?_ (by first | (simp; done) | (simp; omega)) _ | refine Below.alloc ?_ (by first | (simp; done) | (simp; omega)) _ | refine Below.drew ?_))
  clear hW
  refine (HT.out _).mono ?_
  rintro e w' ⟨rfl, hb⟩
  have hk := keepc6 k0 hb rfl
  clear hb k0
  have k1 := hk
  clear hk
  have hc := k1
  obtain ⟨y0, y1, y2, y3, y4, y5, hy⟩ := hc
  go_wp2_with fail
  refine (HS.out _).mono ?_
  rintro e w' ⟨rfl, hb⟩
  have hk := keepc6 k1 hb rfl
  clear hb k1 y0 y1 y2 y3 y4 y5 hy
  have k2 := hk
  clear hk
  have hc := k2
  obtain ⟨y0, y1, y2, y3, y4, y5, hy⟩ := hc
  go_wp2_with fail
  refine (HT.out _).mono ?_
  rintro e w' ⟨rfl, hb⟩
  have hk := keepc6 k2 hb rfl
  clear hb k2 y0 y1 y2 y3 y4 y5 hy
  have k3 := hk
  clear hk
  have hc := k3
  obtain ⟨y0, y1, y2, y3, y4, y5, hy⟩ := hc
  go_wp2_with fail
  refine (HI.out _).mono ?_
  rintro e w' ⟨rfl, hb⟩
  have hk := keepc6 k3 hb rfl
  clear hb k3 y0 y1 y2 y3 y4 y5 hy
  have k4 := hk
  clear hk
  have hc := k4
  obtain ⟨y0, y1, y2, y3, y4, y5, hy⟩ := hc
  go_wp2_with fail
  go_ret
  exact ⟨rfl, hy⟩
end Go.Proofs.Ytpmhnikilianoaa
