/- CONTRACTS: shifts as maps of cells; the model's and the code's moved sheets. -/
import Derived.Test.YtnkjamdpafpcpaaTd
import Derived.Test.YtnkjamdpafpcpaaPh
import Derived.Test.YtnkjamdpafpcpaaKr
import Derived.Deep.RegionHeld3
import Derived.WalkKit
import Derived.ProofKit
import Derived.OpenShut
import Derived.Lib.Hide
import Derived.WalkSpells
import Derived.Below
import Derived.BigQuiet
import Derived.LoopN
namespace Go.Proofs.Ytnkjamdpafpcpaa
open Go.ChangeShapes Go.WideShapes Go.ChangeAt Go.RowKit
set_option linter.unusedVariables false
/-- A sheet that is shifted by x columns and y rows. -/
def sf (x y : Nat) (f : Nat → Nat → Bool) : Nat → Nat → Bool := fun j i => f ((j + 6 - y) % 6) ((i + 6 - x) % 6)
theorem r6_rot : ∀ (b0 b1 b2 b3 b4 b5 : Bool) (x : Fin 6), rot (r6 b0 b1 b2 b3 b4 b5) ((x.val : Nat) : Int) = r6 (pick6 b0 b1 b2 b3 b4 b5 ((0 + 6 - x.val) % 6)) (pick6 b0 b1 b2 b3 b4 b5 ((1 + 6 - x.val) % 6)) (pick6 b0 b1 b2 b3 b4 b5 ((2 + 6 - x.val) % 6)) (pick6 b0 b1 b2 b3 b4 b5 ((3 + 6 - x.val) % 6)) (pick6 b0 b1 b2 b3 b4 b5 ((4 + 6 - x.val) % 6)) (pick6 b0 b1 b2 b3 b4 b5 ((5 + 6 - x.val) % 6)) := by decide +kernel
theorem rowv_rot (g : Nat → Bool) {x : Nat} (h : x < 6) : rot (rowv g) (x : Int) = rowv (fun i => g ((i + 6 - x) % 6)) := by
  have e := r6_rot (g 0) (g 1) (g 2) (g 3) (g 4) (g 5) ⟨x, h⟩
  have hp : ∀ i, pick6 (g 0) (g 1) (g 2) (g 3) (g 4) (g 5) ((i + 6 - x) % 6) = g ((i + 6 - x) % 6) := fun i => pick_row g (by omega)
  simp only [hp] at e
  exact e
theorem row_in (g : Nat → Bool) : 0 ≤ rowv g ∧ rowv g ≤ 63 := ok_in (rowv_ok g)
theorem l2shift_f (f : Nat → Nat → Bool) (dx dy : Int) (hx : (Lit.int .i64 dx).wf = true) (hy : (Lit.int .i64 dy).wf = true) {x y : Nat} (hx6 : x < 6) (hy6 : y < 6) (ex : dx % 6 = x) (ey : dy % 6 = y) (w : World) : Calls Try.prog 209 #[.agg #[.int .i64 (rowv (f 0)), .int .i64 (rowv (f 1)), .int .i64 (rowv (f 2)), .int .i64 (rowv (f 3)), .int .i64 (rowv (f 4)), .int .i64 (rowv (f 5))], .int .i64 dx, .int .i64 dy] w fun e w' => e = .returned (.agg #[.int .i64 (rowv (sf x y f 0)), .int .i64 (rowv (sf x y f 1)), .int .i64 (rowv (sf x y f 2)), .int .i64 (rowv (sf x y f 3)), .int .i64 (rowv (sf x y f 4)), .int .i64 (rowv (sf x y f 5))]) ∧ Below w.heap.size w w' := by
  have HX : ∀ w, Calls Try.prog 192 #[.int .i64 dx] w fun e w' => e = .returned (.int .i64 (x : Int)) ∧ w' = w := by rw [← ex]; exact l2mod_any dx hx
  have HY : ∀ w, Calls Try.prog 192 #[.int .i64 dy] w fun e w' => e = .returned (.int .i64 (y : Int)) ∧ w' = w := by rw [← ey]; exact l2mod_any dy hy
  have hx' : 0 ≤ (x : Int) ∧ (x : Int) ≤ 5 := by omega
  have e : ∀ r : Nat, rowv (sf x y f r) = rot (rowv (f ((r + 6 - y) % 6))) (x : Int) := fun r => (rowv_rot _ hx6).symm
  rw [e 0, e 1, e 2, e 3, e 4, e 5]
  clear e ex ey
  rcases six_n hy6 with rfl | rfl | rfl | rfl | rfl | rfl
  · exact l2shift_0 (rowv (f 0)) (rowv (f 1)) (rowv (f 2)) (rowv (f 3)) (rowv (f 4)) (rowv (f 5)) dx dy x hx' (Lib.hid HX) (Lib.hid HY) w
  · exact l2shift_1 (rowv (f 0)) (rowv (f 1)) (rowv (f 2)) (rowv (f 3)) (rowv (f 4)) (rowv (f 5)) dx dy x hx' (Lib.hid HX) (Lib.hid HY) w
  · exact l2shift_2 (rowv (f 0)) (rowv (f 1)) (rowv (f 2)) (rowv (f 3)) (rowv (f 4)) (rowv (f 5)) dx dy x hx' (Lib.hid HX) (Lib.hid HY) w
  · exact l2shift_3 (rowv (f 0)) (rowv (f 1)) (rowv (f 2)) (rowv (f 3)) (rowv (f 4)) (rowv (f 5)) dx dy x hx' (Lib.hid HX) (Lib.hid HY) w
  · exact l2shift_4 (rowv (f 0)) (rowv (f 1)) (rowv (f 2)) (rowv (f 3)) (rowv (f 4)) (rowv (f 5)) dx dy x hx' (Lib.hid HX) (Lib.hid HY) w
  · exact l2shift_5 (rowv (f 0)) (rowv (f 1)) (rowv (f 2)) (rowv (f 3)) (rowv (f 4)) (rowv (f 5)) dx dy x hx' (Lib.hid HX) (Lib.hid HY) w
theorem shifted_f (f : Nat → Nat → Bool) (dx dy : Int) (hx : (Lit.int .i64 dx).wf = true) (hy : (Lit.int .i64 dy).wf = true) {x y : Nat} (hx6 : x < 6) (hy6 : y < 6) (ex : dx % 6 = x) (ey : dy % 6 = y) (w : World) : Calls Try.prog 212 #[.agg #[.int .i64 (rowv (f 0)), .int .i64 (rowv (f 1)), .int .i64 (rowv (f 2)), .int .i64 (rowv (f 3)), .int .i64 (rowv (f 4)), .int .i64 (rowv (f 5))], .int .i64 dx, .int .i64 dy] w fun e w' => e = .returned (.agg #[.int .i64 (rowv (sf x y f 0)), .int .i64 (rowv (sf x y f 1)), .int .i64 (rowv (sf x y f 2)), .int .i64 (rowv (sf x y f 3)), .int .i64 (rowv (sf x y f 4)), .int .i64 (rowv (sf x y f 5))]) ∧ Below w.heap.size w w' := by
  have HA : ∀ w, Calls Try.prog 217 #[.int .i64 dx, .int .i64 dy] w fun e w' => e = .returned (.agg #[.int .i64 (x : Int), .int .i64 (y : Int)]) ∧ w' = w.alloc (.cells #[.int .i64 (x : Int), .int .i64 (y : Int)] 69) := by rw [← ex, ← ey]; exact around_c dx dy hx hy
  have hx' : 0 ≤ (x : Int) ∧ (x : Int) ≤ 5 := by omega
  have e : ∀ r : Nat, rowv (sf x y f r) = rot (rowv (f ((r + 6 - y) % 6))) (x : Int) := fun r => (rowv_rot _ hx6).symm
  rw [e 0, e 1, e 2, e 3, e 4, e 5]
  clear e ex ey
  rcases six_n hy6 with rfl | rfl | rfl | rfl | rfl | rfl
  · have h := shifted_0 (rowv (f 0)) (rowv (f 1)) (rowv (f 2)) (rowv (f 3)) (rowv (f 4)) (rowv (f 5)) dx dy x hx' (Lib.hid HA) w
    rw [← rot_eq (row_in (f 0)) hx', ← rot_eq (row_in (f 1)) hx', ← rot_eq (row_in (f 2)) hx', ← rot_eq (row_in (f 3)) hx', ← rot_eq (row_in (f 4)) hx', ← rot_eq (row_in (f 5)) hx'] at h
    exact h
  · have h := shifted_1 (rowv (f 0)) (rowv (f 1)) (rowv (f 2)) (rowv (f 3)) (rowv (f 4)) (rowv (f 5)) dx dy x hx' (Lib.hid HA) w
    rw [← rot_eq (row_in (f 5)) hx', ← rot_eq (row_in (f 0)) hx', ← rot_eq (row_in (f 1)) hx', ← rot_eq (row_in (f 2)) hx', ← rot_eq (row_in (f 3)) hx', ← rot_eq (row_in (f 4)) hx'] at h
    exact h
  · have h := shifted_2 (rowv (f 0)) (rowv (f 1)) (rowv (f 2)) (rowv (f 3)) (rowv (f 4)) (rowv (f 5)) dx dy x hx' (Lib.hid HA) w
    rw [← rot_eq (row_in (f 4)) hx', ← rot_eq (row_in (f 5)) hx', ← rot_eq (row_in (f 0)) hx', ← rot_eq (row_in (f 1)) hx', ← rot_eq (row_in (f 2)) hx', ← rot_eq (row_in (f 3)) hx'] at h
    exact h
  · have h := shifted_3 (rowv (f 0)) (rowv (f 1)) (rowv (f 2)) (rowv (f 3)) (rowv (f 4)) (rowv (f 5)) dx dy x hx' (Lib.hid HA) w
    rw [← rot_eq (row_in (f 3)) hx', ← rot_eq (row_in (f 4)) hx', ← rot_eq (row_in (f 5)) hx', ← rot_eq (row_in (f 0)) hx', ← rot_eq (row_in (f 1)) hx', ← rot_eq (row_in (f 2)) hx'] at h
    exact h
  · have h := shifted_4 (rowv (f 0)) (rowv (f 1)) (rowv (f 2)) (rowv (f 3)) (rowv (f 4)) (rowv (f 5)) dx dy x hx' (Lib.hid HA) w
    rw [← rot_eq (row_in (f 2)) hx', ← rot_eq (row_in (f 3)) hx', ← rot_eq (row_in (f 4)) hx', ← rot_eq (row_in (f 5)) hx', ← rot_eq (row_in (f 0)) hx', ← rot_eq (row_in (f 1)) hx'] at h
    exact h
  · have h := shifted_5 (rowv (f 0)) (rowv (f 1)) (rowv (f 2)) (rowv (f 3)) (rowv (f 4)) (rowv (f 5)) dx dy x hx' (Lib.hid HA) w
    rw [← rot_eq (row_in (f 1)) hx', ← rot_eq (row_in (f 2)) hx', ← rot_eq (row_in (f 3)) hx', ← rot_eq (row_in (f 4)) hx', ← rot_eq (row_in (f 5)) hx', ← rot_eq (row_in (f 0)) hx'] at h
    exact h
set_option maxHeartbeats 4000000 in
theorem moved_f (f : Nat → Nat → Bool) {k x y : Nat} (hk8 : k < 8) (hx6 : x < 6) (hy6 : y < 6) (w : World) : Calls Try.prog 224 #[.agg #[.int .i64 (rowv (f 0)), .int .i64 (rowv (f 1)), .int .i64 (rowv (f 2)), .int .i64 (rowv (f 3)), .int .i64 (rowv (f 4)), .int .i64 (rowv (f 5))], .agg #[.int .i64 (k : Int), .int .i64 (x : Int), .int .i64 (y : Int)]] w fun e w' => e = .returned (.agg #[.int .i64 (rowv (sf x y (tf k f) 0)), .int .i64 (rowv (sf x y (tf k f) 1)), .int .i64 (rowv (sf x y (tf k f) 2)), .int .i64 (rowv (sf x y (tf k f) 3)), .int .i64 (rowv (sf x y (tf k f) 4)), .int .i64 (rowv (sf x y (tf k f) 5))]) ∧ Below w.heap.size w w' := by
  have HT := Lib.hid (turned_f f hk8)
  have HS := Lib.hid (shifted_f (tf k f) (x : Int) (y : Int) (WalkArith.wf_i64 (by omega)) (WalkArith.wf_i64 (by omega)) hx6 hy6 (by omega) (by omega))
  go_enter Try.func224, Try.ntmps224
  go_wp2_with fail
  generalize hW : (World.alloc _ _ : World) = W0
  have k0 : (fun U => U.cell? ⟨w.heap.size, 0, none⟩ = some (.int .i64 (rowv (f 0))) ∧ U.cell? ⟨w.heap.size, 1, none⟩ = some (.int .i64 (rowv (f 1))) ∧ U.cell? ⟨w.heap.size, 2, none⟩ = some (.int .i64 (rowv (f 2))) ∧ U.cell? ⟨w.heap.size, 3, none⟩ = some (.int .i64 (rowv (f 3))) ∧ U.cell? ⟨w.heap.size, 4, none⟩ = some (.int .i64 (rowv (f 4))) ∧ U.cell? ⟨w.heap.size, 5, none⟩ = some (.int .i64 (rowv (f 5))) ∧ U.cell? ⟨w.heap.size + 1, 0, none⟩ = some (.int .i64 (k : Int)) ∧ U.cell? ⟨w.heap.size + 1, 1, none⟩ = some (.int .i64 (x : Int)) ∧ U.cell? ⟨w.heap.size + 1, 2, none⟩ = some (.int .i64 (y : Int)) ∧ Below w.heap.size w U) W0 := by
    subst hW
    refine ⟨by go_simp, by go_simp, by go_simp, by go_simp, by go_simp, by go_simp, by go_simp, by go_simp, by go_simp, ?_⟩
    (repeat (first | exact Below.refl _ _ | assumption | refine Below.setCell ?_ (by first | (simp; done) | (simp; omega)) _ | refine Below.alloc ?_ (by first | (simp; done) | (simp; omega)) _ | refine Below.drew ?_))
  have qz2 : W0.drew.heap[(w.heap.size + 1 + 1 : Nat)]? = some (Obj.cells #[.int .i64 0, .int .i64 0, .int .i64 0, .int .i64 0, .int .i64 0, .int .i64 0] 28 (0, 0)) := by
    rw [← hW]
    exact drew_row (alloc_at (by simp))
  dsimp only at k0
  clear hW
  go_region_held3 (fun U => U.cell? ⟨w.heap.size, 0, none⟩ = some (.int .i64 (rowv (f 0))) ∧ U.cell? ⟨w.heap.size, 1, none⟩ = some (.int .i64 (rowv (f 1))) ∧ U.cell? ⟨w.heap.size, 2, none⟩ = some (.int .i64 (rowv (f 2))) ∧ U.cell? ⟨w.heap.size, 3, none⟩ = some (.int .i64 (rowv (f 3))) ∧ U.cell? ⟨w.heap.size, 4, none⟩ = some (.int .i64 (rowv (f 4))) ∧ U.cell? ⟨w.heap.size, 5, none⟩ = some (.int .i64 (rowv (f 5))) ∧ U.cell? ⟨w.heap.size + 1, 0, none⟩ = some (.int .i64 (k : Int)) ∧ U.cell? ⟨w.heap.size + 1, 1, none⟩ = some (.int .i64 (x : Int)) ∧ U.cell? ⟨w.heap.size + 1, 2, none⟩ = some (.int .i64 (y : Int)) ∧ Below w.heap.size w U) (first | with_reducible exact drewc9 k0 | with_reducible assumption | (with_reducible refine stc9_6 (m := w.heap.size + 1) ?_ ⟨Nat.le_succ _, Nat.le_succ _, Nat.le_succ _, Nat.le_succ _, Nat.le_succ _, Nat.le_succ _, Nat.le_refl _, Nat.le_refl _, Nat.le_refl _⟩ (by omega) (by omega); with_reducible assumption)) (first | (go_at_call 233; refine (HT.out _).mono ?_; rintro e w' ⟨rfl, hb'⟩; have hk := keepc9 (by with_reducible assumption) hb' rfl; have hq := rowk qz2 hb' rfl) | (go_at_call 212; refine (HS.out _).mono ?_; rintro e w' ⟨rfl, hb'⟩; have hk := keepc9 (by with_reducible assumption) hb' rfl; have hq2 := rowk hq hb' rfl; obtain ⟨z0, z1, z2, z3, z4, z5, f0, f1, f2, f3, f4, f5⟩ := zero6 hq2; clear hq2 hq qz2))
  all_goals
    have hBe := hk.2.2.2.2.2.2.2.2.2
    clear hk k0
    go_wp2_with fail
    refine bodyPost_ret (v := .agg #[.int .i64 (rowv (sf x y (tf k f) 0)), .int .i64 (rowv (sf x y (tf k f) 1)), .int .i64 (rowv (sf x y (tf k f) 2)), .int .i64 (rowv (sf x y (tf k f) 3)), .int .i64 (rowv (sf x y (tf k f) 4)), .int .i64 (rowv (sf x y (tf k f) 5))]) (by simp [results, Try.results224, go_sem, z0, z1, z2, z3, z4, z5]) rfl ⟨rfl, ?_⟩
    exact below6 hBe (by omega)
end Go.Proofs.Ytnkjamdpafpcpaa
