/- CONTRACTS: the code's shift, for each remainder of the rows. -/
import Derived.Test.YtnkjamdpafpcpaaSa
import Derived.RegionTactic
import Derived.Deep.RegionHeld3
import Derived.Test.YtnkjamdpafpcpaaSc
import Derived.WalkKit
import Derived.ProofKit
import Derived.OpenShut
import Derived.Lib.Hide
import Derived.WalkSpells
import Derived.Below
import Derived.BigQuiet
import Derived.LoopN
namespace Go.Proofs.Ytnkjamdpafpcpaa
open Go.ChangeShapes Go.WideShapes Go.ChangeAt Go.RowKit
set_option linter.unusedVariables false
theorem st_row {W V : World} {g i : Nat} {cs : Array Value} {t : TypeId} {v : Value} (hV : (W.setCell ⟨g, i, none⟩ v).drew = V) (h : W.heap[g]? = some (.cells cs t (0, 0))) : V.heap[g]? = some (.cells (cs.setIfInBounds i v) t (0, 0)) := by
  subst hV; exact heap_setCell_same W g i cs t v h
theorem st_other {W V : World} {g g2 i : Nat} {o : Obj} {v : Value} (hV : (W.setCell ⟨g, i, none⟩ v).drew = V) (hne : g2 ≠ g) (h : W.heap[g2]? = some o) : V.heap[g2]? = some o := by
  subst hV; exact (Below.heap_setCell _ _ _ _ hne).trans h
theorem st_below {w W V : World} {B g i : Nat} {v : Value} (hV : (W.setCell ⟨g, i, none⟩ v).drew = V) (h : Below B w W) (hB : B ≤ g) : Below B w V := by
  subst hV; exact (h.setCell hB _).drew
set_option maxHeartbeats 4000000 in
theorem shifted_0 (a0 a1 a2 a3 a4 a5 : Int) (dx dy x : Int) (hx : 0 ≤ x ∧ x ≤ 5) (HA : Hid (∀ w, Calls Try.prog 217 #[.int .i64 dx, .int .i64 dy] w fun e w' => e = .returned (.agg #[.int .i64 x, .int .i64 0]) ∧ w' = w.alloc (.cells #[.int .i64 x, .int .i64 0] 69))) (w : World) : Calls Try.prog 212 #[.agg #[.int .i64 a0, .int .i64 a1, .int .i64 a2, .int .i64 a3, .int .i64 a4, .int .i64 a5], .int .i64 dx, .int .i64 dy] w fun e w' => e = .returned (.agg #[.int .i64 (bits .and .i64 (bits .or .i64 (wrap64 (a0 * 2 ^ x.toNat)) (a0 / 2 ^ (6 - x).toNat)) 63), .int .i64 (bits .and .i64 (bits .or .i64 (wrap64 (a1 * 2 ^ x.toNat)) (a1 / 2 ^ (6 - x).toNat)) 63), .int .i64 (bits .and .i64 (bits .or .i64 (wrap64 (a2 * 2 ^ x.toNat)) (a2 / 2 ^ (6 - x).toNat)) 63), .int .i64 (bits .and .i64 (bits .or .i64 (wrap64 (a3 * 2 ^ x.toNat)) (a3 / 2 ^ (6 - x).toNat)) 63), .int .i64 (bits .and .i64 (bits .or .i64 (wrap64 (a4 * 2 ^ x.toNat)) (a4 / 2 ^ (6 - x).toNat)) 63), .int .i64 (bits .and .i64 (bits .or .i64 (wrap64 (a5 * 2 ^ x.toNat)) (a5 / 2 ^ (6 - x).toNat)) 63)]) ∧ Below w.heap.size w w' := by
  have i0 := ix0 a0 a1 a2 a3 a4 a5; have i1 := ix1 a0 a1 a2 a3 a4 a5; have i2 := ix2 a0 a1 a2 a3 a4 a5; have i3 := ix3 a0 a1 a2 a3 a4 a5; have i4 := ix4 a0 a1 a2 a3 a4 a5; have i5 := ix5 a0 a1 a2 a3 a4 a5
  have hw : IntKind.i64.wrap (6 - x) = 6 - x := by rw [IntKind.wrap_i64]; omega
  have hs0 : (0 : Int) ≤ 6 - x := by omega
  have hs1 : (0 : Int) ≤ x := by omega
  obtain ⟨m0, hm0⟩ : ∃ m, m = bits .and .i64 (bits .or .i64 (wrap64 (a0 * 2 ^ x.toNat)) (a0 / 2 ^ (6 - x).toNat)) 63 := ⟨_, rfl⟩
  have M0 := Lib.hid hm0
  clear hm0
  obtain ⟨m1, hm1⟩ : ∃ m, m = bits .and .i64 (bits .or .i64 (wrap64 (a1 * 2 ^ x.toNat)) (a1 / 2 ^ (6 - x).toNat)) 63 := ⟨_, rfl⟩
  have M1 := Lib.hid hm1
  clear hm1
  obtain ⟨m2, hm2⟩ : ∃ m, m = bits .and .i64 (bits .or .i64 (wrap64 (a2 * 2 ^ x.toNat)) (a2 / 2 ^ (6 - x).toNat)) 63 := ⟨_, rfl⟩
  have M2 := Lib.hid hm2
  clear hm2
  obtain ⟨m3, hm3⟩ : ∃ m, m = bits .and .i64 (bits .or .i64 (wrap64 (a3 * 2 ^ x.toNat)) (a3 / 2 ^ (6 - x).toNat)) 63 := ⟨_, rfl⟩
  have M3 := Lib.hid hm3
  clear hm3
  obtain ⟨m4, hm4⟩ : ∃ m, m = bits .and .i64 (bits .or .i64 (wrap64 (a4 * 2 ^ x.toNat)) (a4 / 2 ^ (6 - x).toNat)) 63 := ⟨_, rfl⟩
  have M4 := Lib.hid hm4
  clear hm4
  obtain ⟨m5, hm5⟩ : ∃ m, m = bits .and .i64 (bits .or .i64 (wrap64 (a5 * 2 ^ x.toNat)) (a5 / 2 ^ (6 - x).toNat)) 63 := ⟨_, rfl⟩
  have M5 := Lib.hid hm5
  clear hm5
  go_enter Try.func212, Try.ntmps212
  go_wp2_with fail
  refine (HA.out _).mono ?_
  rintro e w' ⟨rfl, rfl⟩
  go_wp2_with fail
  generalize hW : (World.alloc _ _ : World) = W
  have hB0 : Below w.heap.size w W := by rw [← hW]; (repeat (first | exact Below.refl _ _ | assumption | refine Below.setCell ?_ (by first | (simp; done) | (simp; omega)) _ | refine Below.alloc ?_ (by first | (simp; done) | (simp; omega)) _ | refine Below.drew ?_))
  have HB := Lib.hid hB0
  have r1 : W.heap[(w.heap.size + 1 : Nat)]? = some (Obj.cells (#[Value.int .i64 0, Value.int .i64 0, Value.int .i64 0, Value.int .i64 0, Value.int .i64 0, Value.int .i64 0]) 28 (0, 0)) := by
    rw [← hW]
    repeat (first | (refine alloc_at ?_; first | (simp; done) | (simp; omega)) | refine drew_row ?_ | refine alloc_past ?_ | assumption)
  have r1_c := fun j => cell_of_row _ _ j _ _ _ r1
  have r1_f := fun j => frozen_of_row _ _ j _ _ r1
  have r3 : W.heap[(w.heap.size + 1 + 1 + 1 : Nat)]? = some (Obj.cells (#[.int .i64 x, .int .i64 0]) 69 (0, 0)) := by
    rw [← hW]
    repeat (first | (refine alloc_at ?_; first | (simp; done) | (simp; omega)) | refine drew_row ?_ | refine alloc_past ?_ | assumption)
  have r3_c := fun j => cell_of_row _ _ j _ _ _ r3
  have r3_f := fun j => frozen_of_row _ _ j _ _ r3
  have r4 : W.heap[(w.heap.size + 1 + 1 + 1 + 1 : Nat)]? = some (Obj.cells (#[Value.int .i64 0, Value.int .i64 0, Value.int .i64 0, Value.int .i64 0, Value.int .i64 0, Value.int .i64 0]) 28 (0, 0)) := by
    rw [← hW]
    repeat (first | (refine alloc_at ?_; first | (simp; done) | (simp; omega)) | refine drew_row ?_ | refine alloc_past ?_ | assumption)
  have r4_c := fun j => cell_of_row _ _ j _ _ _ r4
  have r4_f := fun j => frozen_of_row _ _ j _ _ r4
  have R1 := Lib.hid r1
  have R3 := Lib.hid r3
  have R4 := Lib.hid r4
  clear hW hB0 r1 r3 r4 r1_c r1_f r3_c r3_f r4_c r4_f
  refine wp_loop_rounds 7 ?_
  have b0 : W.cell? ⟨w.heap.size + 1 + 1 + 1, 0, none⟩ = some (.int .i64 x) := cell_of_row _ _ 0 _ _ _ R3.out
  have b1 : W.cell? ⟨w.heap.size + 1 + 1 + 1, 1, none⟩ = some (.int .i64 0) := cell_of_row _ _ 1 _ _ _ R3.out
  have cc : W.cell? ⟨w.heap.size + 1 + 1 + 1 + 1, 0, none⟩ = some (.int .i64 0) := cell_of_row _ _ 0 _ _ _ R4.out
  have cf : W.frozen? ⟨w.heap.size + 1 + 1 + 1 + 1, 0, none⟩ = false := frozen_of_row _ _ _ _ _ R4.out
  have hq : IntKind.i64.wrap 0 = 0 := by decide
  have hr : ((0 : Int)).tmod 6 = 0 := by decide
  have hu : IntKind.i64.wrap 0 = 0 := by decide
  have hv : ((0 : Int)) % 6 = 0 := by decide
  rw [rounds_succ]
  go_wp2_with fail
  go_region_held3 (fun U => U.cell? ⟨w.heap.size + 1 + 1 + 1, 0, none⟩ = some (.int .i64 x) ∧ U.cell? ⟨w.heap.size + 1 + 1 + 1, 1, none⟩ = some (.int .i64 0)) (first | exact ⟨b0, b1⟩ | go_keep) (fail)
  go_wp2_with fail
  rw [← M0.out]
  clear b0 b1 cc cf hq hr hu hv
  generalize hV : (World.drew _ : World) = V0
  have r1 := Lib.hid (st_other (g := w.heap.size + 1 + 1 + 1 + 1) hV (by omega) R1.out)
  have r3 := Lib.hid (st_other (g := w.heap.size + 1 + 1 + 1 + 1) hV (by omega) R3.out)
  have r4 : Hid (V0.heap[(w.heap.size + 1 + 1 + 1 + 1 : Nat)]? = some (Obj.cells #[Value.int .i64 m0, Value.int .i64 0, Value.int .i64 0, Value.int .i64 0, Value.int .i64 0, Value.int .i64 0] 28 (0, 0))) := Lib.hid (st_row hV R4.out)
  have hb := Lib.hid (st_below hV HB.out (by omega))
  clear hV R1 R3 R4 HB
  have R1 := r1
  have R3 := r3
  have R4 := r4
  have HB := hb
  clear r1 r3 r4 hb
  have b0 : V0.cell? ⟨w.heap.size + 1 + 1 + 1, 0, none⟩ = some (.int .i64 x) := cell_of_row _ _ 0 _ _ _ R3.out
  have b1 : V0.cell? ⟨w.heap.size + 1 + 1 + 1, 1, none⟩ = some (.int .i64 0) := cell_of_row _ _ 1 _ _ _ R3.out
  have cc : V0.cell? ⟨w.heap.size + 1 + 1 + 1 + 1, 1, none⟩ = some (.int .i64 0) := cell_of_row _ _ 1 _ _ _ R4.out
  have cf : V0.frozen? ⟨w.heap.size + 1 + 1 + 1 + 1, 1, none⟩ = false := frozen_of_row _ _ _ _ _ R4.out
  have hq : IntKind.i64.wrap 1 = 1 := by decide
  have hr : ((1 : Int)).tmod 6 = 1 := by decide
  have hu : IntKind.i64.wrap 1 = 1 := by decide
  have hv : ((1 : Int)) % 6 = 1 := by decide
  rw [rounds_succ]
  go_wp2_with fail
  go_region_held3 (fun U => U.cell? ⟨w.heap.size + 1 + 1 + 1, 0, none⟩ = some (.int .i64 x) ∧ U.cell? ⟨w.heap.size + 1 + 1 + 1, 1, none⟩ = some (.int .i64 0)) (first | exact ⟨b0, b1⟩ | go_keep) (fail)
  go_wp2_with fail
  rw [← M1.out]
  clear b0 b1 cc cf hq hr hu hv
  generalize hV : (World.drew _ : World) = V1
  have r1 := Lib.hid (st_other (g := w.heap.size + 1 + 1 + 1 + 1) hV (by omega) R1.out)
  have r3 := Lib.hid (st_other (g := w.heap.size + 1 + 1 + 1 + 1) hV (by omega) R3.out)
  have r4 : Hid (V1.heap[(w.heap.size + 1 + 1 + 1 + 1 : Nat)]? = some (Obj.cells #[Value.int .i64 m0, Value.int .i64 m1, Value.int .i64 0, Value.int .i64 0, Value.int .i64 0, Value.int .i64 0] 28 (0, 0))) := Lib.hid (st_row hV R4.out)
  have hb := Lib.hid (st_below hV HB.out (by omega))
  clear hV R1 R3 R4 HB
  have R1 := r1
  have R3 := r3
  have R4 := r4
  have HB := hb
  clear r1 r3 r4 hb
  have b0 : V1.cell? ⟨w.heap.size + 1 + 1 + 1, 0, none⟩ = some (.int .i64 x) := cell_of_row _ _ 0 _ _ _ R3.out
  have b1 : V1.cell? ⟨w.heap.size + 1 + 1 + 1, 1, none⟩ = some (.int .i64 0) := cell_of_row _ _ 1 _ _ _ R3.out
  have cc : V1.cell? ⟨w.heap.size + 1 + 1 + 1 + 1, 2, none⟩ = some (.int .i64 0) := cell_of_row _ _ 2 _ _ _ R4.out
  have cf : V1.frozen? ⟨w.heap.size + 1 + 1 + 1 + 1, 2, none⟩ = false := frozen_of_row _ _ _ _ _ R4.out
  have hq : IntKind.i64.wrap 2 = 2 := by decide
  have hr : ((2 : Int)).tmod 6 = 2 := by decide
  have hu : IntKind.i64.wrap 2 = 2 := by decide
  have hv : ((2 : Int)) % 6 = 2 := by decide
  rw [rounds_succ]
  go_wp2_with fail
  go_region_held3 (fun U => U.cell? ⟨w.heap.size + 1 + 1 + 1, 0, none⟩ = some (.int .i64 x) ∧ U.cell? ⟨w.heap.size + 1 + 1 + 1, 1, none⟩ = some (.int .i64 0)) (first | exact ⟨b0, b1⟩ | go_keep) (fail)
  go_wp2_with fail
  rw [← M2.out]
  clear b0 b1 cc cf hq hr hu hv
  generalize hV : (World.drew _ : World) = V2
  have r1 := Lib.hid (st_other (g := w.heap.size + 1 + 1 + 1 + 1) hV (by omega) R1.out)
  have r3 := Lib.hid (st_other (g := w.heap.size + 1 + 1 + 1 + 1) hV (by omega) R3.out)
  have r4 : Hid (V2.heap[(w.heap.size + 1 + 1 + 1 + 1 : Nat)]? = some (Obj.cells #[Value.int .i64 m0, Value.int .i64 m1, Value.int .i64 m2, Value.int .i64 0, Value.int .i64 0, Value.int .i64 0] 28 (0, 0))) := Lib.hid (st_row hV R4.out)
  have hb := Lib.hid (st_below hV HB.out (by omega))
  clear hV R1 R3 R4 HB
  have R1 := r1
  have R3 := r3
  have R4 := r4
  have HB := hb
  clear r1 r3 r4 hb
  have b0 : V2.cell? ⟨w.heap.size + 1 + 1 + 1, 0, none⟩ = some (.int .i64 x) := cell_of_row _ _ 0 _ _ _ R3.out
  have b1 : V2.cell? ⟨w.heap.size + 1 + 1 + 1, 1, none⟩ = some (.int .i64 0) := cell_of_row _ _ 1 _ _ _ R3.out
  have cc : V2.cell? ⟨w.heap.size + 1 + 1 + 1 + 1, 3, none⟩ = some (.int .i64 0) := cell_of_row _ _ 3 _ _ _ R4.out
  have cf : V2.frozen? ⟨w.heap.size + 1 + 1 + 1 + 1, 3, none⟩ = false := frozen_of_row _ _ _ _ _ R4.out
  have hq : IntKind.i64.wrap 3 = 3 := by decide
  have hr : ((3 : Int)).tmod 6 = 3 := by decide
  have hu : IntKind.i64.wrap 3 = 3 := by decide
  have hv : ((3 : Int)) % 6 = 3 := by decide
  rw [rounds_succ]
  go_wp2_with fail
  go_region_held3 (fun U => U.cell? ⟨w.heap.size + 1 + 1 + 1, 0, none⟩ = some (.int .i64 x) ∧ U.cell? ⟨w.heap.size + 1 + 1 + 1, 1, none⟩ = some (.int .i64 0)) (first | exact ⟨b0, b1⟩ | go_keep) (fail)
  go_wp2_with fail
  rw [← M3.out]
  clear b0 b1 cc cf hq hr hu hv
  generalize hV : (World.drew _ : World) = V3
  have r1 := Lib.hid (st_other (g := w.heap.size + 1 + 1 + 1 + 1) hV (by omega) R1.out)
  have r3 := Lib.hid (st_other (g := w.heap.size + 1 + 1 + 1 + 1) hV (by omega) R3.out)
  have r4 : Hid (V3.heap[(w.heap.size + 1 + 1 + 1 + 1 : Nat)]? = some (Obj.cells #[Value.int .i64 m0, Value.int .i64 m1, Value.int .i64 m2, Value.int .i64 m3, Value.int .i64 0, Value.int .i64 0] 28 (0, 0))) := Lib.hid (st_row hV R4.out)
  have hb := Lib.hid (st_below hV HB.out (by omega))
  clear hV R1 R3 R4 HB
  have R1 := r1
  have R3 := r3
  have R4 := r4
  have HB := hb
  clear r1 r3 r4 hb
  have b0 : V3.cell? ⟨w.heap.size + 1 + 1 + 1, 0, none⟩ = some (.int .i64 x) := cell_of_row _ _ 0 _ _ _ R3.out
  have b1 : V3.cell? ⟨w.heap.size + 1 + 1 + 1, 1, none⟩ = some (.int .i64 0) := cell_of_row _ _ 1 _ _ _ R3.out
  have cc : V3.cell? ⟨w.heap.size + 1 + 1 + 1 + 1, 4, none⟩ = some (.int .i64 0) := cell_of_row _ _ 4 _ _ _ R4.out
  have cf : V3.frozen? ⟨w.heap.size + 1 + 1 + 1 + 1, 4, none⟩ = false := frozen_of_row _ _ _ _ _ R4.out
  have hq : IntKind.i64.wrap 4 = 4 := by decide
  have hr : ((4 : Int)).tmod 6 = 4 := by decide
  have hu : IntKind.i64.wrap 4 = 4 := by decide
  have hv : ((4 : Int)) % 6 = 4 := by decide
  rw [rounds_succ]
  go_wp2_with fail
  go_region_held3 (fun U => U.cell? ⟨w.heap.size + 1 + 1 + 1, 0, none⟩ = some (.int .i64 x) ∧ U.cell? ⟨w.heap.size + 1 + 1 + 1, 1, none⟩ = some (.int .i64 0)) (first | exact ⟨b0, b1⟩ | go_keep) (fail)
  go_wp2_with fail
  rw [← M4.out]
  clear b0 b1 cc cf hq hr hu hv
  generalize hV : (World.drew _ : World) = V4
  have r1 := Lib.hid (st_other (g := w.heap.size + 1 + 1 + 1 + 1) hV (by omega) R1.out)
  have r3 := Lib.hid (st_other (g := w.heap.size + 1 + 1 + 1 + 1) hV (by omega) R3.out)
  have r4 : Hid (V4.heap[(w.heap.size + 1 + 1 + 1 + 1 : Nat)]? = some (Obj.cells #[Value.int .i64 m0, Value.int .i64 m1, Value.int .i64 m2, Value.int .i64 m3, Value.int .i64 m4, Value.int .i64 0] 28 (0, 0))) := Lib.hid (st_row hV R4.out)
  have hb := Lib.hid (st_below hV HB.out (by omega))
  clear hV R1 R3 R4 HB
  have R1 := r1
  have R3 := r3
  have R4 := r4
  have HB := hb
  clear r1 r3 r4 hb
  have b0 : V4.cell? ⟨w.heap.size + 1 + 1 + 1, 0, none⟩ = some (.int .i64 x) := cell_of_row _ _ 0 _ _ _ R3.out
  have b1 : V4.cell? ⟨w.heap.size + 1 + 1 + 1, 1, none⟩ = some (.int .i64 0) := cell_of_row _ _ 1 _ _ _ R3.out
  have cc : V4.cell? ⟨w.heap.size + 1 + 1 + 1 + 1, 5, none⟩ = some (.int .i64 0) := cell_of_row _ _ 5 _ _ _ R4.out
  have cf : V4.frozen? ⟨w.heap.size + 1 + 1 + 1 + 1, 5, none⟩ = false := frozen_of_row _ _ _ _ _ R4.out
  have hq : IntKind.i64.wrap 5 = 5 := by decide
  have hr : ((5 : Int)).tmod 6 = 5 := by decide
  have hu : IntKind.i64.wrap 5 = 5 := by decide
  have hv : ((5 : Int)) % 6 = 5 := by decide
  rw [rounds_succ]
  go_wp2_with fail
  go_region_held3 (fun U => U.cell? ⟨w.heap.size + 1 + 1 + 1, 0, none⟩ = some (.int .i64 x) ∧ U.cell? ⟨w.heap.size + 1 + 1 + 1, 1, none⟩ = some (.int .i64 0)) (first | exact ⟨b0, b1⟩ | go_keep) (fail)
  go_wp2_with fail
  rw [← M5.out]
  clear b0 b1 cc cf hq hr hu hv
  generalize hV : (World.drew _ : World) = V5
  have r1 := Lib.hid (st_other (g := w.heap.size + 1 + 1 + 1 + 1) hV (by omega) R1.out)
  have r3 := Lib.hid (st_other (g := w.heap.size + 1 + 1 + 1 + 1) hV (by omega) R3.out)
  have r4 : Hid (V5.heap[(w.heap.size + 1 + 1 + 1 + 1 : Nat)]? = some (Obj.cells #[Value.int .i64 m0, Value.int .i64 m1, Value.int .i64 m2, Value.int .i64 m3, Value.int .i64 m4, Value.int .i64 m5] 28 (0, 0))) := Lib.hid (st_row hV R4.out)
  have hb := Lib.hid (st_below hV HB.out (by omega))
  clear hV R1 R3 R4 HB
  have R1 := r1
  have R3 := r3
  have R4 := r4
  have HB := hb
  clear r1 r3 r4 hb
  rw [rounds_succ]
  have d0 : V5.cell? ⟨w.heap.size + 1 + 1 + 1 + 1, 0, none⟩ = some _ := cell_of_row _ _ 0 _ _ _ R4.out; have d1 : V5.cell? ⟨w.heap.size + 1 + 1 + 1 + 1, 1, none⟩ = some _ := cell_of_row _ _ 1 _ _ _ R4.out; have d2 : V5.cell? ⟨w.heap.size + 1 + 1 + 1 + 1, 2, none⟩ = some _ := cell_of_row _ _ 2 _ _ _ R4.out; have d3 : V5.cell? ⟨w.heap.size + 1 + 1 + 1 + 1, 3, none⟩ = some _ := cell_of_row _ _ 3 _ _ _ R4.out; have d4 : V5.cell? ⟨w.heap.size + 1 + 1 + 1 + 1, 4, none⟩ = some _ := cell_of_row _ _ 4 _ _ _ R4.out; have d5 : V5.cell? ⟨w.heap.size + 1 + 1 + 1 + 1, 5, none⟩ = some _ := cell_of_row _ _ 5 _ _ _ R4.out
  have n0 : V5.cell? ⟨w.heap.size + 1, 0, none⟩ = some _ := cell_of_row _ _ 0 _ _ _ R1.out; have n1 : V5.cell? ⟨w.heap.size + 1, 1, none⟩ = some _ := cell_of_row _ _ 1 _ _ _ R1.out; have n2 : V5.cell? ⟨w.heap.size + 1, 2, none⟩ = some _ := cell_of_row _ _ 2 _ _ _ R1.out; have n3 : V5.cell? ⟨w.heap.size + 1, 3, none⟩ = some _ := cell_of_row _ _ 3 _ _ _ R1.out; have n4 : V5.cell? ⟨w.heap.size + 1, 4, none⟩ = some _ := cell_of_row _ _ 4 _ _ _ R1.out; have n5 : V5.cell? ⟨w.heap.size + 1, 5, none⟩ = some _ := cell_of_row _ _ 5 _ _ _ R1.out
  have nf := fun j => frozen_of_row V5 _ j _ _ R1.out
  go_wp2_with fail
  refine bodyPost_ret (v := .agg #[.int .i64 m0, .int .i64 m1, .int .i64 m2, .int .i64 m3, .int .i64 m4, .int .i64 m5]) (by simp [results, Try.results212, go_sem, n0, n1, n2, n3, n4, n5]) rfl ⟨by rw [M0.out, M1.out, M2.out, M3.out, M4.out, M5.out], ?_⟩
  exact below6 HB.out (by omega)
set_option maxHeartbeats 4000000 in
theorem shifted_1 (a0 a1 a2 a3 a4 a5 : Int) (dx dy x : Int) (hx : 0 ≤ x ∧ x ≤ 5) (HA : Hid (∀ w, Calls Try.prog 217 #[.int .i64 dx, .int .i64 dy] w fun e w' => e = .returned (.agg #[.int .i64 x, .int .i64 1]) ∧ w' = w.alloc (.cells #[.int .i64 x, .int .i64 1] 69))) (w : World) : Calls Try.prog 212 #[.agg #[.int .i64 a0, .int .i64 a1, .int .i64 a2, .int .i64 a3, .int .i64 a4, .int .i64 a5], .int .i64 dx, .int .i64 dy] w fun e w' => e = .returned (.agg #[.int .i64 (bits .and .i64 (bits .or .i64 (wrap64 (a5 * 2 ^ x.toNat)) (a5 / 2 ^ (6 - x).toNat)) 63), .int .i64 (bits .and .i64 (bits .or .i64 (wrap64 (a0 * 2 ^ x.toNat)) (a0 / 2 ^ (6 - x).toNat)) 63), .int .i64 (bits .and .i64 (bits .or .i64 (wrap64 (a1 * 2 ^ x.toNat)) (a1 / 2 ^ (6 - x).toNat)) 63), .int .i64 (bits .and .i64 (bits .or .i64 (wrap64 (a2 * 2 ^ x.toNat)) (a2 / 2 ^ (6 - x).toNat)) 63), .int .i64 (bits .and .i64 (bits .or .i64 (wrap64 (a3 * 2 ^ x.toNat)) (a3 / 2 ^ (6 - x).toNat)) 63), .int .i64 (bits .and .i64 (bits .or .i64 (wrap64 (a4 * 2 ^ x.toNat)) (a4 / 2 ^ (6 - x).toNat)) 63)]) ∧ Below w.heap.size w w' := by
  have i0 := ix0 a0 a1 a2 a3 a4 a5; have i1 := ix1 a0 a1 a2 a3 a4 a5; have i2 := ix2 a0 a1 a2 a3 a4 a5; have i3 := ix3 a0 a1 a2 a3 a4 a5; have i4 := ix4 a0 a1 a2 a3 a4 a5; have i5 := ix5 a0 a1 a2 a3 a4 a5
  have hw : IntKind.i64.wrap (6 - x) = 6 - x := by rw [IntKind.wrap_i64]; omega
  have hs0 : (0 : Int) ≤ 6 - x := by omega
  have hs1 : (0 : Int) ≤ x := by omega
  obtain ⟨m0, hm0⟩ : ∃ m, m = bits .and .i64 (bits .or .i64 (wrap64 (a0 * 2 ^ x.toNat)) (a0 / 2 ^ (6 - x).toNat)) 63 := ⟨_, rfl⟩
  have M0 := Lib.hid hm0
  clear hm0
  obtain ⟨m1, hm1⟩ : ∃ m, m = bits .and .i64 (bits .or .i64 (wrap64 (a1 * 2 ^ x.toNat)) (a1 / 2 ^ (6 - x).toNat)) 63 := ⟨_, rfl⟩
  have M1 := Lib.hid hm1
  clear hm1
  obtain ⟨m2, hm2⟩ : ∃ m, m = bits .and .i64 (bits .or .i64 (wrap64 (a2 * 2 ^ x.toNat)) (a2 / 2 ^ (6 - x).toNat)) 63 := ⟨_, rfl⟩
  have M2 := Lib.hid hm2
  clear hm2
  obtain ⟨m3, hm3⟩ : ∃ m, m = bits .and .i64 (bits .or .i64 (wrap64 (a3 * 2 ^ x.toNat)) (a3 / 2 ^ (6 - x).toNat)) 63 := ⟨_, rfl⟩
  have M3 := Lib.hid hm3
  clear hm3
  obtain ⟨m4, hm4⟩ : ∃ m, m = bits .and .i64 (bits .or .i64 (wrap64 (a4 * 2 ^ x.toNat)) (a4 / 2 ^ (6 - x).toNat)) 63 := ⟨_, rfl⟩
  have M4 := Lib.hid hm4
  clear hm4
  obtain ⟨m5, hm5⟩ : ∃ m, m = bits .and .i64 (bits .or .i64 (wrap64 (a5 * 2 ^ x.toNat)) (a5 / 2 ^ (6 - x).toNat)) 63 := ⟨_, rfl⟩
  have M5 := Lib.hid hm5
  clear hm5
  go_enter Try.func212, Try.ntmps212
  go_wp2_with fail
  refine (HA.out _).mono ?_
  rintro e w' ⟨rfl, rfl⟩
  go_wp2_with fail
  generalize hW : (World.alloc _ _ : World) = W
  have hB0 : Below w.heap.size w W := by rw [← hW]; (repeat (first | exact Below.refl _ _ | assumption | refine Below.setCell ?_ (by first | (simp; done) | (simp; omega)) _ | refine Below.alloc ?_ (by first | (simp; done) | (simp; omega)) _ | refine Below.drew ?_))
  have HB := Lib.hid hB0
  have r1 : W.heap[(w.heap.size + 1 : Nat)]? = some (Obj.cells (#[Value.int .i64 0, Value.int .i64 0, Value.int .i64 0, Value.int .i64 0, Value.int .i64 0, Value.int .i64 0]) 28 (0, 0)) := by
    rw [← hW]
    repeat (first | (refine alloc_at ?_; first | (simp; done) | (simp; omega)) | refine drew_row ?_ | refine alloc_past ?_ | assumption)
  have r1_c := fun j => cell_of_row _ _ j _ _ _ r1
  have r1_f := fun j => frozen_of_row _ _ j _ _ r1
  have r3 : W.heap[(w.heap.size + 1 + 1 + 1 : Nat)]? = some (Obj.cells (#[.int .i64 x, .int .i64 1]) 69 (0, 0)) := by
    rw [← hW]
    repeat (first | (refine alloc_at ?_; first | (simp; done) | (simp; omega)) | refine drew_row ?_ | refine alloc_past ?_ | assumption)
  have r3_c := fun j => cell_of_row _ _ j _ _ _ r3
  have r3_f := fun j => frozen_of_row _ _ j _ _ r3
  have r4 : W.heap[(w.heap.size + 1 + 1 + 1 + 1 : Nat)]? = some (Obj.cells (#[Value.int .i64 0, Value.int .i64 0, Value.int .i64 0, Value.int .i64 0, Value.int .i64 0, Value.int .i64 0]) 28 (0, 0)) := by
    rw [← hW]
    repeat (first | (refine alloc_at ?_; first | (simp; done) | (simp; omega)) | refine drew_row ?_ | refine alloc_past ?_ | assumption)
  have r4_c := fun j => cell_of_row _ _ j _ _ _ r4
  have r4_f := fun j => frozen_of_row _ _ j _ _ r4
  have R1 := Lib.hid r1
  have R3 := Lib.hid r3
  have R4 := Lib.hid r4
  clear hW hB0 r1 r3 r4 r1_c r1_f r3_c r3_f r4_c r4_f
  refine wp_loop_rounds 7 ?_
  have b0 : W.cell? ⟨w.heap.size + 1 + 1 + 1, 0, none⟩ = some (.int .i64 x) := cell_of_row _ _ 0 _ _ _ R3.out
  have b1 : W.cell? ⟨w.heap.size + 1 + 1 + 1, 1, none⟩ = some (.int .i64 1) := cell_of_row _ _ 1 _ _ _ R3.out
  have cc : W.cell? ⟨w.heap.size + 1 + 1 + 1 + 1, 1, none⟩ = some (.int .i64 0) := cell_of_row _ _ 1 _ _ _ R4.out
  have cf : W.frozen? ⟨w.heap.size + 1 + 1 + 1 + 1, 1, none⟩ = false := frozen_of_row _ _ _ _ _ R4.out
  have hq : IntKind.i64.wrap 1 = 1 := by decide
  have hr : ((1 : Int)).tmod 6 = 1 := by decide
  have hu : IntKind.i64.wrap 1 = 1 := by decide
  have hv : ((1 : Int)) % 6 = 1 := by decide
  rw [rounds_succ]
  go_wp2_with fail
  go_region_held3 (fun U => U.cell? ⟨w.heap.size + 1 + 1 + 1, 0, none⟩ = some (.int .i64 x) ∧ U.cell? ⟨w.heap.size + 1 + 1 + 1, 1, none⟩ = some (.int .i64 1)) (first | exact ⟨b0, b1⟩ | go_keep) (fail)
  go_wp2_with fail
  rw [← M0.out]
  clear b0 b1 cc cf hq hr hu hv
  generalize hV : (World.drew _ : World) = V0
  have r1 := Lib.hid (st_other (g := w.heap.size + 1 + 1 + 1 + 1) hV (by omega) R1.out)
  have r3 := Lib.hid (st_other (g := w.heap.size + 1 + 1 + 1 + 1) hV (by omega) R3.out)
  have r4 : Hid (V0.heap[(w.heap.size + 1 + 1 + 1 + 1 : Nat)]? = some (Obj.cells #[Value.int .i64 0, Value.int .i64 m0, Value.int .i64 0, Value.int .i64 0, Value.int .i64 0, Value.int .i64 0] 28 (0, 0))) := Lib.hid (st_row hV R4.out)
  have hb := Lib.hid (st_below hV HB.out (by omega))
  clear hV R1 R3 R4 HB
  have R1 := r1
  have R3 := r3
  have R4 := r4
  have HB := hb
  clear r1 r3 r4 hb
  have b0 : V0.cell? ⟨w.heap.size + 1 + 1 + 1, 0, none⟩ = some (.int .i64 x) := cell_of_row _ _ 0 _ _ _ R3.out
  have b1 : V0.cell? ⟨w.heap.size + 1 + 1 + 1, 1, none⟩ = some (.int .i64 1) := cell_of_row _ _ 1 _ _ _ R3.out
  have cc : V0.cell? ⟨w.heap.size + 1 + 1 + 1 + 1, 2, none⟩ = some (.int .i64 0) := cell_of_row _ _ 2 _ _ _ R4.out
  have cf : V0.frozen? ⟨w.heap.size + 1 + 1 + 1 + 1, 2, none⟩ = false := frozen_of_row _ _ _ _ _ R4.out
  have hq : IntKind.i64.wrap 2 = 2 := by decide
  have hr : ((2 : Int)).tmod 6 = 2 := by decide
  have hu : IntKind.i64.wrap 2 = 2 := by decide
  have hv : ((2 : Int)) % 6 = 2 := by decide
  rw [rounds_succ]
  go_wp2_with fail
  go_region_held3 (fun U => U.cell? ⟨w.heap.size + 1 + 1 + 1, 0, none⟩ = some (.int .i64 x) ∧ U.cell? ⟨w.heap.size + 1 + 1 + 1, 1, none⟩ = some (.int .i64 1)) (first | exact ⟨b0, b1⟩ | go_keep) (fail)
  go_wp2_with fail
  rw [← M1.out]
  clear b0 b1 cc cf hq hr hu hv
  generalize hV : (World.drew _ : World) = V1
  have r1 := Lib.hid (st_other (g := w.heap.size + 1 + 1 + 1 + 1) hV (by omega) R1.out)
  have r3 := Lib.hid (st_other (g := w.heap.size + 1 + 1 + 1 + 1) hV (by omega) R3.out)
  have r4 : Hid (V1.heap[(w.heap.size + 1 + 1 + 1 + 1 : Nat)]? = some (Obj.cells #[Value.int .i64 0, Value.int .i64 m0, Value.int .i64 m1, Value.int .i64 0, Value.int .i64 0, Value.int .i64 0] 28 (0, 0))) := Lib.hid (st_row hV R4.out)
  have hb := Lib.hid (st_below hV HB.out (by omega))
  clear hV R1 R3 R4 HB
  have R1 := r1
  have R3 := r3
  have R4 := r4
  have HB := hb
  clear r1 r3 r4 hb
  have b0 : V1.cell? ⟨w.heap.size + 1 + 1 + 1, 0, none⟩ = some (.int .i64 x) := cell_of_row _ _ 0 _ _ _ R3.out
  have b1 : V1.cell? ⟨w.heap.size + 1 + 1 + 1, 1, none⟩ = some (.int .i64 1) := cell_of_row _ _ 1 _ _ _ R3.out
  have cc : V1.cell? ⟨w.heap.size + 1 + 1 + 1 + 1, 3, none⟩ = some (.int .i64 0) := cell_of_row _ _ 3 _ _ _ R4.out
  have cf : V1.frozen? ⟨w.heap.size + 1 + 1 + 1 + 1, 3, none⟩ = false := frozen_of_row _ _ _ _ _ R4.out
  have hq : IntKind.i64.wrap 3 = 3 := by decide
  have hr : ((3 : Int)).tmod 6 = 3 := by decide
  have hu : IntKind.i64.wrap 3 = 3 := by decide
  have hv : ((3 : Int)) % 6 = 3 := by decide
  rw [rounds_succ]
  go_wp2_with fail
  go_region_held3 (fun U => U.cell? ⟨w.heap.size + 1 + 1 + 1, 0, none⟩ = some (.int .i64 x) ∧ U.cell? ⟨w.heap.size + 1 + 1 + 1, 1, none⟩ = some (.int .i64 1)) (first | exact ⟨b0, b1⟩ | go_keep) (fail)
  go_wp2_with fail
  rw [← M2.out]
  clear b0 b1 cc cf hq hr hu hv
  generalize hV : (World.drew _ : World) = V2
  have r1 := Lib.hid (st_other (g := w.heap.size + 1 + 1 + 1 + 1) hV (by omega) R1.out)
  have r3 := Lib.hid (st_other (g := w.heap.size + 1 + 1 + 1 + 1) hV (by omega) R3.out)
  have r4 : Hid (V2.heap[(w.heap.size + 1 + 1 + 1 + 1 : Nat)]? = some (Obj.cells #[Value.int .i64 0, Value.int .i64 m0, Value.int .i64 m1, Value.int .i64 m2, Value.int .i64 0, Value.int .i64 0] 28 (0, 0))) := Lib.hid (st_row hV R4.out)
  have hb := Lib.hid (st_below hV HB.out (by omega))
  clear hV R1 R3 R4 HB
  have R1 := r1
  have R3 := r3
  have R4 := r4
  have HB := hb
  clear r1 r3 r4 hb
  have b0 : V2.cell? ⟨w.heap.size + 1 + 1 + 1, 0, none⟩ = some (.int .i64 x) := cell_of_row _ _ 0 _ _ _ R3.out
  have b1 : V2.cell? ⟨w.heap.size + 1 + 1 + 1, 1, none⟩ = some (.int .i64 1) := cell_of_row _ _ 1 _ _ _ R3.out
  have cc : V2.cell? ⟨w.heap.size + 1 + 1 + 1 + 1, 4, none⟩ = some (.int .i64 0) := cell_of_row _ _ 4 _ _ _ R4.out
  have cf : V2.frozen? ⟨w.heap.size + 1 + 1 + 1 + 1, 4, none⟩ = false := frozen_of_row _ _ _ _ _ R4.out
  have hq : IntKind.i64.wrap 4 = 4 := by decide
  have hr : ((4 : Int)).tmod 6 = 4 := by decide
  have hu : IntKind.i64.wrap 4 = 4 := by decide
  have hv : ((4 : Int)) % 6 = 4 := by decide
  rw [rounds_succ]
  go_wp2_with fail
  go_region_held3 (fun U => U.cell? ⟨w.heap.size + 1 + 1 + 1, 0, none⟩ = some (.int .i64 x) ∧ U.cell? ⟨w.heap.size + 1 + 1 + 1, 1, none⟩ = some (.int .i64 1)) (first | exact ⟨b0, b1⟩ | go_keep) (fail)
  go_wp2_with fail
  rw [← M3.out]
  clear b0 b1 cc cf hq hr hu hv
  generalize hV : (World.drew _ : World) = V3
  have r1 := Lib.hid (st_other (g := w.heap.size + 1 + 1 + 1 + 1) hV (by omega) R1.out)
  have r3 := Lib.hid (st_other (g := w.heap.size + 1 + 1 + 1 + 1) hV (by omega) R3.out)
  have r4 : Hid (V3.heap[(w.heap.size + 1 + 1 + 1 + 1 : Nat)]? = some (Obj.cells #[Value.int .i64 0, Value.int .i64 m0, Value.int .i64 m1, Value.int .i64 m2, Value.int .i64 m3, Value.int .i64 0] 28 (0, 0))) := Lib.hid (st_row hV R4.out)
  have hb := Lib.hid (st_below hV HB.out (by omega))
  clear hV R1 R3 R4 HB
  have R1 := r1
  have R3 := r3
  have R4 := r4
  have HB := hb
  clear r1 r3 r4 hb
  have b0 : V3.cell? ⟨w.heap.size + 1 + 1 + 1, 0, none⟩ = some (.int .i64 x) := cell_of_row _ _ 0 _ _ _ R3.out
  have b1 : V3.cell? ⟨w.heap.size + 1 + 1 + 1, 1, none⟩ = some (.int .i64 1) := cell_of_row _ _ 1 _ _ _ R3.out
  have cc : V3.cell? ⟨w.heap.size + 1 + 1 + 1 + 1, 5, none⟩ = some (.int .i64 0) := cell_of_row _ _ 5 _ _ _ R4.out
  have cf : V3.frozen? ⟨w.heap.size + 1 + 1 + 1 + 1, 5, none⟩ = false := frozen_of_row _ _ _ _ _ R4.out
  have hq : IntKind.i64.wrap 5 = 5 := by decide
  have hr : ((5 : Int)).tmod 6 = 5 := by decide
  have hu : IntKind.i64.wrap 5 = 5 := by decide
  have hv : ((5 : Int)) % 6 = 5 := by decide
  rw [rounds_succ]
  go_wp2_with fail
  go_region_held3 (fun U => U.cell? ⟨w.heap.size + 1 + 1 + 1, 0, none⟩ = some (.int .i64 x) ∧ U.cell? ⟨w.heap.size + 1 + 1 + 1, 1, none⟩ = some (.int .i64 1)) (first | exact ⟨b0, b1⟩ | go_keep) (fail)
  go_wp2_with fail
  rw [← M4.out]
  clear b0 b1 cc cf hq hr hu hv
  generalize hV : (World.drew _ : World) = V4
  have r1 := Lib.hid (st_other (g := w.heap.size + 1 + 1 + 1 + 1) hV (by omega) R1.out)
  have r3 := Lib.hid (st_other (g := w.heap.size + 1 + 1 + 1 + 1) hV (by omega) R3.out)
  have r4 : Hid (V4.heap[(w.heap.size + 1 + 1 + 1 + 1 : Nat)]? = some (Obj.cells #[Value.int .i64 0, Value.int .i64 m0, Value.int .i64 m1, Value.int .i64 m2, Value.int .i64 m3, Value.int .i64 m4] 28 (0, 0))) := Lib.hid (st_row hV R4.out)
  have hb := Lib.hid (st_below hV HB.out (by omega))
  clear hV R1 R3 R4 HB
  have R1 := r1
  have R3 := r3
  have R4 := r4
  have HB := hb
  clear r1 r3 r4 hb
  have b0 : V4.cell? ⟨w.heap.size + 1 + 1 + 1, 0, none⟩ = some (.int .i64 x) := cell_of_row _ _ 0 _ _ _ R3.out
  have b1 : V4.cell? ⟨w.heap.size + 1 + 1 + 1, 1, none⟩ = some (.int .i64 1) := cell_of_row _ _ 1 _ _ _ R3.out
  have cc : V4.cell? ⟨w.heap.size + 1 + 1 + 1 + 1, 0, none⟩ = some (.int .i64 0) := cell_of_row _ _ 0 _ _ _ R4.out
  have cf : V4.frozen? ⟨w.heap.size + 1 + 1 + 1 + 1, 0, none⟩ = false := frozen_of_row _ _ _ _ _ R4.out
  have hq : IntKind.i64.wrap 6 = 6 := by decide
  have hr : ((6 : Int)).tmod 6 = 0 := by decide
  have hu : IntKind.i64.wrap 0 = 0 := by decide
  have hv : ((6 : Int)) % 6 = 0 := by decide
  rw [rounds_succ]
  go_wp2_with fail
  go_region_held3 (fun U => U.cell? ⟨w.heap.size + 1 + 1 + 1, 0, none⟩ = some (.int .i64 x) ∧ U.cell? ⟨w.heap.size + 1 + 1 + 1, 1, none⟩ = some (.int .i64 1)) (first | exact ⟨b0, b1⟩ | go_keep) (fail)
  go_wp2_with fail
  rw [← M5.out]
  clear b0 b1 cc cf hq hr hu hv
  generalize hV : (World.drew _ : World) = V5
  have r1 := Lib.hid (st_other (g := w.heap.size + 1 + 1 + 1 + 1) hV (by omega) R1.out)
  have r3 := Lib.hid (st_other (g := w.heap.size + 1 + 1 + 1 + 1) hV (by omega) R3.out)
  have r4 : Hid (V5.heap[(w.heap.size + 1 + 1 + 1 + 1 : Nat)]? = some (Obj.cells #[Value.int .i64 m5, Value.int .i64 m0, Value.int .i64 m1, Value.int .i64 m2, Value.int .i64 m3, Value.int .i64 m4] 28 (0, 0))) := Lib.hid (st_row hV R4.out)
  have hb := Lib.hid (st_below hV HB.out (by omega))
  clear hV R1 R3 R4 HB
  have R1 := r1
  have R3 := r3
  have R4 := r4
  have HB := hb
  clear r1 r3 r4 hb
  rw [rounds_succ]
  have d0 : V5.cell? ⟨w.heap.size + 1 + 1 + 1 + 1, 0, none⟩ = some _ := cell_of_row _ _ 0 _ _ _ R4.out; have d1 : V5.cell? ⟨w.heap.size + 1 + 1 + 1 + 1, 1, none⟩ = some _ := cell_of_row _ _ 1 _ _ _ R4.out; have d2 : V5.cell? ⟨w.heap.size + 1 + 1 + 1 + 1, 2, none⟩ = some _ := cell_of_row _ _ 2 _ _ _ R4.out; have d3 : V5.cell? ⟨w.heap.size + 1 + 1 + 1 + 1, 3, none⟩ = some _ := cell_of_row _ _ 3 _ _ _ R4.out; have d4 : V5.cell? ⟨w.heap.size + 1 + 1 + 1 + 1, 4, none⟩ = some _ := cell_of_row _ _ 4 _ _ _ R4.out; have d5 : V5.cell? ⟨w.heap.size + 1 + 1 + 1 + 1, 5, none⟩ = some _ := cell_of_row _ _ 5 _ _ _ R4.out
  have n0 : V5.cell? ⟨w.heap.size + 1, 0, none⟩ = some _ := cell_of_row _ _ 0 _ _ _ R1.out; have n1 : V5.cell? ⟨w.heap.size + 1, 1, none⟩ = some _ := cell_of_row _ _ 1 _ _ _ R1.out; have n2 : V5.cell? ⟨w.heap.size + 1, 2, none⟩ = some _ := cell_of_row _ _ 2 _ _ _ R1.out; have n3 : V5.cell? ⟨w.heap.size + 1, 3, none⟩ = some _ := cell_of_row _ _ 3 _ _ _ R1.out; have n4 : V5.cell? ⟨w.heap.size + 1, 4, none⟩ = some _ := cell_of_row _ _ 4 _ _ _ R1.out; have n5 : V5.cell? ⟨w.heap.size + 1, 5, none⟩ = some _ := cell_of_row _ _ 5 _ _ _ R1.out
  have nf := fun j => frozen_of_row V5 _ j _ _ R1.out
  go_wp2_with fail
  refine bodyPost_ret (v := .agg #[.int .i64 m5, .int .i64 m0, .int .i64 m1, .int .i64 m2, .int .i64 m3, .int .i64 m4]) (by simp [results, Try.results212, go_sem, n0, n1, n2, n3, n4, n5]) rfl ⟨by rw [M0.out, M1.out, M2.out, M3.out, M4.out, M5.out], ?_⟩
  exact below6 HB.out (by omega)
set_option maxHeartbeats 4000000 in
theorem shifted_2 (a0 a1 a2 a3 a4 a5 : Int) (dx dy x : Int) (hx : 0 ≤ x ∧ x ≤ 5) (HA : Hid (∀ w, Calls Try.prog 217 #[.int .i64 dx, .int .i64 dy] w fun e w' => e = .returned (.agg #[.int .i64 x, .int .i64 2]) ∧ w' = w.alloc (.cells #[.int .i64 x, .int .i64 2] 69))) (w : World) : Calls Try.prog 212 #[.agg #[.int .i64 a0, .int .i64 a1, .int .i64 a2, .int .i64 a3, .int .i64 a4, .int .i64 a5], .int .i64 dx, .int .i64 dy] w fun e w' => e = .returned (.agg #[.int .i64 (bits .and .i64 (bits .or .i64 (wrap64 (a4 * 2 ^ x.toNat)) (a4 / 2 ^ (6 - x).toNat)) 63), .int .i64 (bits .and .i64 (bits .or .i64 (wrap64 (a5 * 2 ^ x.toNat)) (a5 / 2 ^ (6 - x).toNat)) 63), .int .i64 (bits .and .i64 (bits .or .i64 (wrap64 (a0 * 2 ^ x.toNat)) (a0 / 2 ^ (6 - x).toNat)) 63), .int .i64 (bits .and .i64 (bits .or .i64 (wrap64 (a1 * 2 ^ x.toNat)) (a1 / 2 ^ (6 - x).toNat)) 63), .int .i64 (bits .and .i64 (bits .or .i64 (wrap64 (a2 * 2 ^ x.toNat)) (a2 / 2 ^ (6 - x).toNat)) 63), .int .i64 (bits .and .i64 (bits .or .i64 (wrap64 (a3 * 2 ^ x.toNat)) (a3 / 2 ^ (6 - x).toNat)) 63)]) ∧ Below w.heap.size w w' := by
  have i0 := ix0 a0 a1 a2 a3 a4 a5; have i1 := ix1 a0 a1 a2 a3 a4 a5; have i2 := ix2 a0 a1 a2 a3 a4 a5; have i3 := ix3 a0 a1 a2 a3 a4 a5; have i4 := ix4 a0 a1 a2 a3 a4 a5; have i5 := ix5 a0 a1 a2 a3 a4 a5
  have hw : IntKind.i64.wrap (6 - x) = 6 - x := by rw [IntKind.wrap_i64]; omega
  have hs0 : (0 : Int) ≤ 6 - x := by omega
  have hs1 : (0 : Int) ≤ x := by omega
  obtain ⟨m0, hm0⟩ : ∃ m, m = bits .and .i64 (bits .or .i64 (wrap64 (a0 * 2 ^ x.toNat)) (a0 / 2 ^ (6 - x).toNat)) 63 := ⟨_, rfl⟩
  have M0 := Lib.hid hm0
  clear hm0
  obtain ⟨m1, hm1⟩ : ∃ m, m = bits .and .i64 (bits .or .i64 (wrap64 (a1 * 2 ^ x.toNat)) (a1 / 2 ^ (6 - x).toNat)) 63 := ⟨_, rfl⟩
  have M1 := Lib.hid hm1
  clear hm1
  obtain ⟨m2, hm2⟩ : ∃ m, m = bits .and .i64 (bits .or .i64 (wrap64 (a2 * 2 ^ x.toNat)) (a2 / 2 ^ (6 - x).toNat)) 63 := ⟨_, rfl⟩
  have M2 := Lib.hid hm2
  clear hm2
  obtain ⟨m3, hm3⟩ : ∃ m, m = bits .and .i64 (bits .or .i64 (wrap64 (a3 * 2 ^ x.toNat)) (a3 / 2 ^ (6 - x).toNat)) 63 := ⟨_, rfl⟩
  have M3 := Lib.hid hm3
  clear hm3
  obtain ⟨m4, hm4⟩ : ∃ m, m = bits .and .i64 (bits .or .i64 (wrap64 (a4 * 2 ^ x.toNat)) (a4 / 2 ^ (6 - x).toNat)) 63 := ⟨_, rfl⟩
  have M4 := Lib.hid hm4
  clear hm4
  obtain ⟨m5, hm5⟩ : ∃ m, m = bits .and .i64 (bits .or .i64 (wrap64 (a5 * 2 ^ x.toNat)) (a5 / 2 ^ (6 - x).toNat)) 63 := ⟨_, rfl⟩
  have M5 := Lib.hid hm5
  clear hm5
  go_enter Try.func212, Try.ntmps212
  go_wp2_with fail
  refine (HA.out _).mono ?_
  rintro e w' ⟨rfl, rfl⟩
  go_wp2_with fail
  generalize hW : (World.alloc _ _ : World) = W
  have hB0 : Below w.heap.size w W := by rw [← hW]; (repeat (first | exact Below.refl _ _ | assumption | refine Below.setCell ?_ (by first | (simp; done) | (simp; omega)) _ | refine Below.alloc ?_ (by first | (simp; done) | (simp; omega)) _ | refine Below.drew ?_))
  have HB := Lib.hid hB0
  have r1 : W.heap[(w.heap.size + 1 : Nat)]? = some (Obj.cells (#[Value.int .i64 0, Value.int .i64 0, Value.int .i64 0, Value.int .i64 0, Value.int .i64 0, Value.int .i64 0]) 28 (0, 0)) := by
    rw [← hW]
    repeat (first | (refine alloc_at ?_; first | (simp; done) | (simp; omega)) | refine drew_row ?_ | refine alloc_past ?_ | assumption)
  have r1_c := fun j => cell_of_row _ _ j _ _ _ r1
  have r1_f := fun j => frozen_of_row _ _ j _ _ r1
  have r3 : W.heap[(w.heap.size + 1 + 1 + 1 : Nat)]? = some (Obj.cells (#[.int .i64 x, .int .i64 2]) 69 (0, 0)) := by
    rw [← hW]
    repeat (first | (refine alloc_at ?_; first | (simp; done) | (simp; omega)) | refine drew_row ?_ | refine alloc_past ?_ | assumption)
  have r3_c := fun j => cell_of_row _ _ j _ _ _ r3
  have r3_f := fun j => frozen_of_row _ _ j _ _ r3
  have r4 : W.heap[(w.heap.size + 1 + 1 + 1 + 1 : Nat)]? = some (Obj.cells (#[Value.int .i64 0, Value.int .i64 0, Value.int .i64 0, Value.int .i64 0, Value.int .i64 0, Value.int .i64 0]) 28 (0, 0)) := by
    rw [← hW]
    repeat (first | (refine alloc_at ?_; first | (simp; done) | (simp; omega)) | refine drew_row ?_ | refine alloc_past ?_ | assumption)
  have r4_c := fun j => cell_of_row _ _ j _ _ _ r4
  have r4_f := fun j => frozen_of_row _ _ j _ _ r4
  have R1 := Lib.hid r1
  have R3 := Lib.hid r3
  have R4 := Lib.hid r4
  clear hW hB0 r1 r3 r4 r1_c r1_f r3_c r3_f r4_c r4_f
  refine wp_loop_rounds 7 ?_
  have b0 : W.cell? ⟨w.heap.size + 1 + 1 + 1, 0, none⟩ = some (.int .i64 x) := cell_of_row _ _ 0 _ _ _ R3.out
  have b1 : W.cell? ⟨w.heap.size + 1 + 1 + 1, 1, none⟩ = some (.int .i64 2) := cell_of_row _ _ 1 _ _ _ R3.out
  have cc : W.cell? ⟨w.heap.size + 1 + 1 + 1 + 1, 2, none⟩ = some (.int .i64 0) := cell_of_row _ _ 2 _ _ _ R4.out
  have cf : W.frozen? ⟨w.heap.size + 1 + 1 + 1 + 1, 2, none⟩ = false := frozen_of_row _ _ _ _ _ R4.out
  have hq : IntKind.i64.wrap 2 = 2 := by decide
  have hr : ((2 : Int)).tmod 6 = 2 := by decide
  have hu : IntKind.i64.wrap 2 = 2 := by decide
  have hv : ((2 : Int)) % 6 = 2 := by decide
  rw [rounds_succ]
  go_wp2_with fail
  go_region_held3 (fun U => U.cell? ⟨w.heap.size + 1 + 1 + 1, 0, none⟩ = some (.int .i64 x) ∧ U.cell? ⟨w.heap.size + 1 + 1 + 1, 1, none⟩ = some (.int .i64 2)) (first | exact ⟨b0, b1⟩ | go_keep) (fail)
  go_wp2_with fail
  rw [← M0.out]
  clear b0 b1 cc cf hq hr hu hv
  generalize hV : (World.drew _ : World) = V0
  have r1 := Lib.hid (st_other (g := w.heap.size + 1 + 1 + 1 + 1) hV (by omega) R1.out)
  have r3 := Lib.hid (st_other (g := w.heap.size + 1 + 1 + 1 + 1) hV (by omega) R3.out)
  have r4 : Hid (V0.heap[(w.heap.size + 1 + 1 + 1 + 1 : Nat)]? = some (Obj.cells #[Value.int .i64 0, Value.int .i64 0, Value.int .i64 m0, Value.int .i64 0, Value.int .i64 0, Value.int .i64 0] 28 (0, 0))) := Lib.hid (st_row hV R4.out)
  have hb := Lib.hid (st_below hV HB.out (by omega))
  clear hV R1 R3 R4 HB
  have R1 := r1
  have R3 := r3
  have R4 := r4
  have HB := hb
  clear r1 r3 r4 hb
  have b0 : V0.cell? ⟨w.heap.size + 1 + 1 + 1, 0, none⟩ = some (.int .i64 x) := cell_of_row _ _ 0 _ _ _ R3.out
  have b1 : V0.cell? ⟨w.heap.size + 1 + 1 + 1, 1, none⟩ = some (.int .i64 2) := cell_of_row _ _ 1 _ _ _ R3.out
  have cc : V0.cell? ⟨w.heap.size + 1 + 1 + 1 + 1, 3, none⟩ = some (.int .i64 0) := cell_of_row _ _ 3 _ _ _ R4.out
  have cf : V0.frozen? ⟨w.heap.size + 1 + 1 + 1 + 1, 3, none⟩ = false := frozen_of_row _ _ _ _ _ R4.out
  have hq : IntKind.i64.wrap 3 = 3 := by decide
  have hr : ((3 : Int)).tmod 6 = 3 := by decide
  have hu : IntKind.i64.wrap 3 = 3 := by decide
  have hv : ((3 : Int)) % 6 = 3 := by decide
  rw [rounds_succ]
  go_wp2_with fail
  go_region_held3 (fun U => U.cell? ⟨w.heap.size + 1 + 1 + 1, 0, none⟩ = some (.int .i64 x) ∧ U.cell? ⟨w.heap.size + 1 + 1 + 1, 1, none⟩ = some (.int .i64 2)) (first | exact ⟨b0, b1⟩ | go_keep) (fail)
  go_wp2_with fail
  rw [← M1.out]
  clear b0 b1 cc cf hq hr hu hv
  generalize hV : (World.drew _ : World) = V1
  have r1 := Lib.hid (st_other (g := w.heap.size + 1 + 1 + 1 + 1) hV (by omega) R1.out)
  have r3 := Lib.hid (st_other (g := w.heap.size + 1 + 1 + 1 + 1) hV (by omega) R3.out)
  have r4 : Hid (V1.heap[(w.heap.size + 1 + 1 + 1 + 1 : Nat)]? = some (Obj.cells #[Value.int .i64 0, Value.int .i64 0, Value.int .i64 m0, Value.int .i64 m1, Value.int .i64 0, Value.int .i64 0] 28 (0, 0))) := Lib.hid (st_row hV R4.out)
  have hb := Lib.hid (st_below hV HB.out (by omega))
  clear hV R1 R3 R4 HB
  have R1 := r1
  have R3 := r3
  have R4 := r4
  have HB := hb
  clear r1 r3 r4 hb
  have b0 : V1.cell? ⟨w.heap.size + 1 + 1 + 1, 0, none⟩ = some (.int .i64 x) := cell_of_row _ _ 0 _ _ _ R3.out
  have b1 : V1.cell? ⟨w.heap.size + 1 + 1 + 1, 1, none⟩ = some (.int .i64 2) := cell_of_row _ _ 1 _ _ _ R3.out
  have cc : V1.cell? ⟨w.heap.size + 1 + 1 + 1 + 1, 4, none⟩ = some (.int .i64 0) := cell_of_row _ _ 4 _ _ _ R4.out
  have cf : V1.frozen? ⟨w.heap.size + 1 + 1 + 1 + 1, 4, none⟩ = false := frozen_of_row _ _ _ _ _ R4.out
  have hq : IntKind.i64.wrap 4 = 4 := by decide
  have hr : ((4 : Int)).tmod 6 = 4 := by decide
  have hu : IntKind.i64.wrap 4 = 4 := by decide
  have hv : ((4 : Int)) % 6 = 4 := by decide
  rw [rounds_succ]
  go_wp2_with fail
  go_region_held3 (fun U => U.cell? ⟨w.heap.size + 1 + 1 + 1, 0, none⟩ = some (.int .i64 x) ∧ U.cell? ⟨w.heap.size + 1 + 1 + 1, 1, none⟩ = some (.int .i64 2)) (first | exact ⟨b0, b1⟩ | go_keep) (fail)
  go_wp2_with fail
  rw [← M2.out]
  clear b0 b1 cc cf hq hr hu hv
  generalize hV : (World.drew _ : World) = V2
  have r1 := Lib.hid (st_other (g := w.heap.size + 1 + 1 + 1 + 1) hV (by omega) R1.out)
  have r3 := Lib.hid (st_other (g := w.heap.size + 1 + 1 + 1 + 1) hV (by omega) R3.out)
  have r4 : Hid (V2.heap[(w.heap.size + 1 + 1 + 1 + 1 : Nat)]? = some (Obj.cells #[Value.int .i64 0, Value.int .i64 0, Value.int .i64 m0, Value.int .i64 m1, Value.int .i64 m2, Value.int .i64 0] 28 (0, 0))) := Lib.hid (st_row hV R4.out)
  have hb := Lib.hid (st_below hV HB.out (by omega))
  clear hV R1 R3 R4 HB
  have R1 := r1
  have R3 := r3
  have R4 := r4
  have HB := hb
  clear r1 r3 r4 hb
  have b0 : V2.cell? ⟨w.heap.size + 1 + 1 + 1, 0, none⟩ = some (.int .i64 x) := cell_of_row _ _ 0 _ _ _ R3.out
  have b1 : V2.cell? ⟨w.heap.size + 1 + 1 + 1, 1, none⟩ = some (.int .i64 2) := cell_of_row _ _ 1 _ _ _ R3.out
  have cc : V2.cell? ⟨w.heap.size + 1 + 1 + 1 + 1, 5, none⟩ = some (.int .i64 0) := cell_of_row _ _ 5 _ _ _ R4.out
  have cf : V2.frozen? ⟨w.heap.size + 1 + 1 + 1 + 1, 5, none⟩ = false := frozen_of_row _ _ _ _ _ R4.out
  have hq : IntKind.i64.wrap 5 = 5 := by decide
  have hr : ((5 : Int)).tmod 6 = 5 := by decide
  have hu : IntKind.i64.wrap 5 = 5 := by decide
  have hv : ((5 : Int)) % 6 = 5 := by decide
  rw [rounds_succ]
  go_wp2_with fail
  go_region_held3 (fun U => U.cell? ⟨w.heap.size + 1 + 1 + 1, 0, none⟩ = some (.int .i64 x) ∧ U.cell? ⟨w.heap.size + 1 + 1 + 1, 1, none⟩ = some (.int .i64 2)) (first | exact ⟨b0, b1⟩ | go_keep) (fail)
  go_wp2_with fail
  rw [← M3.out]
  clear b0 b1 cc cf hq hr hu hv
  generalize hV : (World.drew _ : World) = V3
  have r1 := Lib.hid (st_other (g := w.heap.size + 1 + 1 + 1 + 1) hV (by omega) R1.out)
  have r3 := Lib.hid (st_other (g := w.heap.size + 1 + 1 + 1 + 1) hV (by omega) R3.out)
  have r4 : Hid (V3.heap[(w.heap.size + 1 + 1 + 1 + 1 : Nat)]? = some (Obj.cells #[Value.int .i64 0, Value.int .i64 0, Value.int .i64 m0, Value.int .i64 m1, Value.int .i64 m2, Value.int .i64 m3] 28 (0, 0))) := Lib.hid (st_row hV R4.out)
  have hb := Lib.hid (st_below hV HB.out (by omega))
  clear hV R1 R3 R4 HB
  have R1 := r1
  have R3 := r3
  have R4 := r4
  have HB := hb
  clear r1 r3 r4 hb
  have b0 : V3.cell? ⟨w.heap.size + 1 + 1 + 1, 0, none⟩ = some (.int .i64 x) := cell_of_row _ _ 0 _ _ _ R3.out
  have b1 : V3.cell? ⟨w.heap.size + 1 + 1 + 1, 1, none⟩ = some (.int .i64 2) := cell_of_row _ _ 1 _ _ _ R3.out
  have cc : V3.cell? ⟨w.heap.size + 1 + 1 + 1 + 1, 0, none⟩ = some (.int .i64 0) := cell_of_row _ _ 0 _ _ _ R4.out
  have cf : V3.frozen? ⟨w.heap.size + 1 + 1 + 1 + 1, 0, none⟩ = false := frozen_of_row _ _ _ _ _ R4.out
  have hq : IntKind.i64.wrap 6 = 6 := by decide
  have hr : ((6 : Int)).tmod 6 = 0 := by decide
  have hu : IntKind.i64.wrap 0 = 0 := by decide
  have hv : ((6 : Int)) % 6 = 0 := by decide
  rw [rounds_succ]
  go_wp2_with fail
  go_region_held3 (fun U => U.cell? ⟨w.heap.size + 1 + 1 + 1, 0, none⟩ = some (.int .i64 x) ∧ U.cell? ⟨w.heap.size + 1 + 1 + 1, 1, none⟩ = some (.int .i64 2)) (first | exact ⟨b0, b1⟩ | go_keep) (fail)
  go_wp2_with fail
  rw [← M4.out]
  clear b0 b1 cc cf hq hr hu hv
  generalize hV : (World.drew _ : World) = V4
  have r1 := Lib.hid (st_other (g := w.heap.size + 1 + 1 + 1 + 1) hV (by omega) R1.out)
  have r3 := Lib.hid (st_other (g := w.heap.size + 1 + 1 + 1 + 1) hV (by omega) R3.out)
  have r4 : Hid (V4.heap[(w.heap.size + 1 + 1 + 1 + 1 : Nat)]? = some (Obj.cells #[Value.int .i64 m4, Value.int .i64 0, Value.int .i64 m0, Value.int .i64 m1, Value.int .i64 m2, Value.int .i64 m3] 28 (0, 0))) := Lib.hid (st_row hV R4.out)
  have hb := Lib.hid (st_below hV HB.out (by omega))
  clear hV R1 R3 R4 HB
  have R1 := r1
  have R3 := r3
  have R4 := r4
  have HB := hb
  clear r1 r3 r4 hb
  have b0 : V4.cell? ⟨w.heap.size + 1 + 1 + 1, 0, none⟩ = some (.int .i64 x) := cell_of_row _ _ 0 _ _ _ R3.out
  have b1 : V4.cell? ⟨w.heap.size + 1 + 1 + 1, 1, none⟩ = some (.int .i64 2) := cell_of_row _ _ 1 _ _ _ R3.out
  have cc : V4.cell? ⟨w.heap.size + 1 + 1 + 1 + 1, 1, none⟩ = some (.int .i64 0) := cell_of_row _ _ 1 _ _ _ R4.out
  have cf : V4.frozen? ⟨w.heap.size + 1 + 1 + 1 + 1, 1, none⟩ = false := frozen_of_row _ _ _ _ _ R4.out
  have hq : IntKind.i64.wrap 7 = 7 := by decide
  have hr : ((7 : Int)).tmod 6 = 1 := by decide
  have hu : IntKind.i64.wrap 1 = 1 := by decide
  have hv : ((7 : Int)) % 6 = 1 := by decide
  rw [rounds_succ]
  go_wp2_with fail
  go_region_held3 (fun U => U.cell? ⟨w.heap.size + 1 + 1 + 1, 0, none⟩ = some (.int .i64 x) ∧ U.cell? ⟨w.heap.size + 1 + 1 + 1, 1, none⟩ = some (.int .i64 2)) (first | exact ⟨b0, b1⟩ | go_keep) (fail)
  go_wp2_with fail
  rw [← M5.out]
  clear b0 b1 cc cf hq hr hu hv
  generalize hV : (World.drew _ : World) = V5
  have r1 := Lib.hid (st_other (g := w.heap.size + 1 + 1 + 1 + 1) hV (by omega) R1.out)
  have r3 := Lib.hid (st_other (g := w.heap.size + 1 + 1 + 1 + 1) hV (by omega) R3.out)
  have r4 : Hid (V5.heap[(w.heap.size + 1 + 1 + 1 + 1 : Nat)]? = some (Obj.cells #[Value.int .i64 m4, Value.int .i64 m5, Value.int .i64 m0, Value.int .i64 m1, Value.int .i64 m2, Value.int .i64 m3] 28 (0, 0))) := Lib.hid (st_row hV R4.out)
  have hb := Lib.hid (st_below hV HB.out (by omega))
  clear hV R1 R3 R4 HB
  have R1 := r1
  have R3 := r3
  have R4 := r4
  have HB := hb
  clear r1 r3 r4 hb
  rw [rounds_succ]
  have d0 : V5.cell? ⟨w.heap.size + 1 + 1 + 1 + 1, 0, none⟩ = some _ := cell_of_row _ _ 0 _ _ _ R4.out; have d1 : V5.cell? ⟨w.heap.size + 1 + 1 + 1 + 1, 1, none⟩ = some _ := cell_of_row _ _ 1 _ _ _ R4.out; have d2 : V5.cell? ⟨w.heap.size + 1 + 1 + 1 + 1, 2, none⟩ = some _ := cell_of_row _ _ 2 _ _ _ R4.out; have d3 : V5.cell? ⟨w.heap.size + 1 + 1 + 1 + 1, 3, none⟩ = some _ := cell_of_row _ _ 3 _ _ _ R4.out; have d4 : V5.cell? ⟨w.heap.size + 1 + 1 + 1 + 1, 4, none⟩ = some _ := cell_of_row _ _ 4 _ _ _ R4.out; have d5 : V5.cell? ⟨w.heap.size + 1 + 1 + 1 + 1, 5, none⟩ = some _ := cell_of_row _ _ 5 _ _ _ R4.out
  have n0 : V5.cell? ⟨w.heap.size + 1, 0, none⟩ = some _ := cell_of_row _ _ 0 _ _ _ R1.out; have n1 : V5.cell? ⟨w.heap.size + 1, 1, none⟩ = some _ := cell_of_row _ _ 1 _ _ _ R1.out; have n2 : V5.cell? ⟨w.heap.size + 1, 2, none⟩ = some _ := cell_of_row _ _ 2 _ _ _ R1.out; have n3 : V5.cell? ⟨w.heap.size + 1, 3, none⟩ = some _ := cell_of_row _ _ 3 _ _ _ R1.out; have n4 : V5.cell? ⟨w.heap.size + 1, 4, none⟩ = some _ := cell_of_row _ _ 4 _ _ _ R1.out; have n5 : V5.cell? ⟨w.heap.size + 1, 5, none⟩ = some _ := cell_of_row _ _ 5 _ _ _ R1.out
  have nf := fun j => frozen_of_row V5 _ j _ _ R1.out
  go_wp2_with fail
  refine bodyPost_ret (v := .agg #[.int .i64 m4, .int .i64 m5, .int .i64 m0, .int .i64 m1, .int .i64 m2, .int .i64 m3]) (by simp [results, Try.results212, go_sem, n0, n1, n2, n3, n4, n5]) rfl ⟨by rw [M0.out, M1.out, M2.out, M3.out, M4.out, M5.out], ?_⟩
  exact below6 HB.out (by omega)
set_option maxHeartbeats 4000000 in
theorem shifted_3 (a0 a1 a2 a3 a4 a5 : Int) (dx dy x : Int) (hx : 0 ≤ x ∧ x ≤ 5) (HA : Hid (∀ w, Calls Try.prog 217 #[.int .i64 dx, .int .i64 dy] w fun e w' => e = .returned (.agg #[.int .i64 x, .int .i64 3]) ∧ w' = w.alloc (.cells #[.int .i64 x, .int .i64 3] 69))) (w : World) : Calls Try.prog 212 #[.agg #[.int .i64 a0, .int .i64 a1, .int .i64 a2, .int .i64 a3, .int .i64 a4, .int .i64 a5], .int .i64 dx, .int .i64 dy] w fun e w' => e = .returned (.agg #[.int .i64 (bits .and .i64 (bits .or .i64 (wrap64 (a3 * 2 ^ x.toNat)) (a3 / 2 ^ (6 - x).toNat)) 63), .int .i64 (bits .and .i64 (bits .or .i64 (wrap64 (a4 * 2 ^ x.toNat)) (a4 / 2 ^ (6 - x).toNat)) 63), .int .i64 (bits .and .i64 (bits .or .i64 (wrap64 (a5 * 2 ^ x.toNat)) (a5 / 2 ^ (6 - x).toNat)) 63), .int .i64 (bits .and .i64 (bits .or .i64 (wrap64 (a0 * 2 ^ x.toNat)) (a0 / 2 ^ (6 - x).toNat)) 63), .int .i64 (bits .and .i64 (bits .or .i64 (wrap64 (a1 * 2 ^ x.toNat)) (a1 / 2 ^ (6 - x).toNat)) 63), .int .i64 (bits .and .i64 (bits .or .i64 (wrap64 (a2 * 2 ^ x.toNat)) (a2 / 2 ^ (6 - x).toNat)) 63)]) ∧ Below w.heap.size w w' := by
  have i0 := ix0 a0 a1 a2 a3 a4 a5; have i1 := ix1 a0 a1 a2 a3 a4 a5; have i2 := ix2 a0 a1 a2 a3 a4 a5; have i3 := ix3 a0 a1 a2 a3 a4 a5; have i4 := ix4 a0 a1 a2 a3 a4 a5; have i5 := ix5 a0 a1 a2 a3 a4 a5
  have hw : IntKind.i64.wrap (6 - x) = 6 - x := by rw [IntKind.wrap_i64]; omega
  have hs0 : (0 : Int) ≤ 6 - x := by omega
  have hs1 : (0 : Int) ≤ x := by omega
  obtain ⟨m0, hm0⟩ : ∃ m, m = bits .and .i64 (bits .or .i64 (wrap64 (a0 * 2 ^ x.toNat)) (a0 / 2 ^ (6 - x).toNat)) 63 := ⟨_, rfl⟩
  have M0 := Lib.hid hm0
  clear hm0
  obtain ⟨m1, hm1⟩ : ∃ m, m = bits .and .i64 (bits .or .i64 (wrap64 (a1 * 2 ^ x.toNat)) (a1 / 2 ^ (6 - x).toNat)) 63 := ⟨_, rfl⟩
  have M1 := Lib.hid hm1
  clear hm1
  obtain ⟨m2, hm2⟩ : ∃ m, m = bits .and .i64 (bits .or .i64 (wrap64 (a2 * 2 ^ x.toNat)) (a2 / 2 ^ (6 - x).toNat)) 63 := ⟨_, rfl⟩
  have M2 := Lib.hid hm2
  clear hm2
  obtain ⟨m3, hm3⟩ : ∃ m, m = bits .and .i64 (bits .or .i64 (wrap64 (a3 * 2 ^ x.toNat)) (a3 / 2 ^ (6 - x).toNat)) 63 := ⟨_, rfl⟩
  have M3 := Lib.hid hm3
  clear hm3
  obtain ⟨m4, hm4⟩ : ∃ m, m = bits .and .i64 (bits .or .i64 (wrap64 (a4 * 2 ^ x.toNat)) (a4 / 2 ^ (6 - x).toNat)) 63 := ⟨_, rfl⟩
  have M4 := Lib.hid hm4
  clear hm4
  obtain ⟨m5, hm5⟩ : ∃ m, m = bits .and .i64 (bits .or .i64 (wrap64 (a5 * 2 ^ x.toNat)) (a5 / 2 ^ (6 - x).toNat)) 63 := ⟨_, rfl⟩
  have M5 := Lib.hid hm5
  clear hm5
  go_enter Try.func212, Try.ntmps212
  go_wp2_with fail
  refine (HA.out _).mono ?_
  rintro e w' ⟨rfl, rfl⟩
  go_wp2_with fail
  generalize hW : (World.alloc _ _ : World) = W
  have hB0 : Below w.heap.size w W := by rw [← hW]; (repeat (first | exact Below.refl _ _ | assumption | refine Below.setCell ?_ (by first | (simp; done) | (simp; omega)) _ | refine Below.alloc ?_ (by first | (simp; done) | (simp; omega)) _ | refine Below.drew ?_))
  have HB := Lib.hid hB0
  have r1 : W.heap[(w.heap.size + 1 : Nat)]? = some (Obj.cells (#[Value.int .i64 0, Value.int .i64 0, Value.int .i64 0, Value.int .i64 0, Value.int .i64 0, Value.int .i64 0]) 28 (0, 0)) := by
    rw [← hW]
    repeat (first | (refine alloc_at ?_; first | (simp; done) | (simp; omega)) | refine drew_row ?_ | refine alloc_past ?_ | assumption)
  have r1_c := fun j => cell_of_row _ _ j _ _ _ r1
  have r1_f := fun j => frozen_of_row _ _ j _ _ r1
  have r3 : W.heap[(w.heap.size + 1 + 1 + 1 : Nat)]? = some (Obj.cells (#[.int .i64 x, .int .i64 3]) 69 (0, 0)) := by
    rw [← hW]
    repeat (first | (refine alloc_at ?_; first | (simp; done) | (simp; omega)) | refine drew_row ?_ | refine alloc_past ?_ | assumption)
  have r3_c := fun j => cell_of_row _ _ j _ _ _ r3
  have r3_f := fun j => frozen_of_row _ _ j _ _ r3
  have r4 : W.heap[(w.heap.size + 1 + 1 + 1 + 1 : Nat)]? = some (Obj.cells (#[Value.int .i64 0, Value.int .i64 0, Value.int .i64 0, Value.int .i64 0, Value.int .i64 0, Value.int .i64 0]) 28 (0, 0)) := by
    rw [← hW]
    repeat (first | (refine alloc_at ?_; first | (simp; done) | (simp; omega)) | refine drew_row ?_ | refine alloc_past ?_ | assumption)
  have r4_c := fun j => cell_of_row _ _ j _ _ _ r4
  have r4_f := fun j => frozen_of_row _ _ j _ _ r4
  have R1 := Lib.hid r1
  have R3 := Lib.hid r3
  have R4 := Lib.hid r4
  clear hW hB0 r1 r3 r4 r1_c r1_f r3_c r3_f r4_c r4_f
  refine wp_loop_rounds 7 ?_
  have b0 : W.cell? ⟨w.heap.size + 1 + 1 + 1, 0, none⟩ = some (.int .i64 x) := cell_of_row _ _ 0 _ _ _ R3.out
  have b1 : W.cell? ⟨w.heap.size + 1 + 1 + 1, 1, none⟩ = some (.int .i64 3) := cell_of_row _ _ 1 _ _ _ R3.out
  have cc : W.cell? ⟨w.heap.size + 1 + 1 + 1 + 1, 3, none⟩ = some (.int .i64 0) := cell_of_row _ _ 3 _ _ _ R4.out
  have cf : W.frozen? ⟨w.heap.size + 1 + 1 + 1 + 1, 3, none⟩ = false := frozen_of_row _ _ _ _ _ R4.out
  have hq : IntKind.i64.wrap 3 = 3 := by decide
  have hr : ((3 : Int)).tmod 6 = 3 := by decide
  have hu : IntKind.i64.wrap 3 = 3 := by decide
  have hv : ((3 : Int)) % 6 = 3 := by decide
  rw [rounds_succ]
  go_wp2_with fail
  go_region_held3 (fun U => U.cell? ⟨w.heap.size + 1 + 1 + 1, 0, none⟩ = some (.int .i64 x) ∧ U.cell? ⟨w.heap.size + 1 + 1 + 1, 1, none⟩ = some (.int .i64 3)) (first | exact ⟨b0, b1⟩ | go_keep) (fail)
  go_wp2_with fail
  rw [← M0.out]
  clear b0 b1 cc cf hq hr hu hv
  generalize hV : (World.drew _ : World) = V0
  have r1 := Lib.hid (st_other (g := w.heap.size + 1 + 1 + 1 + 1) hV (by omega) R1.out)
  have r3 := Lib.hid (st_other (g := w.heap.size + 1 + 1 + 1 + 1) hV (by omega) R3.out)
  have r4 : Hid (V0.heap[(w.heap.size + 1 + 1 + 1 + 1 : Nat)]? = some (Obj.cells #[Value.int .i64 0, Value.int .i64 0, Value.int .i64 0, Value.int .i64 m0, Value.int .i64 0, Value.int .i64 0] 28 (0, 0))) := Lib.hid (st_row hV R4.out)
  have hb := Lib.hid (st_below hV HB.out (by omega))
  clear hV R1 R3 R4 HB
  have R1 := r1
  have R3 := r3
  have R4 := r4
  have HB := hb
  clear r1 r3 r4 hb
  have b0 : V0.cell? ⟨w.heap.size + 1 + 1 + 1, 0, none⟩ = some (.int .i64 x) := cell_of_row _ _ 0 _ _ _ R3.out
  have b1 : V0.cell? ⟨w.heap.size + 1 + 1 + 1, 1, none⟩ = some (.int .i64 3) := cell_of_row _ _ 1 _ _ _ R3.out
  have cc : V0.cell? ⟨w.heap.size + 1 + 1 + 1 + 1, 4, none⟩ = some (.int .i64 0) := cell_of_row _ _ 4 _ _ _ R4.out
  have cf : V0.frozen? ⟨w.heap.size + 1 + 1 + 1 + 1, 4, none⟩ = false := frozen_of_row _ _ _ _ _ R4.out
  have hq : IntKind.i64.wrap 4 = 4 := by decide
  have hr : ((4 : Int)).tmod 6 = 4 := by decide
  have hu : IntKind.i64.wrap 4 = 4 := by decide
  have hv : ((4 : Int)) % 6 = 4 := by decide
  rw [rounds_succ]
  go_wp2_with fail
  go_region_held3 (fun U => U.cell? ⟨w.heap.size + 1 + 1 + 1, 0, none⟩ = some (.int .i64 x) ∧ U.cell? ⟨w.heap.size + 1 + 1 + 1, 1, none⟩ = some (.int .i64 3)) (first | exact ⟨b0, b1⟩ | go_keep) (fail)
  go_wp2_with fail
  rw [← M1.out]
  clear b0 b1 cc cf hq hr hu hv
  generalize hV : (World.drew _ : World) = V1
  have r1 := Lib.hid (st_other (g := w.heap.size + 1 + 1 + 1 + 1) hV (by omega) R1.out)
  have r3 := Lib.hid (st_other (g := w.heap.size + 1 + 1 + 1 + 1) hV (by omega) R3.out)
  have r4 : Hid (V1.heap[(w.heap.size + 1 + 1 + 1 + 1 : Nat)]? = some (Obj.cells #[Value.int .i64 0, Value.int .i64 0, Value.int .i64 0, Value.int .i64 m0, Value.int .i64 m1, Value.int .i64 0] 28 (0, 0))) := Lib.hid (st_row hV R4.out)
  have hb := Lib.hid (st_below hV HB.out (by omega))
  clear hV R1 R3 R4 HB
  have R1 := r1
  have R3 := r3
  have R4 := r4
  have HB := hb
  clear r1 r3 r4 hb
  have b0 : V1.cell? ⟨w.heap.size + 1 + 1 + 1, 0, none⟩ = some (.int .i64 x) := cell_of_row _ _ 0 _ _ _ R3.out
  have b1 : V1.cell? ⟨w.heap.size + 1 + 1 + 1, 1, none⟩ = some (.int .i64 3) := cell_of_row _ _ 1 _ _ _ R3.out
  have cc : V1.cell? ⟨w.heap.size + 1 + 1 + 1 + 1, 5, none⟩ = some (.int .i64 0) := cell_of_row _ _ 5 _ _ _ R4.out
  have cf : V1.frozen? ⟨w.heap.size + 1 + 1 + 1 + 1, 5, none⟩ = false := frozen_of_row _ _ _ _ _ R4.out
  have hq : IntKind.i64.wrap 5 = 5 := by decide
  have hr : ((5 : Int)).tmod 6 = 5 := by decide
  have hu : IntKind.i64.wrap 5 = 5 := by decide
  have hv : ((5 : Int)) % 6 = 5 := by decide
  rw [rounds_succ]
  go_wp2_with fail
  go_region_held3 (fun U => U.cell? ⟨w.heap.size + 1 + 1 + 1, 0, none⟩ = some (.int .i64 x) ∧ U.cell? ⟨w.heap.size + 1 + 1 + 1, 1, none⟩ = some (.int .i64 3)) (first | exact ⟨b0, b1⟩ | go_keep) (fail)
  go_wp2_with fail
  rw [← M2.out]
  clear b0 b1 cc cf hq hr hu hv
  generalize hV : (World.drew _ : World) = V2
  have r1 := Lib.hid (st_other (g := w.heap.size + 1 + 1 + 1 + 1) hV (by omega) R1.out)
  have r3 := Lib.hid (st_other (g := w.heap.size + 1 + 1 + 1 + 1) hV (by omega) R3.out)
  have r4 : Hid (V2.heap[(w.heap.size + 1 + 1 + 1 + 1 : Nat)]? = some (Obj.cells #[Value.int .i64 0, Value.int .i64 0, Value.int .i64 0, Value.int .i64 m0, Value.int .i64 m1, Value.int .i64 m2] 28 (0, 0))) := Lib.hid (st_row hV R4.out)
  have hb := Lib.hid (st_below hV HB.out (by omega))
  clear hV R1 R3 R4 HB
  have R1 := r1
  have R3 := r3
  have R4 := r4
  have HB := hb
  clear r1 r3 r4 hb
  have b0 : V2.cell? ⟨w.heap.size + 1 + 1 + 1, 0, none⟩ = some (.int .i64 x) := cell_of_row _ _ 0 _ _ _ R3.out
  have b1 : V2.cell? ⟨w.heap.size + 1 + 1 + 1, 1, none⟩ = some (.int .i64 3) := cell_of_row _ _ 1 _ _ _ R3.out
  have cc : V2.cell? ⟨w.heap.size + 1 + 1 + 1 + 1, 0, none⟩ = some (.int .i64 0) := cell_of_row _ _ 0 _ _ _ R4.out
  have cf : V2.frozen? ⟨w.heap.size + 1 + 1 + 1 + 1, 0, none⟩ = false := frozen_of_row _ _ _ _ _ R4.out
  have hq : IntKind.i64.wrap 6 = 6 := by decide
  have hr : ((6 : Int)).tmod 6 = 0 := by decide
  have hu : IntKind.i64.wrap 0 = 0 := by decide
  have hv : ((6 : Int)) % 6 = 0 := by decide
  rw [rounds_succ]
  go_wp2_with fail
  go_region_held3 (fun U => U.cell? ⟨w.heap.size + 1 + 1 + 1, 0, none⟩ = some (.int .i64 x) ∧ U.cell? ⟨w.heap.size + 1 + 1 + 1, 1, none⟩ = some (.int .i64 3)) (first | exact ⟨b0, b1⟩ | go_keep) (fail)
  go_wp2_with fail
  rw [← M3.out]
  clear b0 b1 cc cf hq hr hu hv
  generalize hV : (World.drew _ : World) = V3
  have r1 := Lib.hid (st_other (g := w.heap.size + 1 + 1 + 1 + 1) hV (by omega) R1.out)
  have r3 := Lib.hid (st_other (g := w.heap.size + 1 + 1 + 1 + 1) hV (by omega) R3.out)
  have r4 : Hid (V3.heap[(w.heap.size + 1 + 1 + 1 + 1 : Nat)]? = some (Obj.cells #[Value.int .i64 m3, Value.int .i64 0, Value.int .i64 0, Value.int .i64 m0, Value.int .i64 m1, Value.int .i64 m2] 28 (0, 0))) := Lib.hid (st_row hV R4.out)
  have hb := Lib.hid (st_below hV HB.out (by omega))
  clear hV R1 R3 R4 HB
  have R1 := r1
  have R3 := r3
  have R4 := r4
  have HB := hb
  clear r1 r3 r4 hb
  have b0 : V3.cell? ⟨w.heap.size + 1 + 1 + 1, 0, none⟩ = some (.int .i64 x) := cell_of_row _ _ 0 _ _ _ R3.out
  have b1 : V3.cell? ⟨w.heap.size + 1 + 1 + 1, 1, none⟩ = some (.int .i64 3) := cell_of_row _ _ 1 _ _ _ R3.out
  have cc : V3.cell? ⟨w.heap.size + 1 + 1 + 1 + 1, 1, none⟩ = some (.int .i64 0) := cell_of_row _ _ 1 _ _ _ R4.out
  have cf : V3.frozen? ⟨w.heap.size + 1 + 1 + 1 + 1, 1, none⟩ = false := frozen_of_row _ _ _ _ _ R4.out
  have hq : IntKind.i64.wrap 7 = 7 := by decide
  have hr : ((7 : Int)).tmod 6 = 1 := by decide
  have hu : IntKind.i64.wrap 1 = 1 := by decide
  have hv : ((7 : Int)) % 6 = 1 := by decide
  rw [rounds_succ]
  go_wp2_with fail
  go_region_held3 (fun U => U.cell? ⟨w.heap.size + 1 + 1 + 1, 0, none⟩ = some (.int .i64 x) ∧ U.cell? ⟨w.heap.size + 1 + 1 + 1, 1, none⟩ = some (.int .i64 3)) (first | exact ⟨b0, b1⟩ | go_keep) (fail)
  go_wp2_with fail
  rw [← M4.out]
  clear b0 b1 cc cf hq hr hu hv
  generalize hV : (World.drew _ : World) = V4
  have r1 := Lib.hid (st_other (g := w.heap.size + 1 + 1 + 1 + 1) hV (by omega) R1.out)
  have r3 := Lib.hid (st_other (g := w.heap.size + 1 + 1 + 1 + 1) hV (by omega) R3.out)
  have r4 : Hid (V4.heap[(w.heap.size + 1 + 1 + 1 + 1 : Nat)]? = some (Obj.cells #[Value.int .i64 m3, Value.int .i64 m4, Value.int .i64 0, Value.int .i64 m0, Value.int .i64 m1, Value.int .i64 m2] 28 (0, 0))) := Lib.hid (st_row hV R4.out)
  have hb := Lib.hid (st_below hV HB.out (by omega))
  clear hV R1 R3 R4 HB
  have R1 := r1
  have R3 := r3
  have R4 := r4
  have HB := hb
  clear r1 r3 r4 hb
  have b0 : V4.cell? ⟨w.heap.size + 1 + 1 + 1, 0, none⟩ = some (.int .i64 x) := cell_of_row _ _ 0 _ _ _ R3.out
  have b1 : V4.cell? ⟨w.heap.size + 1 + 1 + 1, 1, none⟩ = some (.int .i64 3) := cell_of_row _ _ 1 _ _ _ R3.out
  have cc : V4.cell? ⟨w.heap.size + 1 + 1 + 1 + 1, 2, none⟩ = some (.int .i64 0) := cell_of_row _ _ 2 _ _ _ R4.out
  have cf : V4.frozen? ⟨w.heap.size + 1 + 1 + 1 + 1, 2, none⟩ = false := frozen_of_row _ _ _ _ _ R4.out
  have hq : IntKind.i64.wrap 8 = 8 := by decide
  have hr : ((8 : Int)).tmod 6 = 2 := by decide
  have hu : IntKind.i64.wrap 2 = 2 := by decide
  have hv : ((8 : Int)) % 6 = 2 := by decide
  rw [rounds_succ]
  go_wp2_with fail
  go_region_held3 (fun U => U.cell? ⟨w.heap.size + 1 + 1 + 1, 0, none⟩ = some (.int .i64 x) ∧ U.cell? ⟨w.heap.size + 1 + 1 + 1, 1, none⟩ = some (.int .i64 3)) (first | exact ⟨b0, b1⟩ | go_keep) (fail)
  go_wp2_with fail
  rw [← M5.out]
  clear b0 b1 cc cf hq hr hu hv
  generalize hV : (World.drew _ : World) = V5
  have r1 := Lib.hid (st_other (g := w.heap.size + 1 + 1 + 1 + 1) hV (by omega) R1.out)
  have r3 := Lib.hid (st_other (g := w.heap.size + 1 + 1 + 1 + 1) hV (by omega) R3.out)
  have r4 : Hid (V5.heap[(w.heap.size + 1 + 1 + 1 + 1 : Nat)]? = some (Obj.cells #[Value.int .i64 m3, Value.int .i64 m4, Value.int .i64 m5, Value.int .i64 m0, Value.int .i64 m1, Value.int .i64 m2] 28 (0, 0))) := Lib.hid (st_row hV R4.out)
  have hb := Lib.hid (st_below hV HB.out (by omega))
  clear hV R1 R3 R4 HB
  have R1 := r1
  have R3 := r3
  have R4 := r4
  have HB := hb
  clear r1 r3 r4 hb
  rw [rounds_succ]
  have d0 : V5.cell? ⟨w.heap.size + 1 + 1 + 1 + 1, 0, none⟩ = some _ := cell_of_row _ _ 0 _ _ _ R4.out; have d1 : V5.cell? ⟨w.heap.size + 1 + 1 + 1 + 1, 1, none⟩ = some _ := cell_of_row _ _ 1 _ _ _ R4.out; have d2 : V5.cell? ⟨w.heap.size + 1 + 1 + 1 + 1, 2, none⟩ = some _ := cell_of_row _ _ 2 _ _ _ R4.out; have d3 : V5.cell? ⟨w.heap.size + 1 + 1 + 1 + 1, 3, none⟩ = some _ := cell_of_row _ _ 3 _ _ _ R4.out; have d4 : V5.cell? ⟨w.heap.size + 1 + 1 + 1 + 1, 4, none⟩ = some _ := cell_of_row _ _ 4 _ _ _ R4.out; have d5 : V5.cell? ⟨w.heap.size + 1 + 1 + 1 + 1, 5, none⟩ = some _ := cell_of_row _ _ 5 _ _ _ R4.out
  have n0 : V5.cell? ⟨w.heap.size + 1, 0, none⟩ = some _ := cell_of_row _ _ 0 _ _ _ R1.out; have n1 : V5.cell? ⟨w.heap.size + 1, 1, none⟩ = some _ := cell_of_row _ _ 1 _ _ _ R1.out; have n2 : V5.cell? ⟨w.heap.size + 1, 2, none⟩ = some _ := cell_of_row _ _ 2 _ _ _ R1.out; have n3 : V5.cell? ⟨w.heap.size + 1, 3, none⟩ = some _ := cell_of_row _ _ 3 _ _ _ R1.out; have n4 : V5.cell? ⟨w.heap.size + 1, 4, none⟩ = some _ := cell_of_row _ _ 4 _ _ _ R1.out; have n5 : V5.cell? ⟨w.heap.size + 1, 5, none⟩ = some _ := cell_of_row _ _ 5 _ _ _ R1.out
  have nf := fun j => frozen_of_row V5 _ j _ _ R1.out
  go_wp2_with fail
  refine bodyPost_ret (v := .agg #[.int .i64 m3, .int .i64 m4, .int .i64 m5, .int .i64 m0, .int .i64 m1, .int .i64 m2]) (by simp [results, Try.results212, go_sem, n0, n1, n2, n3, n4, n5]) rfl ⟨by rw [M0.out, M1.out, M2.out, M3.out, M4.out, M5.out], ?_⟩
  exact below6 HB.out (by omega)
set_option maxHeartbeats 4000000 in
theorem shifted_4 (a0 a1 a2 a3 a4 a5 : Int) (dx dy x : Int) (hx : 0 ≤ x ∧ x ≤ 5) (HA : Hid (∀ w, Calls Try.prog 217 #[.int .i64 dx, .int .i64 dy] w fun e w' => e = .returned (.agg #[.int .i64 x, .int .i64 4]) ∧ w' = w.alloc (.cells #[.int .i64 x, .int .i64 4] 69))) (w : World) : Calls Try.prog 212 #[.agg #[.int .i64 a0, .int .i64 a1, .int .i64 a2, .int .i64 a3, .int .i64 a4, .int .i64 a5], .int .i64 dx, .int .i64 dy] w fun e w' => e = .returned (.agg #[.int .i64 (bits .and .i64 (bits .or .i64 (wrap64 (a2 * 2 ^ x.toNat)) (a2 / 2 ^ (6 - x).toNat)) 63), .int .i64 (bits .and .i64 (bits .or .i64 (wrap64 (a3 * 2 ^ x.toNat)) (a3 / 2 ^ (6 - x).toNat)) 63), .int .i64 (bits .and .i64 (bits .or .i64 (wrap64 (a4 * 2 ^ x.toNat)) (a4 / 2 ^ (6 - x).toNat)) 63), .int .i64 (bits .and .i64 (bits .or .i64 (wrap64 (a5 * 2 ^ x.toNat)) (a5 / 2 ^ (6 - x).toNat)) 63), .int .i64 (bits .and .i64 (bits .or .i64 (wrap64 (a0 * 2 ^ x.toNat)) (a0 / 2 ^ (6 - x).toNat)) 63), .int .i64 (bits .and .i64 (bits .or .i64 (wrap64 (a1 * 2 ^ x.toNat)) (a1 / 2 ^ (6 - x).toNat)) 63)]) ∧ Below w.heap.size w w' := by
  have i0 := ix0 a0 a1 a2 a3 a4 a5; have i1 := ix1 a0 a1 a2 a3 a4 a5; have i2 := ix2 a0 a1 a2 a3 a4 a5; have i3 := ix3 a0 a1 a2 a3 a4 a5; have i4 := ix4 a0 a1 a2 a3 a4 a5; have i5 := ix5 a0 a1 a2 a3 a4 a5
  have hw : IntKind.i64.wrap (6 - x) = 6 - x := by rw [IntKind.wrap_i64]; omega
  have hs0 : (0 : Int) ≤ 6 - x := by omega
  have hs1 : (0 : Int) ≤ x := by omega
  obtain ⟨m0, hm0⟩ : ∃ m, m = bits .and .i64 (bits .or .i64 (wrap64 (a0 * 2 ^ x.toNat)) (a0 / 2 ^ (6 - x).toNat)) 63 := ⟨_, rfl⟩
  have M0 := Lib.hid hm0
  clear hm0
  obtain ⟨m1, hm1⟩ : ∃ m, m = bits .and .i64 (bits .or .i64 (wrap64 (a1 * 2 ^ x.toNat)) (a1 / 2 ^ (6 - x).toNat)) 63 := ⟨_, rfl⟩
  have M1 := Lib.hid hm1
  clear hm1
  obtain ⟨m2, hm2⟩ : ∃ m, m = bits .and .i64 (bits .or .i64 (wrap64 (a2 * 2 ^ x.toNat)) (a2 / 2 ^ (6 - x).toNat)) 63 := ⟨_, rfl⟩
  have M2 := Lib.hid hm2
  clear hm2
  obtain ⟨m3, hm3⟩ : ∃ m, m = bits .and .i64 (bits .or .i64 (wrap64 (a3 * 2 ^ x.toNat)) (a3 / 2 ^ (6 - x).toNat)) 63 := ⟨_, rfl⟩
  have M3 := Lib.hid hm3
  clear hm3
  obtain ⟨m4, hm4⟩ : ∃ m, m = bits .and .i64 (bits .or .i64 (wrap64 (a4 * 2 ^ x.toNat)) (a4 / 2 ^ (6 - x).toNat)) 63 := ⟨_, rfl⟩
  have M4 := Lib.hid hm4
  clear hm4
  obtain ⟨m5, hm5⟩ : ∃ m, m = bits .and .i64 (bits .or .i64 (wrap64 (a5 * 2 ^ x.toNat)) (a5 / 2 ^ (6 - x).toNat)) 63 := ⟨_, rfl⟩
  have M5 := Lib.hid hm5
  clear hm5
  go_enter Try.func212, Try.ntmps212
  go_wp2_with fail
  refine (HA.out _).mono ?_
  rintro e w' ⟨rfl, rfl⟩
  go_wp2_with fail
  generalize hW : (World.alloc _ _ : World) = W
  have hB0 : Below w.heap.size w W := by rw [← hW]; (repeat (first | exact Below.refl _ _ | assumption | refine Below.setCell ?_ (by first | (simp; done) | (simp; omega)) _ | refine Below.alloc ?_ (by first | (simp; done) | (simp; omega)) _ | refine Below.drew ?_))
  have HB := Lib.hid hB0
  have r1 : W.heap[(w.heap.size + 1 : Nat)]? = some (Obj.cells (#[Value.int .i64 0, Value.int .i64 0, Value.int .i64 0, Value.int .i64 0, Value.int .i64 0, Value.int .i64 0]) 28 (0, 0)) := by
    rw [← hW]
    repeat (first | (refine alloc_at ?_; first | (simp; done) | (simp; omega)) | refine drew_row ?_ | refine alloc_past ?_ | assumption)
  have r1_c := fun j => cell_of_row _ _ j _ _ _ r1
  have r1_f := fun j => frozen_of_row _ _ j _ _ r1
  have r3 : W.heap[(w.heap.size + 1 + 1 + 1 : Nat)]? = some (Obj.cells (#[.int .i64 x, .int .i64 4]) 69 (0, 0)) := by
    rw [← hW]
    repeat (first | (refine alloc_at ?_; first | (simp; done) | (simp; omega)) | refine drew_row ?_ | refine alloc_past ?_ | assumption)
  have r3_c := fun j => cell_of_row _ _ j _ _ _ r3
  have r3_f := fun j => frozen_of_row _ _ j _ _ r3
  have r4 : W.heap[(w.heap.size + 1 + 1 + 1 + 1 : Nat)]? = some (Obj.cells (#[Value.int .i64 0, Value.int .i64 0, Value.int .i64 0, Value.int .i64 0, Value.int .i64 0, Value.int .i64 0]) 28 (0, 0)) := by
    rw [← hW]
    repeat (first | (refine alloc_at ?_; first | (simp; done) | (simp; omega)) | refine drew_row ?_ | refine alloc_past ?_ | assumption)
  have r4_c := fun j => cell_of_row _ _ j _ _ _ r4
  have r4_f := fun j => frozen_of_row _ _ j _ _ r4
  have R1 := Lib.hid r1
  have R3 := Lib.hid r3
  have R4 := Lib.hid r4
  clear hW hB0 r1 r3 r4 r1_c r1_f r3_c r3_f r4_c r4_f
  refine wp_loop_rounds 7 ?_
  have b0 : W.cell? ⟨w.heap.size + 1 + 1 + 1, 0, none⟩ = some (.int .i64 x) := cell_of_row _ _ 0 _ _ _ R3.out
  have b1 : W.cell? ⟨w.heap.size + 1 + 1 + 1, 1, none⟩ = some (.int .i64 4) := cell_of_row _ _ 1 _ _ _ R3.out
  have cc : W.cell? ⟨w.heap.size + 1 + 1 + 1 + 1, 4, none⟩ = some (.int .i64 0) := cell_of_row _ _ 4 _ _ _ R4.out
  have cf : W.frozen? ⟨w.heap.size + 1 + 1 + 1 + 1, 4, none⟩ = false := frozen_of_row _ _ _ _ _ R4.out
  have hq : IntKind.i64.wrap 4 = 4 := by decide
  have hr : ((4 : Int)).tmod 6 = 4 := by decide
  have hu : IntKind.i64.wrap 4 = 4 := by decide
  have hv : ((4 : Int)) % 6 = 4 := by decide
  rw [rounds_succ]
  go_wp2_with fail
  go_region_held3 (fun U => U.cell? ⟨w.heap.size + 1 + 1 + 1, 0, none⟩ = some (.int .i64 x) ∧ U.cell? ⟨w.heap.size + 1 + 1 + 1, 1, none⟩ = some (.int .i64 4)) (first | exact ⟨b0, b1⟩ | go_keep) (fail)
  go_wp2_with fail
  rw [← M0.out]
  clear b0 b1 cc cf hq hr hu hv
  generalize hV : (World.drew _ : World) = V0
  have r1 := Lib.hid (st_other (g := w.heap.size + 1 + 1 + 1 + 1) hV (by omega) R1.out)
  have r3 := Lib.hid (st_other (g := w.heap.size + 1 + 1 + 1 + 1) hV (by omega) R3.out)
  have r4 : Hid (V0.heap[(w.heap.size + 1 + 1 + 1 + 1 : Nat)]? = some (Obj.cells #[Value.int .i64 0, Value.int .i64 0, Value.int .i64 0, Value.int .i64 0, Value.int .i64 m0, Value.int .i64 0] 28 (0, 0))) := Lib.hid (st_row hV R4.out)
  have hb := Lib.hid (st_below hV HB.out (by omega))
  clear hV R1 R3 R4 HB
  have R1 := r1
  have R3 := r3
  have R4 := r4
  have HB := hb
  clear r1 r3 r4 hb
  have b0 : V0.cell? ⟨w.heap.size + 1 + 1 + 1, 0, none⟩ = some (.int .i64 x) := cell_of_row _ _ 0 _ _ _ R3.out
  have b1 : V0.cell? ⟨w.heap.size + 1 + 1 + 1, 1, none⟩ = some (.int .i64 4) := cell_of_row _ _ 1 _ _ _ R3.out
  have cc : V0.cell? ⟨w.heap.size + 1 + 1 + 1 + 1, 5, none⟩ = some (.int .i64 0) := cell_of_row _ _ 5 _ _ _ R4.out
  have cf : V0.frozen? ⟨w.heap.size + 1 + 1 + 1 + 1, 5, none⟩ = false := frozen_of_row _ _ _ _ _ R4.out
  have hq : IntKind.i64.wrap 5 = 5 := by decide
  have hr : ((5 : Int)).tmod 6 = 5 := by decide
  have hu : IntKind.i64.wrap 5 = 5 := by decide
  have hv : ((5 : Int)) % 6 = 5 := by decide
  rw [rounds_succ]
  go_wp2_with fail
  go_region_held3 (fun U => U.cell? ⟨w.heap.size + 1 + 1 + 1, 0, none⟩ = some (.int .i64 x) ∧ U.cell? ⟨w.heap.size + 1 + 1 + 1, 1, none⟩ = some (.int .i64 4)) (first | exact ⟨b0, b1⟩ | go_keep) (fail)
  go_wp2_with fail
  rw [← M1.out]
  clear b0 b1 cc cf hq hr hu hv
  generalize hV : (World.drew _ : World) = V1
  have r1 := Lib.hid (st_other (g := w.heap.size + 1 + 1 + 1 + 1) hV (by omega) R1.out)
  have r3 := Lib.hid (st_other (g := w.heap.size + 1 + 1 + 1 + 1) hV (by omega) R3.out)
  have r4 : Hid (V1.heap[(w.heap.size + 1 + 1 + 1 + 1 : Nat)]? = some (Obj.cells #[Value.int .i64 0, Value.int .i64 0, Value.int .i64 0, Value.int .i64 0, Value.int .i64 m0, Value.int .i64 m1] 28 (0, 0))) := Lib.hid (st_row hV R4.out)
  have hb := Lib.hid (st_below hV HB.out (by omega))
  clear hV R1 R3 R4 HB
  have R1 := r1
  have R3 := r3
  have R4 := r4
  have HB := hb
  clear r1 r3 r4 hb
  have b0 : V1.cell? ⟨w.heap.size + 1 + 1 + 1, 0, none⟩ = some (.int .i64 x) := cell_of_row _ _ 0 _ _ _ R3.out
  have b1 : V1.cell? ⟨w.heap.size + 1 + 1 + 1, 1, none⟩ = some (.int .i64 4) := cell_of_row _ _ 1 _ _ _ R3.out
  have cc : V1.cell? ⟨w.heap.size + 1 + 1 + 1 + 1, 0, none⟩ = some (.int .i64 0) := cell_of_row _ _ 0 _ _ _ R4.out
  have cf : V1.frozen? ⟨w.heap.size + 1 + 1 + 1 + 1, 0, none⟩ = false := frozen_of_row _ _ _ _ _ R4.out
  have hq : IntKind.i64.wrap 6 = 6 := by decide
  have hr : ((6 : Int)).tmod 6 = 0 := by decide
  have hu : IntKind.i64.wrap 0 = 0 := by decide
  have hv : ((6 : Int)) % 6 = 0 := by decide
  rw [rounds_succ]
  go_wp2_with fail
  go_region_held3 (fun U => U.cell? ⟨w.heap.size + 1 + 1 + 1, 0, none⟩ = some (.int .i64 x) ∧ U.cell? ⟨w.heap.size + 1 + 1 + 1, 1, none⟩ = some (.int .i64 4)) (first | exact ⟨b0, b1⟩ | go_keep) (fail)
  go_wp2_with fail
  rw [← M2.out]
  clear b0 b1 cc cf hq hr hu hv
  generalize hV : (World.drew _ : World) = V2
  have r1 := Lib.hid (st_other (g := w.heap.size + 1 + 1 + 1 + 1) hV (by omega) R1.out)
  have r3 := Lib.hid (st_other (g := w.heap.size + 1 + 1 + 1 + 1) hV (by omega) R3.out)
  have r4 : Hid (V2.heap[(w.heap.size + 1 + 1 + 1 + 1 : Nat)]? = some (Obj.cells #[Value.int .i64 m2, Value.int .i64 0, Value.int .i64 0, Value.int .i64 0, Value.int .i64 m0, Value.int .i64 m1] 28 (0, 0))) := Lib.hid (st_row hV R4.out)
  have hb := Lib.hid (st_below hV HB.out (by omega))
  clear hV R1 R3 R4 HB
  have R1 := r1
  have R3 := r3
  have R4 := r4
  have HB := hb
  clear r1 r3 r4 hb
  have b0 : V2.cell? ⟨w.heap.size + 1 + 1 + 1, 0, none⟩ = some (.int .i64 x) := cell_of_row _ _ 0 _ _ _ R3.out
  have b1 : V2.cell? ⟨w.heap.size + 1 + 1 + 1, 1, none⟩ = some (.int .i64 4) := cell_of_row _ _ 1 _ _ _ R3.out
  have cc : V2.cell? ⟨w.heap.size + 1 + 1 + 1 + 1, 1, none⟩ = some (.int .i64 0) := cell_of_row _ _ 1 _ _ _ R4.out
  have cf : V2.frozen? ⟨w.heap.size + 1 + 1 + 1 + 1, 1, none⟩ = false := frozen_of_row _ _ _ _ _ R4.out
  have hq : IntKind.i64.wrap 7 = 7 := by decide
  have hr : ((7 : Int)).tmod 6 = 1 := by decide
  have hu : IntKind.i64.wrap 1 = 1 := by decide
  have hv : ((7 : Int)) % 6 = 1 := by decide
  rw [rounds_succ]
  go_wp2_with fail
  go_region_held3 (fun U => U.cell? ⟨w.heap.size + 1 + 1 + 1, 0, none⟩ = some (.int .i64 x) ∧ U.cell? ⟨w.heap.size + 1 + 1 + 1, 1, none⟩ = some (.int .i64 4)) (first | exact ⟨b0, b1⟩ | go_keep) (fail)
  go_wp2_with fail
  rw [← M3.out]
  clear b0 b1 cc cf hq hr hu hv
  generalize hV : (World.drew _ : World) = V3
  have r1 := Lib.hid (st_other (g := w.heap.size + 1 + 1 + 1 + 1) hV (by omega) R1.out)
  have r3 := Lib.hid (st_other (g := w.heap.size + 1 + 1 + 1 + 1) hV (by omega) R3.out)
  have r4 : Hid (V3.heap[(w.heap.size + 1 + 1 + 1 + 1 : Nat)]? = some (Obj.cells #[Value.int .i64 m2, Value.int .i64 m3, Value.int .i64 0, Value.int .i64 0, Value.int .i64 m0, Value.int .i64 m1] 28 (0, 0))) := Lib.hid (st_row hV R4.out)
  have hb := Lib.hid (st_below hV HB.out (by omega))
  clear hV R1 R3 R4 HB
  have R1 := r1
  have R3 := r3
  have R4 := r4
  have HB := hb
  clear r1 r3 r4 hb
  have b0 : V3.cell? ⟨w.heap.size + 1 + 1 + 1, 0, none⟩ = some (.int .i64 x) := cell_of_row _ _ 0 _ _ _ R3.out
  have b1 : V3.cell? ⟨w.heap.size + 1 + 1 + 1, 1, none⟩ = some (.int .i64 4) := cell_of_row _ _ 1 _ _ _ R3.out
  have cc : V3.cell? ⟨w.heap.size + 1 + 1 + 1 + 1, 2, none⟩ = some (.int .i64 0) := cell_of_row _ _ 2 _ _ _ R4.out
  have cf : V3.frozen? ⟨w.heap.size + 1 + 1 + 1 + 1, 2, none⟩ = false := frozen_of_row _ _ _ _ _ R4.out
  have hq : IntKind.i64.wrap 8 = 8 := by decide
  have hr : ((8 : Int)).tmod 6 = 2 := by decide
  have hu : IntKind.i64.wrap 2 = 2 := by decide
  have hv : ((8 : Int)) % 6 = 2 := by decide
  rw [rounds_succ]
  go_wp2_with fail
  go_region_held3 (fun U => U.cell? ⟨w.heap.size + 1 + 1 + 1, 0, none⟩ = some (.int .i64 x) ∧ U.cell? ⟨w.heap.size + 1 + 1 + 1, 1, none⟩ = some (.int .i64 4)) (first | exact ⟨b0, b1⟩ | go_keep) (fail)
  go_wp2_with fail
  rw [← M4.out]
  clear b0 b1 cc cf hq hr hu hv
  generalize hV : (World.drew _ : World) = V4
  have r1 := Lib.hid (st_other (g := w.heap.size + 1 + 1 + 1 + 1) hV (by omega) R1.out)
  have r3 := Lib.hid (st_other (g := w.heap.size + 1 + 1 + 1 + 1) hV (by omega) R3.out)
  have r4 : Hid (V4.heap[(w.heap.size + 1 + 1 + 1 + 1 : Nat)]? = some (Obj.cells #[Value.int .i64 m2, Value.int .i64 m3, Value.int .i64 m4, Value.int .i64 0, Value.int .i64 m0, Value.int .i64 m1] 28 (0, 0))) := Lib.hid (st_row hV R4.out)
  have hb := Lib.hid (st_below hV HB.out (by omega))
  clear hV R1 R3 R4 HB
  have R1 := r1
  have R3 := r3
  have R4 := r4
  have HB := hb
  clear r1 r3 r4 hb
  have b0 : V4.cell? ⟨w.heap.size + 1 + 1 + 1, 0, none⟩ = some (.int .i64 x) := cell_of_row _ _ 0 _ _ _ R3.out
  have b1 : V4.cell? ⟨w.heap.size + 1 + 1 + 1, 1, none⟩ = some (.int .i64 4) := cell_of_row _ _ 1 _ _ _ R3.out
  have cc : V4.cell? ⟨w.heap.size + 1 + 1 + 1 + 1, 3, none⟩ = some (.int .i64 0) := cell_of_row _ _ 3 _ _ _ R4.out
  have cf : V4.frozen? ⟨w.heap.size + 1 + 1 + 1 + 1, 3, none⟩ = false := frozen_of_row _ _ _ _ _ R4.out
  have hq : IntKind.i64.wrap 9 = 9 := by decide
  have hr : ((9 : Int)).tmod 6 = 3 := by decide
  have hu : IntKind.i64.wrap 3 = 3 := by decide
  have hv : ((9 : Int)) % 6 = 3 := by decide
  rw [rounds_succ]
  go_wp2_with fail
  go_region_held3 (fun U => U.cell? ⟨w.heap.size + 1 + 1 + 1, 0, none⟩ = some (.int .i64 x) ∧ U.cell? ⟨w.heap.size + 1 + 1 + 1, 1, none⟩ = some (.int .i64 4)) (first | exact ⟨b0, b1⟩ | go_keep) (fail)
  go_wp2_with fail
  rw [← M5.out]
  clear b0 b1 cc cf hq hr hu hv
  generalize hV : (World.drew _ : World) = V5
  have r1 := Lib.hid (st_other (g := w.heap.size + 1 + 1 + 1 + 1) hV (by omega) R1.out)
  have r3 := Lib.hid (st_other (g := w.heap.size + 1 + 1 + 1 + 1) hV (by omega) R3.out)
  have r4 : Hid (V5.heap[(w.heap.size + 1 + 1 + 1 + 1 : Nat)]? = some (Obj.cells #[Value.int .i64 m2, Value.int .i64 m3, Value.int .i64 m4, Value.int .i64 m5, Value.int .i64 m0, Value.int .i64 m1] 28 (0, 0))) := Lib.hid (st_row hV R4.out)
  have hb := Lib.hid (st_below hV HB.out (by omega))
  clear hV R1 R3 R4 HB
  have R1 := r1
  have R3 := r3
  have R4 := r4
  have HB := hb
  clear r1 r3 r4 hb
  rw [rounds_succ]
  have d0 : V5.cell? ⟨w.heap.size + 1 + 1 + 1 + 1, 0, none⟩ = some _ := cell_of_row _ _ 0 _ _ _ R4.out; have d1 : V5.cell? ⟨w.heap.size + 1 + 1 + 1 + 1, 1, none⟩ = some _ := cell_of_row _ _ 1 _ _ _ R4.out; have d2 : V5.cell? ⟨w.heap.size + 1 + 1 + 1 + 1, 2, none⟩ = some _ := cell_of_row _ _ 2 _ _ _ R4.out; have d3 : V5.cell? ⟨w.heap.size + 1 + 1 + 1 + 1, 3, none⟩ = some _ := cell_of_row _ _ 3 _ _ _ R4.out; have d4 : V5.cell? ⟨w.heap.size + 1 + 1 + 1 + 1, 4, none⟩ = some _ := cell_of_row _ _ 4 _ _ _ R4.out; have d5 : V5.cell? ⟨w.heap.size + 1 + 1 + 1 + 1, 5, none⟩ = some _ := cell_of_row _ _ 5 _ _ _ R4.out
  have n0 : V5.cell? ⟨w.heap.size + 1, 0, none⟩ = some _ := cell_of_row _ _ 0 _ _ _ R1.out; have n1 : V5.cell? ⟨w.heap.size + 1, 1, none⟩ = some _ := cell_of_row _ _ 1 _ _ _ R1.out; have n2 : V5.cell? ⟨w.heap.size + 1, 2, none⟩ = some _ := cell_of_row _ _ 2 _ _ _ R1.out; have n3 : V5.cell? ⟨w.heap.size + 1, 3, none⟩ = some _ := cell_of_row _ _ 3 _ _ _ R1.out; have n4 : V5.cell? ⟨w.heap.size + 1, 4, none⟩ = some _ := cell_of_row _ _ 4 _ _ _ R1.out; have n5 : V5.cell? ⟨w.heap.size + 1, 5, none⟩ = some _ := cell_of_row _ _ 5 _ _ _ R1.out
  have nf := fun j => frozen_of_row V5 _ j _ _ R1.out
  go_wp2_with fail
  refine bodyPost_ret (v := .agg #[.int .i64 m2, .int .i64 m3, .int .i64 m4, .int .i64 m5, .int .i64 m0, .int .i64 m1]) (by simp [results, Try.results212, go_sem, n0, n1, n2, n3, n4, n5]) rfl ⟨by rw [M0.out, M1.out, M2.out, M3.out, M4.out, M5.out], ?_⟩
  exact below6 HB.out (by omega)
set_option maxHeartbeats 4000000 in
theorem shifted_5 (a0 a1 a2 a3 a4 a5 : Int) (dx dy x : Int) (hx : 0 ≤ x ∧ x ≤ 5) (HA : Hid (∀ w, Calls Try.prog 217 #[.int .i64 dx, .int .i64 dy] w fun e w' => e = .returned (.agg #[.int .i64 x, .int .i64 5]) ∧ w' = w.alloc (.cells #[.int .i64 x, .int .i64 5] 69))) (w : World) : Calls Try.prog 212 #[.agg #[.int .i64 a0, .int .i64 a1, .int .i64 a2, .int .i64 a3, .int .i64 a4, .int .i64 a5], .int .i64 dx, .int .i64 dy] w fun e w' => e = .returned (.agg #[.int .i64 (bits .and .i64 (bits .or .i64 (wrap64 (a1 * 2 ^ x.toNat)) (a1 / 2 ^ (6 - x).toNat)) 63), .int .i64 (bits .and .i64 (bits .or .i64 (wrap64 (a2 * 2 ^ x.toNat)) (a2 / 2 ^ (6 - x).toNat)) 63), .int .i64 (bits .and .i64 (bits .or .i64 (wrap64 (a3 * 2 ^ x.toNat)) (a3 / 2 ^ (6 - x).toNat)) 63), .int .i64 (bits .and .i64 (bits .or .i64 (wrap64 (a4 * 2 ^ x.toNat)) (a4 / 2 ^ (6 - x).toNat)) 63), .int .i64 (bits .and .i64 (bits .or .i64 (wrap64 (a5 * 2 ^ x.toNat)) (a5 / 2 ^ (6 - x).toNat)) 63), .int .i64 (bits .and .i64 (bits .or .i64 (wrap64 (a0 * 2 ^ x.toNat)) (a0 / 2 ^ (6 - x).toNat)) 63)]) ∧ Below w.heap.size w w' := by
  have i0 := ix0 a0 a1 a2 a3 a4 a5; have i1 := ix1 a0 a1 a2 a3 a4 a5; have i2 := ix2 a0 a1 a2 a3 a4 a5; have i3 := ix3 a0 a1 a2 a3 a4 a5; have i4 := ix4 a0 a1 a2 a3 a4 a5; have i5 := ix5 a0 a1 a2 a3 a4 a5
  have hw : IntKind.i64.wrap (6 - x) = 6 - x := by rw [IntKind.wrap_i64]; omega
  have hs0 : (0 : Int) ≤ 6 - x := by omega
  have hs1 : (0 : Int) ≤ x := by omega
  obtain ⟨m0, hm0⟩ : ∃ m, m = bits .and .i64 (bits .or .i64 (wrap64 (a0 * 2 ^ x.toNat)) (a0 / 2 ^ (6 - x).toNat)) 63 := ⟨_, rfl⟩
  have M0 := Lib.hid hm0
  clear hm0
  obtain ⟨m1, hm1⟩ : ∃ m, m = bits .and .i64 (bits .or .i64 (wrap64 (a1 * 2 ^ x.toNat)) (a1 / 2 ^ (6 - x).toNat)) 63 := ⟨_, rfl⟩
  have M1 := Lib.hid hm1
  clear hm1
  obtain ⟨m2, hm2⟩ : ∃ m, m = bits .and .i64 (bits .or .i64 (wrap64 (a2 * 2 ^ x.toNat)) (a2 / 2 ^ (6 - x).toNat)) 63 := ⟨_, rfl⟩
  have M2 := Lib.hid hm2
  clear hm2
  obtain ⟨m3, hm3⟩ : ∃ m, m = bits .and .i64 (bits .or .i64 (wrap64 (a3 * 2 ^ x.toNat)) (a3 / 2 ^ (6 - x).toNat)) 63 := ⟨_, rfl⟩
  have M3 := Lib.hid hm3
  clear hm3
  obtain ⟨m4, hm4⟩ : ∃ m, m = bits .and .i64 (bits .or .i64 (wrap64 (a4 * 2 ^ x.toNat)) (a4 / 2 ^ (6 - x).toNat)) 63 := ⟨_, rfl⟩
  have M4 := Lib.hid hm4
  clear hm4
  obtain ⟨m5, hm5⟩ : ∃ m, m = bits .and .i64 (bits .or .i64 (wrap64 (a5 * 2 ^ x.toNat)) (a5 / 2 ^ (6 - x).toNat)) 63 := ⟨_, rfl⟩
  have M5 := Lib.hid hm5
  clear hm5
  go_enter Try.func212, Try.ntmps212
  go_wp2_with fail
  refine (HA.out _).mono ?_
  rintro e w' ⟨rfl, rfl⟩
  go_wp2_with fail
  generalize hW : (World.alloc _ _ : World) = W
  have hB0 : Below w.heap.size w W := by rw [← hW]; (repeat (first | exact Below.refl _ _ | assumption | refine Below.setCell ?_ (by first | (simp; done) | (simp; omega)) _ | refine Below.alloc ?_ (by first | (simp; done) | (simp; omega)) _ | refine Below.drew ?_))
  have HB := Lib.hid hB0
  have r1 : W.heap[(w.heap.size + 1 : Nat)]? = some (Obj.cells (#[Value.int .i64 0, Value.int .i64 0, Value.int .i64 0, Value.int .i64 0, Value.int .i64 0, Value.int .i64 0]) 28 (0, 0)) := by
    rw [← hW]
    repeat (first | (refine alloc_at ?_; first | (simp; done) | (simp; omega)) | refine drew_row ?_ | refine alloc_past ?_ | assumption)
  have r1_c := fun j => cell_of_row _ _ j _ _ _ r1
  have r1_f := fun j => frozen_of_row _ _ j _ _ r1
  have r3 : W.heap[(w.heap.size + 1 + 1 + 1 : Nat)]? = some (Obj.cells (#[.int .i64 x, .int .i64 5]) 69 (0, 0)) := by
    rw [← hW]
    repeat (first | (refine alloc_at ?_; first | (simp; done) | (simp; omega)) | refine drew_row ?_ | refine alloc_past ?_ | assumption)
  have r3_c := fun j => cell_of_row _ _ j _ _ _ r3
  have r3_f := fun j => frozen_of_row _ _ j _ _ r3
  have r4 : W.heap[(w.heap.size + 1 + 1 + 1 + 1 : Nat)]? = some (Obj.cells (#[Value.int .i64 0, Value.int .i64 0, Value.int .i64 0, Value.int .i64 0, Value.int .i64 0, Value.int .i64 0]) 28 (0, 0)) := by
    rw [← hW]
    repeat (first | (refine alloc_at ?_; first | (simp; done) | (simp; omega)) | refine drew_row ?_ | refine alloc_past ?_ | assumption)
  have r4_c := fun j => cell_of_row _ _ j _ _ _ r4
  have r4_f := fun j => frozen_of_row _ _ j _ _ r4
  have R1 := Lib.hid r1
  have R3 := Lib.hid r3
  have R4 := Lib.hid r4
  clear hW hB0 r1 r3 r4 r1_c r1_f r3_c r3_f r4_c r4_f
  refine wp_loop_rounds 7 ?_
  have b0 : W.cell? ⟨w.heap.size + 1 + 1 + 1, 0, none⟩ = some (.int .i64 x) := cell_of_row _ _ 0 _ _ _ R3.out
  have b1 : W.cell? ⟨w.heap.size + 1 + 1 + 1, 1, none⟩ = some (.int .i64 5) := cell_of_row _ _ 1 _ _ _ R3.out
  have cc : W.cell? ⟨w.heap.size + 1 + 1 + 1 + 1, 5, none⟩ = some (.int .i64 0) := cell_of_row _ _ 5 _ _ _ R4.out
  have cf : W.frozen? ⟨w.heap.size + 1 + 1 + 1 + 1, 5, none⟩ = false := frozen_of_row _ _ _ _ _ R4.out
  have hq : IntKind.i64.wrap 5 = 5 := by decide
  have hr : ((5 : Int)).tmod 6 = 5 := by decide
  have hu : IntKind.i64.wrap 5 = 5 := by decide
  have hv : ((5 : Int)) % 6 = 5 := by decide
  rw [rounds_succ]
  go_wp2_with fail
  go_region_held3 (fun U => U.cell? ⟨w.heap.size + 1 + 1 + 1, 0, none⟩ = some (.int .i64 x) ∧ U.cell? ⟨w.heap.size + 1 + 1 + 1, 1, none⟩ = some (.int .i64 5)) (first | exact ⟨b0, b1⟩ | go_keep) (fail)
  go_wp2_with fail
  rw [← M0.out]
  clear b0 b1 cc cf hq hr hu hv
  generalize hV : (World.drew _ : World) = V0
  have r1 := Lib.hid (st_other (g := w.heap.size + 1 + 1 + 1 + 1) hV (by omega) R1.out)
  have r3 := Lib.hid (st_other (g := w.heap.size + 1 + 1 + 1 + 1) hV (by omega) R3.out)
  have r4 : Hid (V0.heap[(w.heap.size + 1 + 1 + 1 + 1 : Nat)]? = some (Obj.cells #[Value.int .i64 0, Value.int .i64 0, Value.int .i64 0, Value.int .i64 0, Value.int .i64 0, Value.int .i64 m0] 28 (0, 0))) := Lib.hid (st_row hV R4.out)
  have hb := Lib.hid (st_below hV HB.out (by omega))
  clear hV R1 R3 R4 HB
  have R1 := r1
  have R3 := r3
  have R4 := r4
  have HB := hb
  clear r1 r3 r4 hb
  have b0 : V0.cell? ⟨w.heap.size + 1 + 1 + 1, 0, none⟩ = some (.int .i64 x) := cell_of_row _ _ 0 _ _ _ R3.out
  have b1 : V0.cell? ⟨w.heap.size + 1 + 1 + 1, 1, none⟩ = some (.int .i64 5) := cell_of_row _ _ 1 _ _ _ R3.out
  have cc : V0.cell? ⟨w.heap.size + 1 + 1 + 1 + 1, 0, none⟩ = some (.int .i64 0) := cell_of_row _ _ 0 _ _ _ R4.out
  have cf : V0.frozen? ⟨w.heap.size + 1 + 1 + 1 + 1, 0, none⟩ = false := frozen_of_row _ _ _ _ _ R4.out
  have hq : IntKind.i64.wrap 6 = 6 := by decide
  have hr : ((6 : Int)).tmod 6 = 0 := by decide
  have hu : IntKind.i64.wrap 0 = 0 := by decide
  have hv : ((6 : Int)) % 6 = 0 := by decide
  rw [rounds_succ]
  go_wp2_with fail
  go_region_held3 (fun U => U.cell? ⟨w.heap.size + 1 + 1 + 1, 0, none⟩ = some (.int .i64 x) ∧ U.cell? ⟨w.heap.size + 1 + 1 + 1, 1, none⟩ = some (.int .i64 5)) (first | exact ⟨b0, b1⟩ | go_keep) (fail)
  go_wp2_with fail
  rw [← M1.out]
  clear b0 b1 cc cf hq hr hu hv
  generalize hV : (World.drew _ : World) = V1
  have r1 := Lib.hid (st_other (g := w.heap.size + 1 + 1 + 1 + 1) hV (by omega) R1.out)
  have r3 := Lib.hid (st_other (g := w.heap.size + 1 + 1 + 1 + 1) hV (by omega) R3.out)
  have r4 : Hid (V1.heap[(w.heap.size + 1 + 1 + 1 + 1 : Nat)]? = some (Obj.cells #[Value.int .i64 m1, Value.int .i64 0, Value.int .i64 0, Value.int .i64 0, Value.int .i64 0, Value.int .i64 m0] 28 (0, 0))) := Lib.hid (st_row hV R4.out)
  have hb := Lib.hid (st_below hV HB.out (by omega))
  clear hV R1 R3 R4 HB
  have R1 := r1
  have R3 := r3
  have R4 := r4
  have HB := hb
  clear r1 r3 r4 hb
  have b0 : V1.cell? ⟨w.heap.size + 1 + 1 + 1, 0, none⟩ = some (.int .i64 x) := cell_of_row _ _ 0 _ _ _ R3.out
  have b1 : V1.cell? ⟨w.heap.size + 1 + 1 + 1, 1, none⟩ = some (.int .i64 5) := cell_of_row _ _ 1 _ _ _ R3.out
  have cc : V1.cell? ⟨w.heap.size + 1 + 1 + 1 + 1, 1, none⟩ = some (.int .i64 0) := cell_of_row _ _ 1 _ _ _ R4.out
  have cf : V1.frozen? ⟨w.heap.size + 1 + 1 + 1 + 1, 1, none⟩ = false := frozen_of_row _ _ _ _ _ R4.out
  have hq : IntKind.i64.wrap 7 = 7 := by decide
  have hr : ((7 : Int)).tmod 6 = 1 := by decide
  have hu : IntKind.i64.wrap 1 = 1 := by decide
  have hv : ((7 : Int)) % 6 = 1 := by decide
  rw [rounds_succ]
  go_wp2_with fail
  go_region_held3 (fun U => U.cell? ⟨w.heap.size + 1 + 1 + 1, 0, none⟩ = some (.int .i64 x) ∧ U.cell? ⟨w.heap.size + 1 + 1 + 1, 1, none⟩ = some (.int .i64 5)) (first | exact ⟨b0, b1⟩ | go_keep) (fail)
  go_wp2_with fail
  rw [← M2.out]
  clear b0 b1 cc cf hq hr hu hv
  generalize hV : (World.drew _ : World) = V2
  have r1 := Lib.hid (st_other (g := w.heap.size + 1 + 1 + 1 + 1) hV (by omega) R1.out)
  have r3 := Lib.hid (st_other (g := w.heap.size + 1 + 1 + 1 + 1) hV (by omega) R3.out)
  have r4 : Hid (V2.heap[(w.heap.size + 1 + 1 + 1 + 1 : Nat)]? = some (Obj.cells #[Value.int .i64 m1, Value.int .i64 m2, Value.int .i64 0, Value.int .i64 0, Value.int .i64 0, Value.int .i64 m0] 28 (0, 0))) := Lib.hid (st_row hV R4.out)
  have hb := Lib.hid (st_below hV HB.out (by omega))
  clear hV R1 R3 R4 HB
  have R1 := r1
  have R3 := r3
  have R4 := r4
  have HB := hb
  clear r1 r3 r4 hb
  have b0 : V2.cell? ⟨w.heap.size + 1 + 1 + 1, 0, none⟩ = some (.int .i64 x) := cell_of_row _ _ 0 _ _ _ R3.out
  have b1 : V2.cell? ⟨w.heap.size + 1 + 1 + 1, 1, none⟩ = some (.int .i64 5) := cell_of_row _ _ 1 _ _ _ R3.out
  have cc : V2.cell? ⟨w.heap.size + 1 + 1 + 1 + 1, 2, none⟩ = some (.int .i64 0) := cell_of_row _ _ 2 _ _ _ R4.out
  have cf : V2.frozen? ⟨w.heap.size + 1 + 1 + 1 + 1, 2, none⟩ = false := frozen_of_row _ _ _ _ _ R4.out
  have hq : IntKind.i64.wrap 8 = 8 := by decide
  have hr : ((8 : Int)).tmod 6 = 2 := by decide
  have hu : IntKind.i64.wrap 2 = 2 := by decide
  have hv : ((8 : Int)) % 6 = 2 := by decide
  rw [rounds_succ]
  go_wp2_with fail
  go_region_held3 (fun U => U.cell? ⟨w.heap.size + 1 + 1 + 1, 0, none⟩ = some (.int .i64 x) ∧ U.cell? ⟨w.heap.size + 1 + 1 + 1, 1, none⟩ = some (.int .i64 5)) (first | exact ⟨b0, b1⟩ | go_keep) (fail)
  go_wp2_with fail
  rw [← M3.out]
  clear b0 b1 cc cf hq hr hu hv
  generalize hV : (World.drew _ : World) = V3
  have r1 := Lib.hid (st_other (g := w.heap.size + 1 + 1 + 1 + 1) hV (by omega) R1.out)
  have r3 := Lib.hid (st_other (g := w.heap.size + 1 + 1 + 1 + 1) hV (by omega) R3.out)
  have r4 : Hid (V3.heap[(w.heap.size + 1 + 1 + 1 + 1 : Nat)]? = some (Obj.cells #[Value.int .i64 m1, Value.int .i64 m2, Value.int .i64 m3, Value.int .i64 0, Value.int .i64 0, Value.int .i64 m0] 28 (0, 0))) := Lib.hid (st_row hV R4.out)
  have hb := Lib.hid (st_below hV HB.out (by omega))
  clear hV R1 R3 R4 HB
  have R1 := r1
  have R3 := r3
  have R4 := r4
  have HB := hb
  clear r1 r3 r4 hb
  have b0 : V3.cell? ⟨w.heap.size + 1 + 1 + 1, 0, none⟩ = some (.int .i64 x) := cell_of_row _ _ 0 _ _ _ R3.out
  have b1 : V3.cell? ⟨w.heap.size + 1 + 1 + 1, 1, none⟩ = some (.int .i64 5) := cell_of_row _ _ 1 _ _ _ R3.out
  have cc : V3.cell? ⟨w.heap.size + 1 + 1 + 1 + 1, 3, none⟩ = some (.int .i64 0) := cell_of_row _ _ 3 _ _ _ R4.out
  have cf : V3.frozen? ⟨w.heap.size + 1 + 1 + 1 + 1, 3, none⟩ = false := frozen_of_row _ _ _ _ _ R4.out
  have hq : IntKind.i64.wrap 9 = 9 := by decide
  have hr : ((9 : Int)).tmod 6 = 3 := by decide
  have hu : IntKind.i64.wrap 3 = 3 := by decide
  have hv : ((9 : Int)) % 6 = 3 := by decide
  rw [rounds_succ]
  go_wp2_with fail
  go_region_held3 (fun U => U.cell? ⟨w.heap.size + 1 + 1 + 1, 0, none⟩ = some (.int .i64 x) ∧ U.cell? ⟨w.heap.size + 1 + 1 + 1, 1, none⟩ = some (.int .i64 5)) (first | exact ⟨b0, b1⟩ | go_keep) (fail)
  go_wp2_with fail
  rw [← M4.out]
  clear b0 b1 cc cf hq hr hu hv
  generalize hV : (World.drew _ : World) = V4
  have r1 := Lib.hid (st_other (g := w.heap.size + 1 + 1 + 1 + 1) hV (by omega) R1.out)
  have r3 := Lib.hid (st_other (g := w.heap.size + 1 + 1 + 1 + 1) hV (by omega) R3.out)
  have r4 : Hid (V4.heap[(w.heap.size + 1 + 1 + 1 + 1 : Nat)]? = some (Obj.cells #[Value.int .i64 m1, Value.int .i64 m2, Value.int .i64 m3, Value.int .i64 m4, Value.int .i64 0, Value.int .i64 m0] 28 (0, 0))) := Lib.hid (st_row hV R4.out)
  have hb := Lib.hid (st_below hV HB.out (by omega))
  clear hV R1 R3 R4 HB
  have R1 := r1
  have R3 := r3
  have R4 := r4
  have HB := hb
  clear r1 r3 r4 hb
  have b0 : V4.cell? ⟨w.heap.size + 1 + 1 + 1, 0, none⟩ = some (.int .i64 x) := cell_of_row _ _ 0 _ _ _ R3.out
  have b1 : V4.cell? ⟨w.heap.size + 1 + 1 + 1, 1, none⟩ = some (.int .i64 5) := cell_of_row _ _ 1 _ _ _ R3.out
  have cc : V4.cell? ⟨w.heap.size + 1 + 1 + 1 + 1, 4, none⟩ = some (.int .i64 0) := cell_of_row _ _ 4 _ _ _ R4.out
  have cf : V4.frozen? ⟨w.heap.size + 1 + 1 + 1 + 1, 4, none⟩ = false := frozen_of_row _ _ _ _ _ R4.out
  have hq : IntKind.i64.wrap 10 = 10 := by decide
  have hr : ((10 : Int)).tmod 6 = 4 := by decide
  have hu : IntKind.i64.wrap 4 = 4 := by decide
  have hv : ((10 : Int)) % 6 = 4 := by decide
  rw [rounds_succ]
  go_wp2_with fail
  go_region_held3 (fun U => U.cell? ⟨w.heap.size + 1 + 1 + 1, 0, none⟩ = some (.int .i64 x) ∧ U.cell? ⟨w.heap.size + 1 + 1 + 1, 1, none⟩ = some (.int .i64 5)) (first | exact ⟨b0, b1⟩ | go_keep) (fail)
  go_wp2_with fail
  rw [← M5.out]
  clear b0 b1 cc cf hq hr hu hv
  generalize hV : (World.drew _ : World) = V5
  have r1 := Lib.hid (st_other (g := w.heap.size + 1 + 1 + 1 + 1) hV (by omega) R1.out)
  have r3 := Lib.hid (st_other (g := w.heap.size + 1 + 1 + 1 + 1) hV (by omega) R3.out)
  have r4 : Hid (V5.heap[(w.heap.size + 1 + 1 + 1 + 1 : Nat)]? = some (Obj.cells #[Value.int .i64 m1, Value.int .i64 m2, Value.int .i64 m3, Value.int .i64 m4, Value.int .i64 m5, Value.int .i64 m0] 28 (0, 0))) := Lib.hid (st_row hV R4.out)
  have hb := Lib.hid (st_below hV HB.out (by omega))
  clear hV R1 R3 R4 HB
  have R1 := r1
  have R3 := r3
  have R4 := r4
  have HB := hb
  clear r1 r3 r4 hb
  rw [rounds_succ]
  have d0 : V5.cell? ⟨w.heap.size + 1 + 1 + 1 + 1, 0, none⟩ = some _ := cell_of_row _ _ 0 _ _ _ R4.out; have d1 : V5.cell? ⟨w.heap.size + 1 + 1 + 1 + 1, 1, none⟩ = some _ := cell_of_row _ _ 1 _ _ _ R4.out; have d2 : V5.cell? ⟨w.heap.size + 1 + 1 + 1 + 1, 2, none⟩ = some _ := cell_of_row _ _ 2 _ _ _ R4.out; have d3 : V5.cell? ⟨w.heap.size + 1 + 1 + 1 + 1, 3, none⟩ = some _ := cell_of_row _ _ 3 _ _ _ R4.out; have d4 : V5.cell? ⟨w.heap.size + 1 + 1 + 1 + 1, 4, none⟩ = some _ := cell_of_row _ _ 4 _ _ _ R4.out; have d5 : V5.cell? ⟨w.heap.size + 1 + 1 + 1 + 1, 5, none⟩ = some _ := cell_of_row _ _ 5 _ _ _ R4.out
  have n0 : V5.cell? ⟨w.heap.size + 1, 0, none⟩ = some _ := cell_of_row _ _ 0 _ _ _ R1.out; have n1 : V5.cell? ⟨w.heap.size + 1, 1, none⟩ = some _ := cell_of_row _ _ 1 _ _ _ R1.out; have n2 : V5.cell? ⟨w.heap.size + 1, 2, none⟩ = some _ := cell_of_row _ _ 2 _ _ _ R1.out; have n3 : V5.cell? ⟨w.heap.size + 1, 3, none⟩ = some _ := cell_of_row _ _ 3 _ _ _ R1.out; have n4 : V5.cell? ⟨w.heap.size + 1, 4, none⟩ = some _ := cell_of_row _ _ 4 _ _ _ R1.out; have n5 : V5.cell? ⟨w.heap.size + 1, 5, none⟩ = some _ := cell_of_row _ _ 5 _ _ _ R1.out
  have nf := fun j => frozen_of_row V5 _ j _ _ R1.out
  go_wp2_with fail
  refine bodyPost_ret (v := .agg #[.int .i64 m1, .int .i64 m2, .int .i64 m3, .int .i64 m4, .int .i64 m5, .int .i64 m0]) (by simp [results, Try.results212, go_sem, n0, n1, n2, n3, n4, n5]) rfl ⟨by rw [M0.out, M1.out, M2.out, M3.out, M4.out, M5.out], ?_⟩
  exact below6 HB.out (by omega)
end Go.Proofs.Ytnkjamdpafpcpaa
