/- CONTRACTS: sheets joined, shared and taken away as maps of cells; whether a print is part of a sheet or apart from it. -/
import Derived.Test.YtcjomhjgjdjigaaMc8
import Derived.Test.YtcjomhjgjdjigaaEq9
import Derived.Test.YtcjomhjgjdjigaaSz
import Derived.Deep.RegionHeld3
import Derived.WalkKit
import Derived.ProofKit
import Derived.OpenShut
import Derived.Lib.Hide
import Derived.WalkSpells
import Derived.Below
import Derived.BigQuiet
import Derived.LoopN
namespace Go.Proofs.Ytcjomhjgjdjigaa
open Go.ChangeShapes Go.WideShapes Go.ChangeAt Go.RowKit
set_option linter.unusedVariables false
theorem r6_an : ∀ (b0 b1 b2 b3 b4 b5 c0 c1 c2 c3 c4 c5 : Bool), bits .and .i64 (r6 b0 b1 b2 b3 b4 b5) (r6 c0 c1 c2 c3 c4 c5) = r6 (b0 && c0) (b1 && c1) (b2 && c2) (b3 && c3) (b4 && c4) (b5 && c5) := by decide +kernel
theorem r6_dn : ∀ (b0 b1 b2 b3 b4 b5 c0 c1 c2 c3 c4 c5 : Bool), bits .andNot .i64 (r6 b0 b1 b2 b3 b4 b5) (r6 c0 c1 c2 c3 c4 c5) = r6 (b0 && !c0) (b1 && !c1) (b2 && !c2) (b3 && !c3) (b4 && !c4) (b5 && !c5) := by decide +kernel
theorem r6_on : ∀ (b0 b1 b2 b3 b4 b5 c0 c1 c2 c3 c4 c5 : Bool), bits .or .i64 (r6 b0 b1 b2 b3 b4 b5) (r6 c0 c1 c2 c3 c4 c5) = r6 (b0 || c0) (b1 || c1) (b2 || c2) (b3 || c3) (b4 || c4) (b5 || c5) := by decide +kernel
theorem r6_nn : ∀ (b0 b1 b2 b3 b4 b5 : Bool), wrap64 (63 - r6 b0 b1 b2 b3 b4 b5) = r6 (!b0) (!b1) (!b2) (!b3) (!b4) (!b5) := by decide +kernel
theorem r6_z : ∀ (b0 b1 b2 b3 b4 b5 : Bool), (r6 b0 b1 b2 b3 b4 b5 == 0) = (!b0 && !b1 && !b2 && !b3 && !b4 && !b5) := by decide +kernel
def an8 (F G : Nat → Nat → Bool) : Nat → Nat → Bool := fun y x => F y x && G y x
def dn8 (F G : Nat → Nat → Bool) : Nat → Nat → Bool := fun y x => F y x && !G y x
def on8 (F G : Nat → Nat → Bool) : Nat → Nat → Bool := fun y x => F y x || G y x
def nn8 (F : Nat → Nat → Bool) : Nat → Nat → Bool := fun y x => !F y x
theorem ishared_8 (F G : Nat → Nat → Bool) (w : World) : Calls Try.prog 107 #[.agg #[.int .i64 (rowv (F 0)), .int .i64 (rowv (F 1)), .int .i64 (rowv (F 2)), .int .i64 (rowv (F 3)), .int .i64 (rowv (F 4)), .int .i64 (rowv (F 5))], .agg #[.int .i64 (rowv (G 0)), .int .i64 (rowv (G 1)), .int .i64 (rowv (G 2)), .int .i64 (rowv (G 3)), .int .i64 (rowv (G 4)), .int .i64 (rowv (G 5))]] w fun e w' => e = .returned (.agg #[.int .i64 (rowv (an8 F G 0)), .int .i64 (rowv (an8 F G 1)), .int .i64 (rowv (an8 F G 2)), .int .i64 (rowv (an8 F G 3)), .int .i64 (rowv (an8 F G 4)), .int .i64 (rowv (an8 F G 5))]) ∧ Below w.heap.size w w' := by
  refine (shared_any (rowv (F 0)) (rowv (F 1)) (rowv (F 2)) (rowv (F 3)) (rowv (F 4)) (rowv (F 5)) (rowv (G 0)) (rowv (G 1)) (rowv (G 2)) (rowv (G 3)) (rowv (G 4)) (rowv (G 5)) w).mono ?_
  rintro e w' ⟨rfl, hb⟩
  exact ⟨by simp only [rowv, r6_an]; rfl, hb⟩
theorem iwithout_8 (F G : Nat → Nat → Bool) (w : World) : Calls Try.prog 117 #[.agg #[.int .i64 (rowv (F 0)), .int .i64 (rowv (F 1)), .int .i64 (rowv (F 2)), .int .i64 (rowv (F 3)), .int .i64 (rowv (F 4)), .int .i64 (rowv (F 5))], .agg #[.int .i64 (rowv (G 0)), .int .i64 (rowv (G 1)), .int .i64 (rowv (G 2)), .int .i64 (rowv (G 3)), .int .i64 (rowv (G 4)), .int .i64 (rowv (G 5))]] w fun e w' => e = .returned (.agg #[.int .i64 (rowv (dn8 F G 0)), .int .i64 (rowv (dn8 F G 1)), .int .i64 (rowv (dn8 F G 2)), .int .i64 (rowv (dn8 F G 3)), .int .i64 (rowv (dn8 F G 4)), .int .i64 (rowv (dn8 F G 5))]) ∧ Below w.heap.size w w' := by
  refine (without_any (rowv (F 0)) (rowv (F 1)) (rowv (F 2)) (rowv (F 3)) (rowv (F 4)) (rowv (F 5)) (rowv (G 0)) (rowv (G 1)) (rowv (G 2)) (rowv (G 3)) (rowv (G 4)) (rowv (G 5)) w).mono ?_
  rintro e w' ⟨rfl, hb⟩
  exact ⟨by simp only [rowv, r6_dn]; rfl, hb⟩
theorem ijoined_8 (F G : Nat → Nat → Bool) (w : World) : Calls Try.prog 115 #[.agg #[.int .i64 (rowv (F 0)), .int .i64 (rowv (F 1)), .int .i64 (rowv (F 2)), .int .i64 (rowv (F 3)), .int .i64 (rowv (F 4)), .int .i64 (rowv (F 5))], .agg #[.int .i64 (rowv (G 0)), .int .i64 (rowv (G 1)), .int .i64 (rowv (G 2)), .int .i64 (rowv (G 3)), .int .i64 (rowv (G 4)), .int .i64 (rowv (G 5))]] w fun e w' => e = .returned (.agg #[.int .i64 (rowv (on8 F G 0)), .int .i64 (rowv (on8 F G 1)), .int .i64 (rowv (on8 F G 2)), .int .i64 (rowv (on8 F G 3)), .int .i64 (rowv (on8 F G 4)), .int .i64 (rowv (on8 F G 5))]) ∧ Below w.heap.size w w' := by
  refine (or_any (rowv (F 0)) (rowv (F 1)) (rowv (F 2)) (rowv (F 3)) (rowv (F 4)) (rowv (F 5)) (rowv (G 0)) (rowv (G 1)) (rowv (G 2)) (rowv (G 3)) (rowv (G 4)) (rowv (G 5)) w).mono ?_
  rintro e w' ⟨rfl, hb⟩
  exact ⟨by simp only [rowv, r6_on]; rfl, hb⟩
theorem sand_8 (F G : Nat → Nat → Bool) (w : World) : Calls Try.prog 94 #[.agg #[.int .i64 (rowv (F 0)), .int .i64 (rowv (F 1)), .int .i64 (rowv (F 2)), .int .i64 (rowv (F 3)), .int .i64 (rowv (F 4)), .int .i64 (rowv (F 5))], .agg #[.int .i64 (rowv (G 0)), .int .i64 (rowv (G 1)), .int .i64 (rowv (G 2)), .int .i64 (rowv (G 3)), .int .i64 (rowv (G 4)), .int .i64 (rowv (G 5))]] w fun e w' => e = .returned (.agg #[.int .i64 (rowv (an8 F G 0)), .int .i64 (rowv (an8 F G 1)), .int .i64 (rowv (an8 F G 2)), .int .i64 (rowv (an8 F G 3)), .int .i64 (rowv (an8 F G 4)), .int .i64 (rowv (an8 F G 5))]) ∧ Below w.heap.size w w' := by
  refine (l2and_any (rowv (F 0)) (rowv (F 1)) (rowv (F 2)) (rowv (F 3)) (rowv (F 4)) (rowv (F 5)) (rowv (G 0)) (rowv (G 1)) (rowv (G 2)) (rowv (G 3)) (rowv (G 4)) (rowv (G 5)) w).mono ?_
  rintro e w' ⟨rfl, hb⟩
  exact ⟨by simp only [rowv, r6_an]; rfl, hb⟩
theorem sor_8 (F G : Nat → Nat → Bool) (w : World) : Calls Try.prog 113 #[.agg #[.int .i64 (rowv (F 0)), .int .i64 (rowv (F 1)), .int .i64 (rowv (F 2)), .int .i64 (rowv (F 3)), .int .i64 (rowv (F 4)), .int .i64 (rowv (F 5))], .agg #[.int .i64 (rowv (G 0)), .int .i64 (rowv (G 1)), .int .i64 (rowv (G 2)), .int .i64 (rowv (G 3)), .int .i64 (rowv (G 4)), .int .i64 (rowv (G 5))]] w fun e w' => e = .returned (.agg #[.int .i64 (rowv (on8 F G 0)), .int .i64 (rowv (on8 F G 1)), .int .i64 (rowv (on8 F G 2)), .int .i64 (rowv (on8 F G 3)), .int .i64 (rowv (on8 F G 4)), .int .i64 (rowv (on8 F G 5))]) ∧ Below w.heap.size w w' := by
  refine (l2or_any (rowv (F 0)) (rowv (F 1)) (rowv (F 2)) (rowv (F 3)) (rowv (F 4)) (rowv (F 5)) (rowv (G 0)) (rowv (G 1)) (rowv (G 2)) (rowv (G 3)) (rowv (G 4)) (rowv (G 5)) w).mono ?_
  rintro e w' ⟨rfl, hb⟩
  exact ⟨by simp only [rowv, r6_on]; rfl, hb⟩
theorem snot_8 (F : Nat → Nat → Bool) (w : World) : Calls Try.prog 112 #[.agg #[.int .i64 (rowv (F 0)), .int .i64 (rowv (F 1)), .int .i64 (rowv (F 2)), .int .i64 (rowv (F 3)), .int .i64 (rowv (F 4)), .int .i64 (rowv (F 5))]] w fun e w' => e = .returned (.agg #[.int .i64 (rowv (nn8 F 0)), .int .i64 (rowv (nn8 F 1)), .int .i64 (rowv (nn8 F 2)), .int .i64 (rowv (nn8 F 3)), .int .i64 (rowv (nn8 F 4)), .int .i64 (rowv (nn8 F 5))]) ∧ Below w.heap.size w w' := by
  refine (l2not_any (rowv (F 0)) (rowv (F 1)) (rowv (F 2)) (rowv (F 3)) (rowv (F 4)) (rowv (F 5)) w).mono ?_
  rintro e w' ⟨rfl, hb⟩
  exact ⟨by simp only [rowv, r6_nn]; rfl, hb⟩
/-- Whether no cell is black. -/
def emp8 (H : Nat → Nat → Bool) : Bool := (rowv (H 0) == 0) && (rowv (H 1) == 0) && (rowv (H 2) == 0) && (rowv (H 3) == 0) && (rowv (H 4) == 0) && (rowv (H 5) == 0)
theorem emp8_iff (H : Nat → Nat → Bool) : emp8 H = true ↔ ∀ y x, y < 6 → x < 6 → H y x = false := by
  unfold emp8
  simp only [rowv, r6_z, Bool.and_eq_true, Bool.not_eq_true']
  constructor
  · rintro ⟨⟨⟨⟨⟨h0, h1⟩, h2⟩, h3⟩, h4⟩, h5⟩ y x hy hx
    rcases six_n hy with rfl | rfl | rfl | rfl | rfl | rfl <;> rcases six_n hx with rfl | rfl | rfl | rfl | rfl | rfl <;> simp_all
  · intro h
    refine ⟨⟨⟨⟨⟨?_, ?_⟩, ?_⟩, ?_⟩, ?_⟩, ?_⟩ <;> refine ⟨⟨⟨⟨⟨?_, ?_⟩, ?_⟩, ?_⟩, ?_⟩, ?_⟩ <;> exact h _ _ (by decide) (by decide)
theorem pc_pos : ∀ (n : Fin 64), (pc (n.val : Int) == 0) = ((n.val : Int) == 0) := by decide +kernel
theorem pc_row (g : Nat → Bool) : (pc (rowv g) = 0) ↔ (rowv g = 0) := by
  have h := row_in g
  obtain ⟨n, hn⟩ := Int.eq_ofNat_of_zero_le h.1
  have := pc_pos ⟨n, by omega⟩
  rw [hn]
  simp only [Bool.beq_eq_decide_eq, decide_eq_decide] at this
  exact this
/-- How many cells are black. -/
def cnt8 (H : Nat → Nat → Bool) : Int := pc (rowv (H 0)) + pc (rowv (H 1)) + pc (rowv (H 2)) + pc (rowv (H 3)) + pc (rowv (H 4)) + pc (rowv (H 5))
theorem cnt8_pos (H : Nat → Nat → Bool) : decide (0 < cnt8 H) = !emp8 H := by
  have b0 := pc_bd (row_in (H 0)); have b1 := pc_bd (row_in (H 1)); have b2 := pc_bd (row_in (H 2)); have b3 := pc_bd (row_in (H 3)); have b4 := pc_bd (row_in (H 4)); have b5 := pc_bd (row_in (H 5))
  have p0 := pc_row (H 0); have p1 := pc_row (H 1); have p2 := pc_row (H 2); have p3 := pc_row (H 3); have p4 := pc_row (H 4); have p5 := pc_row (H 5)
  cases e : emp8 H
  · simp only [Bool.not_false, decide_eq_true_eq]
    rcases Int.lt_or_le 0 (cnt8 H) with h | h
    · exact h
    · exfalso
      unfold cnt8 at h
      have : emp8 H = true := by
        unfold emp8
        simp only [Bool.and_eq_true, beq_iff_eq]
        exact ⟨⟨⟨⟨⟨p0.1 (by omega), p1.1 (by omega)⟩, p2.1 (by omega)⟩, p3.1 (by omega)⟩, p4.1 (by omega)⟩, p5.1 (by omega)⟩
      rw [this] at e
      cases e
  · simp only [Bool.not_true, decide_eq_false_iff_not]
    unfold emp8 at e
    simp only [Bool.and_eq_true, beq_iff_eq] at e
    obtain ⟨⟨⟨⟨⟨h0, h1⟩, h2⟩, h3⟩, h4⟩, h5⟩ := e
    unfold cnt8
    rw [h0, h1, h2, h3, h4, h5]
    decide
theorem scount_8 (H : Nat → Nat → Bool) (w : World) : Calls Try.prog 83 #[.agg #[.int .i64 (rowv (H 0)), .int .i64 (rowv (H 1)), .int .i64 (rowv (H 2)), .int .i64 (rowv (H 3)), .int .i64 (rowv (H 4)), .int .i64 (rowv (H 5))]] w fun e w' => e = .returned (.int .i64 (cnt8 H)) ∧ Below w.heap.size w w' :=
  l2count_any (rowv (H 0)) (rowv (H 1)) (rowv (H 2)) (rowv (H 3)) (rowv (H 4)) (rowv (H 5)) ⟨row_in _, row_in _, row_in _, row_in _, row_in _, row_in _⟩ w
theorem eqz_8 (H : Nat → Nat → Bool) (w : World) : (binOp .eql 36 (.agg #[.int .i64 (rowv (H 0)), .int .i64 (rowv (H 1)), .int .i64 (rowv (H 2)), .int .i64 (rowv (H 3)), .int .i64 (rowv (H 4)), .int .i64 (rowv (H 5))]) (.agg #[.int .i64 (0), .int .i64 (0), .int .i64 (0), .int .i64 (0), .int .i64 (0), .int .i64 (0)])).run Try.prog w = .ok (.bool (emp8 H)) w := eq26 (rowv (H 0)) (rowv (H 1)) (rowv (H 2)) (rowv (H 3)) (rowv (H 4)) (rowv (H 5)) 0 0 0 0 0 0 w
theorem SKq {w U : World} {k : Int} {f G : Nat → Nat → Bool} {x y : Nat} (h : KR 2 [(w.heap.size, pr9 k f x y), (w.heap.size + 1, o6 G)] w U) : U.cell? ⟨w.heap.size, 0, none⟩ = some (.int .i64 k) ∧ U.cell? ⟨w.heap.size, 1, none⟩ = some (.int .i64 (rowv (f 0))) ∧ U.cell? ⟨w.heap.size, 2, none⟩ = some (.int .i64 (rowv (f 1))) ∧ U.cell? ⟨w.heap.size, 3, none⟩ = some (.int .i64 (rowv (f 2))) ∧ U.cell? ⟨w.heap.size, 4, none⟩ = some (.int .i64 (rowv (f 3))) ∧ U.cell? ⟨w.heap.size, 5, none⟩ = some (.int .i64 (rowv (f 4))) ∧ U.cell? ⟨w.heap.size, 6, none⟩ = some (.int .i64 (rowv (f 5))) ∧ U.cell? ⟨w.heap.size, 7, none⟩ = some (.int .i64 (x : Int)) ∧ U.cell? ⟨w.heap.size, 8, none⟩ = some (.int .i64 (y : Int)) ∧ U.cell? ⟨w.heap.size + 1, 0, none⟩ = some (.int .i64 (rowv (G 0))) ∧ U.cell? ⟨w.heap.size + 1, 1, none⟩ = some (.int .i64 (rowv (G 1))) ∧ U.cell? ⟨w.heap.size + 1, 2, none⟩ = some (.int .i64 (rowv (G 2))) ∧ U.cell? ⟨w.heap.size + 1, 3, none⟩ = some (.int .i64 (rowv (G 3))) ∧ U.cell? ⟨w.heap.size + 1, 4, none⟩ = some (.int .i64 (rowv (G 4))) ∧ U.cell? ⟨w.heap.size + 1, 5, none⟩ = some (.int .i64 (rowv (G 5))) ∧ KR 2 [(w.heap.size, pr9 k f x y), (w.heap.size + 1, o6 G)] w U :=
  have h0 := fun j => cell_of_row U _ j _ _ _ (h.row (g := w.heap.size) (o := pr9 k f x y) (List.mem_cons_self ..))
  have h1 := fun j => cell_of_row U _ j _ _ _ (h.row (g := w.heap.size + 1) (o := o6 G) (List.mem_cons_of_mem _ (List.mem_cons_self ..)))
  ⟨h0 0, h0 1, h0 2, h0 3, h0 4, h0 5, h0 6, h0 7, h0 8, h1 0, h1 1, h1 2, h1 3, h1 4, h1 5, h⟩
set_option maxHeartbeats 1000000 in
theorem ipart_f (k : Int) (f G : Nat → Nat → Bool) {x y : Nat} (hx : x < 6) (hy : y < 6) (w : World) : Calls Try.prog 85 #[.agg #[.int .i64 k, .int .i64 (rowv (f 0)), .int .i64 (rowv (f 1)), .int .i64 (rowv (f 2)), .int .i64 (rowv (f 3)), .int .i64 (rowv (f 4)), .int .i64 (rowv (f 5)), .int .i64 (x : Int), .int .i64 (y : Int)], .agg #[.int .i64 (rowv (G 0)), .int .i64 (rowv (G 1)), .int .i64 (rowv (G 2)), .int .i64 (rowv (G 3)), .int .i64 (rowv (G 4)), .int .i64 (rowv (G 5))]] w fun e w' => e = .returned (.bool (emp8 (dn8 (sf x y f) G))) ∧ Below w.heap.size w w' := by
  have H1 := Lib.hid (isheet_f k f hx hy)
  have H2 := Lib.hid (iwithout_8 (sf x y f) G)
  have he := eqz_8 (dn8 (sf x y f) G)
  go_enter Try.func85, Try.ntmps85
  go_wp2_with fail
  generalize hW : (World.alloc _ _ : World) = W0
  have hk : KR 2 [(w.heap.size, pr9 k f x y), (w.heap.size + 1, o6 G)] w W0 := by
    rw [← hW]
    refine ⟨?_, by simp, by (repeat (first | exact Below.refl _ _ | assumption | refine Below.setCell ?_ (by first | (simp; done) | (simp; omega)) _ | refine Below.alloc ?_ (by first | (simp; done) | (simp; omega)) _ | refine Below.drew ?_))⟩
    intro p hp
    simp only [List.mem_cons, List.mem_nil_iff, or_false] at hp
    rcases hp with rfl | rfl
    · exact ⟨by simp, alloc_past (alloc_at rfl)⟩
    · exact ⟨by simp, alloc_at (by simp)⟩
  clear hW
  set_option maxRecDepth 8000 in
  go_region_held3 (fun U => U.cell? ⟨w.heap.size, 0, none⟩ = some (.int .i64 k) ∧ U.cell? ⟨w.heap.size, 1, none⟩ = some (.int .i64 (rowv (f 0))) ∧ U.cell? ⟨w.heap.size, 2, none⟩ = some (.int .i64 (rowv (f 1))) ∧ U.cell? ⟨w.heap.size, 3, none⟩ = some (.int .i64 (rowv (f 2))) ∧ U.cell? ⟨w.heap.size, 4, none⟩ = some (.int .i64 (rowv (f 3))) ∧ U.cell? ⟨w.heap.size, 5, none⟩ = some (.int .i64 (rowv (f 4))) ∧ U.cell? ⟨w.heap.size, 6, none⟩ = some (.int .i64 (rowv (f 5))) ∧ U.cell? ⟨w.heap.size, 7, none⟩ = some (.int .i64 (x : Int)) ∧ U.cell? ⟨w.heap.size, 8, none⟩ = some (.int .i64 (y : Int)) ∧ U.cell? ⟨w.heap.size + 1, 0, none⟩ = some (.int .i64 (rowv (G 0))) ∧ U.cell? ⟨w.heap.size + 1, 1, none⟩ = some (.int .i64 (rowv (G 1))) ∧ U.cell? ⟨w.heap.size + 1, 2, none⟩ = some (.int .i64 (rowv (G 2))) ∧ U.cell? ⟨w.heap.size + 1, 3, none⟩ = some (.int .i64 (rowv (G 3))) ∧ U.cell? ⟨w.heap.size + 1, 4, none⟩ = some (.int .i64 (rowv (G 4))) ∧ U.cell? ⟨w.heap.size + 1, 5, none⟩ = some (.int .i64 (rowv (G 5))) ∧ KR 2 [(w.heap.size, pr9 k f x y), (w.heap.size + 1, o6 G)] w U) (with_reducible refine SKq ?_; (first | with_reducible assumption | (with_reducible refine KR.drew ?_; with_reducible assumption))) (first | (go_at_call 95; with_reducible refine (H1.out _).mono ?_; rintro e w' ⟨rfl, hb'⟩; have hk : KR 2 [(w.heap.size, pr9 k f x y), (w.heap.size + 1, o6 G)] w w' := KR.far (by (first | with_reducible assumption | (with_reducible refine KR.drew ?_; with_reducible assumption))) hb' rfl) | (go_at_call 117; with_reducible refine (H2.out _).mono ?_; rintro e w' ⟨rfl, hb'⟩; have hk : KR 2 [(w.heap.size, pr9 k f x y), (w.heap.size + 1, o6 G)] w w' := KR.far (by (first | with_reducible assumption | (with_reducible refine KR.drew ?_; with_reducible assumption))) hb' rfl))
  all_goals
    clear H1 H2 he
    go_wp2_with fail
    go_ret
    exact ⟨rfl, hk.2.2⟩
set_option maxHeartbeats 1000000 in
theorem iapart_f (k : Int) (f G : Nat → Nat → Bool) {x y : Nat} (hx : x < 6) (hy : y < 6) (w : World) : Calls Try.prog 87 #[.agg #[.int .i64 k, .int .i64 (rowv (f 0)), .int .i64 (rowv (f 1)), .int .i64 (rowv (f 2)), .int .i64 (rowv (f 3)), .int .i64 (rowv (f 4)), .int .i64 (rowv (f 5)), .int .i64 (x : Int), .int .i64 (y : Int)], .agg #[.int .i64 (rowv (G 0)), .int .i64 (rowv (G 1)), .int .i64 (rowv (G 2)), .int .i64 (rowv (G 3)), .int .i64 (rowv (G 4)), .int .i64 (rowv (G 5))]] w fun e w' => e = .returned (.bool (emp8 (an8 (sf x y f) G))) ∧ Below w.heap.size w w' := by
  have H1 := Lib.hid (isheet_f k f hx hy)
  have H2 := Lib.hid (ishared_8 (sf x y f) G)
  have he := eqz_8 (an8 (sf x y f) G)
  go_enter Try.func87, Try.ntmps87
  go_wp2_with fail
  generalize hW : (World.alloc _ _ : World) = W0
  have hk : KR 2 [(w.heap.size, pr9 k f x y), (w.heap.size + 1, o6 G)] w W0 := by
    rw [← hW]
    refine ⟨?_, by simp, by (repeat (first | exact Below.refl _ _ | assumption | refine Below.setCell ?_ (by first | (simp; done) | (simp; omega)) _ | refine Below.alloc ?_ (by first | (simp; done) | (simp; omega)) _ | refine Below.drew ?_))⟩
    intro p hp
    simp only [List.mem_cons, List.mem_nil_iff, or_false] at hp
    rcases hp with rfl | rfl
    · exact ⟨by simp, alloc_past (alloc_at rfl)⟩
    · exact ⟨by simp, alloc_at (by simp)⟩
  clear hW
  set_option maxRecDepth 8000 in
  go_region_held3 (fun U => U.cell? ⟨w.heap.size, 0, none⟩ = some (.int .i64 k) ∧ U.cell? ⟨w.heap.size, 1, none⟩ = some (.int .i64 (rowv (f 0))) ∧ U.cell? ⟨w.heap.size, 2, none⟩ = some (.int .i64 (rowv (f 1))) ∧ U.cell? ⟨w.heap.size, 3, none⟩ = some (.int .i64 (rowv (f 2))) ∧ U.cell? ⟨w.heap.size, 4, none⟩ = some (.int .i64 (rowv (f 3))) ∧ U.cell? ⟨w.heap.size, 5, none⟩ = some (.int .i64 (rowv (f 4))) ∧ U.cell? ⟨w.heap.size, 6, none⟩ = some (.int .i64 (rowv (f 5))) ∧ U.cell? ⟨w.heap.size, 7, none⟩ = some (.int .i64 (x : Int)) ∧ U.cell? ⟨w.heap.size, 8, none⟩ = some (.int .i64 (y : Int)) ∧ U.cell? ⟨w.heap.size + 1, 0, none⟩ = some (.int .i64 (rowv (G 0))) ∧ U.cell? ⟨w.heap.size + 1, 1, none⟩ = some (.int .i64 (rowv (G 1))) ∧ U.cell? ⟨w.heap.size + 1, 2, none⟩ = some (.int .i64 (rowv (G 2))) ∧ U.cell? ⟨w.heap.size + 1, 3, none⟩ = some (.int .i64 (rowv (G 3))) ∧ U.cell? ⟨w.heap.size + 1, 4, none⟩ = some (.int .i64 (rowv (G 4))) ∧ U.cell? ⟨w.heap.size + 1, 5, none⟩ = some (.int .i64 (rowv (G 5))) ∧ KR 2 [(w.heap.size, pr9 k f x y), (w.heap.size + 1, o6 G)] w U) (with_reducible refine SKq ?_; (first | with_reducible assumption | (with_reducible refine KR.drew ?_; with_reducible assumption))) (first | (go_at_call 95; with_reducible refine (H1.out _).mono ?_; rintro e w' ⟨rfl, hb'⟩; have hk : KR 2 [(w.heap.size, pr9 k f x y), (w.heap.size + 1, o6 G)] w w' := KR.far (by (first | with_reducible assumption | (with_reducible refine KR.drew ?_; with_reducible assumption))) hb' rfl) | (go_at_call 107; with_reducible refine (H2.out _).mono ?_; rintro e w' ⟨rfl, hb'⟩; have hk : KR 2 [(w.heap.size, pr9 k f x y), (w.heap.size + 1, o6 G)] w w' := KR.far (by (first | with_reducible assumption | (with_reducible refine KR.drew ?_; with_reducible assumption))) hb' rfl))
  all_goals
    clear H1 H2 he
    go_wp2_with fail
    go_ret
    exact ⟨rfl, hk.2.2⟩
theorem ipart_p {p : Pn} (h : okR p = true) (G : Nat → Nat → Bool) (w : World) : Calls Try.prog 85 #[.agg (p.cells).toArray, .agg #[.int .i64 (rowv (G 0)), .int .i64 (rowv (G 1)), .int .i64 (rowv (G 2)), .int .i64 (rowv (G 3)), .int .i64 (rowv (G 4)), .int .i64 (rowv (G 5))]] w fun e w' => e = .returned (.bool (emp8 (dn8 (gsP p) G))) ∧ Below w.heap.size w w' := by
  obtain ⟨hc, hx, hy, _⟩ := okR_form h
  rw [hc]
  exact ipart_f p.k _ G hx hy w
theorem iapart_p {p : Pn} (h : okR p = true) (G : Nat → Nat → Bool) (w : World) : Calls Try.prog 87 #[.agg (p.cells).toArray, .agg #[.int .i64 (rowv (G 0)), .int .i64 (rowv (G 1)), .int .i64 (rowv (G 2)), .int .i64 (rowv (G 3)), .int .i64 (rowv (G 4)), .int .i64 (rowv (G 5))]] w fun e w' => e = .returned (.bool (emp8 (an8 (gsP p) G))) ∧ Below w.heap.size w w' := by
  obtain ⟨hc, hx, hy, _⟩ := okR_form h
  rw [hc]
  exact iapart_f p.k _ G hx hy w
end Go.Proofs.Ytcjomhjgjdjigaa
