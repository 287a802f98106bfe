/- MERGED, for one claim's sake: Tt9, Tu9, Pt9, Ph9. -/
import Derived.Test.YthphkhcppljdlaaTv9
import Derived.Test.YthphkhcppljdlaaTd9
import Derived.Test.YthphkhcppljdlaaMx7
import Derived.Test.YthphkhcppljdlaaQ7
import Derived.Test.YthphkhcppljdlaaFs
import Derived.Test.YthphkhcppljdlaaPb
import Derived.RegionTactic
import Derived.Deep.RegionHeld3
import Derived.WalkKit
import Derived.ProofKit
import Derived.OpenShut
import Derived.Lib.Hide
import Derived.WalkSpells
import Derived.Below
import Derived.BigQuiet
import Derived.LoopN
namespace Go.Proofs.Ythphkhcppljdlaa
open Go.ChangeShapes Go.WideShapes Go.ChangeAt Go.RowKit
set_option linter.unusedVariables false
/- Tt9 -/
set_option maxHeartbeats 2000000 in
theorem commonat_go (a0 a1 a2 a3 a4 a5 : Int) (b0 b1 b2 b3 b4 b5 : Int) (x y : Int) (p0 p1 p2 p3 p4 p5 : Int) (q0 q1 q2 q3 q4 q5 : Int) (fd : Nat) (h : Int) (H1 : Hid (∀ w, Calls Try.prog 168 #[.agg #[.int .i64 b0, .int .i64 b1, .int .i64 b2, .int .i64 b3, .int .i64 b4, .int .i64 b5], .agg #[.int .i64 x, .int .i64 y]] w fun e w' => e = .returned (.agg #[.int .i64 p0, .int .i64 p1, .int .i64 p2, .int .i64 p3, .int .i64 p4, .int .i64 p5]) ∧ Below w.heap.size w w'))(H2 : Hid (∀ w, Calls Try.prog 132 #[.agg #[.int .i64 a0, .int .i64 a1, .int .i64 a2, .int .i64 a3, .int .i64 a4, .int .i64 a5], .agg #[.int .i64 p0, .int .i64 p1, .int .i64 p2, .int .i64 p3, .int .i64 p4, .int .i64 p5]] w fun e w' => e = .returned (.agg #[.int .i64 q0, .int .i64 q1, .int .i64 q2, .int .i64 q3, .int .i64 q4, .int .i64 q5]) ∧ Below w.heap.size w w'))(H3 : Hid (∀ w, Calls Try.prog 103 #[.agg #[.int .i64 q0, .int .i64 q1, .int .i64 q2, .int .i64 q3, .int .i64 q4, .int .i64 q5]] w fun e w' => e = .returned (.int .u64 (fd : Int)) ∧ Below w.heap.size w w'))(H4 : Hid (∀ w, Calls Try.prog 104 #[.int .u64 (fd : Int)] w fun e w' => e = .returned (.int .i64 h) ∧ Below w.heap.size w w')) (w : World) : Calls Try.prog 106 #[.agg #[.int .i64 a0, .int .i64 a1, .int .i64 a2, .int .i64 a3, .int .i64 a4, .int .i64 a5], .agg #[.int .i64 b0, .int .i64 b1, .int .i64 b2, .int .i64 b3, .int .i64 b4, .int .i64 b5], .agg #[.int .i64 x, .int .i64 y]] w fun e w' => e = .returned (.int .i64 h) ∧ Below w.heap.size w w' := by
  go_enter Try.func106, Try.ntmps106
  go_wp2_with fail
  generalize hW : (World.alloc _ _ : World) = W0
  have q0 : W0.heap[(w.heap.size : Nat)]? = some (Obj.cells #[.int .i64 a0, .int .i64 a1, .int .i64 a2, .int .i64 a3, .int .i64 a4, .int .i64 a5] 28 (0, 0)) := by
    rw [← hW]
    repeat (first | (refine alloc_at ?_; first | (simp; done) | (simp; omega)) | refine drew_row ?_ | refine alloc_past ?_ | assumption)
  have q1 : W0.heap[(w.heap.size + 1 : Nat)]? = some (Obj.cells #[.int .i64 b0, .int .i64 b1, .int .i64 b2, .int .i64 b3, .int .i64 b4, .int .i64 b5] 28 (0, 0)) := by
    rw [← hW]
    repeat (first | (refine alloc_at ?_; first | (simp; done) | (simp; omega)) | refine drew_row ?_ | refine alloc_past ?_ | assumption)
  have q2 : W0.heap[(w.heap.size + 2 : Nat)]? = some (Obj.cells #[.int .i64 x, .int .i64 y] 25 (0, 0)) := by
    rw [← hW]
    repeat (first | (refine alloc_at ?_; first | (simp; done) | (simp; omega)) | refine drew_row ?_ | refine alloc_past ?_ | assumption)
  have hk : KR 3 [(w.heap.size, Obj.cells #[.int .i64 a0, .int .i64 a1, .int .i64 a2, .int .i64 a3, .int .i64 a4, .int .i64 a5] 28 (0, 0)), (w.heap.size + 1, Obj.cells #[.int .i64 b0, .int .i64 b1, .int .i64 b2, .int .i64 b3, .int .i64 b4, .int .i64 b5] 28 (0, 0)), (w.heap.size + 2, Obj.cells #[.int .i64 x, .int .i64 y] 25 (0, 0))] w W0 := ⟨by simp [q0, q1, q2], by rw [← hW]; simp, by rw [← hW]; (repeat (first | exact Below.refl _ _ | assumption | refine Below.setCell ?_ (by first | (simp; done) | (simp; omega)) _ | refine Below.alloc ?_ (by first | (simp; done) | (simp; omega)) _ | refine Below.drew ?_))⟩
  clear hW q0 q1 q2
  have r0_c := fun j => cell_of_row W0 _ j _ _ _ (hk.row (g := w.heap.size) (List.mem_cons_self ..))
  have r1_c := fun j => cell_of_row W0 _ j _ _ _ (hk.row (g := w.heap.size + 1) (List.mem_cons_of_mem _ (List.mem_cons_self ..)))
  have r2_c := fun j => cell_of_row W0 _ j _ _ _ (hk.row (g := w.heap.size + 2) (List.mem_cons_of_mem _ (List.mem_cons_of_mem _ (List.mem_cons_self ..))))
  go_wp2_with fail
  clear r0_c r1_c r2_c
  have hz0 := KR.le hk
  set_option maxRecDepth 8000 in
  go_region_held3 (fun U => U.cell? ⟨w.heap.size, 0, none⟩ = some (.int .i64 a0) ∧ U.cell? ⟨w.heap.size, 1, none⟩ = some (.int .i64 a1) ∧ U.cell? ⟨w.heap.size, 2, none⟩ = some (.int .i64 a2) ∧ U.cell? ⟨w.heap.size, 3, none⟩ = some (.int .i64 a3) ∧ U.cell? ⟨w.heap.size, 4, none⟩ = some (.int .i64 a4) ∧ U.cell? ⟨w.heap.size, 5, none⟩ = some (.int .i64 a5) ∧ U.cell? ⟨w.heap.size + 1, 0, none⟩ = some (.int .i64 b0) ∧ U.cell? ⟨w.heap.size + 1, 1, none⟩ = some (.int .i64 b1) ∧ U.cell? ⟨w.heap.size + 1, 2, none⟩ = some (.int .i64 b2) ∧ U.cell? ⟨w.heap.size + 1, 3, none⟩ = some (.int .i64 b3) ∧ U.cell? ⟨w.heap.size + 1, 4, none⟩ = some (.int .i64 b4) ∧ U.cell? ⟨w.heap.size + 1, 5, none⟩ = some (.int .i64 b5) ∧ U.cell? ⟨w.heap.size + 2, 0, none⟩ = some (.int .i64 x) ∧ U.cell? ⟨w.heap.size + 2, 1, none⟩ = some (.int .i64 y) ∧ KR 3 [(w.heap.size, Obj.cells #[.int .i64 a0, .int .i64 a1, .int .i64 a2, .int .i64 a3, .int .i64 a4, .int .i64 a5] 28 (0, 0)), (w.heap.size + 1, Obj.cells #[.int .i64 b0, .int .i64 b1, .int .i64 b2, .int .i64 b3, .int .i64 b4, .int .i64 b5] 28 (0, 0)), (w.heap.size + 2, Obj.cells #[.int .i64 x, .int .i64 y] 25 (0, 0))] w U) (with_reducible refine SR3 ?_; (repeat (first | with_reducible assumption | with_reducible refine KR.al ?_ | with_reducible refine KR.drew ?_ | with_reducible refine KR.set ?_ (by first | omega | (simp; omega))))) (first | (go_at_call 168; with_reducible refine (H1.out _).mono ?_; rintro e w' ⟨rfl, hb'⟩; have hk : KR 3 [(w.heap.size, Obj.cells #[.int .i64 a0, .int .i64 a1, .int .i64 a2, .int .i64 a3, .int .i64 a4, .int .i64 a5] 28 (0, 0)), (w.heap.size + 1, Obj.cells #[.int .i64 b0, .int .i64 b1, .int .i64 b2, .int .i64 b3, .int .i64 b4, .int .i64 b5] 28 (0, 0)), (w.heap.size + 2, Obj.cells #[.int .i64 x, .int .i64 y] 25 (0, 0))] w w' := KR.far (by (repeat (first | with_reducible assumption | with_reducible refine KR.al ?_ | with_reducible refine KR.drew ?_ | with_reducible refine KR.set ?_ (by first | omega | (simp; omega))))) hb' rfl; have hz0 := KR.le hk) | (go_at_call 132; with_reducible refine (H2.out _).mono ?_; rintro e w' ⟨rfl, hb'⟩; have hk : KR 3 [(w.heap.size, Obj.cells #[.int .i64 a0, .int .i64 a1, .int .i64 a2, .int .i64 a3, .int .i64 a4, .int .i64 a5] 28 (0, 0)), (w.heap.size + 1, Obj.cells #[.int .i64 b0, .int .i64 b1, .int .i64 b2, .int .i64 b3, .int .i64 b4, .int .i64 b5] 28 (0, 0)), (w.heap.size + 2, Obj.cells #[.int .i64 x, .int .i64 y] 25 (0, 0))] w w' := KR.far (by (repeat (first | with_reducible assumption | with_reducible refine KR.al ?_ | with_reducible refine KR.drew ?_ | with_reducible refine KR.set ?_ (by first | omega | (simp; omega))))) hb' rfl; have hz0 := KR.le hk) | (go_at_call 103; with_reducible refine (H3.out _).mono ?_; rintro e w' ⟨rfl, hb'⟩; have hk : KR 3 [(w.heap.size, Obj.cells #[.int .i64 a0, .int .i64 a1, .int .i64 a2, .int .i64 a3, .int .i64 a4, .int .i64 a5] 28 (0, 0)), (w.heap.size + 1, Obj.cells #[.int .i64 b0, .int .i64 b1, .int .i64 b2, .int .i64 b3, .int .i64 b4, .int .i64 b5] 28 (0, 0)), (w.heap.size + 2, Obj.cells #[.int .i64 x, .int .i64 y] 25 (0, 0))] w w' := KR.far (by (repeat (first | with_reducible assumption | with_reducible refine KR.al ?_ | with_reducible refine KR.drew ?_ | with_reducible refine KR.set ?_ (by first | omega | (simp; omega))))) hb' rfl; have hz0 := KR.le hk) | (go_at_call 104; with_reducible refine (H4.out _).mono ?_; rintro e w' ⟨rfl, hb'⟩; have hk : KR 3 [(w.heap.size, Obj.cells #[.int .i64 a0, .int .i64 a1, .int .i64 a2, .int .i64 a3, .int .i64 a4, .int .i64 a5] 28 (0, 0)), (w.heap.size + 1, Obj.cells #[.int .i64 b0, .int .i64 b1, .int .i64 b2, .int .i64 b3, .int .i64 b4, .int .i64 b5] 28 (0, 0)), (w.heap.size + 2, Obj.cells #[.int .i64 x, .int .i64 y] 25 (0, 0))] w w' := KR.far (by (repeat (first | with_reducible assumption | with_reducible refine KR.al ?_ | with_reducible refine KR.drew ?_ | with_reducible refine KR.set ?_ (by first | omega | (simp; omega))))) hb' rfl; have hz0 := KR.le hk))
  all_goals
    have r0_c := fun j => cell_of_row w' _ j _ _ _ (hk.row (g := w.heap.size) (List.mem_cons_self ..))
    have r1_c := fun j => cell_of_row w' _ j _ _ _ (hk.row (g := w.heap.size + 1) (List.mem_cons_of_mem _ (List.mem_cons_self ..)))
    have r2_c := fun j => cell_of_row w' _ j _ _ _ (hk.row (g := w.heap.size + 2) (List.mem_cons_of_mem _ (List.mem_cons_of_mem _ (List.mem_cons_self ..))))
    go_wp2_with fail
    go_ret
    exact ⟨rfl, hk.2.2⟩
/-- How many cells a sheet has in common with a stamp that is shifted to a cell. -/
def cn9 (f g : Fn6) (x y : Nat) : Nat := (pc36 (af f (sf x y g))).toNat
theorem cn9_eq (f g : Fn6) (x y : Nat) : pc36 (af f (sf x y g)) = ((cn9 f g x y : Nat) : Int) ∧ cn9 f g x y < 37 := by
  have := pc36_bd (af f (sf x y g))
  unfold cn9
  omega
theorem commonat_f (f g : Fn6) {x y : Nat} (hx : x < 6) (hy : y < 6) (w : World) : Calls Try.prog 106 #[.agg #[.int .i64 (rowv (f 0)), .int .i64 (rowv (f 1)), .int .i64 (rowv (f 2)), .int .i64 (rowv (f 3)), .int .i64 (rowv (f 4)), .int .i64 (rowv (f 5))], .agg #[.int .i64 (rowv (g 0)), .int .i64 (rowv (g 1)), .int .i64 (rowv (g 2)), .int .i64 (rowv (g 3)), .int .i64 (rowv (g 4)), .int .i64 (rowv (g 5))], .agg #[.int .i64 (x : Int), .int .i64 (y : Int)]] w fun e w' => e = .returned (.int .i64 ((cn9 f g x y : Nat) : Int)) ∧ Below w.heap.size w w' :=
  commonat_go (rowv (f 0)) (rowv (f 1)) (rowv (f 2)) (rowv (f 3)) (rowv (f 4)) (rowv (f 5)) (rowv (g 0)) (rowv (g 1)) (rowv (g 2)) (rowv (g 3)) (rowv (g 4)) (rowv (g 5)) (x : Int) (y : Int) (rowv (sf x y g 0)) (rowv (sf x y g 1)) (rowv (sf x y g 2)) (rowv (sf x y g 3)) (rowv (sf x y g 4)) (rowv (sf x y g 5)) (rowv (af f (sf x y g) 0)) (rowv (af f (sf x y g) 1)) (rowv (af f (sf x y g) 2)) (rowv (af f (sf x y g) 3)) (rowv (af f (sf x y g) 4)) (rowv (af f (sf x y g) 5)) (fd36 (af f (sf x y g))) _ (Lib.hid (shiftedby_n g hx hy)) (Lib.hid (ishared_f f (sf x y g))) (Lib.hid (fieldof_s (af f (sf x y g)))) (Lib.hid (fun w => (cn9_eq f g x y).1 ▸ fsize_s (af f (sf x y g)) w)) w
theorem KR.one {n : Nat} {l : List (Nat × Obj)} {w U : World} {g k : Nat} {o o' : Obj} {v : Value} (h : KR n ((g, o) :: l) w U) (hl : ∀ p ∈ l, p.1 ≠ g) (hg : w.heap.size ≤ g) (hr : (U.setCell ⟨g, k, none⟩ v).heap[g]? = some o') : KR n ((g, o') :: l) w (U.setCell ⟨g, k, none⟩ v) := by
  refine ⟨fun p hp => ?_, by simpa using h.2.1, h.2.2.setCell hg _⟩
  rcases List.mem_cons.mp hp with rfl | hp
  · exact ⟨(h.1 _ (List.mem_cons_self ..)).1, hr⟩
  · refine ⟨(h.1 _ (List.mem_cons_of_mem _ hp)).1, ?_⟩
    rw [Below.heap_setCell _ _ _ _ (hl p hp)]
    exact (h.1 _ (List.mem_cons_of_mem _ hp)).2
set_option maxRecDepth 20000 in
set_option maxHeartbeats 4000000 in
theorem itable_yes (f g : Fn6) (H0 : Hid (∀ w, Calls Try.prog 102 #[.agg #[.int .i64 (rowv (f 0)), .int .i64 (rowv (f 1)), .int .i64 (rowv (f 2)), .int .i64 (rowv (f 3)), .int .i64 (rowv (f 4)), .int .i64 (rowv (f 5))]] w fun e w' => e = .returned (.bool true) ∧ Below w.heap.size w w'))(H1 : Hid (∀ w, Calls Try.prog 102 #[.agg #[.int .i64 (rowv (g 0)), .int .i64 (rowv (g 1)), .int .i64 (rowv (g 2)), .int .i64 (rowv (g 3)), .int .i64 (rowv (g 4)), .int .i64 (rowv (g 5))]] w fun e w' => e = .returned (.bool true) ∧ Below w.heap.size w w')) (w : World) : Calls Try.prog 43 #[.agg #[.int .i64 (rowv (f 0)), .int .i64 (rowv (f 1)), .int .i64 (rowv (f 2)), .int .i64 (rowv (f 3)), .int .i64 (rowv (f 4)), .int .i64 (rowv (f 5))], .agg #[.int .i64 (rowv (g 0)), .int .i64 (rowv (g 1)), .int .i64 (rowv (g 2)), .int .i64 (rowv (g 3)), .int .i64 (rowv (g 4)), .int .i64 (rowv (g 5))]] w fun e w' => e = .returned (.tuple #[tv (ht9 (fun k => cn9 f g (k / 6) (k % 6)) 36), .bool true]) ∧ Below w.heap.size w w' := by
  have HV := Lib.hid vectors_f
  go_enter Try.func43, Try.ntmps43
  go_wp2_with (first | ((with_reducible refine wpAlT (w.heap.size + 2) ?_ ?_); (simp; done)) | ((with_reducible refine wpAlT (w.heap.size + 3) ?_ ?_); (simp; done)))
  generalize hW : (World.alloc _ _ : World) = W0
  have q0 : W0.heap[(w.heap.size : Nat)]? = some (o6 f) := by
    rw [← hW]
    repeat (first | (refine alloc_at ?_; first | (simp; done) | (simp; omega)) | refine drew_row ?_ | refine alloc_past ?_ | assumption)
  have q1 : W0.heap[(w.heap.size + 1 : Nat)]? = some (o6 g) := by
    rw [← hW]
    repeat (first | (refine alloc_at ?_; first | (simp; done) | (simp; omega)) | refine drew_row ?_ | refine alloc_past ?_ | assumption)
  have q2 : W0.heap[(w.heap.size + 2 : Nat)]? = some (tb 37 fun _ => 0) := by
    rw [← hW]
    repeat (first | (refine alloc_at ?_; first | (simp; done) | (simp; omega)) | refine drew_row ?_ | refine alloc_past ?_ | assumption)
  have q3 : W0.heap[(w.heap.size + 3 : Nat)]? = some (tb 37 fun _ => 0) := by
    rw [← hW]
    repeat (first | (refine alloc_at ?_; first | (simp; done) | (simp; omega)) | refine drew_row ?_ | refine alloc_past ?_ | assumption)
  have hk : KR 4 [(w.heap.size + 3, tb 37 (fun _ => 0)), (w.heap.size, o6 f), (w.heap.size + 1, o6 g), (w.heap.size + 2, tb 37 fun _ => 0)] w W0 := ⟨by simp [q0, q1, q2, q3], by rw [← hW]; simp, by rw [← hW]; (repeat (first | exact Below.refl _ _ | assumption | refine Below.setCell ?_ (by first | (simp; done) | (simp; omega)) _ | refine Below.alloc ?_ (by first | (simp; done) | (simp; omega)) _ | refine Below.drew ?_))⟩
  clear hW q0 q1 q2 q3
  have a_c := fun j => cell_of_row W0 _ j _ _ _ (hk.row (g := w.heap.size) (o := o6 f) (by simp))
  go_wp2_with fail
  refine (H0.out _).mono ?_
  rintro e W1 ⟨rfl, hb⟩
  have hk := hk.far hb rfl
  clear hb a_c
  have a_c := fun j => cell_of_row W1 _ j _ _ _ (hk.row (g := w.heap.size + 1) (o := o6 g) (by simp))
  go_wp2_with fail
  refine (H1.out _).mono ?_
  rintro e W2 ⟨rfl, hb⟩
  have hk := hk.far hb rfl
  clear hb a_c H0 H1
  go_wp2_with fail
  refine (HV.out _).mono ?_
  intro e W4 hp
  obtain ⟨gl, cl, rfl, ho, hb⟩ := LP.out hp
  have hl := (ho.lt gl rfl).1
  have ho0 := own_mono ho (Nat.zero_le _)
  have hz := KR.le hk
  have S4 : Hid (KR 4 [(w.heap.size + 3, tb 37 (fun _ => 0)), (w.heap.size, o6 f), (w.heap.size + 1, o6 g), (w.heap.size + 2, tb 37 fun _ => 0)] w W4 ∧ W4.ownsRow 0 25 2 (.slice (some ⟨gl, 0, none⟩) (vl 36).length cl) (vl 36).length (cv (vl 36)) ∧ w.heap.size + 3 ≠ gl) := Lib.hid ⟨hk.far hb rfl, ho0, by omega⟩
  clear hk ho0 hp hb HV hl ho hz
  have h36 : ((vl 36).length : Int) = 36 := by rw [vl_len]; rfl
  go_wp2_with fail
  go_loopw [20] (fun n wr => ∃ k : Nat, k ≤ 36 ∧ n = .int .i64 k ∧ Hid (KR 4 [(w.heap.size + 3, tb 37 (ht9 (fun k => cn9 f g (k / 6) (k % 6)) k)), (w.heap.size, o6 f), (w.heap.size + 1, o6 g), (w.heap.size + 2, tb 37 fun _ => 0)] w wr ∧ wr.ownsRow 0 25 2 (.slice (some ⟨gl, 0, none⟩) (vl 36).length cl) (vl 36).length (cv (vl 36)) ∧ w.heap.size + 3 ≠ gl)) (fun n _ => 36 - (intOf n).toNat)
  case atStart => exact ⟨0, by omega, rfl, S4⟩
  case round =>
    obtain ⟨k, hk, rfl, HS⟩ := hrel
    clear S4
    by_cases hlt : k < 36
    · have hlt' : (k : Int) < 36 := by omega
      have hltv : k < (vl 36).length := by rw [vl_len]; exact hlt
      have hk0 : (0 : Int) ≤ k := by omega
      have hx : k / 6 < 6 := by omega
      have hy : k % 6 < 6 := Nat.mod_lt _ (by decide)
      have HC := Lib.hid (commonat_f f g hx hy)
      obtain ⟨p1, p2⟩ := cv_at (vl 36) k hltv
      rw [vl_get 36 k hltv] at p1 p2
      have a1 := own_at HS.out.2.1 p1
      have a2 := own_at HS.out.2.1 p2
      dsimp only at a1 a2
      clear p1 p2
      have hbd := ht9_bd (fun k => cn9 f g (k / 6) (k % 6)) k (cn9 f g (k / 6) (k % 6))
      have hc37 := (cn9_eq f g (k / 6) (k % 6)).2
      have HST : Hid (uq (ht9 (fun k => cn9 f g (k / 6) (k % 6)) k) (cn9 f g (k / 6) (k % 6)) (ht9 (fun k => cn9 f g (k / 6) (k % 6)) k (cn9 f g (k / 6) (k % 6)) + 1) = ht9 (fun k => cn9 f g (k / 6) (k % 6)) (k + 1)) := Lib.hid rfl
      have hkr := HS.out.1
      have HO := Lib.hid HS.out.2
      clear HS
      generalize ht9 (fun k => cn9 f g (k / 6) (k % 6)) k = m at hkr HST hbd
      generalize cn9 f g (k / 6) (k % 6) = c at *
      generalize k / 6 = x at *
      generalize k % 6 = y at *
      have s_c := fun j => cell_of_row (wr.alloc (.cells #[.int .i64 (x : Int), .int .i64 (y : Int)] 25)) _ j _ _ _ (alloc_past (hkr.row (g := w.heap.size) (o := o6 f) (by simp)))
      have t_c := fun j => cell_of_row (wr.alloc (.cells #[.int .i64 (x : Int), .int .i64 (y : Int)] 25)) _ j _ _ _ (alloc_past (hkr.row (g := w.heap.size + 1) (o := o6 g) (by simp)))
      have n_c := fun j => cell_of_row (wr.alloc (.cells #[.int .i64 (x : Int), .int .i64 (y : Int)] 25)) _ j _ _ _ (alloc_at (g := wr.heap.size) rfl)
      go_wp2_with fail
      refine (HC.out _).mono ?_
      rintro e w1 ⟨rfl, hb⟩
      clear s_c t_c n_c a1 a2 HC
      have hk1 := (hkr.al (o := .cells #[.int .i64 (x : Int), .int .i64 (y : Int)] 25)).far hb rfl
      have ho1 := (HO.out.1.alloc (.cells #[.int .i64 (x : Int), .int .i64 (y : Int)] 25)).kept (grown_below hb rfl) (.inr (by simp [Value.ownBlock]))
      clear hb hkr
      have hrow := hk1.row (g := w.heap.size + 3) (o := tb 37 m) (List.mem_cons_self ..)
      have hcell : w1.cell? ⟨w.heap.size + 3, c, none⟩ = some (.int .i64 (m c)) := by rw [tb_cell hrow, if_pos hc37]
      have hfz : w1.frozen? ⟨w.heap.size + 3, c, none⟩ = false := tb_frozen hrow c
      have hci : (c : Int) < 37 := by omega
      have hc0 : (0 : Int) ≤ c := by omega
      obtain ⟨v, hv⟩ : ∃ v, v = m c + 1 := ⟨_, rfl⟩
      have hw : wrap64 (m c + 1) = v := by rw [hv]; exact wr9 (by omega) (by omega)
      rw [← hv] at HST
      have HP := Lib.hid (hk1.one (k := c) (v := .int .i64 v) (o' := tb 37 (uq m c v)) (by intro p hp; simp only [List.mem_cons, List.mem_nil_iff, or_false] at hp; rcases hp with rfl | rfl | rfl <;> (dsimp only; omega)) (by omega) (tb_set v hc37 hrow))
      have HQ := Lib.hid (ho1.kept (grow_set w1 ⟨w.heap.size + 3, c, none⟩ (.int .i64 v)) (.inr (by have := HO.out.2; simp only [Value.ownBlock, ne_eq, Option.some.injEq]; omega)))
      clear hk1 ho1 hrow hv hbd
      generalize m c = u at *
      go_wp2_with fail
      go_roundw
      case rel => exact ⟨k + 1, by omega, by go_num, Lib.hid ⟨by rw [← HST.out]; exact HP.out, HQ.out, HO.out.2⟩⟩
      case measure => simp [intOf]; omega
    · obtain rfl : k = 36 := by omega
      have hkr := HS.out.1
      clear HS
      obtain ⟨m, hm⟩ : ∃ m, m = ht9 (fun k => cn9 f g (k / 6) (k % 6)) 36 := ⟨_, rfl⟩
      rw [← hm] at hkr
      have HM := Lib.hid hm
      clear hm
      have q3 := hkr.row (g := w.heap.size + 3) (o := tb 37 m) (List.mem_cons_self ..)
      have q2 := hkr.row (g := w.heap.size + 2) (o := tb 37 fun _ => 0) (by simp)
      have hB := hkr.2.2
      clear hkr
      go_wp2_with (first | ((with_reducible refine wpL37 (w.heap.size + 3) 37 m q3 _ Try.underlying37 ?_ ?_ ?_ ?_); rfl; rfl; kernel_rfl) | ((with_reducible refine wpS37 (w.heap.size + 2) m 37 _ q2 ?_ ?_ ?_ ?_); rfl; rfl; kernel_rfl))
      have hr := tb_sets m q2
      have hB' := setCells_below (b := w.heap.size + 2) (cs37 m) 0 hB (by omega)
      clear q2 q3 hB
      generalize (World.setCells _ _ _ _ : World) = X at hr hB' ⊢
      exact bodyPost_ret (v := .tuple #[tv m, .bool true]) (res36b (a := 4) (b := 5) (t := 37) rfl rfl rfl (run_load37 hr _ _ Try.underlying37 rfl (by kernel_rfl))) rfl ⟨by rw [HM.out], hB'⟩
set_option maxRecDepth 20000 in
set_option maxHeartbeats 2000000 in
theorem itable_n0 (a0 a1 a2 a3 a4 a5 : Int) (b0 b1 b2 b3 b4 b5 : Int) (H0 : Hid (∀ w, Calls Try.prog 102 #[.agg #[.int .i64 a0, .int .i64 a1, .int .i64 a2, .int .i64 a3, .int .i64 a4, .int .i64 a5]] w fun e w' => e = .returned (.bool false) ∧ Below w.heap.size w w')) (w : World) : Calls Try.prog 43 #[.agg #[.int .i64 a0, .int .i64 a1, .int .i64 a2, .int .i64 a3, .int .i64 a4, .int .i64 a5], .agg #[.int .i64 b0, .int .i64 b1, .int .i64 b2, .int .i64 b3, .int .i64 b4, .int .i64 b5]] w fun e w' => e = .returned (.tuple #[tv fun _ => 0, .bool false]) ∧ Below w.heap.size w w' := by
  go_enter Try.func43, Try.ntmps43
  go_wp2_with (first | ((with_reducible refine wpAlT (w.heap.size + 2) ?_ ?_); (simp; done)) | ((with_reducible refine wpAlT (w.heap.size + 3) ?_ ?_); (simp; done)))
  generalize hW : (World.alloc _ _ : World) = W0
  have q0 : W0.heap[(w.heap.size : Nat)]? = some (Obj.cells #[.int .i64 a0, .int .i64 a1, .int .i64 a2, .int .i64 a3, .int .i64 a4, .int .i64 a5] 28 (0, 0)) := by
    rw [← hW]
    repeat (first | (refine alloc_at ?_; first | (simp; done) | (simp; omega)) | refine drew_row ?_ | refine alloc_past ?_ | assumption)
  have q1 : W0.heap[(w.heap.size + 1 : Nat)]? = some (Obj.cells #[.int .i64 b0, .int .i64 b1, .int .i64 b2, .int .i64 b3, .int .i64 b4, .int .i64 b5] 28 (0, 0)) := by
    rw [← hW]
    repeat (first | (refine alloc_at ?_; first | (simp; done) | (simp; omega)) | refine drew_row ?_ | refine alloc_past ?_ | assumption)
  have q2 : W0.heap[(w.heap.size + 2 : Nat)]? = some (tb 37 fun _ => 0) := by
    rw [← hW]
    repeat (first | (refine alloc_at ?_; first | (simp; done) | (simp; omega)) | refine drew_row ?_ | refine alloc_past ?_ | assumption)
  have q3 : W0.heap[(w.heap.size + 3 : Nat)]? = some (tb 37 fun _ => 0) := by
    rw [← hW]
    repeat (first | (refine alloc_at ?_; first | (simp; done) | (simp; omega)) | refine drew_row ?_ | refine alloc_past ?_ | assumption)
  have hk : KR 4 [(w.heap.size + 3, tb 37 fun _ => 0), (w.heap.size, Obj.cells #[.int .i64 a0, .int .i64 a1, .int .i64 a2, .int .i64 a3, .int .i64 a4, .int .i64 a5] 28 (0, 0)), (w.heap.size + 1, Obj.cells #[.int .i64 b0, .int .i64 b1, .int .i64 b2, .int .i64 b3, .int .i64 b4, .int .i64 b5] 28 (0, 0)), (w.heap.size + 2, tb 37 fun _ => 0)] w W0 := ⟨by simp [q0, q1, q2, q3], by rw [← hW]; simp, by rw [← hW]; (repeat (first | exact Below.refl _ _ | assumption | refine Below.setCell ?_ (by first | (simp; done) | (simp; omega)) _ | refine Below.alloc ?_ (by first | (simp; done) | (simp; omega)) _ | refine Below.drew ?_))⟩
  clear hW q0 q1 q2 q3
  have a_c := fun j => cell_of_row W0 _ j _ _ _ (hk.row (g := w.heap.size) (o := Obj.cells #[.int .i64 a0, .int .i64 a1, .int .i64 a2, .int .i64 a3, .int .i64 a4, .int .i64 a5] 28 (0, 0)) (by simp))
  go_wp2_with fail
  refine (H0.out _).mono ?_
  rintro e W1 ⟨rfl, hb⟩
  have hk := hk.far hb rfl
  clear hb a_c
  have q3 := hk.row (g := w.heap.size + 3) (o := tb 37 fun _ => 0) (List.mem_cons_self ..)
  have q2 := hk.row (g := w.heap.size + 2) (o := tb 37 fun _ => 0) (by simp)
  have hB := hk.2.2
  clear hk
  go_wp2_with (first | ((with_reducible refine wpL37 (w.heap.size + 3) 37 (fun _ => 0) q3 _ Try.underlying37 ?_ ?_ ?_ ?_); rfl; rfl; kernel_rfl) | ((with_reducible refine wpS37 (w.heap.size + 2) (fun _ => 0) 37 _ q2 ?_ ?_ ?_ ?_); rfl; rfl; kernel_rfl))
  have hr := tb_sets (fun _ => 0) q2
  have hB' := setCells_below (b := w.heap.size + 2) (cs37 fun _ => 0) 0 hB (by omega)
  clear q2 q3 hB
  generalize (World.setCells _ _ _ _ : World) = X at hr hB' ⊢
  exact bodyPost_ret (v := .tuple #[tv fun _ => 0, .bool false]) (res36b (a := 4) (b := 5) (t := 37) rfl rfl rfl (run_load37 hr _ _ Try.underlying37 rfl (by kernel_rfl))) rfl ⟨rfl, hB'⟩
set_option maxRecDepth 20000 in
set_option maxHeartbeats 2000000 in
theorem itable_n1 (a0 a1 a2 a3 a4 a5 : Int) (b0 b1 b2 b3 b4 b5 : Int) (H0 : Hid (∀ w, Calls Try.prog 102 #[.agg #[.int .i64 a0, .int .i64 a1, .int .i64 a2, .int .i64 a3, .int .i64 a4, .int .i64 a5]] w fun e w' => e = .returned (.bool true) ∧ Below w.heap.size w w'))(H1 : Hid (∀ w, Calls Try.prog 102 #[.agg #[.int .i64 b0, .int .i64 b1, .int .i64 b2, .int .i64 b3, .int .i64 b4, .int .i64 b5]] w fun e w' => e = .returned (.bool false) ∧ Below w.heap.size w w')) (w : World) : Calls Try.prog 43 #[.agg #[.int .i64 a0, .int .i64 a1, .int .i64 a2, .int .i64 a3, .int .i64 a4, .int .i64 a5], .agg #[.int .i64 b0, .int .i64 b1, .int .i64 b2, .int .i64 b3, .int .i64 b4, .int .i64 b5]] w fun e w' => e = .returned (.tuple #[tv fun _ => 0, .bool false]) ∧ Below w.heap.size w w' := by
  go_enter Try.func43, Try.ntmps43
  go_wp2_with (first | ((with_reducible refine wpAlT (w.heap.size + 2) ?_ ?_); (simp; done)) | ((with_reducible refine wpAlT (w.heap.size + 3) ?_ ?_); (simp; done)))
  generalize hW : (World.alloc _ _ : World) = W0
  have q0 : W0.heap[(w.heap.size : Nat)]? = some (Obj.cells #[.int .i64 a0, .int .i64 a1, .int .i64 a2, .int .i64 a3, .int .i64 a4, .int .i64 a5] 28 (0, 0)) := by
    rw [← hW]
    repeat (first | (refine alloc_at ?_; first | (simp; done) | (simp; omega)) | refine drew_row ?_ | refine alloc_past ?_ | assumption)
  have q1 : W0.heap[(w.heap.size + 1 : Nat)]? = some (Obj.cells #[.int .i64 b0, .int .i64 b1, .int .i64 b2, .int .i64 b3, .int .i64 b4, .int .i64 b5] 28 (0, 0)) := by
    rw [← hW]
    repeat (first | (refine alloc_at ?_; first | (simp; done) | (simp; omega)) | refine drew_row ?_ | refine alloc_past ?_ | assumption)
  have q2 : W0.heap[(w.heap.size + 2 : Nat)]? = some (tb 37 fun _ => 0) := by
    rw [← hW]
    repeat (first | (refine alloc_at ?_; first | (simp; done) | (simp; omega)) | refine drew_row ?_ | refine alloc_past ?_ | assumption)
  have q3 : W0.heap[(w.heap.size + 3 : Nat)]? = some (tb 37 fun _ => 0) := by
    rw [← hW]
    repeat (first | (refine alloc_at ?_; first | (simp; done) | (simp; omega)) | refine drew_row ?_ | refine alloc_past ?_ | assumption)
  have hk : KR 4 [(w.heap.size + 3, tb 37 fun _ => 0), (w.heap.size, Obj.cells #[.int .i64 a0, .int .i64 a1, .int .i64 a2, .int .i64 a3, .int .i64 a4, .int .i64 a5] 28 (0, 0)), (w.heap.size + 1, Obj.cells #[.int .i64 b0, .int .i64 b1, .int .i64 b2, .int .i64 b3, .int .i64 b4, .int .i64 b5] 28 (0, 0)), (w.heap.size + 2, tb 37 fun _ => 0)] w W0 := ⟨by simp [q0, q1, q2, q3], by rw [← hW]; simp, by rw [← hW]; (repeat (first | exact Below.refl _ _ | assumption | refine Below.setCell ?_ (by first | (simp; done) | (simp; omega)) _ | refine Below.alloc ?_ (by first | (simp; done) | (simp; omega)) _ | refine Below.drew ?_))⟩
  clear hW q0 q1 q2 q3
  have a_c := fun j => cell_of_row W0 _ j _ _ _ (hk.row (g := w.heap.size) (o := Obj.cells #[.int .i64 a0, .int .i64 a1, .int .i64 a2, .int .i64 a3, .int .i64 a4, .int .i64 a5] 28 (0, 0)) (by simp))
  go_wp2_with fail
  refine (H0.out _).mono ?_
  rintro e W1 ⟨rfl, hb⟩
  have hk := hk.far hb rfl
  clear hb a_c
  have a_c := fun j => cell_of_row W1 _ j _ _ _ (hk.row (g := w.heap.size + 1) (o := Obj.cells #[.int .i64 b0, .int .i64 b1, .int .i64 b2, .int .i64 b3, .int .i64 b4, .int .i64 b5] 28 (0, 0)) (by simp))
  go_wp2_with fail
  refine (H1.out _).mono ?_
  rintro e W2 ⟨rfl, hb⟩
  have hk := hk.far hb rfl
  clear hb a_c
  have q3 := hk.row (g := w.heap.size + 3) (o := tb 37 fun _ => 0) (List.mem_cons_self ..)
  have q2 := hk.row (g := w.heap.size + 2) (o := tb 37 fun _ => 0) (by simp)
  have hB := hk.2.2
  clear hk
  go_wp2_with (first | ((with_reducible refine wpL37 (w.heap.size + 3) 37 (fun _ => 0) q3 _ Try.underlying37 ?_ ?_ ?_ ?_); rfl; rfl; kernel_rfl) | ((with_reducible refine wpS37 (w.heap.size + 2) (fun _ => 0) 37 _ q2 ?_ ?_ ?_ ?_); rfl; rfl; kernel_rfl))
  have hr := tb_sets (fun _ => 0) q2
  have hB' := setCells_below (b := w.heap.size + 2) (cs37 fun _ => 0) 0 hB (by omega)
  clear q2 q3 hB
  generalize (World.setCells _ _ _ _ : World) = X at hr hB' ⊢
  exact bodyPost_ret (v := .tuple #[tv fun _ => 0, .bool false]) (res36b (a := 4) (b := 5) (t := 37) rfl rfl rfl (run_load37 hr _ _ Try.underlying37 rfl (by kernel_rfl))) rfl ⟨rfl, hB'⟩
/- Tu9 -/
/-- Midway: both sheets, the answer's room, and the numbers so far. -/
def Tw9 (w : World) (f g : Fn6) (U : World) : Prop := ∃ m, KR 4 [(w.heap.size + 3, tb 37 (m)), (w.heap.size, o6 f), (w.heap.size + 1, o6 g), (w.heap.size + 2, tb 37 fun _ => 0)] w U
/-- What a world has in a block's cell. -/
def wm9 (U : World) (g j : Nat) : Int := intOf ((U.cell? ⟨g, j, none⟩).getD undef)
theorem tb_wm {m : Nat → Int} {U : World} {g : Nat} {T : TypeId} (h : U.heap[g]? = some (tb T m)) (j : Nat) : U.cell? ⟨g, j, none⟩ = if j < 37 then some (.int .i64 (wm9 U g j)) else none := by
  by_cases hj : j < 37
  · unfold wm9
    rw [tb_cell h, if_pos hj, if_pos hj]
    rfl
  · rw [tb_cell h, if_neg hj, if_neg hj]
theorem ST4 {w U : World} {f g : Fn6} {m : Nat → Int} (h : KR 4 [(w.heap.size + 3, tb 37 (m)), (w.heap.size, o6 f), (w.heap.size + 1, o6 g), (w.heap.size + 2, tb 37 fun _ => 0)] w U) : U.cell? ⟨w.heap.size, 0, none⟩ = some (.int .i64 (rowv (f 0))) ∧ U.cell? ⟨w.heap.size, 1, none⟩ = some (.int .i64 (rowv (f 1))) ∧ U.cell? ⟨w.heap.size, 2, none⟩ = some (.int .i64 (rowv (f 2))) ∧ U.cell? ⟨w.heap.size, 3, none⟩ = some (.int .i64 (rowv (f 3))) ∧ U.cell? ⟨w.heap.size, 4, none⟩ = some (.int .i64 (rowv (f 4))) ∧ U.cell? ⟨w.heap.size, 5, none⟩ = some (.int .i64 (rowv (f 5))) ∧ U.cell? ⟨w.heap.size + 1, 0, none⟩ = some (.int .i64 (rowv (g 0))) ∧ U.cell? ⟨w.heap.size + 1, 1, none⟩ = some (.int .i64 (rowv (g 1))) ∧ U.cell? ⟨w.heap.size + 1, 2, none⟩ = some (.int .i64 (rowv (g 2))) ∧ U.cell? ⟨w.heap.size + 1, 3, none⟩ = some (.int .i64 (rowv (g 3))) ∧ U.cell? ⟨w.heap.size + 1, 4, none⟩ = some (.int .i64 (rowv (g 4))) ∧ U.cell? ⟨w.heap.size + 1, 5, none⟩ = some (.int .i64 (rowv (g 5))) ∧ (∀ j, U.cell? ⟨w.heap.size + 3, j, none⟩ = if j < 37 then some (.int .i64 (wm9 U (w.heap.size + 3) j)) else none) ∧ (∀ j, U.frozen? ⟨w.heap.size + 3, j, none⟩ = false) ∧ Tw9 w f g U := by
  have h0 := fun j => cell_of_row U _ j _ _ _ (h.row (g := w.heap.size) (o := o6 f) (by simp))
  have h1 := fun j => cell_of_row U _ j _ _ _ (h.row (g := w.heap.size + 1) (o := o6 g) (by simp))
  have h3 := h.row (g := w.heap.size + 3) (o := tb 37 m) (List.mem_cons_self ..)
  exact ⟨h0 0, h0 1, h0 2, h0 3, h0 4, h0 5, h1 0, h1 1, h1 2, h1 3, h1 4, h1 5, tb_wm h3, fun j => tb_frozen h3 j, m, h⟩
theorem T4.put {w U : World} {f g : Fn6} {m : Nat → Int} {c : Nat} (h : KR 4 [(w.heap.size + 3, tb 37 (m)), (w.heap.size, o6 f), (w.heap.size + 1, o6 g), (w.heap.size + 2, tb 37 fun _ => 0)] w U) (hc : c < 37) (v : Int) : KR 4 [(w.heap.size + 3, tb 37 (uq m c v)), (w.heap.size, o6 f), (w.heap.size + 1, o6 g), (w.heap.size + 2, tb 37 fun _ => 0)] w (U.setCell ⟨w.heap.size + 3, c, none⟩ (.int .i64 v)) :=
  h.one (by intro p hp; simp only [List.mem_cons, List.mem_nil_iff, or_false] at hp; rcases hp with rfl | rfl | rfl <;> (dsimp only; omega)) (by omega) (tb_set v hc (h.row (List.mem_cons_self ..)))
set_option maxRecDepth 20000 in
set_option maxHeartbeats 4000000 in
theorem ltable_f (f g : Fn6) (w : World) : Calls Try.prog 99 #[.agg #[.int .i64 (rowv (f 0)), .int .i64 (rowv (f 1)), .int .i64 (rowv (f 2)), .int .i64 (rowv (f 3)), .int .i64 (rowv (f 4)), .int .i64 (rowv (f 5))], .agg #[.int .i64 (rowv (g 0)), .int .i64 (rowv (g 1)), .int .i64 (rowv (g 2)), .int .i64 (rowv (g 3)), .int .i64 (rowv (g 4)), .int .i64 (rowv (g 5))]] w fun e w' => e = .returned (tv (ht9 (fun k => cn9 f g (k % 6) (k / 6)) 36)) ∧ Below w.heap.size w w' := by
  have HZ : Hid (((((w.alloc (.cells #[.int .i64 (rowv (f 0)), .int .i64 (rowv (f 1)), .int .i64 (rowv (f 2)), .int .i64 (rowv (f 3)), .int .i64 (rowv (f 4)), .int .i64 (rowv (f 5))] 28)).alloc (.cells #[.int .i64 (rowv (g 0)), .int .i64 (rowv (g 1)), .int .i64 (rowv (g 2)), .int .i64 (rowv (g 3)), .int .i64 (rowv (g 4)), .int .i64 (rowv (g 5))] 28)).alloc (.cells #[.int .i64 0, .int .i64 0, .int .i64 0, .int .i64 0, .int .i64 0, .int .i64 0, .int .i64 0, .int .i64 0, .int .i64 0, .int .i64 0, .int .i64 0, .int .i64 0, .int .i64 0, .int .i64 0, .int .i64 0, .int .i64 0, .int .i64 0, .int .i64 0, .int .i64 0, .int .i64 0, .int .i64 0, .int .i64 0, .int .i64 0, .int .i64 0, .int .i64 0, .int .i64 0, .int .i64 0, .int .i64 0, .int .i64 0, .int .i64 0, .int .i64 0, .int .i64 0, .int .i64 0, .int .i64 0, .int .i64 0, .int .i64 0, .int .i64 0] 37)).alloc (.cells #[.int .i64 0, .int .i64 0, .int .i64 0, .int .i64 0, .int .i64 0, .int .i64 0, .int .i64 0, .int .i64 0, .int .i64 0, .int .i64 0, .int .i64 0, .int .i64 0, .int .i64 0, .int .i64 0, .int .i64 0, .int .i64 0, .int .i64 0, .int .i64 0, .int .i64 0, .int .i64 0, .int .i64 0, .int .i64 0, .int .i64 0, .int .i64 0, .int .i64 0, .int .i64 0, .int .i64 0, .int .i64 0, .int .i64 0, .int .i64 0, .int .i64 0, .int .i64 0, .int .i64 0, .int .i64 0, .int .i64 0, .int .i64 0, .int .i64 0] 37)).heap[w.heap.size + 3]? = some (tb 37 fun _ => 0)) := Lib.hid (alloc_at (by simp))
  go_enter Try.func99, Try.ntmps99
  go_wp2_with (first | ((with_reducible refine wpAlT (w.heap.size + 2) ?_ ?_); (simp; done)) | ((with_reducible refine wpAlT (w.heap.size + 3) ?_ ?_); (simp; done)) | (with_reducible refine wpBdT ?_) | ((with_reducible refine wpS37 (w.heap.size + 3) (fun _ => 0) 37 _ HZ.out ?_ ?_ ?_ ?_); rfl; rfl; kernel_rfl))
  generalize hW : (World.setCells _ _ _ _ : World) = W0
  have q0 : W0.heap[(w.heap.size : Nat)]? = some (o6 f) := by
    rw [← hW, setCells_other (by omega)]
    repeat (first | (refine alloc_at ?_; first | (simp; done) | (simp; omega)) | refine drew_row ?_ | refine alloc_past ?_ | assumption)
  have q1 : W0.heap[(w.heap.size + 1 : Nat)]? = some (o6 g) := by
    rw [← hW, setCells_other (by omega)]
    repeat (first | (refine alloc_at ?_; first | (simp; done) | (simp; omega)) | refine drew_row ?_ | refine alloc_past ?_ | assumption)
  have q2 : W0.heap[(w.heap.size + 2 : Nat)]? = some (tb 37 fun _ => 0) := by
    rw [← hW, setCells_other (by omega)]
    repeat (first | (refine alloc_at ?_; first | (simp; done) | (simp; omega)) | refine drew_row ?_ | refine alloc_past ?_ | assumption)
  have q3 : W0.heap[(w.heap.size + 3 : Nat)]? = some (tb 37 fun _ => 0) := by
    rw [← hW]
    exact tb_sets (fun _ => 0) HZ.out
  have S1 : Hid (KR 4 [(w.heap.size + 3, tb 37 (fun _ => 0)), (w.heap.size, o6 f), (w.heap.size + 1, o6 g), (w.heap.size + 2, tb 37 fun _ => 0)] w W0) := Lib.hid ⟨by simp [q0, q1, q2, q3], by rw [← hW, setCells_size]; simp, by rw [← hW]; exact setCells_below _ _ (by (repeat (first | exact Below.refl _ _ | assumption | refine Below.setCell ?_ (by first | (simp; done) | (simp; omega)) _ | refine Below.alloc ?_ (by first | (simp; done) | (simp; omega)) _ | refine Below.drew ?_))) (by omega)⟩
  clear hW q0 q1 q2 q3 HZ
  go_loopw [6] (fun n wr => ∃ y : Nat, y ≤ 6 ∧ n = .int .i64 y ∧ Hid (KR 4 [(w.heap.size + 3, tb 37 (ht9 (fun k => cn9 f g (k % 6) (k / 6)) (6 * y))), (w.heap.size, o6 f), (w.heap.size + 1, o6 g), (w.heap.size + 2, tb 37 fun _ => 0)] w wr)) (fun n _ => 6 - (intOf n).toNat)
  case atStart => exact ⟨0, by omega, rfl, S1⟩
  case round =>
    obtain ⟨y, hy, rfl, HX⟩ := hrel
    by_cases hly : y < 6
    · have hyi : (y : Int) < 6 := by omega
      have hly2 : decide ((y : Int) < (6 : Int)) = true := decide_eq_true hyi
      go_wp2_with fail
      try rw [hly2]
      clear hly2
      go_loopw [7] (fun n wr => ∃ x : Nat, x ≤ 6 ∧ n = .int .i64 x ∧ Hid (KR 4 [(w.heap.size + 3, tb 37 (ht9 (fun k => cn9 f g (k % 6) (k / 6)) (6 * y + x))), (w.heap.size, o6 f), (w.heap.size + 1, o6 g), (w.heap.size + 2, tb 37 fun _ => 0)] w wr)) (fun n _ => 6 - (intOf n).toNat)
      case atStart => exact ⟨0, by omega, rfl, HX⟩
      case round =>
        obtain ⟨x, hx, rfl, HS⟩ := hrel
        by_cases hlx : x < 6
        · have hxi : (x : Int) < 6 := by omega
          have hx0 : (0 : Int) ≤ x := by omega
          have hy0 : (0 : Int) ≤ y := by omega
          have H1 := Lib.hid (l2shift_7 g hlx hly)
          have H2 := Lib.hid (land_f f (sf x y g))
          have H3 : Hid (∀ w, Calls Try.prog 91 #[.agg #[.int .i64 (rowv (af f (sf x y g) 0)), .int .i64 (rowv (af f (sf x y g) 1)), .int .i64 (rowv (af f (sf x y g) 2)), .int .i64 (rowv (af f (sf x y g) 3)), .int .i64 (rowv (af f (sf x y g) 4)), .int .i64 (rowv (af f (sf x y g) 5))]] w fun e w' => e = .returned (.int .i64 ((cn9 f g x y : Nat) : Int)) ∧ Below w.heap.size w w') := Lib.hid (fun w => (cn9_eq f g x y).1 ▸ lcount_s (af f (sf x y g)) w)
          have HST : Hid (uq (ht9 (fun k => cn9 f g (k % 6) (k / 6)) (6 * y + x)) (cn9 f g x y) (ht9 (fun k => cn9 f g (k % 6) (k / 6)) (6 * y + x) (cn9 f g x y) + 1) = ht9 (fun k => cn9 f g (k % 6) (k / 6)) (6 * y + x + 1)) := Lib.hid (by
            show _ = uq (ht9 (fun k => cn9 f g (k % 6) (k / 6)) (6 * y + x)) (cn9 f g ((6 * y + x) % 6) ((6 * y + x) / 6)) (ht9 (fun k => cn9 f g (k % 6) (k / 6)) (6 * y + x) (cn9 f g ((6 * y + x) % 6) ((6 * y + x) / 6)) + 1)
            rw [show (6 * y + x) % 6 = x by omega, show (6 * y + x) / 6 = y by omega])
          have hbd := ht9_bd (fun k => cn9 f g (k % 6) (k / 6)) (6 * y + x) (cn9 f g x y)
          have hc37 := (cn9_eq f g x y).2
          have hq := HS.out
          clear HS HX S1
          generalize ht9 (fun k => cn9 f g (k % 6) (k / 6)) (6 * y + x) = m at hq HST hbd
          generalize cn9 f g x y = c at *
          generalize af f (sf x y g) = q at *
          generalize sf x y g = p at *
          have hci : (c : Int) < 37 := by omega
          have hc0 : (0 : Int) ≤ c := by omega
          obtain ⟨v, hv⟩ : ∃ v, v = m c + 1 := ⟨_, rfl⟩
          have hw : IntKind.i64.wrap (m c + 1) = v := by rw [hv]; exact iw9 (by omega) (by omega)
          have hw2 : wrap64 (m c + 1) = v := by rw [hv]; exact wr9 (by omega) (by omega)
          rw [← hv] at HST
          clear hv hbd
          go_wp2_with fail
          have HD := Lib.hid hq
          have d_c := fun j => cell_of_row wr.drew _ j _ _ _ (HD.out.drew.row (g := w.heap.size) (o := o6 f) (by simp))
          have dg_c := fun j => cell_of_row wr.drew _ j _ _ _ (HD.out.drew.row (g := w.heap.size + 1) (o := o6 g) (by simp))
          set_option maxRecDepth 8000 in
          go_region_with (first | (go_at_call 115; with_reducible refine (H1.out _).mono ?_; rintro e w' ⟨rfl, hb'⟩; have HE := Lib.hid (HD.out.drew.far hb' rfl); have e_c := fun j => cell_of_row w' _ j _ _ _ (HE.out.row (g := w.heap.size) (o := o6 f) (by simp))) | (go_at_call 114; with_reducible refine (H2.out _).mono ?_; rintro e w2 ⟨rfl, hb'⟩; have HG := Lib.hid (HE.out.far hb' rfl); clear e_c) | (go_at_call 91; with_reducible refine (H3.out _).mono ?_; rintro e w3 ⟨rfl, hb'⟩; have HK := Lib.hid (HG.out.far hb' rfl); clear d_c dg_c; have b_c : w3.cell? ⟨w.heap.size + 3, c, none⟩ = some (.int .i64 (m c)) := (tb_cell (HK.out.row (g := w.heap.size + 3) (o := tb 37 m) (List.mem_cons_self ..)) c).trans (if_pos hc37); have b_f : w3.frozen? ⟨w.heap.size + 3, c, none⟩ = false := tb_frozen (HK.out.row (g := w.heap.size + 3) (o := tb 37 m) (List.mem_cons_self ..)) c))
          all_goals
            have HJ := Lib.hid (T4.put HK.out hc37 v)
            clear HK HG HE HD b_c b_f hq H1 H2 H3
            go_wp2_with fail
            go_roundw
            case rel => exact ⟨x + 1, by omega, by go_num, Lib.hid (by rw [show 6 * y + (x + 1) = 6 * y + x + 1 by omega, ← HST.out]; exact HJ.out)⟩
            case measure => simp [intOf]; omega
        · obtain rfl : x = 6 := by omega
          clear HX S1
          go_wp2_with fail
          go_roundw
          case rel => exact ⟨y + 1, by omega, by go_num, Lib.hid (by rw [show 6 * (y + 1) = 6 * y + 6 by omega]; exact HS.out)⟩
          case measure => simp [intOf]; omega
    · obtain rfl : y = 6 := by omega
      have hkr := HX.out
      clear HX S1
      rw [show 6 * 6 = 36 from rfl] at hkr
      obtain ⟨m, hm⟩ : ∃ m, m = ht9 (fun k => cn9 f g (k % 6) (k / 6)) 36 := ⟨_, rfl⟩
      rw [← hm] at hkr
      have HM := Lib.hid hm
      clear hm
      have q3 := hkr.row (g := w.heap.size + 3) (o := tb 37 m) (List.mem_cons_self ..)
      have q2 := hkr.row (g := w.heap.size + 2) (o := tb 37 fun _ => 0) (by simp)
      have hB := hkr.2.2
      clear hkr
      go_wp2_with (first | ((with_reducible refine wpL37 (w.heap.size + 3) 37 m q3 _ Try.underlying37 ?_ ?_ ?_ ?_); rfl; rfl; kernel_rfl) | ((with_reducible refine wpS37 (w.heap.size + 2) m 37 _ q2 ?_ ?_ ?_ ?_); rfl; rfl; kernel_rfl))
      have hr := tb_sets m q2
      have hB' := setCells_below (b := w.heap.size + 2) (cs37 m) 0 hB (by omega)
      clear q2 q3 hB
      generalize (World.setCells _ _ _ _ : World) = X at hr hB' ⊢
      exact bodyPost_ret (v := tv m) (res36 (a := 4) (t := 37) rfl rfl (run_load37 hr _ _ Try.underlying37 rfl (by kernel_rfl))) rfl ⟨by rw [HM.out], hB'⟩
/- Pt9 -/
/-- At how many cells a stamp has so many cells in common with a sheet. -/
def tbm (f g : Fn6) : Nat → Int := ht9 (fun k => cn9 f g (k / 6) (k % 6)) 36
theorem tbm_nat (f g : Fn6) (j : Nat) : ∃ ft : Nat, tbm f g j = (ft : Int) ∧ ft ≤ 36 := by
  have := ht9_bd (fun k => cn9 f g (k / 6) (k % 6)) 36 j
  exact ⟨(tbm f g j).toNat, by unfold tbm; omega, by unfold tbm; omega⟩
theorem itab_h (f g : Fn6) : Hid (∀ w, Calls Try.prog 43 #[.agg #[.int .i64 (rowv (f 0)), .int .i64 (rowv (f 1)), .int .i64 (rowv (f 2)), .int .i64 (rowv (f 3)), .int .i64 (rowv (f 4)), .int .i64 (rowv (f 5))], .agg #[.int .i64 (rowv (g 0)), .int .i64 (rowv (g 1)), .int .i64 (rowv (g 2)), .int .i64 (rowv (g 3)), .int .i64 (rowv (g 4)), .int .i64 (rowv (g 5))]] w fun e w' => e = .returned (.tuple #[tv (tbm f g), .bool true]) ∧ Below w.heap.size w w') := Lib.hid (itable_yes f g (sh_ai (rowv (f 0)) (rowv (f 1)) (rowv (f 2)) (rowv (f 3)) (rowv (f 4)) (rowv (f 5)) (sh_of f)) (sh_ai (rowv (g 0)) (rowv (g 1)) (rowv (g 2)) (rowv (g 3)) (rowv (g 4)) (rowv (g 5)) (sh_of g)))
theorem itab_bad (a0 a1 a2 a3 a4 a5 : Int) (b0 b1 b2 b3 b4 b5 : Int) (h : (ok a0 && ok a1 && ok a2 && ok a3 && ok a4 && ok a5) = false ∨ (ok b0 && ok b1 && ok b2 && ok b3 && ok b4 && ok b5) = false) : Hid (∀ w, Calls Try.prog 43 #[.agg #[.int .i64 a0, .int .i64 a1, .int .i64 a2, .int .i64 a3, .int .i64 a4, .int .i64 a5], .agg #[.int .i64 b0, .int .i64 b1, .int .i64 b2, .int .i64 b3, .int .i64 b4, .int .i64 b5]] w fun e w' => e = .returned (.tuple #[tv fun _ => 0, .bool false]) ∧ Below w.heap.size w w') := by
  cases ha : (ok a0 && ok a1 && ok a2 && ok a3 && ok a4 && ok a5)
  · exact Lib.hid (itable_n0 a0 a1 a2 a3 a4 a5 b0 b1 b2 b3 b4 b5 (sh_ai a0 a1 a2 a3 a4 a5 ha))
  · rcases h with h | h
    · rw [ha] at h; cases h
    · exact Lib.hid (itable_n1 a0 a1 a2 a3 a4 a5 b0 b1 b2 b3 b4 b5 (sh_ai a0 a1 a2 a3 a4 a5 ha) (sh_ai b0 b1 b2 b3 b4 b5 h))
/- Ph9 -/
set_option maxRecDepth 20000 in
set_option maxHeartbeats 2000000 in
theorem sctb_y (a0 a1 a2 a3 a4 a5 : Int) (b0 b1 b2 b3 b4 b5 : Int) (m : Nat → Int) (HA : Hid (∀ w, Calls Try.prog 98 #[.agg #[.int .i64 a0, .int .i64 a1, .int .i64 a2, .int .i64 a3, .int .i64 a4, .int .i64 a5]] w fun e w' => e = .returned (.bool true) ∧ Below w.heap.size w w'))(HB : Hid (∀ w, Calls Try.prog 98 #[.agg #[.int .i64 b0, .int .i64 b1, .int .i64 b2, .int .i64 b3, .int .i64 b4, .int .i64 b5]] w fun e w' => e = .returned (.bool true) ∧ Below w.heap.size w w'))(HL : Hid (∀ w, Calls Try.prog 99 #[.agg #[.int .i64 a0, .int .i64 a1, .int .i64 a2, .int .i64 a3, .int .i64 a4, .int .i64 a5], .agg #[.int .i64 b0, .int .i64 b1, .int .i64 b2, .int .i64 b3, .int .i64 b4, .int .i64 b5]] w fun e w' => e = .returned (tv m) ∧ Below w.heap.size w w')) (w : World) : Calls Try.prog 42 #[.agg #[.int .i64 a0, .int .i64 a1, .int .i64 a2, .int .i64 a3, .int .i64 a4, .int .i64 a5], .agg #[.int .i64 b0, .int .i64 b1, .int .i64 b2, .int .i64 b3, .int .i64 b4, .int .i64 b5]] w fun e w' => e = .returned (.tuple #[tv m, .bool true]) ∧ Below w.heap.size w w' := by
  go_enter Try.func42, Try.ntmps42
  go_wp2_with fail
  generalize hW : (World.alloc _ _ : World) = W0
  have q0 : W0.heap[(w.heap.size : Nat)]? = some (Obj.cells #[.int .i64 a0, .int .i64 a1, .int .i64 a2, .int .i64 a3, .int .i64 a4, .int .i64 a5] 28 (0, 0)) := by
    rw [← hW]
    repeat (first | (refine alloc_at ?_; first | (simp; done) | (simp; omega)) | refine drew_row ?_ | refine alloc_past ?_ | assumption)
  have q1 : W0.heap[(w.heap.size + 1 : Nat)]? = some (Obj.cells #[.int .i64 b0, .int .i64 b1, .int .i64 b2, .int .i64 b3, .int .i64 b4, .int .i64 b5] 28 (0, 0)) := by
    rw [← hW]
    repeat (first | (refine alloc_at ?_; first | (simp; done) | (simp; omega)) | refine drew_row ?_ | refine alloc_past ?_ | assumption)
  have hq : W0.heap[(w.heap.size + 2 : Nat)]? = some (tb 37 fun _ => 0) := by
    rw [← hW]
    repeat (first | (refine alloc_at ?_; first | (simp; done) | (simp; omega)) | refine drew_row ?_ | refine alloc_past ?_ | assumption)
  have hk : KR 2 [(w.heap.size, Obj.cells #[.int .i64 a0, .int .i64 a1, .int .i64 a2, .int .i64 a3, .int .i64 a4, .int .i64 a5] 28 (0, 0)), (w.heap.size + 1, Obj.cells #[.int .i64 b0, .int .i64 b1, .int .i64 b2, .int .i64 b3, .int .i64 b4, .int .i64 b5] 28 (0, 0))] w W0 := ⟨by simp [q0, q1], by rw [← hW]; simp, by rw [← hW]; (repeat (first | exact Below.refl _ _ | assumption | refine Below.setCell ?_ (by first | (simp; done) | (simp; omega)) _ | refine Below.alloc ?_ (by first | (simp; done) | (simp; omega)) _ | refine Below.drew ?_))⟩
  clear hW q0 q1
  have r0_c := fun j => cell_of_row W0 _ j _ _ _ (hk.row (g := w.heap.size) (List.mem_cons_self ..))
  have r1_c := fun j => cell_of_row W0 _ j _ _ _ (hk.row (g := w.heap.size + 1) (List.mem_cons_of_mem _ (List.mem_cons_self ..)))
  go_wp2_with fail
  refine (HA.out _).mono ?_
  rintro e W1 ⟨rfl, hb⟩
  clear r0_c r1_c
  have hk := hk.far hb rfl
  have hq := rowk hq hb rfl
  clear hb
  have r0_c := fun j => cell_of_row W1 _ j _ _ _ (hk.row (g := w.heap.size) (List.mem_cons_self ..))
  have r1_c := fun j => cell_of_row W1 _ j _ _ _ (hk.row (g := w.heap.size + 1) (List.mem_cons_of_mem _ (List.mem_cons_self ..)))
  go_wp2_with fail
  refine (HB.out _).mono ?_
  rintro e W2 ⟨rfl, hb⟩
  clear r0_c r1_c
  have hk := hk.far hb rfl
  have hq := rowk hq hb rfl
  clear hb
  have r0_c := fun j => cell_of_row W2 _ j _ _ _ (hk.row (g := w.heap.size) (List.mem_cons_self ..))
  have r1_c := fun j => cell_of_row W2 _ j _ _ _ (hk.row (g := w.heap.size + 1) (List.mem_cons_of_mem _ (List.mem_cons_self ..)))
  go_wp2_with fail
  refine (HL.out _).mono ?_
  rintro e W3 ⟨rfl, hb⟩
  clear r0_c r1_c
  have hk := hk.far hb rfl
  have hq := rowk hq hb rfl
  clear hb
  have r0_c := fun j => cell_of_row W3 _ j _ _ _ (hk.row (g := w.heap.size) (List.mem_cons_self ..))
  have r1_c := fun j => cell_of_row W3 _ j _ _ _ (hk.row (g := w.heap.size + 1) (List.mem_cons_of_mem _ (List.mem_cons_self ..)))
  go_wp2_with (((with_reducible refine wpS37 (w.heap.size + 2) (m) 37 _ hq ?_ ?_ ?_ ?_); rfl; rfl; kernel_rfl))
  have hr := tb_sets (m) hq
  have hB' := setCells_below (b := w.heap.size + 2) (cs37 (m)) 0 hk.2.2 (by omega)
  clear hq hk r0_c r1_c
  generalize (World.setCells _ _ _ _ : World) = X at hr hB' ⊢
  exact bodyPost_ret (v := .tuple #[tv (m), .bool true]) (res36b (a := 4) (b := 5) (t := 37) rfl rfl rfl (run_load37 hr _ _ Try.underlying37 rfl (by kernel_rfl))) rfl ⟨rfl, hB'⟩
set_option maxRecDepth 20000 in
set_option maxHeartbeats 2000000 in
theorem sctb_n0 (a0 a1 a2 a3 a4 a5 : Int) (b0 b1 b2 b3 b4 b5 : Int) (HA : Hid (∀ w, Calls Try.prog 98 #[.agg #[.int .i64 a0, .int .i64 a1, .int .i64 a2, .int .i64 a3, .int .i64 a4, .int .i64 a5]] w fun e w' => e = .returned (.bool false) ∧ Below w.heap.size w w')) (w : World) : Calls Try.prog 42 #[.agg #[.int .i64 a0, .int .i64 a1, .int .i64 a2, .int .i64 a3, .int .i64 a4, .int .i64 a5], .agg #[.int .i64 b0, .int .i64 b1, .int .i64 b2, .int .i64 b3, .int .i64 b4, .int .i64 b5]] w fun e w' => e = .returned (.tuple #[tv fun _ => 0, .bool false]) ∧ Below w.heap.size w w' := by
  go_enter Try.func42, Try.ntmps42
  go_wp2_with fail
  generalize hW : (World.alloc _ _ : World) = W0
  have q0 : W0.heap[(w.heap.size : Nat)]? = some (Obj.cells #[.int .i64 a0, .int .i64 a1, .int .i64 a2, .int .i64 a3, .int .i64 a4, .int .i64 a5] 28 (0, 0)) := by
    rw [← hW]
    repeat (first | (refine alloc_at ?_; first | (simp; done) | (simp; omega)) | refine drew_row ?_ | refine alloc_past ?_ | assumption)
  have q1 : W0.heap[(w.heap.size + 1 : Nat)]? = some (Obj.cells #[.int .i64 b0, .int .i64 b1, .int .i64 b2, .int .i64 b3, .int .i64 b4, .int .i64 b5] 28 (0, 0)) := by
    rw [← hW]
    repeat (first | (refine alloc_at ?_; first | (simp; done) | (simp; omega)) | refine drew_row ?_ | refine alloc_past ?_ | assumption)
  have hq : W0.heap[(w.heap.size + 2 : Nat)]? = some (tb 37 fun _ => 0) := by
    rw [← hW]
    repeat (first | (refine alloc_at ?_; first | (simp; done) | (simp; omega)) | refine drew_row ?_ | refine alloc_past ?_ | assumption)
  have hk : KR 2 [(w.heap.size, Obj.cells #[.int .i64 a0, .int .i64 a1, .int .i64 a2, .int .i64 a3, .int .i64 a4, .int .i64 a5] 28 (0, 0)), (w.heap.size + 1, Obj.cells #[.int .i64 b0, .int .i64 b1, .int .i64 b2, .int .i64 b3, .int .i64 b4, .int .i64 b5] 28 (0, 0))] w W0 := ⟨by simp [q0, q1], by rw [← hW]; simp, by rw [← hW]; (repeat (first | exact Below.refl _ _ | assumption | refine Below.setCell ?_ (by first | (simp; done) | (simp; omega)) _ | refine Below.alloc ?_ (by first | (simp; done) | (simp; omega)) _ | refine Below.drew ?_))⟩
  clear hW q0 q1
  have r0_c := fun j => cell_of_row W0 _ j _ _ _ (hk.row (g := w.heap.size) (List.mem_cons_self ..))
  have r1_c := fun j => cell_of_row W0 _ j _ _ _ (hk.row (g := w.heap.size + 1) (List.mem_cons_of_mem _ (List.mem_cons_self ..)))
  go_wp2_with fail
  refine (HA.out _).mono ?_
  rintro e W1 ⟨rfl, hb⟩
  clear r0_c r1_c
  have hk := hk.far hb rfl
  have hq := rowk hq hb rfl
  clear hb
  have r0_c := fun j => cell_of_row W1 _ j _ _ _ (hk.row (g := w.heap.size) (List.mem_cons_self ..))
  have r1_c := fun j => cell_of_row W1 _ j _ _ _ (hk.row (g := w.heap.size + 1) (List.mem_cons_of_mem _ (List.mem_cons_self ..)))
  go_wp2_with (first | (with_reducible refine wpBdT ?_) | ((with_reducible refine wpS37 (w.heap.size + 2) (fun _ => 0) 37 _ hq ?_ ?_ ?_ ?_); rfl; rfl; kernel_rfl))
  have hr := tb_sets (fun _ => 0) hq
  have hB' := setCells_below (b := w.heap.size + 2) (cs37 (fun _ => 0)) 0 hk.2.2 (by omega)
  clear hq hk r0_c r1_c
  generalize (World.setCells _ _ _ _ : World) = X at hr hB' ⊢
  exact bodyPost_ret (v := .tuple #[tv (fun _ => 0), .bool false]) (res36b (a := 4) (b := 5) (t := 37) rfl rfl rfl (run_load37 hr _ _ Try.underlying37 rfl (by kernel_rfl))) rfl ⟨rfl, hB'⟩
set_option maxRecDepth 20000 in
set_option maxHeartbeats 2000000 in
theorem sctb_n1 (a0 a1 a2 a3 a4 a5 : Int) (b0 b1 b2 b3 b4 b5 : Int) (HA : Hid (∀ w, Calls Try.prog 98 #[.agg #[.int .i64 a0, .int .i64 a1, .int .i64 a2, .int .i64 a3, .int .i64 a4, .int .i64 a5]] w fun e w' => e = .returned (.bool true) ∧ Below w.heap.size w w'))(HB : Hid (∀ w, Calls Try.prog 98 #[.agg #[.int .i64 b0, .int .i64 b1, .int .i64 b2, .int .i64 b3, .int .i64 b4, .int .i64 b5]] w fun e w' => e = .returned (.bool false) ∧ Below w.heap.size w w')) (w : World) : Calls Try.prog 42 #[.agg #[.int .i64 a0, .int .i64 a1, .int .i64 a2, .int .i64 a3, .int .i64 a4, .int .i64 a5], .agg #[.int .i64 b0, .int .i64 b1, .int .i64 b2, .int .i64 b3, .int .i64 b4, .int .i64 b5]] w fun e w' => e = .returned (.tuple #[tv fun _ => 0, .bool false]) ∧ Below w.heap.size w w' := by
  go_enter Try.func42, Try.ntmps42
  go_wp2_with fail
  generalize hW : (World.alloc _ _ : World) = W0
  have q0 : W0.heap[(w.heap.size : Nat)]? = some (Obj.cells #[.int .i64 a0, .int .i64 a1, .int .i64 a2, .int .i64 a3, .int .i64 a4, .int .i64 a5] 28 (0, 0)) := by
    rw [← hW]
    repeat (first | (refine alloc_at ?_; first | (simp; done) | (simp; omega)) | refine drew_row ?_ | refine alloc_past ?_ | assumption)
  have q1 : W0.heap[(w.heap.size + 1 : Nat)]? = some (Obj.cells #[.int .i64 b0, .int .i64 b1, .int .i64 b2, .int .i64 b3, .int .i64 b4, .int .i64 b5] 28 (0, 0)) := by
    rw [← hW]
    repeat (first | (refine alloc_at ?_; first | (simp; done) | (simp; omega)) | refine drew_row ?_ | refine alloc_past ?_ | assumption)
  have hq : W0.heap[(w.heap.size + 2 : Nat)]? = some (tb 37 fun _ => 0) := by
    rw [← hW]
    repeat (first | (refine alloc_at ?_; first | (simp; done) | (simp; omega)) | refine drew_row ?_ | refine alloc_past ?_ | assumption)
  have hk : KR 2 [(w.heap.size, Obj.cells #[.int .i64 a0, .int .i64 a1, .int .i64 a2, .int .i64 a3, .int .i64 a4, .int .i64 a5] 28 (0, 0)), (w.heap.size + 1, Obj.cells #[.int .i64 b0, .int .i64 b1, .int .i64 b2, .int .i64 b3, .int .i64 b4, .int .i64 b5] 28 (0, 0))] w W0 := ⟨by simp [q0, q1], by rw [← hW]; simp, by rw [← hW]; (repeat (first | exact Below.refl _ _ | assumption | refine Below.setCell ?_ (by first | (simp; done) | (simp; omega)) _ | refine Below.alloc ?_ (by first | (simp; done) | (simp; omega)) _ | refine Below.drew ?_))⟩
  clear hW q0 q1
  have r0_c := fun j => cell_of_row W0 _ j _ _ _ (hk.row (g := w.heap.size) (List.mem_cons_self ..))
  have r1_c := fun j => cell_of_row W0 _ j _ _ _ (hk.row (g := w.heap.size + 1) (List.mem_cons_of_mem _ (List.mem_cons_self ..)))
  go_wp2_with fail
  refine (HA.out _).mono ?_
  rintro e W1 ⟨rfl, hb⟩
  clear r0_c r1_c
  have hk := hk.far hb rfl
  have hq := rowk hq hb rfl
  clear hb
  have r0_c := fun j => cell_of_row W1 _ j _ _ _ (hk.row (g := w.heap.size) (List.mem_cons_self ..))
  have r1_c := fun j => cell_of_row W1 _ j _ _ _ (hk.row (g := w.heap.size + 1) (List.mem_cons_of_mem _ (List.mem_cons_self ..)))
  go_wp2_with fail
  refine (HB.out _).mono ?_
  rintro e W2 ⟨rfl, hb⟩
  clear r0_c r1_c
  have hk := hk.far hb rfl
  have hq := rowk hq hb rfl
  clear hb
  have r0_c := fun j => cell_of_row W2 _ j _ _ _ (hk.row (g := w.heap.size) (List.mem_cons_self ..))
  have r1_c := fun j => cell_of_row W2 _ j _ _ _ (hk.row (g := w.heap.size + 1) (List.mem_cons_of_mem _ (List.mem_cons_self ..)))
  go_wp2_with (first | (with_reducible refine wpBdT ?_) | ((with_reducible refine wpS37 (w.heap.size + 2) (fun _ => 0) 37 _ hq ?_ ?_ ?_ ?_); rfl; rfl; kernel_rfl))
  have hr := tb_sets (fun _ => 0) hq
  have hB' := setCells_below (b := w.heap.size + 2) (cs37 (fun _ => 0)) 0 hk.2.2 (by omega)
  clear hq hk r0_c r1_c
  generalize (World.setCells _ _ _ _ : World) = X at hr hB' ⊢
  exact bodyPost_ret (v := .tuple #[tv (fun _ => 0), .bool false]) (res36b (a := 4) (b := 5) (t := 37) rfl rfl rfl (run_load37 hr _ _ Try.underlying37 rfl (by kernel_rfl))) rfl ⟨rfl, hB'⟩
theorem tab_pair (a0 a1 a2 a3 a4 a5 : Int) (b0 b1 b2 b3 b4 b5 : Int) : ∃ (m : Nat → Int) (t : Bool), (∀ w, Calls Try.prog 42 #[.agg #[.int .i64 a0, .int .i64 a1, .int .i64 a2, .int .i64 a3, .int .i64 a4, .int .i64 a5], .agg #[.int .i64 b0, .int .i64 b1, .int .i64 b2, .int .i64 b3, .int .i64 b4, .int .i64 b5]] w fun e w' => e = .returned (.tuple #[tv m, .bool t]) ∧ Below w.heap.size w w') ∧ (∀ w, Calls Try.prog 43 #[.agg #[.int .i64 a0, .int .i64 a1, .int .i64 a2, .int .i64 a3, .int .i64 a4, .int .i64 a5], .agg #[.int .i64 b0, .int .i64 b1, .int .i64 b2, .int .i64 b3, .int .i64 b4, .int .i64 b5]] w fun e w' => e = .returned (.tuple #[tv m, .bool t]) ∧ Below w.heap.size w w') := by
  cases ha : (ok a0 && ok a1 && ok a2 && ok a3 && ok a4 && ok a5)
  · exact ⟨_, false, sctb_n0 a0 a1 a2 a3 a4 a5 b0 b1 b2 b3 b4 b5 (sh_as a0 a1 a2 a3 a4 a5 ha), (itab_bad a0 a1 a2 a3 a4 a5 b0 b1 b2 b3 b4 b5 (.inl ha)).out⟩
  · cases hb : (ok b0 && ok b1 && ok b2 && ok b3 && ok b4 && ok b5)
    · exact ⟨_, false, sctb_n1 a0 a1 a2 a3 a4 a5 b0 b1 b2 b3 b4 b5 (sh_as a0 a1 a2 a3 a4 a5 ha) (sh_as b0 b1 b2 b3 b4 b5 hb), (itab_bad a0 a1 a2 a3 a4 a5 b0 b1 b2 b3 b4 b5 (.inr hb)).out⟩
    · obtain ⟨f, rfl, rfl, rfl, rfl, rfl, rfl⟩ := sheet_bits a0 a1 a2 a3 a4 a5 ha
      obtain ⟨g, rfl, rfl, rfl, rfl, rfl, rfl⟩ := sheet_bits b0 b1 b2 b3 b4 b5 hb
      have hl := ltable_f f g
      rw [← ht9_swap (cn9 f g)] at hl
      exact ⟨_, true, sctb_y (rowv (f 0)) (rowv (f 1)) (rowv (f 2)) (rowv (f 3)) (rowv (f 4)) (rowv (f 5)) (rowv (g 0)) (rowv (g 1)) (rowv (g 2)) (rowv (g 3)) (rowv (g 4)) (rowv (g 5)) (tbm f g) (sh_as (rowv (f 0)) (rowv (f 1)) (rowv (f 2)) (rowv (f 3)) (rowv (f 4)) (rowv (f 5)) (sh_of f)) (sh_as (rowv (g 0)) (rowv (g 1)) (rowv (g 2)) (rowv (g 3)) (rowv (g 4)) (rowv (g 5)) (sh_of g)) (Lib.hid hl), (itab_h f g).out⟩
end Go.Proofs.Ythphkhcppljdlaa
