/- CONTRACTS: CountForms, the model's and the code's; the walk of its law. -/
import Derived.Test.YtpgfmigbjffemaaKf
import Derived.WalkKit
import Derived.ProofKit
import Derived.OpenShut
import Derived.Lib.Hide
import Derived.WalkSpells
import Derived.Below
import Derived.BigQuiet
import Derived.LoopN
namespace Go.Proofs.Ytpgfmigbjffemaa
open Go.ChangeShapes Go.WideShapes Go.ChangeAt Go.RowKit
set_option linter.unusedVariables false
theorem kb_id (f : Nat → Nat → Bool) : kb f (0, 0, 0) = true := by
  have e : ∀ r, r < 6 → rowv (sf 0 0 (tf 0 f) r) = rowv (f r) := fun r hr => rowv_congr fun i hi => by
    show f ((r + 6 - 0) % 6) ((i + 6 - 0) % 6) = f r i
    rw [show (r + 6 - 0) % 6 = r by omega, show (i + 6 - 0) % 6 = i by omega]
  unfold kb
  rw [e 0 (by decide), e 1 (by decide), e 2 (by decide), e 3 (by decide), e 4 (by decide), e 5 (by decide)]
  simp only [beq_self_eq_true, Bool.and_self]
theorem ks_pos (f : Nat → Nat → Bool) : 0 < (ks f (L1 6 8)).length := by
  have h : (0, 0, 0) ∈ ks f (L1 6 8) := List.mem_filter.mpr ⟨by decide +kernel, kb_id f⟩
  exact List.length_pos_of_mem h
theorem sforms_f (f : Nat → Nat → Bool) (n : Nat) (hn : n = (ks f (L1 6 8)).length) (hp : 0 < n) (hn6 : n ≤ 600) (w : World) : Calls Try.prog 87 #[.agg #[.int .i64 (rowv (f 0)), .int .i64 (rowv (f 1)), .int .i64 (rowv (f 2)), .int .i64 (rowv (f 3)), .int .i64 (rowv (f 4)), .int .i64 (rowv (f 5))]] w fun e w' => e = .returned (.tuple #[.int .i64 ((288 : Int) / n), .bool true]) ∧ Below w.heap.size w w' := by
  have HV := sh_as _ _ _ _ _ _ (sh_of f)
  have HP := Lib.hid (lkept_f f)
  have hp1 : (0 : Int) < n := by omega
  have hp2 : (n : Int) ≤ 600 := by omega
  have HN := Lib.hid hn
  clear hn
  go_enter Try.func87, Try.ntmps87
  go_wp2_with fail
  have q0 : (w.alloc (.cells #[.int .i64 (rowv (f 0)), .int .i64 (rowv (f 1)), .int .i64 (rowv (f 2)), .int .i64 (rowv (f 3)), .int .i64 (rowv (f 4)), .int .i64 (rowv (f 5))] 28)).heap[w.heap.size]? = some (.cells #[.int .i64 (rowv (f 0)), .int .i64 (rowv (f 1)), .int .i64 (rowv (f 2)), .int .i64 (rowv (f 3)), .int .i64 (rowv (f 4)), .int .i64 (rowv (f 5))] 28 (0, 0)) := alloc_at rfl
  have HB := Lib.hid (show Below w.heap.size w (w.alloc (.cells #[.int .i64 (rowv (f 0)), .int .i64 (rowv (f 1)), .int .i64 (rowv (f 2)), .int .i64 (rowv (f 3)), .int .i64 (rowv (f 4)), .int .i64 (rowv (f 5))] 28)) by (repeat (first | exact Below.refl _ _ | assumption | refine Below.setCell ?_ (by first | (simp; done) | (simp; omega)) _ | refine Below.alloc ?_ (by first | (simp; done) | (simp; omega)) _ | refine Below.drew ?_)))
  refine (HV.out _).mono ?_
  rintro e W1 ⟨rfl, hb⟩
  have q1 := rowk q0 hb rfl
  have HB1 := Lib.hid (below_of HB.out hb HB.out.size)
  clear hb HB HV q0
  have a_c := fun k => cell_of_row W1 _ k _ _ _ q1
  go_wp2_with fail
  refine (HP.out W1).mono ?_
  rintro e W2 ⟨g, cap, rfl, ho, hb⟩
  have HB2 := Lib.hid (below_of HB1.out hb HB1.out.size)
  clear hb HB1 ho a_c q1
  rw [← HN.out]
  go_wp2_with fail
  refine bodyPost_ret (v := .tuple #[.int .i64 ((288 : Int) / n), .bool true]) (by simp [results, Try.results87, go_sem]) rfl ⟨rfl, HB2.out⟩
theorem iforms_f (f : Nat → Nat → Bool) (n : Nat) (hn : n = (ks f (L1 6 8)).length) (hp : 0 < n) (hn6 : n ≤ 600) (w : World) : Calls Try.prog 88 #[.agg #[.int .i64 (rowv (f 0)), .int .i64 (rowv (f 1)), .int .i64 (rowv (f 2)), .int .i64 (rowv (f 3)), .int .i64 (rowv (f 4)), .int .i64 (rowv (f 5))]] w fun e w' => e = .returned (.tuple #[.int .i64 ((288 : Int) / n), .bool true]) ∧ Below w.heap.size w w' := by
  have HP := Lib.hid (ikept_f f)
  have hp1 : (0 : Int) < n := by omega
  have hp2 : (n : Int) ≤ 600 := by omega
  have HN := Lib.hid hn
  clear hn
  go_enter Try.func88, Try.ntmps88
  go_wp2_with fail
  have HB := Lib.hid (show Below w.heap.size w (w.alloc (.cells #[.int .i64 (rowv (f 0)), .int .i64 (rowv (f 1)), .int .i64 (rowv (f 2)), .int .i64 (rowv (f 3)), .int .i64 (rowv (f 4)), .int .i64 (rowv (f 5))] 28)) by (repeat (first | exact Below.refl _ _ | assumption | refine Below.setCell ?_ (by first | (simp; done) | (simp; omega)) _ | refine Below.alloc ?_ (by first | (simp; done) | (simp; omega)) _ | refine Below.drew ?_)))
  refine (HP.out _).mono ?_
  rintro e W2 ⟨g, cap, rfl, ho, hb⟩
  have HB2 := Lib.hid (below_of HB.out hb HB.out.size)
  clear hb HB ho
  rw [← HN.out]
  go_wp2_with fail
  refine bodyPost_ret (v := .tuple #[.int .i64 ((288 : Int) / n), .bool true]) (by simp [results, Try.results88, go_sem]) rfl ⟨rfl, HB2.out⟩
theorem sforms_no (a0 a1 a2 a3 a4 a5 : Int) (hv : (ok a0 && ok a1 && ok a2 && ok a3 && ok a4 && ok a5) = false) (w : World) : Calls Try.prog 87 #[.agg #[.int .i64 a0, .int .i64 a1, .int .i64 a2, .int .i64 a3, .int .i64 a4, .int .i64 a5]] w fun e w' => e = .returned (.tuple #[.int .i64 0, .bool false]) ∧ Below w.heap.size w w' := by
  have HV := sh_as a0 a1 a2 a3 a4 a5 hv
  go_enter Try.func87, Try.ntmps87
  go_wp2_with fail
  have HB := Lib.hid (show Below w.heap.size w (w.alloc (.cells #[.int .i64 a0, .int .i64 a1, .int .i64 a2, .int .i64 a3, .int .i64 a4, .int .i64 a5] 28)) by (repeat (first | exact Below.refl _ _ | assumption | refine Below.setCell ?_ (by first | (simp; done) | (simp; omega)) _ | refine Below.alloc ?_ (by first | (simp; done) | (simp; omega)) _ | refine Below.drew ?_)))
  refine (HV.out _).mono ?_
  rintro e W1 ⟨rfl, hb⟩
  have HB1 := Lib.hid (below_of HB.out hb HB.out.size)
  clear hb HB HV
  go_wp2_with fail
  refine bodyPost_ret (v := .tuple #[.int .i64 0, .bool false]) (by simp [results, Try.results87, go_sem]) rfl ⟨rfl, HB1.out⟩
theorem iforms_no (a0 a1 a2 a3 a4 a5 : Int) (hv : (ok a0 && ok a1 && ok a2 && ok a3 && ok a4 && ok a5) = false) (w : World) : Calls Try.prog 88 #[.agg #[.int .i64 a0, .int .i64 a1, .int .i64 a2, .int .i64 a3, .int .i64 a4, .int .i64 a5]] w fun e w' => e = .returned (.tuple #[.int .i64 0, .bool false]) ∧ Below w.heap.size w w' := by
  have HP := Lib.hid (ikept_no a0 a1 a2 a3 a4 a5 hv)
  go_enter Try.func88, Try.ntmps88
  go_wp2_with fail
  have HB := Lib.hid (show Below w.heap.size w (w.alloc (.cells #[.int .i64 a0, .int .i64 a1, .int .i64 a2, .int .i64 a3, .int .i64 a4, .int .i64 a5] 28)) by (repeat (first | exact Below.refl _ _ | assumption | refine Below.setCell ?_ (by first | (simp; done) | (simp; omega)) _ | refine Below.alloc ?_ (by first | (simp; done) | (simp; omega)) _ | refine Below.drew ?_)))
  refine (HP.out _).mono ?_
  rintro e W2 ⟨g, cap, rfl, ho, hb⟩
  have HB2 := Lib.hid (below_of HB.out hb HB.out.size)
  clear hb HB ho
  go_wp2_with fail
  refine bodyPost_ret (v := .tuple #[.int .i64 0, .bool false]) (by simp [results, Try.results88, go_sem]) rfl ⟨rfl, HB2.out⟩
set_option maxHeartbeats 2000000 in
theorem forms_core (a0 a1 a2 a3 a4 a5 : Int) (r : Int) (t : Bool) (HS : Hid (∀ w, Calls Try.prog 87 #[.agg #[.int .i64 a0, .int .i64 a1, .int .i64 a2, .int .i64 a3, .int .i64 a4, .int .i64 a5]] w fun e w' => e = .returned (.tuple #[.int .i64 r, .bool t]) ∧ Below w.heap.size w w')) (HI : Hid (∀ w, Calls Try.prog 88 #[.agg #[.int .i64 a0, .int .i64 a1, .int .i64 a2, .int .i64 a3, .int .i64 a4, .int .i64 a5]] w fun e w' => e = .returned (.tuple #[.int .i64 r, .bool t]) ∧ Below w.heap.size w w')) (w : World) : Calls Try.prog 20 #[.agg #[.int .i64 a0, .int .i64 a1, .int .i64 a2, .int .i64 a3, .int .i64 a4, .int .i64 a5]] w fun e w' => e = .returned (.bool true) ∧ Below w.heap.size w w' := by
  have HT := Lib.hid (to_sheet a0 a1 a2 a3 a4 a5)
  go_enter Try.func20, Try.ntmps20
  go_wp2_with fail
  generalize hW : (World.alloc _ _ : World) = W0
  have k0 : W0.cell? ⟨w.heap.size, 0, none⟩ = some (.int .i64 a0) ∧ W0.cell? ⟨w.heap.size, 1, none⟩ = some (.int .i64 a1) ∧ W0.cell? ⟨w.heap.size, 2, none⟩ = some (.int .i64 a2) ∧ W0.cell? ⟨w.heap.size, 3, none⟩ = some (.int .i64 a3) ∧ W0.cell? ⟨w.heap.size, 4, none⟩ = some (.int .i64 a4) ∧ W0.cell? ⟨w.heap.size, 5, none⟩ = some (.int .i64 a5) ∧ Below w.heap.size w W0 := by
    subst hW
    refine ⟨by go_simp, by go_simp, by go_simp, by go_simp, by go_simp, by go_simp, ?_⟩
    (repeat (first | exact Below.refl _ _ | assumption | refine Below.setCell ?_ (by first | (simp; done) | (simp; omega)) _ | refine Below.alloc ?_ (by first | (simp; done) | (simp; omega)) _ | refine Below.drew ?_))
  clear hW
  refine (HT.out _).mono ?_
  rintro e w' ⟨rfl, hb⟩
  have hk := keepc6 k0 hb rfl
  clear hb k0
  have k1 := hk
  clear hk
  have hc := k1
  obtain ⟨y0, y1, y2, y3, y4, y5, hy⟩ := hc
  go_wp2_with fail
  refine (HS.out _).mono ?_
  rintro e w' ⟨rfl, hb⟩
  have hk := keepc6 k1 hb rfl
  clear hb k1 y0 y1 y2 y3 y4 y5 hy
  have k2 := hk
  clear hk
  have hc := k2
  obtain ⟨y0, y1, y2, y3, y4, y5, hy⟩ := hc
  go_wp2_with fail
  refine (HT.out _).mono ?_
  rintro e w' ⟨rfl, hb⟩
  have hk := keepc6 k2 hb rfl
  clear hb k2 y0 y1 y2 y3 y4 y5 hy
  have k3 := hk
  clear hk
  have hc := k3
  obtain ⟨y0, y1, y2, y3, y4, y5, hy⟩ := hc
  go_wp2_with fail
  refine (HI.out _).mono ?_
  rintro e w' ⟨rfl, hb⟩
  have hk := keepc6 k3 hb rfl
  clear hb k3 y0 y1 y2 y3 y4 y5 hy
  have k4 := hk
  clear hk
  have hc := k4
  obtain ⟨y0, y1, y2, y3, y4, y5, hy⟩ := hc
  go_wp2_with fail
  go_ret
  exact ⟨rfl, hy⟩
theorem forms_law (a0 a1 a2 a3 a4 a5 : Int) (w : World) : Calls Try.prog 20 #[.agg #[.int .i64 a0, .int .i64 a1, .int .i64 a2, .int .i64 a3, .int .i64 a4, .int .i64 a5]] w fun e w' => e = .returned (.bool true) ∧ Below w.heap.size w w' := by
  cases hv : (ok a0 && ok a1 && ok a2 && ok a3 && ok a4 && ok a5)
  · exact forms_core a0 a1 a2 a3 a4 a5 0 false (Lib.hid (sforms_no a0 a1 a2 a3 a4 a5 hv)) (Lib.hid (iforms_no a0 a1 a2 a3 a4 a5 hv)) w
  · obtain ⟨f, rfl, rfl, rfl, rfl, rfl, rfl⟩ := sheet_bits a0 a1 a2 a3 a4 a5 hv
    exact forms_core _ _ _ _ _ _ _ true (Lib.hid (sforms_f f _ rfl (ks_pos f) (ks600 f))) (Lib.hid (iforms_f f _ rfl (ks_pos f) (ks600 f))) w
end Go.Proofs.Ytpgfmigbjffemaa
