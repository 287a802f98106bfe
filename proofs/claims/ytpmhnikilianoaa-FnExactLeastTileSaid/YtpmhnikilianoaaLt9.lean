/- CONTRACTS: LeastTile of the code; where the sheet is not valid; the pair. -/
import Derived.Test.YtpmhnikilianoaaLt8
import Derived.WalkKit
import Derived.ProofKit
import Derived.OpenShut
import Derived.Lib.Hide
import Derived.WalkSpells
import Derived.Below
import Derived.BigQuiet
import Derived.LoopN
namespace Go.Proofs.Ytpmhnikilianoaa
open Go.ChangeShapes Go.WideShapes Go.ChangeAt Go.RowKit
set_option linter.unusedVariables false
open Go.Maps Go.ChangeMaps Go.MapKept
/-- Midway: the sheet, the answer's room, and the map in block b. -/
def Hm7 (w : World) (a : Fn6) (b : Nat) (W : World) : Prop := KR 2 [(w.heap.size, o6 a), (w.heap.size + 1, .cells #[.int .i64 0, .int .i64 0] 37 (0, 0))] w W ∧ w.heap.size + 2 ≤ b ∧ b < W.heap.size ∧ ∃ n D, W.ownsMap Try.prog 28 RV7 b n (D : DataW Value)
theorem Hm7.step {w W W' : World} {a : Fn6} {b : Nat} (h : Hm7 w a b W) (hD : ∃ D2, W'.ownsMap Try.prog 28 RV7 b 36 (D2 : DataW Value)) (hg : W.grownBy W' (some b)) : Hm7 w a b W' := by
  obtain ⟨h1, h2, h3, _⟩ := h
  obtain ⟨D2, hD⟩ := hD
  exact ⟨h1.grown hg (fun k hk => by cases hk; exact h2), h2, Nat.lt_of_lt_of_le h3 hg.size, 36, D2, hD⟩
theorem Hm7.drew {w W : World} {a : Fn6} {b : Nat} (h : Hm7 w a b W) : Hm7 w a b W.drew := by
  obtain ⟨h1, h2, h3, n, D, h4⟩ := h
  exact ⟨h1.drew, h2, h3, n, D, h4.drew⟩
theorem Hm7_c {w W : World} {a : Fn6} {b : Nat} (h : Hm7 w a b W) : ∀ j, W.cell? ⟨w.heap.size, j, none⟩ = (#[.int .i64 (rowv (a 0)), .int .i64 (rowv (a 1)), .int .i64 (rowv (a 2)), .int .i64 (rowv (a 3)), .int .i64 (rowv (a 4)), .int .i64 (rowv (a 5))] : Array Value)[j]? := fun j => cell_of_row W _ j _ _ _ (h.1.row (g := w.heap.size) (o := o6 a) (List.mem_cons_self ..))
theorem Hm7_z {w W : World} {a : Fn6} {b : Nat} (h : Hm7 w a b W) : W.heap[w.heap.size + 1]? = some (.cells #[.int .i64 0, .int .i64 0] 37 (0, 0)) := h.1.row (List.mem_cons_of_mem _ (List.mem_cons_self ..))
theorem countsA (a : Fn6) (w : World) (b : Nat) (W : World) (h : Hm7 w a b W) : Calls Try.prog 125 #[.map (some b), .agg #[.int .i64 (rowv (a 0)), .int .i64 (rowv (a 1)), .int .i64 (rowv (a 2)), .int .i64 (rowv (a 3)), .int .i64 (rowv (a 4)), .int .i64 (rowv (a 5))], .int .i64 6, .int .i64 1] W fun e w' => e = .returned (.int .i64 ((nd (ek a 1) 6 : Nat) : Int)) ∧ Hm7 w a b w' := by
  obtain ⟨n, D, hm⟩ := h.2.2.2
  refine (counts_f a 1 6 (.inr rfl) (.inl rfl) b n D W hm).mono ?_
  rintro e w' ⟨rfl, hD, hg⟩
  exact ⟨rfl, h.step hD hg⟩
theorem countsB (a : Fn6) (w : World) (b : Nat) (W : World) (h : Hm7 w a b W) : Calls Try.prog 125 #[.map (some b), .agg #[.int .i64 (rowv (a 0)), .int .i64 (rowv (a 1)), .int .i64 (rowv (a 2)), .int .i64 (rowv (a 3)), .int .i64 (rowv (a 4)), .int .i64 (rowv (a 5))], .int .i64 1, .int .i64 6] W fun e w' => e = .returned (.int .i64 ((nd (ek a 6) 6 : Nat) : Int)) ∧ Hm7 w a b w' := by
  obtain ⟨n, D, hm⟩ := h.2.2.2
  refine (counts_f a 6 1 (.inl rfl) (.inr rfl) b n D W hm).mono ?_
  rintro e w' ⟨rfl, hD, hg⟩
  exact ⟨rfl, h.step hD hg⟩
set_option maxHeartbeats 4000000 in
theorem ileast_yes (a : Fn6) (H0 : Hid (∀ w, Calls Try.prog 122 #[.agg #[.int .i64 (rowv (a 0)), .int .i64 (rowv (a 1)), .int .i64 (rowv (a 2)), .int .i64 (rowv (a 3)), .int .i64 (rowv (a 4)), .int .i64 (rowv (a 5))]] w fun e w' => e = .returned (.bool true) ∧ Below w.heap.size w w')) (w : World) : Calls Try.prog 34 #[.agg #[.int .i64 (rowv (a 0)), .int .i64 (rowv (a 1)), .int .i64 (rowv (a 2)), .int .i64 (rowv (a 3)), .int .i64 (rowv (a 4)), .int .i64 (rowv (a 5))]] w fun e w' => e = .returned (.tuple #[.agg #[.int .i64 (lw (fun x => sg7 a a x 0) : Int), .int .i64 (lw (fun y => sg7 a a 0 y) : Int)], .bool true]) ∧ Below w.heap.size w w' := by
  have HA := countsA a w
  have HB := countsB a w
  rw [least_x] at HA
  rw [least_y] at HB
  generalize lw (fun x => sg7 a a x 0) = P at HA ⊢
  generalize lw (fun y => sg7 a a 0 y) = Q at HB ⊢
  have HA := Lib.hid HA
  have HB := Lib.hid HB
  have hmm := run_makeMap7
  go_enter Try.func34, Try.ntmps34
  go_wp2_with fail
  generalize hW : (World.alloc _ _ : World) = W0
  have K0 : KR 2 [(w.heap.size, o6 a), (w.heap.size + 1, .cells #[.int .i64 0, .int .i64 0] 37 (0, 0))] w W0 := hW ▸ kr2l w _ _
  clear hW
  have a_c := fun j => cell_of_row W0 _ j _ _ _ (K0.row (g := w.heap.size) (o := o6 a) (by simp))
  go_wp2_with fail
  refine (H0.out _).mono ?_
  rintro e W1 ⟨rfl, hb⟩
  have K1 := K0.far hb rfl
  clear hb K0 a_c
  go_wp2_with fail
  have hq0 : Hm7 w a W1.heap.size (W1.alloc (.map #[] 0)) := ⟨K1.al, K1.2.1, by simp, 0, .map [], World.ownsMap_made W1 Try.prog 28 RV7⟩
  clear K1 H0 hmm
  generalize (World.alloc _ _ : World) = W2 at hq0 ⊢
  generalize W1.heap.size = b at hq0 ⊢
  have hq := hq0.drew
  clear hq0
  have a_c := Hm7_c hq
  set_option maxRecDepth 8000 in
  go_region_with (first | (go_at_call 125; first | (with_reducible refine (HA.out _ _ hq).mono ?_; rintro e w' ⟨rfl, hq⟩; have b_c := Hm7_c hq; have z_c := fun j => cell_of_row _ _ j _ _ _ (Hm7_z hq); have z_f := fun j => frozen_of_row _ _ j _ _ (Hm7_z hq)) | (with_reducible refine (HB.out _ _ hq).mono ?_; rintro e w' ⟨rfl, hq⟩; have b_c := Hm7_c hq; have z_c := fun j => cell_of_row _ _ j _ _ _ (Hm7_z hq); have z_f := fun j => frozen_of_row _ _ j _ _ (Hm7_z hq))))
  all_goals
    have hz1 := Hm7_z hq
    have hB := hq.1.2.2
    clear z_c z_f b_c a_c HA HB
    go_wp2_with fail
    have qr := o7_set2 (.int .i64 (P : Int)) (.int .i64 (Q : Int)) hz1
    have hB2 := belowc2 (u0 := .int .i64 (P : Int)) (u1 := .int .i64 (Q : Int)) hB (show w.heap.size ≤ w.heap.size + 1 by omega)
    clear hB hz1 hq
    generalize (World.setCell _ _ _ : World) = X at qr hB2 ⊢
    have x_c := fun j => cell_of_row X _ j _ _ _ qr
    exact bodyPost_ret (v := .tuple #[.agg #[.int .i64 (P : Int), .int .i64 (Q : Int)], .bool true]) (by simp [results, Try.results34, go_sem, x_c]) rfl ⟨rfl, hB2⟩
set_option maxHeartbeats 1000000 in
theorem sleast_no (a0 a1 a2 a3 a4 a5 : Int) (H0 : Hid (∀ w, Calls Try.prog 119 #[.agg #[.int .i64 a0, .int .i64 a1, .int .i64 a2, .int .i64 a3, .int .i64 a4, .int .i64 a5]] w fun e w' => e = .returned (.bool false) ∧ Below w.heap.size w w')) (w : World) : Calls Try.prog 33 #[.agg #[.int .i64 a0, .int .i64 a1, .int .i64 a2, .int .i64 a3, .int .i64 a4, .int .i64 a5]] w fun e w' => e = .returned (.tuple #[.agg #[.int .i64 0, .int .i64 0], .bool false]) ∧ Below w.heap.size w w' := by
  go_enter Try.func33, Try.ntmps33
  go_wp2_with fail
  generalize hW : (World.alloc _ _ : World) = W0
  have K0 : KR 2 [(w.heap.size, o7e a0 a1 a2 a3 a4 a5), (w.heap.size + 1, .cells #[.int .i64 0, .int .i64 0] 37 (0, 0))] w W0 := hW ▸ kr2l w _ _
  clear hW
  have a_c := fun j => cell_of_row W0 _ j _ _ _ (K0.row (g := w.heap.size) (o := o7e a0 a1 a2 a3 a4 a5) (by simp))
  go_wp2_with fail
  refine (H0.out _).mono ?_
  rintro e W1 ⟨rfl, hb⟩
  have K1 := K0.far hb rfl
  clear hb K0 a_c
  have hz1 := K1.row (g := w.heap.size + 1) (o := .cells #[.int .i64 0, .int .i64 0] 37 (0, 0)) (List.mem_cons_of_mem _ (List.mem_cons_self ..))
  have z_c := fun j => cell_of_row _ _ j _ _ _ hz1
  have z_f := fun j => frozen_of_row _ _ j _ _ hz1
  have hB := K1.2.2
  clear K1
  go_wp2_with fail
  have qr := o7_set2 (.int .i64 0) (.int .i64 0) hz1
  have hB2 := belowc2 (u0 := .int .i64 0) (u1 := .int .i64 0) hB (show w.heap.size ≤ w.heap.size + 1 by omega)
  clear z_c z_f hB hz1
  generalize (World.setCell _ _ _ : World) = X at qr hB2 ⊢
  have x_c := fun j => cell_of_row X _ j _ _ _ qr
  exact bodyPost_ret (v := .tuple #[.agg #[.int .i64 0, .int .i64 0], .bool false]) (by simp [results, Try.results33, go_sem, x_c]) rfl ⟨rfl, hB2⟩
set_option maxHeartbeats 1000000 in
theorem ileast_no (a0 a1 a2 a3 a4 a5 : Int) (H0 : Hid (∀ w, Calls Try.prog 122 #[.agg #[.int .i64 a0, .int .i64 a1, .int .i64 a2, .int .i64 a3, .int .i64 a4, .int .i64 a5]] w fun e w' => e = .returned (.bool false) ∧ Below w.heap.size w w')) (w : World) : Calls Try.prog 34 #[.agg #[.int .i64 a0, .int .i64 a1, .int .i64 a2, .int .i64 a3, .int .i64 a4, .int .i64 a5]] w fun e w' => e = .returned (.tuple #[.agg #[.int .i64 0, .int .i64 0], .bool false]) ∧ Below w.heap.size w w' := by
  go_enter Try.func34, Try.ntmps34
  go_wp2_with fail
  generalize hW : (World.alloc _ _ : World) = W0
  have K0 : KR 2 [(w.heap.size, o7e a0 a1 a2 a3 a4 a5), (w.heap.size + 1, .cells #[.int .i64 0, .int .i64 0] 37 (0, 0))] w W0 := hW ▸ kr2l w _ _
  clear hW
  have a_c := fun j => cell_of_row W0 _ j _ _ _ (K0.row (g := w.heap.size) (o := o7e a0 a1 a2 a3 a4 a5) (by simp))
  go_wp2_with fail
  refine (H0.out _).mono ?_
  rintro e W1 ⟨rfl, hb⟩
  have K1 := K0.far hb rfl
  clear hb K0 a_c
  have hz1 := K1.row (g := w.heap.size + 1) (o := .cells #[.int .i64 0, .int .i64 0] 37 (0, 0)) (List.mem_cons_of_mem _ (List.mem_cons_self ..))
  have z_c := fun j => cell_of_row _ _ j _ _ _ hz1
  have z_f := fun j => frozen_of_row _ _ j _ _ hz1
  have hB := K1.2.2
  clear K1
  go_wp2_with fail
  have qr := o7_set2 (.int .i64 0) (.int .i64 0) hz1
  have hB2 := belowc2 (u0 := .int .i64 0) (u1 := .int .i64 0) hB (show w.heap.size ≤ w.heap.size + 1 by omega)
  clear z_c z_f hB hz1
  generalize (World.setCell _ _ _ : World) = X at qr hB2 ⊢
  have x_c := fun j => cell_of_row X _ j _ _ _ qr
  exact bodyPost_ret (v := .tuple #[.agg #[.int .i64 0, .int .i64 0], .bool false]) (by simp [results, Try.results34, go_sem, x_c]) rfl ⟨rfl, hB2⟩
theorem least_pair (a0 a1 a2 a3 a4 a5 : Int) : ∃ (p q : Int) (t : Bool), (∀ w, Calls Try.prog 33 #[.agg #[.int .i64 a0, .int .i64 a1, .int .i64 a2, .int .i64 a3, .int .i64 a4, .int .i64 a5]] w fun e w' => e = .returned (.tuple #[.agg #[.int .i64 p, .int .i64 q], .bool t]) ∧ Below w.heap.size w w') ∧ (∀ w, Calls Try.prog 34 #[.agg #[.int .i64 a0, .int .i64 a1, .int .i64 a2, .int .i64 a3, .int .i64 a4, .int .i64 a5]] w fun e w' => e = .returned (.tuple #[.agg #[.int .i64 p, .int .i64 q], .bool t]) ∧ Below w.heap.size w w') := by
  cases hv : (ok a0 && ok a1 && ok a2 && ok a3 && ok a4 && ok a5)
  · exact ⟨0, 0, false, sleast_no a0 a1 a2 a3 a4 a5 (Lib.hid (fun w => hv ▸ l2sheet_any a0 a1 a2 a3 a4 a5 w)), ileast_no a0 a1 a2 a3 a4 a5 (Lib.hid (fun w => hv ▸ sheet_any a0 a1 a2 a3 a4 a5 w))⟩
  · have HS := Lib.hid (fun w => hv ▸ l2sheet_any a0 a1 a2 a3 a4 a5 w)
    have HI := Lib.hid (fun w => hv ▸ sheet_any a0 a1 a2 a3 a4 a5 w)
    obtain ⟨f, rfl, rfl, rfl, rfl, rfl, rfl⟩ := sheet_bits a0 a1 a2 a3 a4 a5 hv
    exact ⟨_, _, true, sleast_yes f HS, ileast_yes f HI⟩
/-- The law's walk. -/
def ol9 (a0 a1 a2 a3 a4 a5 : Int) : Obj := .cells #[.int .i64 a0, .int .i64 a1, .int .i64 a2, .int .i64 a3, .int .i64 a4, .int .i64 a5] 24 (0, 0)
set_option maxHeartbeats 2000000 in
theorem least_core (a0 a1 a2 a3 a4 a5 : Int) (p q : Int) (t : Bool) (HS : Hid (∀ w, Calls Try.prog 33 #[.agg #[.int .i64 a0, .int .i64 a1, .int .i64 a2, .int .i64 a3, .int .i64 a4, .int .i64 a5]] w fun e w' => e = .returned (.tuple #[.agg #[.int .i64 p, .int .i64 q], .bool t]) ∧ Below w.heap.size w w')) (HI : Hid (∀ w, Calls Try.prog 34 #[.agg #[.int .i64 a0, .int .i64 a1, .int .i64 a2, .int .i64 a3, .int .i64 a4, .int .i64 a5]] w fun e w' => e = .returned (.tuple #[.agg #[.int .i64 p, .int .i64 q], .bool t]) ∧ Below w.heap.size w w')) (w : World) : Calls Try.prog 6 #[.agg #[.int .i64 a0, .int .i64 a1, .int .i64 a2, .int .i64 a3, .int .i64 a4, .int .i64 a5]] w fun e w' => e = .returned (.bool true) ∧ Below w.heap.size w w' := by
  have HT := Lib.hid (to_sheet a0 a1 a2 a3 a4 a5)
  have HE := Lib.hid (eqa2_same p q)
  go_enter Try.func6, Try.ntmps6
  go_wp2_with fail
  generalize hW : (World.alloc _ _ : World) = W0
  have K0 : KR 1 [(w.heap.size, ol9 a0 a1 a2 a3 a4 a5)] w W0 := hW ▸ kr1 w _
  clear hW
  have a_c := fun j => cell_of_row W0 _ j _ _ _ (K0.row (g := w.heap.size) (o := ol9 a0 a1 a2 a3 a4 a5) (by simp))
  go_wp2_with fail
  refine (HT.out _).mono ?_
  rintro e V1 ⟨rfl, hb⟩
  have K1 := K0.far hb rfl
  clear hb K0 a_c
  go_wp2_with fail
  refine (HS.out _).mono ?_
  rintro e V2 ⟨rfl, hb⟩
  have K2 := K1.far hb rfl
  clear hb K1
  have a_c := fun j => cell_of_row V2 _ j _ _ _ (K2.row (g := w.heap.size) (o := ol9 a0 a1 a2 a3 a4 a5) (by simp))
  have hlt : w.heap.size < V2.heap.size := by have := K2.2.1; omega
  have hne : w.heap.size ≠ V2.heap.size := by omega
  go_wp2_with fail
  have K3 := K2.al (o := .cells #[.int .i64 p, .int .i64 q] 37 (0, 0))
  have q1 : (V2.alloc (.cells #[.int .i64 p, .int .i64 q] 37)).heap[V2.heap.size]? = some (.cells #[.int .i64 p, .int .i64 q] 37 (0, 0)) := alloc_at rfl
  have hg1 : V2.heap.size < (V2.alloc (.cells #[.int .i64 p, .int .i64 q] 37)).heap.size := by simp
  clear K2 a_c hlt hne
  generalize (World.alloc _ _ : World) = X1 at K3 q1 hg1 ⊢
  generalize V2.heap.size = g1 at q1 hg1 ⊢
  refine (HT.out _).mono ?_
  rintro e V3 ⟨rfl, hb⟩
  have K4 := K3.far hb rfl
  have q2 := row_keep hb hg1 q1
  have hg2 : g1 < V3.heap.size := Nat.lt_of_lt_of_le hg1 hb.size
  clear hb K3 q1 hg1
  go_wp2_with fail
  refine (HI.out _).mono ?_
  rintro e V4 ⟨rfl, hb⟩
  have K5 := K4.far hb rfl
  have q3 := row_keep hb hg2 q2
  have hg3 : g1 < V4.heap.size := Nat.lt_of_lt_of_le hg2 hb.size
  clear hb K4 q2 hg2
  have c3 := fun j => cell_of_row V4 _ j _ _ _ q3
  have hne : g1 ≠ V4.heap.size := by omega
  go_wp2_with fail
  have hB := K5.2.2.alloc K5.2.2.size (.cells #[.int .i64 p, .int .i64 q] 37)
  clear K5 c3 q3 hg3 hne
  refine (HE.out _).mono ?_
  rintro e V5 ⟨rfl, hb⟩
  have hB2 := below_of hB hb hB.size
  clear hb hB
  go_wp2_with fail
  go_ret
  exact ⟨rfl, hB2⟩
end Go.Proofs.Ytpmhnikilianoaa
