/- CONTRACTS: CountShifts of both; the pair. -/
import Derived.Test.YtpmhnikilianoaaM8
import Derived.WalkKit
import Derived.ProofKit
import Derived.OpenShut
import Derived.Lib.Hide
import Derived.WalkSpells
import Derived.Below
import Derived.BigQuiet
import Derived.LoopN
namespace Go.Proofs.Ytpmhnikilianoaa
open Go.ChangeShapes Go.WideShapes Go.ChangeAt Go.RowKit
set_option linter.unusedVariables false
open Go.Maps Go.ChangeMaps Go.MapKept
theorem run_makeMap7 (w : World) : (Instr.makeMap 118 none).run Try.prog w = .ok (.map (some w.heap.size)) (w.alloc (.map #[] 0)) := by kernel_rfl
set_option maxHeartbeats 1000000 in
theorem sshifts_yes (a : Fn6) (H0 : Hid (∀ w, Calls Try.prog 119 #[.agg #[.int .i64 (rowv (a 0)), .int .i64 (rowv (a 1)), .int .i64 (rowv (a 2)), .int .i64 (rowv (a 3)), .int .i64 (rowv (a 4)), .int .i64 (rowv (a 5))]] w fun e w' => e = .returned (.bool true) ∧ Below w.heap.size w w')) (w : World) : Calls Try.prog 31 #[.agg #[.int .i64 (rowv (a 0)), .int .i64 (rowv (a 1)), .int .i64 (rowv (a 2)), .int .i64 (rowv (a 3)), .int .i64 (rowv (a 4)), .int .i64 (rowv (a 5))]] w fun e w' => e = .returned (.tuple #[.int .i64 ((nd (ek a 6) 36 : Nat) : Int), .bool true]) ∧ Below w.heap.size w w' := by
  have HF := Lib.hid (lto_f a a)
  have hn := shifts_number a
  have hl := pl_len (sg7 a a) 36
  obtain ⟨l, hll⟩ : ∃ l, l = pl (sg7 a a) 36 := ⟨_, rfl⟩
  rw [← hll] at HF hn hl
  clear hll
  generalize nd (ek a 6) 36 = N at hn ⊢
  have hl0 : 0 < l.length := by
    rcases Nat.eq_zero_or_pos l.length with h | h
    · rw [h] at hn; omega
    · exact h
  have hq : (36 : Int).tdiv (l.length : Int) = (N : Int) := by
    rw [Int.tdiv_eq_ediv_of_nonneg (by omega)]
    have : 36 / l.length = N := by rw [← hn]; exact Nat.mul_div_cancel _ hl0
    rw [← this]
    rfl
  have hN : N ≤ 36 := by
    have := Nat.le_mul_of_pos_right N hl0
    omega
  have HN := Lib.hid hn
  have hz : ¬ ((l.length : Int) = 0) := by omega
  clear hn
  go_enter Try.func31, Try.ntmps31
  go_wp2_with fail
  generalize hW : (World.alloc _ _ : World) = W0
  have K0 : KR 1 [(w.heap.size, o6 a)] w W0 := hW ▸ kr1 w _
  clear hW
  have a_c := fun j => cell_of_row W0 _ j _ _ _ (K0.row (g := w.heap.size) (o := o6 a) (by simp))
  go_wp2_with fail
  refine (H0.out _).mono ?_
  rintro e W1 ⟨rfl, hb⟩
  have K2 := K0.far hb rfl
  clear hb K0 a_c
  have a_c := fun j => cell_of_row W1 _ j _ _ _ (K2.row (g := w.heap.size) (o := o6 a) (by simp))
  go_wp2_with fail
  refine (HF.out _).mono ?_
  rintro e W3 ⟨g, cap, rfl, ho, hb⟩
  have HB := Lib.hid (below_of K2.2.2 hb K2.2.2.size)
  clear hb ho K2 a_c
  go_wp2_with fail
  go_ret2
  exact ⟨rfl, HB.out⟩
set_option maxHeartbeats 1000000 in
theorem sshifts_no (a0 a1 a2 a3 a4 a5 : Int) (H0 : Hid (∀ w, Calls Try.prog 119 #[.agg #[.int .i64 a0, .int .i64 a1, .int .i64 a2, .int .i64 a3, .int .i64 a4, .int .i64 a5]] w fun e w' => e = .returned (.bool false) ∧ Below w.heap.size w w')) (w : World) : Calls Try.prog 31 #[.agg #[.int .i64 a0, .int .i64 a1, .int .i64 a2, .int .i64 a3, .int .i64 a4, .int .i64 a5]] w fun e w' => e = .returned (.tuple #[.int .i64 0, .bool false]) ∧ Below w.heap.size w w' := by
  go_enter Try.func31, Try.ntmps31
  go_wp2_with fail
  generalize hW : (World.alloc _ _ : World) = W0
  have K0 : KR 1 [(w.heap.size, o7e a0 a1 a2 a3 a4 a5)] w W0 := hW ▸ kr1 w _
  clear hW
  have a_c := fun j => cell_of_row W0 _ j _ _ _ (K0.row (g := w.heap.size) (o := o7e a0 a1 a2 a3 a4 a5) (by simp))
  go_wp2_with fail
  refine (H0.out _).mono ?_
  rintro e W1 ⟨rfl, hb⟩
  have K1 := K0.far hb rfl
  clear hb K0 a_c
  go_wp2_with fail
  go_ret2
  exact ⟨rfl, K1.2.2⟩
set_option maxHeartbeats 1000000 in
theorem ishifts_no (a0 a1 a2 a3 a4 a5 : Int) (H0 : Hid (∀ w, Calls Try.prog 122 #[.agg #[.int .i64 a0, .int .i64 a1, .int .i64 a2, .int .i64 a3, .int .i64 a4, .int .i64 a5]] w fun e w' => e = .returned (.bool false) ∧ Below w.heap.size w w')) (w : World) : Calls Try.prog 32 #[.agg #[.int .i64 a0, .int .i64 a1, .int .i64 a2, .int .i64 a3, .int .i64 a4, .int .i64 a5]] w fun e w' => e = .returned (.tuple #[.int .i64 0, .bool false]) ∧ Below w.heap.size w w' := by
  go_enter Try.func32, Try.ntmps32
  go_wp2_with fail
  generalize hW : (World.alloc _ _ : World) = W0
  have K0 : KR 1 [(w.heap.size, o7e a0 a1 a2 a3 a4 a5)] w W0 := hW ▸ kr1 w _
  clear hW
  have a_c := fun j => cell_of_row W0 _ j _ _ _ (K0.row (g := w.heap.size) (o := o7e a0 a1 a2 a3 a4 a5) (by simp))
  go_wp2_with fail
  refine (H0.out _).mono ?_
  rintro e W1 ⟨rfl, hb⟩
  have K1 := K0.far hb rfl
  clear hb K0 a_c
  go_wp2_with fail
  go_ret2
  exact ⟨rfl, K1.2.2⟩
set_option maxHeartbeats 1000000 in
theorem ishifts_yes (a : Fn6) (H0 : Hid (∀ w, Calls Try.prog 122 #[.agg #[.int .i64 (rowv (a 0)), .int .i64 (rowv (a 1)), .int .i64 (rowv (a 2)), .int .i64 (rowv (a 3)), .int .i64 (rowv (a 4)), .int .i64 (rowv (a 5))]] w fun e w' => e = .returned (.bool true) ∧ Below w.heap.size w w')) (w : World) : Calls Try.prog 32 #[.agg #[.int .i64 (rowv (a 0)), .int .i64 (rowv (a 1)), .int .i64 (rowv (a 2)), .int .i64 (rowv (a 3)), .int .i64 (rowv (a 4)), .int .i64 (rowv (a 5))]] w fun e w' => e = .returned (.tuple #[.int .i64 ((nd (ek a 6) 36 : Nat) : Int), .bool true]) ∧ Below w.heap.size w w' := by
  have hF : ∀ (b n : Nat) (D : DataW Value) (w : World), w.ownsMap Try.prog 28 RV7 b n D → Calls Try.prog 125 #[.map (some b), .agg #[.int .i64 (rowv (a 0)), .int .i64 (rowv (a 1)), .int .i64 (rowv (a 2)), .int .i64 (rowv (a 3)), .int .i64 (rowv (a 4)), .int .i64 (rowv (a 5))], .int .i64 6, .int .i64 6] w fun e w' => e = .returned (.int .i64 ((nd (ek a 6) 36 : Nat) : Int)) ∧ (∃ D2, w'.ownsMap Try.prog 28 RV7 b 36 D2) ∧ w.grownBy w' (some b) := fun b n D w h => counts_f a 6 6 (.inl rfl) (.inl rfl) b n D w h
  have HF := Lib.hid hF
  have hmm := run_makeMap7
  clear hF
  generalize nd (ek a 6) 36 = N at HF ⊢
  go_enter Try.func32, Try.ntmps32
  go_wp2_with fail
  generalize hW : (World.alloc _ _ : World) = W0
  have K0 : KR 1 [(w.heap.size, o6 a)] w W0 := hW ▸ kr1 w _
  clear hW
  have a_c := fun j => cell_of_row W0 _ j _ _ _ (K0.row (g := w.heap.size) (o := o6 a) (by simp))
  go_wp2_with fail
  refine (H0.out _).mono ?_
  rintro e W1 ⟨rfl, hb⟩
  have K2 := K0.far hb rfl
  clear hb K0 a_c
  have hm := World.ownsMap_made W1 Try.prog 28 RV7
  have a_c := fun j => cell_of_row W1 _ j _ _ _ (K2.row (g := w.heap.size) (o := o6 a) (by simp))
  have hlt : w.heap.size < W1.heap.size := by have := K2.2.1; omega
  have hne : w.heap.size ≠ W1.heap.size := by omega
  go_wp2_with fail
  refine (HF.out _ _ _ _ hm).mono ?_
  rintro e W2 ⟨rfl, hD, hg⟩
  have hB := (K2.2.2.alloc K2.2.2.size (.map #[] 0)).grown hg (by simp; omega) (fun k hk => by cases hk; omega)
  clear hD hg hm a_c K2 hmm
  go_wp2_with fail
  go_ret2
  exact ⟨rfl, hB⟩
theorem shifts_pair (a0 a1 a2 a3 a4 a5 : Int) : ∃ (r : Int) (t : Bool), (∀ w, Calls Try.prog 31 #[.agg #[.int .i64 a0, .int .i64 a1, .int .i64 a2, .int .i64 a3, .int .i64 a4, .int .i64 a5]] w fun e w' => e = .returned (.tuple #[.int .i64 r, .bool t]) ∧ Below w.heap.size w w') ∧ (∀ w, Calls Try.prog 32 #[.agg #[.int .i64 a0, .int .i64 a1, .int .i64 a2, .int .i64 a3, .int .i64 a4, .int .i64 a5]] w fun e w' => e = .returned (.tuple #[.int .i64 r, .bool t]) ∧ Below w.heap.size w w') := by
  cases hv : (ok a0 && ok a1 && ok a2 && ok a3 && ok a4 && ok a5)
  · exact ⟨0, false, sshifts_no a0 a1 a2 a3 a4 a5 (Lib.hid (fun w => hv ▸ l2sheet_any a0 a1 a2 a3 a4 a5 w)), ishifts_no a0 a1 a2 a3 a4 a5 (Lib.hid (fun w => hv ▸ sheet_any a0 a1 a2 a3 a4 a5 w))⟩
  · have HS := Lib.hid (fun w => hv ▸ l2sheet_any a0 a1 a2 a3 a4 a5 w)
    have HI := Lib.hid (fun w => hv ▸ sheet_any a0 a1 a2 a3 a4 a5 w)
    obtain ⟨f, rfl, rfl, rfl, rfl, rfl, rfl⟩ := sheet_bits a0 a1 a2 a3 a4 a5 hv
    exact ⟨_, true, sshifts_yes f HS, ishifts_yes f HI⟩
end Go.Proofs.Ytpmhnikilianoaa
