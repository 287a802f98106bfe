/- THE WALK of FnExactWinningCells. -/
import Derived.Test.YtkjaaaefcmpokaaOb6
import Derived.Deep.RegionHeld3
import Derived.Test.YtkjaaaefcmpokaaMa10
import Derived.WalkKit
import Derived.ProofKit
import Derived.OpenShut
import Derived.Lib.Hide
import Derived.WalkSpells
import Derived.Below
import Derived.BigQuiet
import Derived.LoopN
namespace Go.Proofs.Ytkjaaaefcmpokaa
open Go.ChangeShapes Go.WideShapes Go.ChangeAt Go.RowKit
set_option linter.unusedVariables false
set_option maxHeartbeats 4000000 in
theorem win_core (a0 a1 a2 a3 a4 a5 : Int) (b0 b1 b2 b3 b4 b5 : Int) (l : List (Nat × Nat)) (hl : l.length ≤ 36) (t : Bool) (HS : Hid (∀ w, Calls Try.prog 39 #[.agg #[.int .i64 a0, .int .i64 a1, .int .i64 a2, .int .i64 a3, .int .i64 a4, .int .i64 a5], .agg #[.int .i64 b0, .int .i64 b1, .int .i64 b2, .int .i64 b3, .int .i64 b4, .int .i64 b5]] w (LPb l t w))) (HI : Hid (∀ w, Calls Try.prog 40 #[.agg #[.int .i64 a0, .int .i64 a1, .int .i64 a2, .int .i64 a3, .int .i64 a4, .int .i64 a5], .agg #[.int .i64 b0, .int .i64 b1, .int .i64 b2, .int .i64 b3, .int .i64 b4, .int .i64 b5]] w (LPb l t w))) (w : World) : Calls Try.prog 8 #[.agg #[.int .i64 a0, .int .i64 a1, .int .i64 a2, .int .i64 a3, .int .i64 a4, .int .i64 a5], .agg #[.int .i64 b0, .int .i64 b1, .int .i64 b2, .int .i64 b3, .int .i64 b4, .int .i64 b5]] w fun e w' => e = .returned (.bool true) ∧ Below w.heap.size w w' := by
  have hcv := cv_len l
  obtain ⟨M, hM⟩ : ∃ M : Int, M = (l.length : Int) * 2 + 1 := ⟨_, rfl⟩
  have hM1 : 0 ≤ M := by omega
  have HM := Lib.hid hM
  have HC := Lib.hid hcv
  have HL := Lib.hid (Nat.le_trans hl (show 36 ≤ 100 by decide))
  clear hM hcv hl
  go_enter Try.func8, Try.ntmps8
  go_wp2_with fail
  generalize hW : (World.alloc _ _ : World) = W0
  have hB0 : Below w.heap.size w W0 := by rw [← hW]; (repeat (first | exact Below.refl _ _ | assumption | refine Below.setCell ?_ (by first | (simp; done) | (simp; omega)) _ | refine Below.alloc ?_ (by first | (simp; done) | (simp; omega)) _ | refine Below.drew ?_))
  have q0 : W0.heap[(w.heap.size : Nat)]? = some (ol a0 a1 a2 a3 a4 a5) := by
    rw [← hW]
    repeat (first | (refine alloc_at ?_; first | (simp; done) | (simp; omega)) | refine drew_row ?_ | refine alloc_past ?_ | assumption)
  have q1 : W0.heap[(w.heap.size + 1 : Nat)]? = some (ol b0 b1 b2 b3 b4 b5) := by
    rw [← hW]
    repeat (first | (refine alloc_at ?_; first | (simp; done) | (simp; omega)) | refine drew_row ?_ | refine alloc_past ?_ | assumption)
  have hk : Ob 2 [(w.heap.size, ol a0 a1 a2 a3 a4 a5), (w.heap.size + 1, ol b0 b1 b2 b3 b4 b5)] w [] W0 := ⟨⟨by simp [q0, q1], by rw [← hW]; simp, hB0⟩, by simp, List.Pairwise.nil⟩
  clear hW hB0 q0 q1
  set_option maxRecDepth 8000 in
  go_region_held3 (fun U => U.cell? ⟨w.heap.size, 0, none⟩ = some (.int .i64 a0) ∧ U.cell? ⟨w.heap.size, 1, none⟩ = some (.int .i64 a1) ∧ U.cell? ⟨w.heap.size, 2, none⟩ = some (.int .i64 a2) ∧ U.cell? ⟨w.heap.size, 3, none⟩ = some (.int .i64 a3) ∧ U.cell? ⟨w.heap.size, 4, none⟩ = some (.int .i64 a4) ∧ U.cell? ⟨w.heap.size, 5, none⟩ = some (.int .i64 a5) ∧ U.cell? ⟨w.heap.size + 1, 0, none⟩ = some (.int .i64 b0) ∧ U.cell? ⟨w.heap.size + 1, 1, none⟩ = some (.int .i64 b1) ∧ U.cell? ⟨w.heap.size + 1, 2, none⟩ = some (.int .i64 b2) ∧ U.cell? ⟨w.heap.size + 1, 3, none⟩ = some (.int .i64 b3) ∧ U.cell? ⟨w.heap.size + 1, 4, none⟩ = some (.int .i64 b4) ∧ U.cell? ⟨w.heap.size + 1, 5, none⟩ = some (.int .i64 b5) ∧ Ob 2 [(w.heap.size, ol a0 a1 a2 a3 a4 a5), (w.heap.size + 1, ol b0 b1 b2 b3 b4 b5)] w [] U) (with_reducible refine SKb a0 a1 a2 a3 a4 a5 b0 b1 b2 b3 b4 b5 ?_; (first | with_reducible assumption | (with_reducible refine Ob.drew ?_; with_reducible assumption))) (first | (go_at_call 23; with_reducible refine (to_sheet _ _ _ _ _ _ _).mono ?_; rintro e w' ⟨rfl, hb'⟩; have hk : Ob 2 [(w.heap.size, ol a0 a1 a2 a3 a4 a5), (w.heap.size + 1, ol b0 b1 b2 b3 b4 b5)] w [] w' := Ob.below (by (first | with_reducible assumption | (with_reducible refine Ob.drew ?_; with_reducible assumption))) hb' rfl) | (go_at_call 39; with_reducible refine (HS.out _).mono ?_; rintro e W1 hp; obtain ⟨g1, c1, rfl, ho, hb'⟩ := LPb.out hp; have hk : Ob 2 [(w.heap.size, ol a0 a1 a2 a3 a4 a5), (w.heap.size + 1, ol b0 b1 b2 b3 b4 b5)] w [] W1 := Ob.below (by (first | with_reducible assumption | (with_reducible refine Ob.drew ?_; with_reducible assumption))) hb' rfl; have hn1 : Ob 2 [(w.heap.size, ol a0 a1 a2 a3 a4 a5), (w.heap.size + 1, ol b0 b1 b2 b3 b4 b5)] w ((g1, c1, l.length, cv l) :: []) W1 := Ob.call (by (first | with_reducible assumption | (with_reducible refine Ob.drew ?_; with_reducible assumption))) ho hb' rfl))
  have hk := hn1
  clear hn1 ho hb'
  go_wp2_with fail
  set_option maxRecDepth 8000 in
  go_region_held3 (fun U => U.cell? ⟨w.heap.size, 0, none⟩ = some (.int .i64 a0) ∧ U.cell? ⟨w.heap.size, 1, none⟩ = some (.int .i64 a1) ∧ U.cell? ⟨w.heap.size, 2, none⟩ = some (.int .i64 a2) ∧ U.cell? ⟨w.heap.size, 3, none⟩ = some (.int .i64 a3) ∧ U.cell? ⟨w.heap.size, 4, none⟩ = some (.int .i64 a4) ∧ U.cell? ⟨w.heap.size, 5, none⟩ = some (.int .i64 a5) ∧ U.cell? ⟨w.heap.size + 1, 0, none⟩ = some (.int .i64 b0) ∧ U.cell? ⟨w.heap.size + 1, 1, none⟩ = some (.int .i64 b1) ∧ U.cell? ⟨w.heap.size + 1, 2, none⟩ = some (.int .i64 b2) ∧ U.cell? ⟨w.heap.size + 1, 3, none⟩ = some (.int .i64 b3) ∧ U.cell? ⟨w.heap.size + 1, 4, none⟩ = some (.int .i64 b4) ∧ U.cell? ⟨w.heap.size + 1, 5, none⟩ = some (.int .i64 b5) ∧ Ob 2 [(w.heap.size, ol a0 a1 a2 a3 a4 a5), (w.heap.size + 1, ol b0 b1 b2 b3 b4 b5)] w ([(g1, c1, l.length, cv l)]) U) (with_reducible refine SKb a0 a1 a2 a3 a4 a5 b0 b1 b2 b3 b4 b5 ?_; (first | with_reducible assumption | (with_reducible refine Ob.drew ?_; with_reducible assumption))) (first | (go_at_call 23; with_reducible refine (to_sheet _ _ _ _ _ _ _).mono ?_; rintro e w' ⟨rfl, hb'⟩; have hk : Ob 2 [(w.heap.size, ol a0 a1 a2 a3 a4 a5), (w.heap.size + 1, ol b0 b1 b2 b3 b4 b5)] w ([(g1, c1, l.length, cv l)]) w' := Ob.below (by (first | with_reducible assumption | (with_reducible refine Ob.drew ?_; with_reducible assumption))) hb' rfl) | (go_at_call 40; with_reducible refine (HI.out _).mono ?_; rintro e W2 hp; obtain ⟨g2, c2, rfl, ho, hb'⟩ := LPb.out hp; have hk : Ob 2 [(w.heap.size, ol a0 a1 a2 a3 a4 a5), (w.heap.size + 1, ol b0 b1 b2 b3 b4 b5)] w ([(g1, c1, l.length, cv l)]) W2 := Ob.below (by (first | with_reducible assumption | (with_reducible refine Ob.drew ?_; with_reducible assumption))) hb' rfl; have hn2 : Ob 2 [(w.heap.size, ol a0 a1 a2 a3 a4 a5), (w.heap.size + 1, ol b0 b1 b2 b3 b4 b5)] w ((g2, c2, l.length, cv l) :: ([(g1, c1, l.length, cv l)])) W2 := Ob.call (by (first | with_reducible assumption | (with_reducible refine Ob.drew ?_; with_reducible assumption))) ho hb' rfl))
  have D4 := Lib.hid hn2
  clear hn2 hk ho hb'
  go_wp2_with fail
  refine (eqcells_same l HL.out 0 0 g2 c2 g1 c1 W2 D4.out.hd D4.out.hd2).mono ?_
  rintro e W5 ⟨rfl, hb⟩
  have D5 := Lib.hid (D4.out.below hb rfl)
  clear hb D4
  go_wp2_with fail
  refine (mark_cells g2 c2 0 l.length (cv l) HL.out W5 D5.out.hd).mono ?_
  rintro e W6 ⟨rfl, o, hg⟩
  have D6 := Lib.hid (D5.out.mark o hg)
  clear hg o D5
  rw [← HM.out]
  go_wp2_with fail
  have HH := held_cells g2 c2 0 l.length (cv l) HL.out W6 HC.out D6.out.hd
  rw [← HM.out] at HH
  refine HH.mono ?_
  rintro e W7 ⟨rfl, hw7⟩
  subst hw7
  clear HH
  have hk := D6.out
  clear D6
  go_wp2_with fail
  set_option maxRecDepth 8000 in
  go_region_held3 (fun U => U.cell? ⟨w.heap.size, 0, none⟩ = some (.int .i64 a0) ∧ U.cell? ⟨w.heap.size, 1, none⟩ = some (.int .i64 a1) ∧ U.cell? ⟨w.heap.size, 2, none⟩ = some (.int .i64 a2) ∧ U.cell? ⟨w.heap.size, 3, none⟩ = some (.int .i64 a3) ∧ U.cell? ⟨w.heap.size, 4, none⟩ = some (.int .i64 a4) ∧ U.cell? ⟨w.heap.size, 5, none⟩ = some (.int .i64 a5) ∧ U.cell? ⟨w.heap.size + 1, 0, none⟩ = some (.int .i64 b0) ∧ U.cell? ⟨w.heap.size + 1, 1, none⟩ = some (.int .i64 b1) ∧ U.cell? ⟨w.heap.size + 1, 2, none⟩ = some (.int .i64 b2) ∧ U.cell? ⟨w.heap.size + 1, 3, none⟩ = some (.int .i64 b3) ∧ U.cell? ⟨w.heap.size + 1, 4, none⟩ = some (.int .i64 b4) ∧ U.cell? ⟨w.heap.size + 1, 5, none⟩ = some (.int .i64 b5) ∧ Ob 2 [(w.heap.size, ol a0 a1 a2 a3 a4 a5), (w.heap.size + 1, ol b0 b1 b2 b3 b4 b5)] w ([(g2, c2, l.length, mks (cv l) (l.length * 2)), (g1, c1, l.length, cv l)]) U) (with_reducible refine SKb a0 a1 a2 a3 a4 a5 b0 b1 b2 b3 b4 b5 ?_; (first | with_reducible assumption | (with_reducible refine Ob.drew ?_; with_reducible assumption))) (first | (go_at_call 23; with_reducible refine (to_sheet _ _ _ _ _ _ _).mono ?_; rintro e w' ⟨rfl, hb'⟩; have hk : Ob 2 [(w.heap.size, ol a0 a1 a2 a3 a4 a5), (w.heap.size + 1, ol b0 b1 b2 b3 b4 b5)] w ([(g2, c2, l.length, mks (cv l) (l.length * 2)), (g1, c1, l.length, cv l)]) w' := Ob.below (by (first | with_reducible assumption | (with_reducible refine Ob.drew ?_; with_reducible assumption))) hb' rfl) | (go_at_call 40; with_reducible refine (HI.out _).mono ?_; rintro e W9 hp; obtain ⟨g3, c3, rfl, ho, hb'⟩ := LPb.out hp; have hk : Ob 2 [(w.heap.size, ol a0 a1 a2 a3 a4 a5), (w.heap.size + 1, ol b0 b1 b2 b3 b4 b5)] w ([(g2, c2, l.length, mks (cv l) (l.length * 2)), (g1, c1, l.length, cv l)]) W9 := Ob.below (by (first | with_reducible assumption | (with_reducible refine Ob.drew ?_; with_reducible assumption))) hb' rfl; have hn9 : Ob 2 [(w.heap.size, ol a0 a1 a2 a3 a4 a5), (w.heap.size + 1, ol b0 b1 b2 b3 b4 b5)] w ((g3, c3, l.length, cv l) :: ([(g2, c2, l.length, mks (cv l) (l.length * 2)), (g1, c1, l.length, cv l)])) W9 := Ob.call (by (first | with_reducible assumption | (with_reducible refine Ob.drew ?_; with_reducible assumption))) ho hb' rfl))
  have D9 := Lib.hid hn9
  clear hn9 hk ho hb'
  go_wp2_with fail
  refine (eqcells_same l HL.out 0 0 g3 c3 g1 c1 W9 D9.out.hd D9.out.hd3).mono ?_
  rintro e W10 ⟨rfl, hb⟩
  have D10 := Lib.hid (D9.out.below hb rfl)
  clear hb D9
  go_wp2_with fail
  have HH := held_cells g2 c2 0 l.length (cv l) HL.out W10 HC.out D10.out.hd2
  rw [← HM.out] at HH
  refine HH.mono ?_
  rintro e W11 ⟨rfl, hw11⟩
  subst hw11
  clear HH
  go_wp2_with fail
  go_ret
  exact ⟨rfl, D10.out.below0⟩
end Go.Proofs.Ytkjaaaefcmpokaa
