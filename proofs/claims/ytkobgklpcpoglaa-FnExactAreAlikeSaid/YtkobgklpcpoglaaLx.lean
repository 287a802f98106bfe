/- CONTRACTS: which of two sheets comes first, told as one function of their rows. -/
import Derived.Test.YtkobgklpcpoglaaSl
import Derived.RegionTactic
import Derived.Deep.RegionHeld3
import Derived.WalkKit
import Derived.ProofKit
import Derived.OpenShut
import Derived.Lib.Hide
import Derived.WalkSpells
import Derived.Below
import Derived.BigQuiet
import Derived.LoopN
namespace Go.Proofs.Ytkobgklpcpoglaa
open Go.ChangeShapes Go.WideShapes Go.ChangeAt Go.RowKit
set_option linter.unusedVariables false
theorem tri (a b : Int) : a < b ∨ b < a ∨ a = b := by omega
def lx (a0 a1 a2 a3 a4 a5 : Int) (b0 b1 b2 b3 b4 b5 : Int) : Bool := (decide (a0 < b0) || (decide (a0 = b0) && (decide (a1 < b1) || (decide (a1 = b1) && (decide (a2 < b2) || (decide (a2 = b2) && (decide (a3 < b3) || (decide (a3 = b3) && (decide (a4 < b4) || (decide (a4 = b4) && (decide (a5 < b5) || (decide (a5 = b5) && false))))))))))))
theorem before_lx (a0 a1 a2 a3 a4 a5 : Int) (b0 b1 b2 b3 b4 b5 : Int) (w : World) : Calls Try.prog 131 #[.agg #[.int .i64 a0, .int .i64 a1, .int .i64 a2, .int .i64 a3, .int .i64 a4, .int .i64 a5], .agg #[.int .i64 b0, .int .i64 b1, .int .i64 b2, .int .i64 b3, .int .i64 b4, .int .i64 b5]] w fun e w' => e = .returned (.bool (lx a0 a1 a2 a3 a4 a5 b0 b1 b2 b3 b4 b5)) ∧ Below w.heap.size w w' := by
  rcases tri a0 b0 with h | h | h
  · have e : lx a0 a1 a2 a3 a4 a5 b0 b1 b2 b3 b4 b5 = true := by simp [lx, h]
    rw [e]; exact before_0lt a0 a1 a2 a3 a4 a5 b0 b1 b2 b3 b4 b5 h w
  · have e : lx a0 a1 a2 a3 a4 a5 b0 b1 b2 b3 b4 b5 = false := by have h1 : ¬ a0 < b0 := (by omega); have h2 : ¬ a0 = b0 := (by omega); simp [lx, h1, h2]
    rw [e]; exact before_0gt a0 a1 a2 a3 a4 a5 b0 b1 b2 b3 b4 b5 h w
  subst h
  rcases tri a1 b1 with h | h | h
  · have e : lx a0 a1 a2 a3 a4 a5 a0 b1 b2 b3 b4 b5 = true := by simp [lx, h]
    rw [e]; exact before_1lt a0 a1 a2 a3 a4 a5 b1 b2 b3 b4 b5 h w
  · have e : lx a0 a1 a2 a3 a4 a5 a0 b1 b2 b3 b4 b5 = false := by have h1 : ¬ a1 < b1 := (by omega); have h2 : ¬ a1 = b1 := (by omega); simp [lx, h1, h2]
    rw [e]; exact before_1gt a0 a1 a2 a3 a4 a5 b1 b2 b3 b4 b5 h w
  subst h
  rcases tri a2 b2 with h | h | h
  · have e : lx a0 a1 a2 a3 a4 a5 a0 a1 b2 b3 b4 b5 = true := by simp [lx, h]
    rw [e]; exact before_2lt a0 a1 a2 a3 a4 a5 b2 b3 b4 b5 h w
  · have e : lx a0 a1 a2 a3 a4 a5 a0 a1 b2 b3 b4 b5 = false := by have h1 : ¬ a2 < b2 := (by omega); have h2 : ¬ a2 = b2 := (by omega); simp [lx, h1, h2]
    rw [e]; exact before_2gt a0 a1 a2 a3 a4 a5 b2 b3 b4 b5 h w
  subst h
  rcases tri a3 b3 with h | h | h
  · have e : lx a0 a1 a2 a3 a4 a5 a0 a1 a2 b3 b4 b5 = true := by simp [lx, h]
    rw [e]; exact before_3lt a0 a1 a2 a3 a4 a5 b3 b4 b5 h w
  · have e : lx a0 a1 a2 a3 a4 a5 a0 a1 a2 b3 b4 b5 = false := by have h1 : ¬ a3 < b3 := (by omega); have h2 : ¬ a3 = b3 := (by omega); simp [lx, h1, h2]
    rw [e]; exact before_3gt a0 a1 a2 a3 a4 a5 b3 b4 b5 h w
  subst h
  rcases tri a4 b4 with h | h | h
  · have e : lx a0 a1 a2 a3 a4 a5 a0 a1 a2 a3 b4 b5 = true := by simp [lx, h]
    rw [e]; exact before_4lt a0 a1 a2 a3 a4 a5 b4 b5 h w
  · have e : lx a0 a1 a2 a3 a4 a5 a0 a1 a2 a3 b4 b5 = false := by have h1 : ¬ a4 < b4 := (by omega); have h2 : ¬ a4 = b4 := (by omega); simp [lx, h1, h2]
    rw [e]; exact before_4gt a0 a1 a2 a3 a4 a5 b4 b5 h w
  subst h
  rcases tri a5 b5 with h | h | h
  · have e : lx a0 a1 a2 a3 a4 a5 a0 a1 a2 a3 a4 b5 = true := by simp [lx, h]
    rw [e]; exact before_5lt a0 a1 a2 a3 a4 a5 b5 h w
  · have e : lx a0 a1 a2 a3 a4 a5 a0 a1 a2 a3 a4 b5 = false := by have h1 : ¬ a5 < b5 := (by omega); have h2 : ¬ a5 = b5 := (by omega); simp [lx, h1, h2]
    rw [e]; exact before_5gt a0 a1 a2 a3 a4 a5 b5 h w
  subst h
  have e : lx a0 a1 a2 a3 a4 a5 a0 a1 a2 a3 a4 a5 = false := by simp [lx]
  rw [e]; exact before_6eq a0 a1 a2 a3 a4 a5 w
set_option maxHeartbeats 1000000 in
theorem cmp_is (a0 a1 a2 a3 a4 a5 : Int) (b0 b1 b2 b3 b4 b5 : Int) (r : Int) (w : World) (HC : Hid (∀ U, (U.cell? ⟨w.heap.size, 0, none⟩ = some (.int .i64 a0) ∧ U.cell? ⟨w.heap.size, 1, none⟩ = some (.int .i64 a1) ∧ U.cell? ⟨w.heap.size, 2, none⟩ = some (.int .i64 a2) ∧ U.cell? ⟨w.heap.size, 3, none⟩ = some (.int .i64 a3) ∧ U.cell? ⟨w.heap.size, 4, none⟩ = some (.int .i64 a4) ∧ U.cell? ⟨w.heap.size, 5, none⟩ = some (.int .i64 a5) ∧ U.cell? ⟨w.heap.size + 1, 0, none⟩ = some (.int .i64 b0) ∧ U.cell? ⟨w.heap.size + 1, 1, none⟩ = some (.int .i64 b1) ∧ U.cell? ⟨w.heap.size + 1, 2, none⟩ = some (.int .i64 b2) ∧ U.cell? ⟨w.heap.size + 1, 3, none⟩ = some (.int .i64 b3) ∧ U.cell? ⟨w.heap.size + 1, 4, none⟩ = some (.int .i64 b4) ∧ U.cell? ⟨w.heap.size + 1, 5, none⟩ = some (.int .i64 b5) ∧ Below w.heap.size w U) → Calls Try.prog 147 #[.slice (some ⟨w.heap.size, 0, none⟩) 6 6, .slice (some ⟨w.heap.size + 1, 0, none⟩) 6 6] U fun e w' => e = .returned (.int .i64 r) ∧ w' = U)) : Calls Try.prog 208 #[.agg #[.int .i64 a0, .int .i64 a1, .int .i64 a2, .int .i64 a3, .int .i64 a4, .int .i64 a5], .agg #[.int .i64 b0, .int .i64 b1, .int .i64 b2, .int .i64 b3, .int .i64 b4, .int .i64 b5]] w fun e w' => e = .returned (.int .i64 r) ∧ Below w.heap.size w w' := by
  go_enter Try.func208, Try.ntmps208
  go_wp2_with fail
  generalize hW : (World.alloc _ _ : World) = W0
  have hB0 : Below w.heap.size w W0 := by rw [← hW]; (repeat (first | exact Below.refl _ _ | assumption | refine Below.setCell ?_ (by first | (simp; done) | (simp; omega)) _ | refine Below.alloc ?_ (by first | (simp; done) | (simp; omega)) _ | refine Below.drew ?_))
  have qa : W0.heap[(w.heap.size : Nat)]? = some (Obj.cells (#[.int .i64 a0, .int .i64 a1, .int .i64 a2, .int .i64 a3, .int .i64 a4, .int .i64 a5]) 25 (0, 0)) := by
    rw [← hW]
    repeat (first | (refine alloc_at ?_; first | (simp; done) | (simp; omega)) | refine drew_row ?_ | refine alloc_past ?_ | assumption)
  have qb : W0.heap[(w.heap.size + 1 : Nat)]? = some (Obj.cells (#[.int .i64 b0, .int .i64 b1, .int .i64 b2, .int .i64 b3, .int .i64 b4, .int .i64 b5]) 25 (0, 0)) := by
    rw [← hW]
    repeat (first | (refine alloc_at ?_; first | (simp; done) | (simp; omega)) | refine drew_row ?_ | refine alloc_past ?_ | assumption)
  clear hW
  have qa_c := fun j => cell_of_row W0 _ j _ _ _ qa
  have qb_c := fun j => cell_of_row W0 _ j _ _ _ qb
  have k0 : W0.cell? ⟨w.heap.size, 0, none⟩ = some (.int .i64 a0) ∧ W0.cell? ⟨w.heap.size, 1, none⟩ = some (.int .i64 a1) ∧ W0.cell? ⟨w.heap.size, 2, none⟩ = some (.int .i64 a2) ∧ W0.cell? ⟨w.heap.size, 3, none⟩ = some (.int .i64 a3) ∧ W0.cell? ⟨w.heap.size, 4, none⟩ = some (.int .i64 a4) ∧ W0.cell? ⟨w.heap.size, 5, none⟩ = some (.int .i64 a5) ∧ W0.cell? ⟨w.heap.size + 1, 0, none⟩ = some (.int .i64 b0) ∧ W0.cell? ⟨w.heap.size + 1, 1, none⟩ = some (.int .i64 b1) ∧ W0.cell? ⟨w.heap.size + 1, 2, none⟩ = some (.int .i64 b2) ∧ W0.cell? ⟨w.heap.size + 1, 3, none⟩ = some (.int .i64 b3) ∧ W0.cell? ⟨w.heap.size + 1, 4, none⟩ = some (.int .i64 b4) ∧ W0.cell? ⟨w.heap.size + 1, 5, none⟩ = some (.int .i64 b5) ∧ Below w.heap.size w W0 := ⟨qa_c 0, qa_c 1, qa_c 2, qa_c 3, qa_c 4, qa_c 5, qb_c 0, qb_c 1, qb_c 2, qb_c 3, qb_c 4, qb_c 5, hB0⟩
  clear qa qb qa_c qb_c hB0
  go_region_held3 (fun U => U.cell? ⟨w.heap.size, 0, none⟩ = some (.int .i64 a0) ∧ U.cell? ⟨w.heap.size, 1, none⟩ = some (.int .i64 a1) ∧ U.cell? ⟨w.heap.size, 2, none⟩ = some (.int .i64 a2) ∧ U.cell? ⟨w.heap.size, 3, none⟩ = some (.int .i64 a3) ∧ U.cell? ⟨w.heap.size, 4, none⟩ = some (.int .i64 a4) ∧ U.cell? ⟨w.heap.size, 5, none⟩ = some (.int .i64 a5) ∧ U.cell? ⟨w.heap.size + 1, 0, none⟩ = some (.int .i64 b0) ∧ U.cell? ⟨w.heap.size + 1, 1, none⟩ = some (.int .i64 b1) ∧ U.cell? ⟨w.heap.size + 1, 2, none⟩ = some (.int .i64 b2) ∧ U.cell? ⟨w.heap.size + 1, 3, none⟩ = some (.int .i64 b3) ∧ U.cell? ⟨w.heap.size + 1, 4, none⟩ = some (.int .i64 b4) ∧ U.cell? ⟨w.heap.size + 1, 5, none⟩ = some (.int .i64 b5) ∧ Below w.heap.size w U) (first | with_reducible exact drewc12 k0 | with_reducible assumption) (first | (go_at_call 147; refine (HC.out _ (by with_reducible assumption)).mono ?_; rintro e w' ⟨rfl, rfl⟩))
  have hB := k0.2.2.2.2.2.2.2.2.2.2.2.2.drew
  clear k0
  go_wp2_with fail
  go_ret
  exact ⟨rfl, hB⟩
theorem cmp_lx (a0 a1 a2 a3 a4 a5 : Int) (b0 b1 b2 b3 b4 b5 : Int) : ∃ r : Int, decide (r < 0) = lx a0 a1 a2 a3 a4 a5 b0 b1 b2 b3 b4 b5 ∧ ∀ w, Calls Try.prog 208 #[.agg #[.int .i64 a0, .int .i64 a1, .int .i64 a2, .int .i64 a3, .int .i64 a4, .int .i64 a5], .agg #[.int .i64 b0, .int .i64 b1, .int .i64 b2, .int .i64 b3, .int .i64 b4, .int .i64 b5]] w fun e w' => e = .returned (.int .i64 r) ∧ Below w.heap.size w w' := by
  rcases tri a0 b0 with h | h | h
  · have e : lx a0 a1 a2 a3 a4 a5 b0 b1 b2 b3 b4 b5 = true := by simp [lx, h]
    exact ⟨-1, by rw [e]; decide, fun w => cmp_is a0 a1 a2 a3 a4 a5 b0 b1 b2 b3 b4 b5 _ w (Lib.hid (fun U c => compare_0lt a0 a1 a2 a3 a4 a5 b0 b1 b2 b3 b4 b5 h w.heap.size (w.heap.size + 1) U ⟨c.1, c.2.1, c.2.2.1, c.2.2.2.1, c.2.2.2.2.1, c.2.2.2.2.2.1⟩ ⟨c.2.2.2.2.2.2.1, c.2.2.2.2.2.2.2.1, c.2.2.2.2.2.2.2.2.1, c.2.2.2.2.2.2.2.2.2.1, c.2.2.2.2.2.2.2.2.2.2.1, c.2.2.2.2.2.2.2.2.2.2.2.1⟩))⟩
  · have e : lx a0 a1 a2 a3 a4 a5 b0 b1 b2 b3 b4 b5 = false := by have h1 : ¬ a0 < b0 := (by omega); have h2 : ¬ a0 = b0 := (by omega); simp [lx, h1, h2]
    exact ⟨1, by rw [e]; decide, fun w => cmp_is a0 a1 a2 a3 a4 a5 b0 b1 b2 b3 b4 b5 _ w (Lib.hid (fun U c => compare_0gt a0 a1 a2 a3 a4 a5 b0 b1 b2 b3 b4 b5 h w.heap.size (w.heap.size + 1) U ⟨c.1, c.2.1, c.2.2.1, c.2.2.2.1, c.2.2.2.2.1, c.2.2.2.2.2.1⟩ ⟨c.2.2.2.2.2.2.1, c.2.2.2.2.2.2.2.1, c.2.2.2.2.2.2.2.2.1, c.2.2.2.2.2.2.2.2.2.1, c.2.2.2.2.2.2.2.2.2.2.1, c.2.2.2.2.2.2.2.2.2.2.2.1⟩))⟩
  subst h
  rcases tri a1 b1 with h | h | h
  · have e : lx a0 a1 a2 a3 a4 a5 a0 b1 b2 b3 b4 b5 = true := by simp [lx, h]
    exact ⟨-1, by rw [e]; decide, fun w => cmp_is a0 a1 a2 a3 a4 a5 a0 b1 b2 b3 b4 b5 _ w (Lib.hid (fun U c => compare_1lt a0 a1 a2 a3 a4 a5 b1 b2 b3 b4 b5 h w.heap.size (w.heap.size + 1) U ⟨c.1, c.2.1, c.2.2.1, c.2.2.2.1, c.2.2.2.2.1, c.2.2.2.2.2.1⟩ ⟨c.2.2.2.2.2.2.1, c.2.2.2.2.2.2.2.1, c.2.2.2.2.2.2.2.2.1, c.2.2.2.2.2.2.2.2.2.1, c.2.2.2.2.2.2.2.2.2.2.1, c.2.2.2.2.2.2.2.2.2.2.2.1⟩))⟩
  · have e : lx a0 a1 a2 a3 a4 a5 a0 b1 b2 b3 b4 b5 = false := by have h1 : ¬ a1 < b1 := (by omega); have h2 : ¬ a1 = b1 := (by omega); simp [lx, h1, h2]
    exact ⟨1, by rw [e]; decide, fun w => cmp_is a0 a1 a2 a3 a4 a5 a0 b1 b2 b3 b4 b5 _ w (Lib.hid (fun U c => compare_1gt a0 a1 a2 a3 a4 a5 b1 b2 b3 b4 b5 h w.heap.size (w.heap.size + 1) U ⟨c.1, c.2.1, c.2.2.1, c.2.2.2.1, c.2.2.2.2.1, c.2.2.2.2.2.1⟩ ⟨c.2.2.2.2.2.2.1, c.2.2.2.2.2.2.2.1, c.2.2.2.2.2.2.2.2.1, c.2.2.2.2.2.2.2.2.2.1, c.2.2.2.2.2.2.2.2.2.2.1, c.2.2.2.2.2.2.2.2.2.2.2.1⟩))⟩
  subst h
  rcases tri a2 b2 with h | h | h
  · have e : lx a0 a1 a2 a3 a4 a5 a0 a1 b2 b3 b4 b5 = true := by simp [lx, h]
    exact ⟨-1, by rw [e]; decide, fun w => cmp_is a0 a1 a2 a3 a4 a5 a0 a1 b2 b3 b4 b5 _ w (Lib.hid (fun U c => compare_2lt a0 a1 a2 a3 a4 a5 b2 b3 b4 b5 h w.heap.size (w.heap.size + 1) U ⟨c.1, c.2.1, c.2.2.1, c.2.2.2.1, c.2.2.2.2.1, c.2.2.2.2.2.1⟩ ⟨c.2.2.2.2.2.2.1, c.2.2.2.2.2.2.2.1, c.2.2.2.2.2.2.2.2.1, c.2.2.2.2.2.2.2.2.2.1, c.2.2.2.2.2.2.2.2.2.2.1, c.2.2.2.2.2.2.2.2.2.2.2.1⟩))⟩
  · have e : lx a0 a1 a2 a3 a4 a5 a0 a1 b2 b3 b4 b5 = false := by have h1 : ¬ a2 < b2 := (by omega); have h2 : ¬ a2 = b2 := (by omega); simp [lx, h1, h2]
    exact ⟨1, by rw [e]; decide, fun w => cmp_is a0 a1 a2 a3 a4 a5 a0 a1 b2 b3 b4 b5 _ w (Lib.hid (fun U c => compare_2gt a0 a1 a2 a3 a4 a5 b2 b3 b4 b5 h w.heap.size (w.heap.size + 1) U ⟨c.1, c.2.1, c.2.2.1, c.2.2.2.1, c.2.2.2.2.1, c.2.2.2.2.2.1⟩ ⟨c.2.2.2.2.2.2.1, c.2.2.2.2.2.2.2.1, c.2.2.2.2.2.2.2.2.1, c.2.2.2.2.2.2.2.2.2.1, c.2.2.2.2.2.2.2.2.2.2.1, c.2.2.2.2.2.2.2.2.2.2.2.1⟩))⟩
  subst h
  rcases tri a3 b3 with h | h | h
  · have e : lx a0 a1 a2 a3 a4 a5 a0 a1 a2 b3 b4 b5 = true := by simp [lx, h]
    exact ⟨-1, by rw [e]; decide, fun w => cmp_is a0 a1 a2 a3 a4 a5 a0 a1 a2 b3 b4 b5 _ w (Lib.hid (fun U c => compare_3lt a0 a1 a2 a3 a4 a5 b3 b4 b5 h w.heap.size (w.heap.size + 1) U ⟨c.1, c.2.1, c.2.2.1, c.2.2.2.1, c.2.2.2.2.1, c.2.2.2.2.2.1⟩ ⟨c.2.2.2.2.2.2.1, c.2.2.2.2.2.2.2.1, c.2.2.2.2.2.2.2.2.1, c.2.2.2.2.2.2.2.2.2.1, c.2.2.2.2.2.2.2.2.2.2.1, c.2.2.2.2.2.2.2.2.2.2.2.1⟩))⟩
  · have e : lx a0 a1 a2 a3 a4 a5 a0 a1 a2 b3 b4 b5 = false := by have h1 : ¬ a3 < b3 := (by omega); have h2 : ¬ a3 = b3 := (by omega); simp [lx, h1, h2]
    exact ⟨1, by rw [e]; decide, fun w => cmp_is a0 a1 a2 a3 a4 a5 a0 a1 a2 b3 b4 b5 _ w (Lib.hid (fun U c => compare_3gt a0 a1 a2 a3 a4 a5 b3 b4 b5 h w.heap.size (w.heap.size + 1) U ⟨c.1, c.2.1, c.2.2.1, c.2.2.2.1, c.2.2.2.2.1, c.2.2.2.2.2.1⟩ ⟨c.2.2.2.2.2.2.1, c.2.2.2.2.2.2.2.1, c.2.2.2.2.2.2.2.2.1, c.2.2.2.2.2.2.2.2.2.1, c.2.2.2.2.2.2.2.2.2.2.1, c.2.2.2.2.2.2.2.2.2.2.2.1⟩))⟩
  subst h
  rcases tri a4 b4 with h | h | h
  · have e : lx a0 a1 a2 a3 a4 a5 a0 a1 a2 a3 b4 b5 = true := by simp [lx, h]
    exact ⟨-1, by rw [e]; decide, fun w => cmp_is a0 a1 a2 a3 a4 a5 a0 a1 a2 a3 b4 b5 _ w (Lib.hid (fun U c => compare_4lt a0 a1 a2 a3 a4 a5 b4 b5 h w.heap.size (w.heap.size + 1) U ⟨c.1, c.2.1, c.2.2.1, c.2.2.2.1, c.2.2.2.2.1, c.2.2.2.2.2.1⟩ ⟨c.2.2.2.2.2.2.1, c.2.2.2.2.2.2.2.1, c.2.2.2.2.2.2.2.2.1, c.2.2.2.2.2.2.2.2.2.1, c.2.2.2.2.2.2.2.2.2.2.1, c.2.2.2.2.2.2.2.2.2.2.2.1⟩))⟩
  · have e : lx a0 a1 a2 a3 a4 a5 a0 a1 a2 a3 b4 b5 = false := by have h1 : ¬ a4 < b4 := (by omega); have h2 : ¬ a4 = b4 := (by omega); simp [lx, h1, h2]
    exact ⟨1, by rw [e]; decide, fun w => cmp_is a0 a1 a2 a3 a4 a5 a0 a1 a2 a3 b4 b5 _ w (Lib.hid (fun U c => compare_4gt a0 a1 a2 a3 a4 a5 b4 b5 h w.heap.size (w.heap.size + 1) U ⟨c.1, c.2.1, c.2.2.1, c.2.2.2.1, c.2.2.2.2.1, c.2.2.2.2.2.1⟩ ⟨c.2.2.2.2.2.2.1, c.2.2.2.2.2.2.2.1, c.2.2.2.2.2.2.2.2.1, c.2.2.2.2.2.2.2.2.2.1, c.2.2.2.2.2.2.2.2.2.2.1, c.2.2.2.2.2.2.2.2.2.2.2.1⟩))⟩
  subst h
  rcases tri a5 b5 with h | h | h
  · have e : lx a0 a1 a2 a3 a4 a5 a0 a1 a2 a3 a4 b5 = true := by simp [lx, h]
    exact ⟨-1, by rw [e]; decide, fun w => cmp_is a0 a1 a2 a3 a4 a5 a0 a1 a2 a3 a4 b5 _ w (Lib.hid (fun U c => compare_5lt a0 a1 a2 a3 a4 a5 b5 h w.heap.size (w.heap.size + 1) U ⟨c.1, c.2.1, c.2.2.1, c.2.2.2.1, c.2.2.2.2.1, c.2.2.2.2.2.1⟩ ⟨c.2.2.2.2.2.2.1, c.2.2.2.2.2.2.2.1, c.2.2.2.2.2.2.2.2.1, c.2.2.2.2.2.2.2.2.2.1, c.2.2.2.2.2.2.2.2.2.2.1, c.2.2.2.2.2.2.2.2.2.2.2.1⟩))⟩
  · have e : lx a0 a1 a2 a3 a4 a5 a0 a1 a2 a3 a4 b5 = false := by have h1 : ¬ a5 < b5 := (by omega); have h2 : ¬ a5 = b5 := (by omega); simp [lx, h1, h2]
    exact ⟨1, by rw [e]; decide, fun w => cmp_is a0 a1 a2 a3 a4 a5 a0 a1 a2 a3 a4 b5 _ w (Lib.hid (fun U c => compare_5gt a0 a1 a2 a3 a4 a5 b5 h w.heap.size (w.heap.size + 1) U ⟨c.1, c.2.1, c.2.2.1, c.2.2.2.1, c.2.2.2.2.1, c.2.2.2.2.2.1⟩ ⟨c.2.2.2.2.2.2.1, c.2.2.2.2.2.2.2.1, c.2.2.2.2.2.2.2.2.1, c.2.2.2.2.2.2.2.2.2.1, c.2.2.2.2.2.2.2.2.2.2.1, c.2.2.2.2.2.2.2.2.2.2.2.1⟩))⟩
  subst h
  have e : lx a0 a1 a2 a3 a4 a5 a0 a1 a2 a3 a4 a5 = false := by simp [lx]
  exact ⟨0, by rw [e]; decide, fun w => cmp_is a0 a1 a2 a3 a4 a5 a0 a1 a2 a3 a4 a5 _ w (Lib.hid (fun U c => compare_6eq a0 a1 a2 a3 a4 a5 w.heap.size (w.heap.size + 1) U ⟨c.1, c.2.1, c.2.2.1, c.2.2.2.1, c.2.2.2.2.1, c.2.2.2.2.2.1⟩ ⟨c.2.2.2.2.2.2.1, c.2.2.2.2.2.2.2.1, c.2.2.2.2.2.2.2.2.1, c.2.2.2.2.2.2.2.2.2.1, c.2.2.2.2.2.2.2.2.2.2.1, c.2.2.2.2.2.2.2.2.2.2.2.1⟩))⟩
end Go.Proofs.Ytkobgklpcpoglaa
