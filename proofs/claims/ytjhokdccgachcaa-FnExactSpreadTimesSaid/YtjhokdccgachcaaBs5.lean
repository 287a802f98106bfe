/- PLAIN LEMMAS: midway in rounds that change a sheet in its own block, beside a stamp. -/
import Derived.Test.YtjhokdccgachcaaPm5
import Derived.WalkKit
import Derived.ProofKit
import Derived.OpenShut
import Derived.Lib.Hide
import Derived.WalkSpells
import Derived.Below
import Derived.BigQuiet
import Derived.LoopN
namespace Go.Proofs.Ytjhokdccgachcaa
open Go.ChangeShapes Go.WideShapes Go.ChangeAt Go.RowKit
set_option linter.unusedVariables false
def Bs5 (w : World) (p F : Fn6) (W : World) : Prop := W.heap[w.heap.size]? = some (o6 F) ∧ W.heap[w.heap.size + 1]? = some (o6 p) ∧ w.heap.size + 2 ≤ W.heap.size ∧ Below w.heap.size w W
theorem Bs5.far {w W V : World} {p F : Fn6} {M : Nat} (h : Bs5 w p F W) (hb : Below M W V) (hM : M = W.heap.size) : Bs5 w p F V :=
  ⟨rowk h.1 hb hM, rowk h.2.1 hb hM, Nat.le_trans h.2.2.1 hb.size, below_of h.2.2.2 hb (by have := h.2.2.1; omega)⟩
theorem Bs5.al {w W : World} {p F : Fn6} {o : Obj} (h : Bs5 w p F W) : Bs5 w p F (W.alloc o) := h.far (M := W.heap.size) ((Below.refl _ _).alloc (Nat.le_refl _) o) rfl
theorem Bs5.drew {w W : World} {p F : Fn6} (h : Bs5 w p F W) : Bs5 w p F W.drew := h.far (M := W.heap.size) (Below.refl _ _).drew rfl
theorem Bs5.put {w W : World} {p F : Fn6} (G : Fn6) (h : Bs5 w p F W) : Bs5 w p G ((((((W.setCell ⟨w.heap.size, 0, none⟩ (.int .i64 (rowv (G 0)))).setCell ⟨w.heap.size, 1, none⟩ (.int .i64 (rowv (G 1)))).setCell ⟨w.heap.size, 2, none⟩ (.int .i64 (rowv (G 2)))).setCell ⟨w.heap.size, 3, none⟩ (.int .i64 (rowv (G 3)))).setCell ⟨w.heap.size, 4, none⟩ (.int .i64 (rowv (G 4)))).setCell ⟨w.heap.size, 5, none⟩ (.int .i64 (rowv (G 5)))) := by
  obtain ⟨h1, h2, h4, h5⟩ := h
  exact ⟨set6a _ _ _ _ _ _ h1, set6o _ _ _ _ _ _ (by omega) h2, by simpa using h4, below6 h5 (by omega)⟩
theorem Bs5_s {w W : World} {p F : Fn6} (h : Bs5 w p F W) : ∀ j, W.cell? ⟨w.heap.size, j, none⟩ = (#[.int .i64 (rowv (F 0)), .int .i64 (rowv (F 1)), .int .i64 (rowv (F 2)), .int .i64 (rowv (F 3)), .int .i64 (rowv (F 4)), .int .i64 (rowv (F 5))] : Array Value)[j]? := fun j => cell_of_row W _ j _ _ _ h.1
theorem Bs5_sf {w W : World} {p F : Fn6} (h : Bs5 w p F W) : ∀ j, W.frozen? ⟨w.heap.size, j, none⟩ = false := fun j => frozen_of_row W _ j _ _ h.1
theorem Bs5_p {w W : World} {p F : Fn6} (h : Bs5 w p F W) : ∀ j, W.cell? ⟨w.heap.size + 1, j, none⟩ = (#[.int .i64 (rowv (p 0)), .int .i64 (rowv (p 1)), .int .i64 (rowv (p 2)), .int .i64 (rowv (p 3)), .int .i64 (rowv (p 4)), .int .i64 (rowv (p 5))] : Array Value)[j]? := fun j => cell_of_row W _ j _ _ _ h.2.1
theorem SB5 {w U : World} {p F : Fn6} (h : Bs5 w p F U) : U.cell? ⟨w.heap.size, 0, none⟩ = some (.int .i64 (rowv (F 0))) ∧ U.cell? ⟨w.heap.size, 1, none⟩ = some (.int .i64 (rowv (F 1))) ∧ U.cell? ⟨w.heap.size, 2, none⟩ = some (.int .i64 (rowv (F 2))) ∧ U.cell? ⟨w.heap.size, 3, none⟩ = some (.int .i64 (rowv (F 3))) ∧ U.cell? ⟨w.heap.size, 4, none⟩ = some (.int .i64 (rowv (F 4))) ∧ U.cell? ⟨w.heap.size, 5, none⟩ = some (.int .i64 (rowv (F 5))) ∧ Bs5 w p F U :=
  have h2 := Bs5_s h
  ⟨h2 0, h2 1, h2 2, h2 3, h2 4, h2 5, h⟩
/-- Full; white. -/
def fl5 (F : Fn6) : Bool := rowv (F 0) == 63 && rowv (F 1) == 63 && rowv (F 2) == 63 && rowv (F 3) == 63 && rowv (F 4) == 63 && rowv (F 5) == 63
def wh5 (F : Fn6) : Bool := rowv (F 0) == 0 && rowv (F 1) == 0 && rowv (F 2) == 0 && rowv (F 3) == 0 && rowv (F 4) == 0 && rowv (F 5) == 0
theorem lfull_f (w : World) : Calls Try.prog 107 #[.agg #[.int .i64 0, .int .i64 0, .int .i64 0, .int .i64 0, .int .i64 0, .int .i64 0]] w fun e w' => e = .returned (.agg #[.int .i64 63, .int .i64 63, .int .i64 63, .int .i64 63, .int .i64 63, .int .i64 63]) ∧ Below w.heap.size w w' := by
  have h := l2not_any 0 0 0 0 0 0 w
  rw [show wrap64 (63 - 0) = 63 by decide +kernel] at h
  exact h
theorem eq_full (F : Fn6) (w : World) : (binOp .eql 25 (.agg #[.int .i64 (rowv (F 0)), .int .i64 (rowv (F 1)), .int .i64 (rowv (F 2)), .int .i64 (rowv (F 3)), .int .i64 (rowv (F 4)), .int .i64 (rowv (F 5))]) (.agg #[.int .i64 63, .int .i64 63, .int .i64 63, .int .i64 63, .int .i64 63, .int .i64 63])).run Try.prog w = .ok (.bool (fl5 F)) w := eq26 (rowv (F 0)) (rowv (F 1)) (rowv (F 2)) (rowv (F 3)) (rowv (F 4)) (rowv (F 5)) 63 63 63 63 63 63 w
theorem eq_white (F : Fn6) (w : World) : (binOp .eql 25 (.agg #[.int .i64 (rowv (F 0)), .int .i64 (rowv (F 1)), .int .i64 (rowv (F 2)), .int .i64 (rowv (F 3)), .int .i64 (rowv (F 4)), .int .i64 (rowv (F 5))]) (.agg #[.int .i64 0, .int .i64 0, .int .i64 0, .int .i64 0, .int .i64 0, .int .i64 0])).run Try.prog w = .ok (.bool (wh5 F)) w := eq26 (rowv (F 0)) (rowv (F 1)) (rowv (F 2)) (rowv (F 3)) (rowv (F 4)) (rowv (F 5)) 0 0 0 0 0 0 w
/-- As spreading_f and shrinking_f; the block is new. -/
theorem spreading_g (p : Fn6) (w : World) : Calls Try.prog 95 #[.agg #[.int .i64 (rowv (p 0)), .int .i64 (rowv (p 1)), .int .i64 (rowv (p 2)), .int .i64 (rowv (p 3)), .int .i64 (rowv (p 4)), .int .i64 (rowv (p 5))]] w fun e w' => ∃ g, e = .returned (.func (.func 154) #[] #[.pointer (some ⟨g, 0, none⟩)]) ∧ w'.heap[g]? = some (o6 p) ∧ w.heap.size ≤ g ∧ Below w.heap.size w w' := by
  have hmf : ∀ (fn : Fn) (first cap : Array Value) (w : World), (Instr.makeFunc fn first cap).run Try.prog w = .ok (.func fn first cap) w := fun _ _ _ _ => rfl
  go_enter Try.func95, Try.ntmps95
  go_wp2_with fail
  go_ret
  exact ⟨_, rfl, alloc_at rfl, Nat.le_refl _, by (repeat (first | exact Below.refl _ _ | assumption | refine Below.setCell ?_ (by first | (simp; done) | (simp; omega)) _ | refine Below.alloc ?_ (by first | (simp; done) | (simp; omega)) _ | refine Below.drew ?_))⟩
theorem shrinking_g (p : Fn6) (w : World) : Calls Try.prog 98 #[.agg #[.int .i64 (rowv (p 0)), .int .i64 (rowv (p 1)), .int .i64 (rowv (p 2)), .int .i64 (rowv (p 3)), .int .i64 (rowv (p 4)), .int .i64 (rowv (p 5))]] w fun e w' => ∃ g, e = .returned (.func (.func 159) #[] #[.pointer (some ⟨g, 0, none⟩)]) ∧ w'.heap[g]? = some (o6 (rf p)) ∧ w.heap.size ≤ g ∧ Below w.heap.size w w' := by
  have hmf : ∀ (fn : Fn) (first cap : Array Value) (w : World), (Instr.makeFunc fn first cap).run Try.prog w = .ok (.func fn first cap) w := fun _ _ _ _ => rfl
  have HR := Lib.hid (reflected_f p)
  go_enter Try.func98, Try.ntmps98
  go_wp2_with fail
  refine (HR.out _).mono ?_
  rintro e W1 ⟨rfl, hb⟩
  have hB : Below w.heap.size w W1 := below_of (by (repeat (first | exact Below.refl _ _ | assumption | refine Below.setCell ?_ (by first | (simp; done) | (simp; omega)) _ | refine Below.alloc ?_ (by first | (simp; done) | (simp; omega)) _ | refine Below.drew ?_))) hb (by simp)
  clear hb
  go_wp2_with fail
  go_ret
  exact ⟨_, rfl, alloc_at rfl, hB.size, hB.alloc hB.size _⟩
/-- The first of the rounds up to 12 at which a test holds, or 13. -/
theorem first13 (q : Nat → Bool) : ∃ N, N ≤ 13 ∧ (∀ m, m < N → q m = false) ∧ (N < 13 → q N = true) := by
  have key : ∀ k, k ≤ 13 → (∀ m, m < k → q m = false) ∨ ∃ N, N < k ∧ (∀ m, m < N → q m = false) ∧ q N = true := by
    intro k
    induction k with
    | zero => intro _; exact .inl fun m h => by omega
    | succ k ih =>
      intro hk
      rcases ih (by omega) with h | ⟨N, h1, h2, h3⟩
      · cases hq : q k
        · exact .inl fun m hm => by
            rcases Nat.lt_succ_iff_lt_or_eq.mp hm with h' | rfl
            · exact h m h'
            · exact hq
        · exact .inr ⟨k, by omega, h, hq⟩
      · exact .inr ⟨N, by omega, h2, h3⟩
  rcases key 13 (Nat.le_refl _) with h | ⟨N, h1, h2, h3⟩
  · exact ⟨13, Nat.le_refl _, h, fun h => by omega⟩
  · exact ⟨N, by omega, h2, fun _ => h3⟩
end Go.Proofs.Ytjhokdccgachcaa
