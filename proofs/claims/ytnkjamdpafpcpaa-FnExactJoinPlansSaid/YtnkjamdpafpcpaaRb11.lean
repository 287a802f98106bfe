/- CONTRACTS: the laws' comparison of rows of sheets and of steps. -/
import Derived.Test.YtnkjamdpafpcpaaRa11
import Derived.Test.YtnkjamdpafpcpaaRk
import Derived.Deep.RegionHeld3
import Derived.WalkKit
import Derived.ProofKit
import Derived.OpenShut
import Derived.Lib.Hide
import Derived.WalkSpells
import Derived.Below
import Derived.BigQuiet
import Derived.LoopN
namespace Go.Proofs.Ytnkjamdpafpcpaa
open Go.ChangeShapes Go.WideShapes Go.ChangeAt Go.RowKit
set_option linter.unusedVariables false
set_option maxHeartbeats 1000000 in
theorem eqstep_same11 (q0 q1 q2 q3 : Int) (w : World) : Calls Try.prog 202 #[.agg #[.int .i64 q0, .int .i64 q1, .int .i64 q2, .int .i64 q3], .agg #[.int .i64 q0, .int .i64 q1, .int .i64 q2, .int .i64 q3]] w fun e w' => e = .returned (.bool true) ∧ Below w.heap.size w w' := by
  have HA := Lib.hid (eqa2_same q2 q3)
  go_enter Try.func202, Try.ntmps202
  go_wp2_with fail
  generalize hW : (World.alloc _ _ : World) = W0
  have hB : Below w.heap.size w W0 := by rw [← hW]; (repeat (first | exact Below.refl _ _ | assumption | refine Below.setCell ?_ (by first | (simp; done) | (simp; omega)) _ | refine Below.alloc ?_ (by first | (simp; done) | (simp; omega)) _ | refine Below.drew ?_))
  clear hW
  refine (HA.out _).mono ?_
  rintro e W1 ⟨rfl, hb⟩
  have hB1 := below_of hB hb (by have := hB.size; omega)
  clear hb hB
  go_wp2_with fail
  go_ret
  exact ⟨rfl, hB1⟩
/-- Two rows of the same cells, and nothing below touched. -/
def Eq11 (w : World) (g1 g2 : Nat) (xs : List Value) (U : World) : Prop := U.rangeAt g1 0 xs ∧ U.rangeAt g2 0 xs ∧ Below w.heap.size w U
theorem Eq11.below {w U V : World} {g1 g2 M : Nat} {xs : List Value} (h : Eq11 w g1 g2 xs U) (hb : Below M U V) (hM : M = U.heap.size) : Eq11 w g1 g2 xs V := ⟨ra_below h.1 hb hM, ra_below h.2.1 hb hM, below_of h.2.2 hb (by have := h.2.2.size; omega)⟩
theorem Eq11.drew {w U : World} {g1 g2 : Nat} {xs : List Value} (h : Eq11 w g1 g2 xs U) : Eq11 w g1 g2 xs U.drew := h.below (M := U.heap.size) (Below.refl _ _).drew rfl
theorem SK_sheets11 {w U : World} {g1 g2 k : Nat} {z : List H11} {q0 q1 q2 q3 q4 q5 : Int} (h : Eq11 w g1 g2 (hv11 z) U) (hk : k < z.length) (hp : z[k] = (q0, q1, q2, q3, q4, q5)) : U.cell? ⟨g1, k * 6, none⟩ = some (.int .i64 q0) ∧ U.cell? ⟨g1, k * 6 + 1, none⟩ = some (.int .i64 q1) ∧ U.cell? ⟨g1, k * 6 + 2, none⟩ = some (.int .i64 q2) ∧ U.cell? ⟨g1, k * 6 + 3, none⟩ = some (.int .i64 q3) ∧ U.cell? ⟨g1, k * 6 + 4, none⟩ = some (.int .i64 q4) ∧ U.cell? ⟨g1, k * 6 + 5, none⟩ = some (.int .i64 q5) ∧ U.cell? ⟨g2, k * 6, none⟩ = some (.int .i64 q0) ∧ U.cell? ⟨g2, k * 6 + 1, none⟩ = some (.int .i64 q1) ∧ U.cell? ⟨g2, k * 6 + 2, none⟩ = some (.int .i64 q2) ∧ U.cell? ⟨g2, k * 6 + 3, none⟩ = some (.int .i64 q3) ∧ U.cell? ⟨g2, k * 6 + 4, none⟩ = some (.int .i64 q4) ∧ U.cell? ⟨g2, k * 6 + 5, none⟩ = some (.int .i64 q5) ∧ Eq11 w g1 g2 (hv11 z) U := by
  have q1 := fm_range ch11_len h.1 hk
  have q2 := fm_range ch11_len h.2.1 hk
  rw [hp] at q1 q2
  exact ⟨q1 0 _ rfl, q1 1 _ rfl, q1 2 _ rfl, q1 3 _ rfl, q1 4 _ rfl, q1 5 _ rfl, q2 0 _ rfl, q2 1 _ rfl, q2 2 _ rfl, q2 3 _ rfl, q2 4 _ rfl, q2 5 _ rfl, h⟩
set_option maxHeartbeats 2000000 in
theorem eq_sheets11 (z : List H11) (hl : z.length ≤ 1048576) (g1 c1 g2 c2 : Nat) (w : World) (h1 : w.rangeAt g1 0 (hv11 z)) (h2 : w.rangeAt g2 0 (hv11 z)) : Calls Try.prog 126 #[.slice (some ⟨g1, 0, none⟩) z.length c1, .slice (some ⟨g2, 0, none⟩) z.length c2] w fun e w' => e = .returned (.bool true) ∧ Below w.heap.size w w' := by
  have S0 : Hid (Eq11 w g1 g2 (hv11 z) w) := Lib.hid ⟨h1, h2, Below.refl _ _⟩
  clear h1 h2
  go_enter Try.func126, Try.ntmps126
  go_wp2_with fail
  go_loopw [5] (fun i wr => ∃ k : Nat, k ≤ z.length ∧ i = .int .i64 k ∧ Hid (Eq11 w g1 g2 (hv11 z) wr)) (fun i _ => z.length - (intOf i).toNat)
  case atStart => exact ⟨0, by omega, rfl, S0⟩
  case round =>
    obtain ⟨k, hk, rfl, HB⟩ := hrel
    by_cases hlt : k < z.length
    · have hlt' : (k : Int) < z.length := by omega
      have hk0 : (0 : Int) ≤ k := by omega
      have hk2 : k ≤ 1048576 := by omega
      obtain ⟨p, hp⟩ : ∃ p, z[k] = p := ⟨_, rfl⟩
      obtain ⟨q0, q1, q2, q3, q4, q5⟩ := p
      have HE := Lib.hid (eq_same q0 q1 q2 q3 q4 q5)
      have HP := Lib.hid hp
      clear hp
      have k0 := HB.out
      go_wp2_with fail
      set_option maxRecDepth 8000 in
      go_region_held3 (fun U => U.cell? ⟨g1, k * 6, none⟩ = some (.int .i64 q0) ∧ U.cell? ⟨g1, k * 6 + 1, none⟩ = some (.int .i64 q1) ∧ U.cell? ⟨g1, k * 6 + 2, none⟩ = some (.int .i64 q2) ∧ U.cell? ⟨g1, k * 6 + 3, none⟩ = some (.int .i64 q3) ∧ U.cell? ⟨g1, k * 6 + 4, none⟩ = some (.int .i64 q4) ∧ U.cell? ⟨g1, k * 6 + 5, none⟩ = some (.int .i64 q5) ∧ U.cell? ⟨g2, k * 6, none⟩ = some (.int .i64 q0) ∧ U.cell? ⟨g2, k * 6 + 1, none⟩ = some (.int .i64 q1) ∧ U.cell? ⟨g2, k * 6 + 2, none⟩ = some (.int .i64 q2) ∧ U.cell? ⟨g2, k * 6 + 3, none⟩ = some (.int .i64 q3) ∧ U.cell? ⟨g2, k * 6 + 4, none⟩ = some (.int .i64 q4) ∧ U.cell? ⟨g2, k * 6 + 5, none⟩ = some (.int .i64 q5) ∧ Eq11 w g1 g2 (hv11 z) U) (with_reducible refine SK_sheets11 ?_ hlt HP.out; (first | with_reducible assumption | (with_reducible refine Eq11.drew ?_; with_reducible assumption))) ((go_at_call 59; with_reducible refine (HE.out _).mono ?_; rintro e w' ⟨rfl, hb'⟩; have k0 : Eq11 w g1 g2 (hv11 z) w' := Eq11.below (by (first | with_reducible assumption | (with_reducible refine Eq11.drew ?_; with_reducible assumption))) hb' rfl))
      all_goals
        have HB2 := Lib.hid k0
        rename_i hS
        clear hS k0 HB
        go_wp2_with fail
        go_roundw
        case rel => exact ⟨k + 1, by omega, by go_num, HB2⟩
        case measure => simp [intOf]; omega
    · obtain rfl : k = z.length := by omega
      go_wp2_with fail
      go_ret
      exact ⟨rfl, HB.out.2.2⟩
theorem eq_sheets11_zero (a1 a2 : Option Addr) (c1 c2 : Nat) (w : World) : Calls Try.prog 126 #[.slice a1 0 c1, .slice a2 0 c2] w fun e w' => e = .returned (.bool true) ∧ Below w.heap.size w w' := by
  go_enter Try.func126, Try.ntmps126
  go_wp2_with fail
  refine wp_loop_rounds 1 ?_
  rw [rounds_succ]
  go_wp2_with fail
  go_ret
  exact ⟨rfl, Below.refl _ _⟩
theorem SK_steps11 {w U : World} {g1 g2 k : Nat} {z : List S11} {q0 q1 q2 q3 : Int} (h : Eq11 w g1 g2 (sv11 z) U) (hk : k < z.length) (hp : z[k] = ⟨q0, q1, q2, q3⟩) : U.cell? ⟨g1, k * 4, none⟩ = some (.int .i64 q0) ∧ U.cell? ⟨g1, k * 4 + 1, none⟩ = some (.int .i64 q1) ∧ U.cell? ⟨g1, k * 4 + 2, none⟩ = some (.int .i64 q2) ∧ U.cell? ⟨g1, k * 4 + 3, none⟩ = some (.int .i64 q3) ∧ U.cell? ⟨g2, k * 4, none⟩ = some (.int .i64 q0) ∧ U.cell? ⟨g2, k * 4 + 1, none⟩ = some (.int .i64 q1) ∧ U.cell? ⟨g2, k * 4 + 2, none⟩ = some (.int .i64 q2) ∧ U.cell? ⟨g2, k * 4 + 3, none⟩ = some (.int .i64 q3) ∧ Eq11 w g1 g2 (sv11 z) U := by
  have q1 := fm_range cs11_len h.1 hk
  have q2 := fm_range cs11_len h.2.1 hk
  rw [hp] at q1 q2
  exact ⟨q1 0 _ rfl, q1 1 _ rfl, q1 2 _ rfl, q1 3 _ rfl, q2 0 _ rfl, q2 1 _ rfl, q2 2 _ rfl, q2 3 _ rfl, h⟩
set_option maxHeartbeats 2000000 in
theorem eq_steps11 (z : List S11) (hl : z.length ≤ 1048576) (g1 c1 g2 c2 : Nat) (w : World) (h1 : w.rangeAt g1 0 (sv11 z)) (h2 : w.rangeAt g2 0 (sv11 z)) : Calls Try.prog 127 #[.slice (some ⟨g1, 0, none⟩) z.length c1, .slice (some ⟨g2, 0, none⟩) z.length c2] w fun e w' => e = .returned (.bool true) ∧ Below w.heap.size w w' := by
  have S0 : Hid (Eq11 w g1 g2 (sv11 z) w) := Lib.hid ⟨h1, h2, Below.refl _ _⟩
  clear h1 h2
  go_enter Try.func127, Try.ntmps127
  go_wp2_with fail
  go_loopw [5] (fun i wr => ∃ k : Nat, k ≤ z.length ∧ i = .int .i64 k ∧ Hid (Eq11 w g1 g2 (sv11 z) wr)) (fun i _ => z.length - (intOf i).toNat)
  case atStart => exact ⟨0, by omega, rfl, S0⟩
  case round =>
    obtain ⟨k, hk, rfl, HB⟩ := hrel
    by_cases hlt : k < z.length
    · have hlt' : (k : Int) < z.length := by omega
      have hk0 : (0 : Int) ≤ k := by omega
      have hk2 : k ≤ 1048576 := by omega
      obtain ⟨p, hp⟩ : ∃ p, z[k] = p := ⟨_, rfl⟩
      obtain ⟨q0, q1, q2, q3⟩ := p
      have HE := Lib.hid (eqstep_same11 q0 q1 q2 q3)
      have HP := Lib.hid hp
      clear hp
      have k0 := HB.out
      go_wp2_with fail
      set_option maxRecDepth 8000 in
      go_region_held3 (fun U => U.cell? ⟨g1, k * 4, none⟩ = some (.int .i64 q0) ∧ U.cell? ⟨g1, k * 4 + 1, none⟩ = some (.int .i64 q1) ∧ U.cell? ⟨g1, k * 4 + 2, none⟩ = some (.int .i64 q2) ∧ U.cell? ⟨g1, k * 4 + 3, none⟩ = some (.int .i64 q3) ∧ U.cell? ⟨g2, k * 4, none⟩ = some (.int .i64 q0) ∧ U.cell? ⟨g2, k * 4 + 1, none⟩ = some (.int .i64 q1) ∧ U.cell? ⟨g2, k * 4 + 2, none⟩ = some (.int .i64 q2) ∧ U.cell? ⟨g2, k * 4 + 3, none⟩ = some (.int .i64 q3) ∧ Eq11 w g1 g2 (sv11 z) U) (with_reducible refine SK_steps11 ?_ hlt HP.out; (first | with_reducible assumption | (with_reducible refine Eq11.drew ?_; with_reducible assumption))) ((go_at_call 202; with_reducible refine (HE.out _).mono ?_; rintro e w' ⟨rfl, hb'⟩; have k0 : Eq11 w g1 g2 (sv11 z) w' := Eq11.below (by (first | with_reducible assumption | (with_reducible refine Eq11.drew ?_; with_reducible assumption))) hb' rfl))
      all_goals
        have HB2 := Lib.hid k0
        rename_i hS
        clear hS k0 HB
        go_wp2_with fail
        go_roundw
        case rel => exact ⟨k + 1, by omega, by go_num, HB2⟩
        case measure => simp [intOf]; omega
    · obtain rfl : k = z.length := by omega
      go_wp2_with fail
      go_ret
      exact ⟨rfl, HB.out.2.2⟩
theorem eq_steps11_zero (a1 a2 : Option Addr) (c1 c2 : Nat) (w : World) : Calls Try.prog 127 #[.slice a1 0 c1, .slice a2 0 c2] w fun e w' => e = .returned (.bool true) ∧ Below w.heap.size w w' := by
  go_enter Try.func127, Try.ntmps127
  go_wp2_with fail
  refine wp_loop_rounds 1 ?_
  rw [rounds_succ]
  go_wp2_with fail
  go_ret
  exact ⟨rfl, Below.refl _ _⟩
end Go.Proofs.Ytnkjamdpafpcpaa
