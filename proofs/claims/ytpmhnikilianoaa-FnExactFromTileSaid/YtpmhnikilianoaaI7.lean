/- CONTRACTS: IsTileOf, the model's and the code's. -/
import Derived.Test.YtpmhnikilianoaaQ7
import Derived.Test.YtpmhnikilianoaaKa7
import Derived.Test.YtpmhnikilianoaaO7
import Derived.Deep.RegionHeld3
import Derived.WalkKit
import Derived.ProofKit
import Derived.OpenShut
import Derived.Lib.Hide
import Derived.WalkSpells
import Derived.Below
import Derived.BigQuiet
import Derived.LoopN
namespace Go.Proofs.Ytpmhnikilianoaa
open Go.ChangeShapes Go.WideShapes Go.ChangeAt Go.RowKit
set_option linter.unusedVariables false
/-- A divisor of 6. -/
def dv (n : Int) : Bool := n == 1 || n == 2 || n == 3 || n == 6
theorem dv_in {n : Int} (h : dv n = true) : n = 1 ∨ n = 2 ∨ n = 3 ∨ n = 6 := by
  unfold dv at h
  simp at h
  omega
theorem ldv_any (n : Int) (w : World) : Calls Try.prog 126 #[.int .i64 n] w fun e w' => e = .returned (.bool (dv n)) ∧ w' = w := by
  cases h0 : (decide (1 ≤ n) && decide (n ≤ 6))
  · have HX : ∀ w, Calls Try.prog 131 #[.int .i64 n, .int .i64 1, .int .i64 6] w fun e w' => e = .returned (.bool false) ∧ w' = w := fun w => h0 ▸ l1in_any n 1 6 w
    have E : dv n = false := by
      cases hd : dv n
      · rfl
      · rcases dv_in hd with rfl | rfl | rfl | rfl <;> simp at h0
    rw [E]
    clear h0 E
    go_enter Try.func126, Try.ntmps126
    go_wp2_with fail
    refine (HX _).mono ?_
    rintro e w' ⟨rfl, rfl⟩
    go_wp2_with fail
    go_ret
    exact ⟨rfl, rfl⟩
  · have HX : ∀ w, Calls Try.prog 131 #[.int .i64 n, .int .i64 1, .int .i64 6] w fun e w' => e = .returned (.bool true) ∧ w' = w := fun w => h0 ▸ l1in_any n 1 6 w
    have h6 : n = 1 ∨ n = 2 ∨ n = 3 ∨ n = 4 ∨ n = 5 ∨ n = 6 := by simp at h0; omega
    clear h0
    rcases h6 with rfl | rfl | rfl | rfl | rfl | rfl
    all_goals
      go_enter Try.func126, Try.ntmps126
      go_wp2_with fail
      refine (HX _).mono ?_
      rintro e w' ⟨rfl, rfl⟩
      go_wp2_with fail
      go_ret
      exact ⟨rfl, rfl⟩
theorem idv_any (n : Int) (w : World) : Calls Try.prog 129 #[.int .i64 n] w fun e w' => e = .returned (.bool (dv n)) ∧ w' = w := by
  rcases Int.lt_or_le 0 n with h | h
  · rcases Int.lt_or_le 6 n with h7 | h7
    · have E : dv n = false := by
        cases hd : dv n
        · rfl
        · have := dv_in hd; omega
      have hm : (6 : Int).tmod n = 6 := by rw [Int.tmod_eq_emod_of_nonneg (by omega)]; exact Int.emod_eq_of_lt (by omega) h7
      rw [E]
      clear E
      have hn0 : ¬ (n = 0) := by omega
      go_enter Try.func129, Try.ntmps129
      go_wp2_with fail
      go_ret
      exact ⟨rfl, rfl⟩
    · have h6 : n = 1 ∨ n = 2 ∨ n = 3 ∨ n = 4 ∨ n = 5 ∨ n = 6 := by omega
      clear h h7
      rcases h6 with rfl | rfl | rfl | rfl | rfl | rfl
      all_goals
        go_enter Try.func129, Try.ntmps129
        go_wp2_with fail
        go_ret
        exact ⟨rfl, rfl⟩
  · have E : dv n = false := by
      cases hd : dv n
      · rfl
      · have := dv_in hd; omega
    rw [E]
    clear E
    go_enter Try.func129, Try.ntmps129
    go_wp2_with fail
    go_ret
    exact ⟨rfl, rfl⟩
theorem SKt {w U : World} {a : Fn6} (h : KR 1 [(w.heap.size, o6 a)] w U) : U.cell? ⟨w.heap.size, 0, none⟩ = some (.int .i64 (rowv (a 0))) ∧ U.cell? ⟨w.heap.size, 1, none⟩ = some (.int .i64 (rowv (a 1))) ∧ U.cell? ⟨w.heap.size, 2, none⟩ = some (.int .i64 (rowv (a 2))) ∧ U.cell? ⟨w.heap.size, 3, none⟩ = some (.int .i64 (rowv (a 3))) ∧ U.cell? ⟨w.heap.size, 4, none⟩ = some (.int .i64 (rowv (a 4))) ∧ U.cell? ⟨w.heap.size, 5, none⟩ = some (.int .i64 (rowv (a 5))) ∧ KR 1 [(w.heap.size, o6 a)] w U :=
  have h0 := fun j => cell_of_row U _ j _ _ _ (h.row (g := w.heap.size) (o := o6 a) (List.mem_cons_self ..))
  ⟨h0 0, h0 1, h0 2, h0 3, h0 4, h0 5, h⟩
theorem l2shift_m (f : Fn6) (x y : Int) (hx : 0 ≤ x ∧ x ≤ 6) (hy : 0 ≤ y ∧ y ≤ 6) (p q : Nat) (hp : x % 6 = p) (hq : y % 6 = q) (w : World) : Calls Try.prog 127 #[.agg #[.int .i64 (rowv (f 0)), .int .i64 (rowv (f 1)), .int .i64 (rowv (f 2)), .int .i64 (rowv (f 3)), .int .i64 (rowv (f 4)), .int .i64 (rowv (f 5))], .int .i64 x, .int .i64 y] w fun e w' => e = .returned (.agg #[.int .i64 (rowv (sf p q f 0)), .int .i64 (rowv (sf p q f 1)), .int .i64 (rowv (sf p q f 2)), .int .i64 (rowv (sf p q f 3)), .int .i64 (rowv (sf p q f 4)), .int .i64 (rowv (sf p q f 5))]) ∧ Below w.heap.size w w' := l2shift_f f x y (WalkArith.wf_i64 (by omega)) (WalkArith.wf_i64 (by omega)) (by omega) (by omega) hp hq w
theorem shifted_m (f : Fn6) (x y : Int) (hx : 0 ≤ x ∧ x ≤ 6) (hy : 0 ≤ y ∧ y ≤ 6) (p q : Nat) (hp : x % 6 = p) (hq : y % 6 = q) (w : World) : Calls Try.prog 130 #[.agg #[.int .i64 (rowv (f 0)), .int .i64 (rowv (f 1)), .int .i64 (rowv (f 2)), .int .i64 (rowv (f 3)), .int .i64 (rowv (f 4)), .int .i64 (rowv (f 5))], .int .i64 x, .int .i64 y] w fun e w' => e = .returned (.agg #[.int .i64 (rowv (sf p q f 0)), .int .i64 (rowv (sf p q f 1)), .int .i64 (rowv (sf p q f 2)), .int .i64 (rowv (sf p q f 3)), .int .i64 (rowv (sf p q f 4)), .int .i64 (rowv (sf p q f 5))]) ∧ Below w.heap.size w w' := shifted_f f x y (WalkArith.wf_i64 (by omega)) (WalkArith.wf_i64 (by omega)) (by omega) (by omega) hp hq w
/-- Whether a sheet has a tile. -/
def tl7 (a : Fn6) (p q : Nat) : Bool := sg7 a a p 0 && sg7 a a 0 q
set_option maxHeartbeats 1000000 in
theorem ltile_f (a : Fn6) (w0 h0 : Int) (hw : 0 ≤ w0 ∧ w0 ≤ 6) (hh : 0 ≤ h0 ∧ h0 ≤ 6) (p q : Nat) (hp : w0 % 6 = p) (hq : h0 % 6 = q) (w : World) : Calls Try.prog 128 #[.agg #[.int .i64 (rowv (a 0)), .int .i64 (rowv (a 1)), .int .i64 (rowv (a 2)), .int .i64 (rowv (a 3)), .int .i64 (rowv (a 4)), .int .i64 (rowv (a 5))], .int .i64 w0, .int .i64 h0] w fun e w' => e = .returned (.bool (tl7 a p q)) ∧ Below w.heap.size w w' := by
  have HF1 := Lib.hid (l2shift_m a w0 0 hw (by omega) p 0 hp (by omega))
  have HF2 := Lib.hid (l2shift_m a 0 h0 (by omega) hh 0 q (by omega) hq)
  have he1 := eq_sg7 a a p 0
  have he2 := eq_sg7 a a 0 q
  unfold tl7
  clear hp hq
  generalize sg7 a a p 0 = u1 at *
  generalize sg7 a a 0 q = u2 at *
  obtain ⟨r, hr⟩ : ∃ r, r = (u1 && u2) := ⟨_, rfl⟩
  rw [← hr]
  have HR := Lib.hid hr
  clear hr
  go_enter Try.func128, Try.ntmps128
  go_wp2_with fail
  generalize hW : (World.alloc _ _ : World) = W0
  have K0 : KR 1 [(w.heap.size, o6 a)] w W0 := hW ▸ kr1 w _
  clear hW
  have hq := K0.drew
  cases u1
  · obtain rfl : r = false := HR.out
    clear HR
    refine wp_region_held_drew (S := (fun U => U.cell? ⟨w.heap.size, 0, none⟩ = some (.int .i64 (rowv (a 0))) ∧ U.cell? ⟨w.heap.size, 1, none⟩ = some (.int .i64 (rowv (a 1))) ∧ U.cell? ⟨w.heap.size, 2, none⟩ = some (.int .i64 (rowv (a 2))) ∧ U.cell? ⟨w.heap.size, 3, none⟩ = some (.int .i64 (rowv (a 3))) ∧ U.cell? ⟨w.heap.size, 4, none⟩ = some (.int .i64 (rowv (a 4))) ∧ U.cell? ⟨w.heap.size, 5, none⟩ = some (.int .i64 (rowv (a 5))) ∧ KR 1 [(w.heap.size, o6 a)] w U)) (by kernel_rfl) ?_ (fun hHeld => ?_)
    · (try dsimp only)
      exact SKt hq
    refine wpAnyH_take (i := 0) (oi := { dst := some 7, op := Go.Op.load 28 (Go.Operand.tmp 3), type := 28, pos := "l7_periods.go:46", after := #[], guard := none }) (v := ?_) rfl (by kernel_rfl) (by kernel_rfl) (by kernel_rfl) (fun _ _ _ h => h) (Or.inl ⟨by rfl, ?_⟩) (by assumption) ?_
    rotate_left
    · intro w hSw; (try dsimp only at hSw); go_simp; (try with_reducible rfl)
    simp only [Act.put, List.setIfInBounds_toArray, List.set_cons_zero, List.set_cons_succ]
    refine wpAnyH_take (i := 1) (oi := { dst := some 8, op := Go.Op.move (Go.Operand.tmp 1), type := 3, pos := "l7_periods.go:46", after := #[], guard := none }) (v := ?_) rfl (by kernel_rfl) (by kernel_rfl) (by kernel_rfl) (fun _ _ _ h => h) (Or.inl ⟨by rfl, ?_⟩) (by assumption) ?_
    rotate_left
    · intro w hSw; (try dsimp only at hSw); go_simp; (try with_reducible rfl)
    simp only [Act.put, List.setIfInBounds_toArray, List.set_cons_zero, List.set_cons_succ]
    refine wpAnyH_take (i := 3) (oi := { dst := some 10, op := Go.Op.load 28 (Go.Operand.tmp 3), type := 28, pos := "l7_periods.go:46", after := #[], guard := none }) (v := ?_) rfl (by kernel_rfl) (by kernel_rfl) (by kernel_rfl) (fun _ _ _ h => h) (Or.inl ⟨by rfl, ?_⟩) (by assumption) ?_
    rotate_left
    · intro w hSw; (try dsimp only at hSw); go_simp; (try with_reducible rfl)
    simp only [Act.put, List.setIfInBounds_toArray, List.set_cons_zero, List.set_cons_succ]
    refine wpAnyH_ready (rs := [2]) (by kernel_rfl) (by simp) ?_
    refine AllReadyH.cons (o := { dst := some 9, op := Go.Op.call { callee := Go.Callee.value (Go.Operand.func 127), args := #[Go.Operand.tmp 7, Go.Operand.tmp 8, Go.Operand.const (Go.Value.int Go.IntKind.i64 0)], argTypes := #[28, 3, 3] }, type := 28, pos := "l7_periods.go:46", after := #[{ on := 0, ground := Go.Ground.data }, { on := 1, ground := Go.Ground.data }], guard := none }) rfl (fun K hK => ?_) AllReadyH.nil
    go_simp
    (go_at_call 127; with_reducible refine (HF1.out _).mono ?_; rintro e w' ⟨rfl, hb'⟩; have hq := hq.far hb' rfl; go_wp2_with fail)
    refine hK.out _ _ ?_ (fun hHeld => ?_)
    · (try dsimp only)
      exact SKt hq
    clear hK K
    (try simp only [Act.put, List.setIfInBounds_toArray, List.set_cons_zero, List.set_cons_succ])
    refine wpAnyH_take (i := 4) (oi := { dst := some 11, op := Go.Op.binOp Go.BinOp.eql 28 (Go.Operand.tmp 9) (Go.Operand.tmp 10) 28, type := 4, pos := "l7_periods.go:46", after := #[{ on := 2, ground := Go.Ground.data }, { on := 3, ground := Go.Ground.data }], guard := none }) (v := ?_) rfl (by kernel_rfl) (by kernel_rfl) (by kernel_rfl) (fun _ _ _ h => h) (Or.inl ⟨by rfl, ?_⟩) (by assumption) ?_
    rotate_left
    · intro w hSw; (try dsimp only at hSw); go_simp; (try simp only [he1]); (try with_reducible rfl)
    simp only [Act.put, List.setIfInBounds_toArray, List.set_cons_zero, List.set_cons_succ]
    refine wpAnyH_take (i := 5) (oi := { dst := some 12, op := Go.Op.move (Go.Operand.tmp 11), type := 4, pos := "l7_periods.go:46", after := #[{ on := 4, ground := Go.Ground.data }, { on := 2, ground := Go.Ground.chain }], guard := none }) (v := ?_) rfl (by kernel_rfl) (by kernel_rfl) (by kernel_rfl) (fun _ _ _ h => h) (Or.inl ⟨by rfl, ?_⟩) (by assumption) ?_
    rotate_left
    · intro w hSw; (try dsimp only at hSw); go_simp; (try with_reducible rfl)
    simp only [Act.put, List.setIfInBounds_toArray, List.set_cons_zero, List.set_cons_succ]
    refine wpAnyH_take (i := 6) (oi := { dst := some 13, op := Go.Op.load 28 (Go.Operand.tmp 3), type := 28, pos := "l7_periods.go:46", after := #[{ on := 5, ground := Go.Ground.guard }], guard := some (5, true) }) (v := undef) rfl (by kernel_rfl) (by kernel_rfl) (by kernel_rfl) (fun _ _ _ h => h) (Or.inr ⟨by rfl, rfl⟩) (by assumption) ?_
    simp only [Act.put, List.setIfInBounds_toArray, List.set_cons_zero, List.set_cons_succ]
    refine wpAnyH_take (i := 7) (oi := { dst := some 14, op := Go.Op.move (Go.Operand.tmp 2), type := 3, pos := "l7_periods.go:46", after := #[{ on := 5, ground := Go.Ground.guard }], guard := some (5, true) }) (v := undef) rfl (by kernel_rfl) (by kernel_rfl) (by kernel_rfl) (fun _ _ _ h => h) (Or.inr ⟨by rfl, rfl⟩) (by assumption) ?_
    simp only [Act.put, List.setIfInBounds_toArray, List.set_cons_zero, List.set_cons_succ]
    refine wpAnyH_take (i := 8) (oi := { dst := some 15, op := Go.Op.call { callee := Go.Callee.value (Go.Operand.func 127), args := #[Go.Operand.tmp 13, Go.Operand.const (Go.Value.int Go.IntKind.i64 0), Go.Operand.tmp 14], argTypes := #[28, 3, 3] }, type := 28, pos := "l7_periods.go:46", after := #[{ on := 6, ground := Go.Ground.data }, { on := 7, ground := Go.Ground.data }, { on := 5, ground := Go.Ground.chain }, { on := 5, ground := Go.Ground.guard }], guard := some (5, true) }) (v := undef) rfl (by kernel_rfl) (by kernel_rfl) (by kernel_rfl) (fun _ _ _ h => h) (Or.inr ⟨by rfl, rfl⟩) (by assumption) ?_
    simp only [Act.put, List.setIfInBounds_toArray, List.set_cons_zero, List.set_cons_succ]
    refine wpAnyH_take (i := 9) (oi := { dst := some 16, op := Go.Op.load 28 (Go.Operand.tmp 3), type := 28, pos := "l7_periods.go:46", after := #[{ on := 5, ground := Go.Ground.guard }], guard := some (5, true) }) (v := undef) rfl (by kernel_rfl) (by kernel_rfl) (by kernel_rfl) (fun _ _ _ h => h) (Or.inr ⟨by rfl, rfl⟩) (by assumption) ?_
    simp only [Act.put, List.setIfInBounds_toArray, List.set_cons_zero, List.set_cons_succ]
    refine wpAnyH_take (i := 10) (oi := { dst := some 17, op := Go.Op.binOp Go.BinOp.eql 28 (Go.Operand.tmp 15) (Go.Operand.tmp 16) 28, type := 4, pos := "l7_periods.go:46", after := #[{ on := 8, ground := Go.Ground.data }, { on := 9, ground := Go.Ground.data }, { on := 5, ground := Go.Ground.guard }], guard := some (5, true) }) (v := undef) rfl (by kernel_rfl) (by kernel_rfl) (by kernel_rfl) (fun _ _ _ h => h) (Or.inr ⟨by rfl, rfl⟩) (by assumption) ?_
    simp only [Act.put, List.setIfInBounds_toArray, List.set_cons_zero, List.set_cons_succ]
    refine wpAnyH_take (i := 11) (oi := { dst := some 18, op := Go.Op.pick (Go.Operand.tmp 12) (Go.Operand.tmp 17) (Go.Operand.const (Go.Value.bool false)), type := 4, pos := "l7_periods.go:46", after := #[{ on := 5, ground := Go.Ground.data }, { on := 10, ground := Go.Ground.data }], guard := none }) (v := ?_) rfl (by kernel_rfl) (by kernel_rfl) (by kernel_rfl) (fun _ _ _ h => h) (Or.inl ⟨by rfl, ?_⟩) (by assumption) ?_
    rotate_left
    · intro w hSw; (try dsimp only at hSw); go_simp; (try with_reducible rfl)
    simp only [Act.put, List.setIfInBounds_toArray, List.set_cons_zero, List.set_cons_succ]
    refine wpAnyH_take (i := 12) (oi := { dst := some 6, op := Go.Op.assign (Go.Operand.tmp 18), type := 4, pos := "l7_periods.go:46", after := #[{ on := 11, ground := Go.Ground.data }, { on := 8, ground := Go.Ground.chain }, { on := 0, ground := Go.Ground.phase }, { on := 1, ground := Go.Ground.phase }, { on := 2, ground := Go.Ground.phase }, { on := 3, ground := Go.Ground.phase }, { on := 4, ground := Go.Ground.phase }, { on := 5, ground := Go.Ground.phase }, { on := 6, ground := Go.Ground.phase }, { on := 7, ground := Go.Ground.phase }, { on := 8, ground := Go.Ground.phase }, { on := 9, ground := Go.Ground.phase }, { on := 10, ground := Go.Ground.phase }, { on := 11, ground := Go.Ground.phase }], guard := none }) (v := ?_) rfl (by kernel_rfl) (by kernel_rfl) (by kernel_rfl) (fun _ _ _ h => h) (Or.inl ⟨by rfl, ?_⟩) (by assumption) ?_
    rotate_left
    · intro w hSw; (try dsimp only at hSw); go_simp; (try with_reducible rfl)
    simp only [Act.put, List.setIfInBounds_toArray, List.set_cons_zero, List.set_cons_succ]
    refine wpAnyH_done (by kernel_rfl) ?_ _
    clear he1 he2
    go_wp2_with fail
    go_ret
    exact ⟨rfl, hq.2.2⟩
  · obtain rfl : r = u2 := HR.out
    clear HR
    refine wp_region_held_drew (S := (fun U => U.cell? ⟨w.heap.size, 0, none⟩ = some (.int .i64 (rowv (a 0))) ∧ U.cell? ⟨w.heap.size, 1, none⟩ = some (.int .i64 (rowv (a 1))) ∧ U.cell? ⟨w.heap.size, 2, none⟩ = some (.int .i64 (rowv (a 2))) ∧ U.cell? ⟨w.heap.size, 3, none⟩ = some (.int .i64 (rowv (a 3))) ∧ U.cell? ⟨w.heap.size, 4, none⟩ = some (.int .i64 (rowv (a 4))) ∧ U.cell? ⟨w.heap.size, 5, none⟩ = some (.int .i64 (rowv (a 5))) ∧ KR 1 [(w.heap.size, o6 a)] w U)) (by kernel_rfl) ?_ (fun hHeld => ?_)
    · (try dsimp only)
      exact SKt hq
    refine wpAnyH_take (i := 0) (oi := { dst := some 7, op := Go.Op.load 28 (Go.Operand.tmp 3), type := 28, pos := "l7_periods.go:46", after := #[], guard := none }) (v := ?_) rfl (by kernel_rfl) (by kernel_rfl) (by kernel_rfl) (fun _ _ _ h => h) (Or.inl ⟨by rfl, ?_⟩) (by assumption) ?_
    rotate_left
    · intro w hSw; (try dsimp only at hSw); go_simp; (try with_reducible rfl)
    simp only [Act.put, List.setIfInBounds_toArray, List.set_cons_zero, List.set_cons_succ]
    refine wpAnyH_take (i := 1) (oi := { dst := some 8, op := Go.Op.move (Go.Operand.tmp 1), type := 3, pos := "l7_periods.go:46", after := #[], guard := none }) (v := ?_) rfl (by kernel_rfl) (by kernel_rfl) (by kernel_rfl) (fun _ _ _ h => h) (Or.inl ⟨by rfl, ?_⟩) (by assumption) ?_
    rotate_left
    · intro w hSw; (try dsimp only at hSw); go_simp; (try with_reducible rfl)
    simp only [Act.put, List.setIfInBounds_toArray, List.set_cons_zero, List.set_cons_succ]
    refine wpAnyH_take (i := 3) (oi := { dst := some 10, op := Go.Op.load 28 (Go.Operand.tmp 3), type := 28, pos := "l7_periods.go:46", after := #[], guard := none }) (v := ?_) rfl (by kernel_rfl) (by kernel_rfl) (by kernel_rfl) (fun _ _ _ h => h) (Or.inl ⟨by rfl, ?_⟩) (by assumption) ?_
    rotate_left
    · intro w hSw; (try dsimp only at hSw); go_simp; (try with_reducible rfl)
    simp only [Act.put, List.setIfInBounds_toArray, List.set_cons_zero, List.set_cons_succ]
    refine wpAnyH_ready (rs := [2]) (by kernel_rfl) (by simp) ?_
    refine AllReadyH.cons (o := { dst := some 9, op := Go.Op.call { callee := Go.Callee.value (Go.Operand.func 127), args := #[Go.Operand.tmp 7, Go.Operand.tmp 8, Go.Operand.const (Go.Value.int Go.IntKind.i64 0)], argTypes := #[28, 3, 3] }, type := 28, pos := "l7_periods.go:46", after := #[{ on := 0, ground := Go.Ground.data }, { on := 1, ground := Go.Ground.data }], guard := none }) rfl (fun K hK => ?_) AllReadyH.nil
    go_simp
    (go_at_call 127; with_reducible refine (HF1.out _).mono ?_; rintro e w' ⟨rfl, hb'⟩; have hq := hq.far hb' rfl; go_wp2_with fail)
    refine hK.out _ _ ?_ (fun hHeld => ?_)
    · (try dsimp only)
      exact SKt hq
    clear hK K
    (try simp only [Act.put, List.setIfInBounds_toArray, List.set_cons_zero, List.set_cons_succ])
    refine wpAnyH_take (i := 4) (oi := { dst := some 11, op := Go.Op.binOp Go.BinOp.eql 28 (Go.Operand.tmp 9) (Go.Operand.tmp 10) 28, type := 4, pos := "l7_periods.go:46", after := #[{ on := 2, ground := Go.Ground.data }, { on := 3, ground := Go.Ground.data }], guard := none }) (v := ?_) rfl (by kernel_rfl) (by kernel_rfl) (by kernel_rfl) (fun _ _ _ h => h) (Or.inl ⟨by rfl, ?_⟩) (by assumption) ?_
    rotate_left
    · intro w hSw; (try dsimp only at hSw); go_simp; (try simp only [he1]); (try with_reducible rfl)
    simp only [Act.put, List.setIfInBounds_toArray, List.set_cons_zero, List.set_cons_succ]
    refine wpAnyH_take (i := 5) (oi := { dst := some 12, op := Go.Op.move (Go.Operand.tmp 11), type := 4, pos := "l7_periods.go:46", after := #[{ on := 4, ground := Go.Ground.data }, { on := 2, ground := Go.Ground.chain }], guard := none }) (v := ?_) rfl (by kernel_rfl) (by kernel_rfl) (by kernel_rfl) (fun _ _ _ h => h) (Or.inl ⟨by rfl, ?_⟩) (by assumption) ?_
    rotate_left
    · intro w hSw; (try dsimp only at hSw); go_simp; (try with_reducible rfl)
    simp only [Act.put, List.setIfInBounds_toArray, List.set_cons_zero, List.set_cons_succ]
    refine wpAnyH_take (i := 6) (oi := { dst := some 13, op := Go.Op.load 28 (Go.Operand.tmp 3), type := 28, pos := "l7_periods.go:46", after := #[{ on := 5, ground := Go.Ground.guard }], guard := some (5, true) }) (v := ?_) rfl (by kernel_rfl) (by kernel_rfl) (by kernel_rfl) (fun _ _ _ h => h) (Or.inl ⟨by rfl, ?_⟩) (by assumption) ?_
    rotate_left
    · intro w hSw; (try dsimp only at hSw); go_simp; (try with_reducible rfl)
    simp only [Act.put, List.setIfInBounds_toArray, List.set_cons_zero, List.set_cons_succ]
    refine wpAnyH_take (i := 7) (oi := { dst := some 14, op := Go.Op.move (Go.Operand.tmp 2), type := 3, pos := "l7_periods.go:46", after := #[{ on := 5, ground := Go.Ground.guard }], guard := some (5, true) }) (v := ?_) rfl (by kernel_rfl) (by kernel_rfl) (by kernel_rfl) (fun _ _ _ h => h) (Or.inl ⟨by rfl, ?_⟩) (by assumption) ?_
    rotate_left
    · intro w hSw; (try dsimp only at hSw); go_simp; (try with_reducible rfl)
    simp only [Act.put, List.setIfInBounds_toArray, List.set_cons_zero, List.set_cons_succ]
    refine wpAnyH_take (i := 9) (oi := { dst := some 16, op := Go.Op.load 28 (Go.Operand.tmp 3), type := 28, pos := "l7_periods.go:46", after := #[{ on := 5, ground := Go.Ground.guard }], guard := some (5, true) }) (v := ?_) rfl (by kernel_rfl) (by kernel_rfl) (by kernel_rfl) (fun _ _ _ h => h) (Or.inl ⟨by rfl, ?_⟩) (by assumption) ?_
    rotate_left
    · intro w hSw; (try dsimp only at hSw); go_simp; (try with_reducible rfl)
    simp only [Act.put, List.setIfInBounds_toArray, List.set_cons_zero, List.set_cons_succ]
    refine wpAnyH_ready (rs := [8]) (by kernel_rfl) (by simp) ?_
    refine AllReadyH.cons (o := { dst := some 15, op := Go.Op.call { callee := Go.Callee.value (Go.Operand.func 127), args := #[Go.Operand.tmp 13, Go.Operand.const (Go.Value.int Go.IntKind.i64 0), Go.Operand.tmp 14], argTypes := #[28, 3, 3] }, type := 28, pos := "l7_periods.go:46", after := #[{ on := 6, ground := Go.Ground.data }, { on := 7, ground := Go.Ground.data }, { on := 5, ground := Go.Ground.chain }, { on := 5, ground := Go.Ground.guard }], guard := some (5, true) }) rfl (fun K hK => ?_) AllReadyH.nil
    go_simp
    (go_at_call 127; with_reducible refine (HF2.out _).mono ?_; rintro e w' ⟨rfl, hb'⟩; have hq := hq.far hb' rfl; go_wp2_with fail)
    refine hK.out _ _ ?_ (fun hHeld => ?_)
    · (try dsimp only)
      exact SKt hq
    clear hK K
    (try simp only [Act.put, List.setIfInBounds_toArray, List.set_cons_zero, List.set_cons_succ])
    refine wpAnyH_take (i := 10) (oi := { dst := some 17, op := Go.Op.binOp Go.BinOp.eql 28 (Go.Operand.tmp 15) (Go.Operand.tmp 16) 28, type := 4, pos := "l7_periods.go:46", after := #[{ on := 8, ground := Go.Ground.data }, { on := 9, ground := Go.Ground.data }, { on := 5, ground := Go.Ground.guard }], guard := some (5, true) }) (v := ?_) rfl (by kernel_rfl) (by kernel_rfl) (by kernel_rfl) (fun _ _ _ h => h) (Or.inl ⟨by rfl, ?_⟩) (by assumption) ?_
    rotate_left
    · intro w hSw; (try dsimp only at hSw); go_simp; (try simp only [he2]); (try with_reducible rfl)
    simp only [Act.put, List.setIfInBounds_toArray, List.set_cons_zero, List.set_cons_succ]
    refine wpAnyH_take (i := 11) (oi := { dst := some 18, op := Go.Op.pick (Go.Operand.tmp 12) (Go.Operand.tmp 17) (Go.Operand.const (Go.Value.bool false)), type := 4, pos := "l7_periods.go:46", after := #[{ on := 5, ground := Go.Ground.data }, { on := 10, ground := Go.Ground.data }], guard := none }) (v := ?_) rfl (by kernel_rfl) (by kernel_rfl) (by kernel_rfl) (fun _ _ _ h => h) (Or.inl ⟨by rfl, ?_⟩) (by assumption) ?_
    rotate_left
    · intro w hSw; (try dsimp only at hSw); go_simp; (try with_reducible rfl)
    simp only [Act.put, List.setIfInBounds_toArray, List.set_cons_zero, List.set_cons_succ]
    refine wpAnyH_take (i := 12) (oi := { dst := some 6, op := Go.Op.assign (Go.Operand.tmp 18), type := 4, pos := "l7_periods.go:46", after := #[{ on := 11, ground := Go.Ground.data }, { on := 8, ground := Go.Ground.chain }, { on := 0, ground := Go.Ground.phase }, { on := 1, ground := Go.Ground.phase }, { on := 2, ground := Go.Ground.phase }, { on := 3, ground := Go.Ground.phase }, { on := 4, ground := Go.Ground.phase }, { on := 5, ground := Go.Ground.phase }, { on := 6, ground := Go.Ground.phase }, { on := 7, ground := Go.Ground.phase }, { on := 8, ground := Go.Ground.phase }, { on := 9, ground := Go.Ground.phase }, { on := 10, ground := Go.Ground.phase }, { on := 11, ground := Go.Ground.phase }], guard := none }) (v := ?_) rfl (by kernel_rfl) (by kernel_rfl) (by kernel_rfl) (fun _ _ _ h => h) (Or.inl ⟨by rfl, ?_⟩) (by assumption) ?_
    rotate_left
    · intro w hSw; (try dsimp only at hSw); go_simp; (try with_reducible rfl)
    simp only [Act.put, List.setIfInBounds_toArray, List.set_cons_zero, List.set_cons_succ]
    refine wpAnyH_done (by kernel_rfl) ?_ _
    clear he1 he2
    go_wp2_with fail
    go_ret
    exact ⟨rfl, hq.2.2⟩
def o7s (a0 a1 a2 a3 a4 a5 : Int) : Obj := .cells #[.int .i64 a0, .int .i64 a1, .int .i64 a2, .int .i64 a3, .int .i64 a4, .int .i64 a5] 28 (0, 0)
set_option maxHeartbeats 1000000 in
theorem stile_yes (a : Fn6) (H0 : Hid (∀ w, Calls Try.prog 119 #[.agg #[.int .i64 (rowv (a 0)), .int .i64 (rowv (a 1)), .int .i64 (rowv (a 2)), .int .i64 (rowv (a 3)), .int .i64 (rowv (a 4)), .int .i64 (rowv (a 5))]] w fun e w' => e = .returned (.bool true) ∧ Below w.heap.size w w')) (w0 h0 : Int) (hw : 0 ≤ w0 ∧ w0 ≤ 6) (hh : 0 ≤ h0 ∧ h0 ≤ 6) (p q : Nat) (hp : w0 % 6 = p) (hq : h0 % 6 = q) (hdw : dv w0 = true) (hdh : dv h0 = true) (w : World) : Calls Try.prog 36 #[.agg #[.int .i64 (rowv (a 0)), .int .i64 (rowv (a 1)), .int .i64 (rowv (a 2)), .int .i64 (rowv (a 3)), .int .i64 (rowv (a 4)), .int .i64 (rowv (a 5))], .int .i64 w0, .int .i64 h0] w fun e w' => e = .returned (.tuple #[.bool (tl7 a p q), .bool true]) ∧ Below w.heap.size w w' := by
  have HD1 := Lib.hid (fun w => hdw ▸ ldv_any w0 w)
  have HD2 := Lib.hid (fun w => hdh ▸ ldv_any h0 w)
  have HT := Lib.hid (ltile_f a w0 h0 hw hh p q hp hq)
  clear hdw hdh
  go_enter Try.func36, Try.ntmps36
  go_wp2_with fail
  generalize hW : (World.alloc _ _ : World) = W0
  have K0 : KR 1 [(w.heap.size, o6 a)] w W0 := hW ▸ kr1 w _
  clear hW
  have a_c := fun j => cell_of_row W0 _ j _ _ _ (K0.row (g := w.heap.size) (o := o6 a) (by simp))
  go_wp2_with fail
  refine (H0.out _).mono ?_
  rintro e W1 ⟨rfl, hb⟩
  have K1 := K0.far hb rfl
  clear hb K0 a_c
  have a_c := fun j => cell_of_row W1 _ j _ _ _ (K1.row (g := w.heap.size) (o := o6 a) (by simp))
  go_wp2_with fail
  refine (HD1.out _).mono ?_
  rintro e w1 ⟨rfl, rfl⟩
  go_wp2_with fail
  refine (HD2.out _).mono ?_
  rintro e w1 ⟨rfl, rfl⟩
  go_wp2_with fail
  refine (HT.out _).mono ?_
  rintro e W2 ⟨rfl, hb⟩
  have K2 := K1.far hb rfl
  clear a_c hb K1
  go_wp2_with fail
  go_ret2
  exact ⟨rfl, K2.2.2⟩
set_option maxHeartbeats 1000000 in
theorem stile_no0 (a0 a1 a2 a3 a4 a5 : Int) (H0 : Hid (∀ w, Calls Try.prog 119 #[.agg #[.int .i64 a0, .int .i64 a1, .int .i64 a2, .int .i64 a3, .int .i64 a4, .int .i64 a5]] w fun e w' => e = .returned (.bool false) ∧ Below w.heap.size w w')) (w0 h0 : Int) (w : World) : Calls Try.prog 36 #[.agg #[.int .i64 a0, .int .i64 a1, .int .i64 a2, .int .i64 a3, .int .i64 a4, .int .i64 a5], .int .i64 w0, .int .i64 h0] w fun e w' => e = .returned (.tuple #[.bool false, .bool false]) ∧ Below w.heap.size w w' := by
  go_enter Try.func36, Try.ntmps36
  go_wp2_with fail
  generalize hW : (World.alloc _ _ : World) = W0
  have K0 : KR 1 [(w.heap.size, o7s a0 a1 a2 a3 a4 a5)] w W0 := hW ▸ kr1 w _
  clear hW
  have a_c := fun j => cell_of_row W0 _ j _ _ _ (K0.row (g := w.heap.size) (o := o7s a0 a1 a2 a3 a4 a5) (by simp))
  go_wp2_with fail
  refine (H0.out _).mono ?_
  rintro e W1 ⟨rfl, hb⟩
  have K1 := K0.far hb rfl
  clear hb K0 a_c
  go_wp2_with fail
  go_ret2
  exact ⟨rfl, K1.2.2⟩
set_option maxHeartbeats 1000000 in
theorem stile_no1 (a0 a1 a2 a3 a4 a5 : Int) (H0 : Hid (∀ w, Calls Try.prog 119 #[.agg #[.int .i64 a0, .int .i64 a1, .int .i64 a2, .int .i64 a3, .int .i64 a4, .int .i64 a5]] w fun e w' => e = .returned (.bool true) ∧ Below w.heap.size w w')) (w0 h0 : Int) (hdw : dv w0 = false) (w : World) : Calls Try.prog 36 #[.agg #[.int .i64 a0, .int .i64 a1, .int .i64 a2, .int .i64 a3, .int .i64 a4, .int .i64 a5], .int .i64 w0, .int .i64 h0] w fun e w' => e = .returned (.tuple #[.bool false, .bool false]) ∧ Below w.heap.size w w' := by
  have HD1 := Lib.hid (fun w => hdw ▸ ldv_any w0 w)
  clear hdw
  go_enter Try.func36, Try.ntmps36
  go_wp2_with fail
  generalize hW : (World.alloc _ _ : World) = W0
  have K0 : KR 1 [(w.heap.size, o7s a0 a1 a2 a3 a4 a5)] w W0 := hW ▸ kr1 w _
  clear hW
  have a_c := fun j => cell_of_row W0 _ j _ _ _ (K0.row (g := w.heap.size) (o := o7s a0 a1 a2 a3 a4 a5) (by simp))
  go_wp2_with fail
  refine (H0.out _).mono ?_
  rintro e W1 ⟨rfl, hb⟩
  have K1 := K0.far hb rfl
  clear hb K0 a_c
  go_wp2_with fail
  refine (HD1.out _).mono ?_
  rintro e w1 ⟨rfl, rfl⟩
  go_wp2_with fail
  go_ret2
  exact ⟨rfl, K1.2.2⟩
set_option maxHeartbeats 1000000 in
theorem stile_no2 (a0 a1 a2 a3 a4 a5 : Int) (H0 : Hid (∀ w, Calls Try.prog 119 #[.agg #[.int .i64 a0, .int .i64 a1, .int .i64 a2, .int .i64 a3, .int .i64 a4, .int .i64 a5]] w fun e w' => e = .returned (.bool true) ∧ Below w.heap.size w w')) (w0 h0 : Int) (hdw : dv w0 = true) (hdh : dv h0 = false) (w : World) : Calls Try.prog 36 #[.agg #[.int .i64 a0, .int .i64 a1, .int .i64 a2, .int .i64 a3, .int .i64 a4, .int .i64 a5], .int .i64 w0, .int .i64 h0] w fun e w' => e = .returned (.tuple #[.bool false, .bool false]) ∧ Below w.heap.size w w' := by
  have HD1 := Lib.hid (fun w => hdw ▸ ldv_any w0 w)
  have HD2 := Lib.hid (fun w => hdh ▸ ldv_any h0 w)
  clear hdw hdh
  go_enter Try.func36, Try.ntmps36
  go_wp2_with fail
  generalize hW : (World.alloc _ _ : World) = W0
  have K0 : KR 1 [(w.heap.size, o7s a0 a1 a2 a3 a4 a5)] w W0 := hW ▸ kr1 w _
  clear hW
  have a_c := fun j => cell_of_row W0 _ j _ _ _ (K0.row (g := w.heap.size) (o := o7s a0 a1 a2 a3 a4 a5) (by simp))
  go_wp2_with fail
  refine (H0.out _).mono ?_
  rintro e W1 ⟨rfl, hb⟩
  have K1 := K0.far hb rfl
  clear hb K0 a_c
  go_wp2_with fail
  refine (HD1.out _).mono ?_
  rintro e w1 ⟨rfl, rfl⟩
  go_wp2_with fail
  refine (HD2.out _).mono ?_
  rintro e w1 ⟨rfl, rfl⟩
  go_wp2_with fail
  go_ret2
  exact ⟨rfl, K1.2.2⟩
set_option maxHeartbeats 1000000 in
theorem itile_yes (a : Fn6) (H0 : Hid (∀ w, Calls Try.prog 122 #[.agg #[.int .i64 (rowv (a 0)), .int .i64 (rowv (a 1)), .int .i64 (rowv (a 2)), .int .i64 (rowv (a 3)), .int .i64 (rowv (a 4)), .int .i64 (rowv (a 5))]] w fun e w' => e = .returned (.bool true) ∧ Below w.heap.size w w')) (w0 h0 : Int) (hw : 0 ≤ w0 ∧ w0 ≤ 6) (hh : 0 ≤ h0 ∧ h0 ≤ 6) (p q : Nat) (hp : w0 % 6 = p) (hq : h0 % 6 = q) (hdw : dv w0 = true) (hdh : dv h0 = true) (w : World) : Calls Try.prog 37 #[.agg #[.int .i64 (rowv (a 0)), .int .i64 (rowv (a 1)), .int .i64 (rowv (a 2)), .int .i64 (rowv (a 3)), .int .i64 (rowv (a 4)), .int .i64 (rowv (a 5))], .int .i64 w0, .int .i64 h0] w fun e w' => e = .returned (.tuple #[.bool (tl7 a p q), .bool true]) ∧ Below w.heap.size w w' := by
  have HD1 := Lib.hid (fun w => hdw ▸ idv_any w0 w)
  have HD2 := Lib.hid (fun w => hdh ▸ idv_any h0 w)
  have HF1 := Lib.hid (shifted_m a w0 0 hw (by omega) p 0 hp (by omega))
  have HF2 := Lib.hid (shifted_m a 0 h0 (by omega) hh 0 q (by omega) hq)
  have he1 := eq_sg7 a a p 0
  have he2 := eq_sg7 a a 0 q
  unfold tl7
  clear hp hq
  generalize sg7 a a p 0 = u1 at *
  generalize sg7 a a 0 q = u2 at *
  obtain ⟨r, hr⟩ : ∃ r, r = (u1 && u2) := ⟨_, rfl⟩
  rw [← hr]
  have HR := Lib.hid hr
  clear hr
  clear hdw hdh
  go_enter Try.func37, Try.ntmps37
  go_wp2_with fail
  generalize hW : (World.alloc _ _ : World) = W0
  have K0 : KR 1 [(w.heap.size, o6 a)] w W0 := hW ▸ kr1 w _
  clear hW
  have a_c := fun j => cell_of_row W0 _ j _ _ _ (K0.row (g := w.heap.size) (o := o6 a) (by simp))
  go_wp2_with fail
  refine (H0.out _).mono ?_
  rintro e W1 ⟨rfl, hb⟩
  have K1 := K0.far hb rfl
  clear hb K0 a_c
  have a_c := fun j => cell_of_row W1 _ j _ _ _ (K1.row (g := w.heap.size) (o := o6 a) (by simp))
  go_wp2_with fail
  refine (HD1.out _).mono ?_
  rintro e w1 ⟨rfl, rfl⟩
  go_wp2_with fail
  refine (HD2.out _).mono ?_
  rintro e w1 ⟨rfl, rfl⟩
  clear a_c
  go_wp2_with fail
  have hq := K1.drew
  cases u1
  · obtain rfl : r = false := HR.out
    clear HR
    refine wp_region_held_drew (S := (fun U => U.cell? ⟨w.heap.size, 0, none⟩ = some (.int .i64 (rowv (a 0))) ∧ U.cell? ⟨w.heap.size, 1, none⟩ = some (.int .i64 (rowv (a 1))) ∧ U.cell? ⟨w.heap.size, 2, none⟩ = some (.int .i64 (rowv (a 2))) ∧ U.cell? ⟨w.heap.size, 3, none⟩ = some (.int .i64 (rowv (a 3))) ∧ U.cell? ⟨w.heap.size, 4, none⟩ = some (.int .i64 (rowv (a 4))) ∧ U.cell? ⟨w.heap.size, 5, none⟩ = some (.int .i64 (rowv (a 5))) ∧ KR 1 [(w.heap.size, o6 a)] w U)) (by kernel_rfl) ?_ (fun hHeld => ?_)
    · (try dsimp only)
      exact SKt hq
    refine wpAnyH_take (i := 0) (oi := { dst := some 21, op := Go.Op.load 28 (Go.Operand.tmp 3), type := 28, pos := "l7_periods.go:119", after := #[], guard := none }) (v := ?_) rfl (by kernel_rfl) (by kernel_rfl) (by kernel_rfl) (fun _ _ _ h => h) (Or.inl ⟨by rfl, ?_⟩) (by assumption) ?_
    rotate_left
    · intro w hSw; (try dsimp only at hSw); go_simp; (try with_reducible rfl)
    simp only [Act.put, List.setIfInBounds_toArray, List.set_cons_zero, List.set_cons_succ]
    refine wpAnyH_take (i := 1) (oi := { dst := some 22, op := Go.Op.move (Go.Operand.tmp 1), type := 3, pos := "l7_periods.go:119", after := #[], guard := none }) (v := ?_) rfl (by kernel_rfl) (by kernel_rfl) (by kernel_rfl) (fun _ _ _ h => h) (Or.inl ⟨by rfl, ?_⟩) (by assumption) ?_
    rotate_left
    · intro w hSw; (try dsimp only at hSw); go_simp; (try with_reducible rfl)
    simp only [Act.put, List.setIfInBounds_toArray, List.set_cons_zero, List.set_cons_succ]
    refine wpAnyH_take (i := 3) (oi := { dst := some 24, op := Go.Op.load 28 (Go.Operand.tmp 3), type := 28, pos := "l7_periods.go:119", after := #[], guard := none }) (v := ?_) rfl (by kernel_rfl) (by kernel_rfl) (by kernel_rfl) (fun _ _ _ h => h) (Or.inl ⟨by rfl, ?_⟩) (by assumption) ?_
    rotate_left
    · intro w hSw; (try dsimp only at hSw); go_simp; (try with_reducible rfl)
    simp only [Act.put, List.setIfInBounds_toArray, List.set_cons_zero, List.set_cons_succ]
    refine wpAnyH_ready (rs := [2]) (by kernel_rfl) (by simp) ?_
    refine AllReadyH.cons (o := { dst := some 23, op := Go.Op.call { callee := Go.Callee.value (Go.Operand.func 130), args := #[Go.Operand.tmp 21, Go.Operand.tmp 22, Go.Operand.const (Go.Value.int Go.IntKind.i64 0)], argTypes := #[28, 3, 3] }, type := 28, pos := "l7_periods.go:119", after := #[{ on := 0, ground := Go.Ground.data }, { on := 1, ground := Go.Ground.data }], guard := none }) rfl (fun K hK => ?_) AllReadyH.nil
    go_simp
    (go_at_call 130; with_reducible refine (HF1.out _).mono ?_; rintro e w' ⟨rfl, hb'⟩; have hq := hq.far hb' rfl; go_wp2_with fail)
    refine hK.out _ _ ?_ (fun hHeld => ?_)
    · (try dsimp only)
      exact SKt hq
    clear hK K
    (try simp only [Act.put, List.setIfInBounds_toArray, List.set_cons_zero, List.set_cons_succ])
    refine wpAnyH_take (i := 4) (oi := { dst := some 25, op := Go.Op.binOp Go.BinOp.eql 28 (Go.Operand.tmp 23) (Go.Operand.tmp 24) 28, type := 4, pos := "l7_periods.go:119", after := #[{ on := 2, ground := Go.Ground.data }, { on := 3, ground := Go.Ground.data }], guard := none }) (v := ?_) rfl (by kernel_rfl) (by kernel_rfl) (by kernel_rfl) (fun _ _ _ h => h) (Or.inl ⟨by rfl, ?_⟩) (by assumption) ?_
    rotate_left
    · intro w hSw; (try dsimp only at hSw); go_simp; (try simp only [he1]); (try with_reducible rfl)
    simp only [Act.put, List.setIfInBounds_toArray, List.set_cons_zero, List.set_cons_succ]
    refine wpAnyH_take (i := 5) (oi := { dst := some 26, op := Go.Op.move (Go.Operand.tmp 25), type := 4, pos := "l7_periods.go:119", after := #[{ on := 4, ground := Go.Ground.data }, { on := 2, ground := Go.Ground.chain }], guard := none }) (v := ?_) rfl (by kernel_rfl) (by kernel_rfl) (by kernel_rfl) (fun _ _ _ h => h) (Or.inl ⟨by rfl, ?_⟩) (by assumption) ?_
    rotate_left
    · intro w hSw; (try dsimp only at hSw); go_simp; (try with_reducible rfl)
    simp only [Act.put, List.setIfInBounds_toArray, List.set_cons_zero, List.set_cons_succ]
    refine wpAnyH_take (i := 6) (oi := { dst := some 27, op := Go.Op.load 28 (Go.Operand.tmp 3), type := 28, pos := "l7_periods.go:119", after := #[{ on := 5, ground := Go.Ground.guard }], guard := some (5, true) }) (v := undef) rfl (by kernel_rfl) (by kernel_rfl) (by kernel_rfl) (fun _ _ _ h => h) (Or.inr ⟨by rfl, rfl⟩) (by assumption) ?_
    simp only [Act.put, List.setIfInBounds_toArray, List.set_cons_zero, List.set_cons_succ]
    refine wpAnyH_take (i := 7) (oi := { dst := some 28, op := Go.Op.move (Go.Operand.tmp 2), type := 3, pos := "l7_periods.go:119", after := #[{ on := 5, ground := Go.Ground.guard }], guard := some (5, true) }) (v := undef) rfl (by kernel_rfl) (by kernel_rfl) (by kernel_rfl) (fun _ _ _ h => h) (Or.inr ⟨by rfl, rfl⟩) (by assumption) ?_
    simp only [Act.put, List.setIfInBounds_toArray, List.set_cons_zero, List.set_cons_succ]
    refine wpAnyH_take (i := 8) (oi := { dst := some 29, op := Go.Op.call { callee := Go.Callee.value (Go.Operand.func 130), args := #[Go.Operand.tmp 27, Go.Operand.const (Go.Value.int Go.IntKind.i64 0), Go.Operand.tmp 28], argTypes := #[28, 3, 3] }, type := 28, pos := "l7_periods.go:119", after := #[{ on := 6, ground := Go.Ground.data }, { on := 7, ground := Go.Ground.data }, { on := 5, ground := Go.Ground.chain }, { on := 5, ground := Go.Ground.guard }], guard := some (5, true) }) (v := undef) rfl (by kernel_rfl) (by kernel_rfl) (by kernel_rfl) (fun _ _ _ h => h) (Or.inr ⟨by rfl, rfl⟩) (by assumption) ?_
    simp only [Act.put, List.setIfInBounds_toArray, List.set_cons_zero, List.set_cons_succ]
    refine wpAnyH_take (i := 9) (oi := { dst := some 30, op := Go.Op.load 28 (Go.Operand.tmp 3), type := 28, pos := "l7_periods.go:119", after := #[{ on := 5, ground := Go.Ground.guard }], guard := some (5, true) }) (v := undef) rfl (by kernel_rfl) (by kernel_rfl) (by kernel_rfl) (fun _ _ _ h => h) (Or.inr ⟨by rfl, rfl⟩) (by assumption) ?_
    simp only [Act.put, List.setIfInBounds_toArray, List.set_cons_zero, List.set_cons_succ]
    refine wpAnyH_take (i := 10) (oi := { dst := some 31, op := Go.Op.binOp Go.BinOp.eql 28 (Go.Operand.tmp 29) (Go.Operand.tmp 30) 28, type := 4, pos := "l7_periods.go:119", after := #[{ on := 8, ground := Go.Ground.data }, { on := 9, ground := Go.Ground.data }, { on := 5, ground := Go.Ground.guard }], guard := some (5, true) }) (v := undef) rfl (by kernel_rfl) (by kernel_rfl) (by kernel_rfl) (fun _ _ _ h => h) (Or.inr ⟨by rfl, rfl⟩) (by assumption) ?_
    simp only [Act.put, List.setIfInBounds_toArray, List.set_cons_zero, List.set_cons_succ]
    refine wpAnyH_take (i := 11) (oi := { dst := some 32, op := Go.Op.pick (Go.Operand.tmp 26) (Go.Operand.tmp 31) (Go.Operand.const (Go.Value.bool false)), type := 4, pos := "l7_periods.go:119", after := #[{ on := 5, ground := Go.Ground.data }, { on := 10, ground := Go.Ground.data }], guard := none }) (v := ?_) rfl (by kernel_rfl) (by kernel_rfl) (by kernel_rfl) (fun _ _ _ h => h) (Or.inl ⟨by rfl, ?_⟩) (by assumption) ?_
    rotate_left
    · intro w hSw; (try dsimp only at hSw); go_simp; (try with_reducible rfl)
    simp only [Act.put, List.setIfInBounds_toArray, List.set_cons_zero, List.set_cons_succ]
    refine wpAnyH_take (i := 12) (oi := { dst := some 6, op := Go.Op.assign (Go.Operand.tmp 32), type := 4, pos := "l7_periods.go:119", after := #[{ on := 11, ground := Go.Ground.data }, { on := 8, ground := Go.Ground.chain }, { on := 0, ground := Go.Ground.phase }, { on := 1, ground := Go.Ground.phase }, { on := 2, ground := Go.Ground.phase }, { on := 3, ground := Go.Ground.phase }, { on := 4, ground := Go.Ground.phase }, { on := 5, ground := Go.Ground.phase }, { on := 6, ground := Go.Ground.phase }, { on := 7, ground := Go.Ground.phase }, { on := 8, ground := Go.Ground.phase }, { on := 9, ground := Go.Ground.phase }, { on := 10, ground := Go.Ground.phase }, { on := 11, ground := Go.Ground.phase }], guard := none }) (v := ?_) rfl (by kernel_rfl) (by kernel_rfl) (by kernel_rfl) (fun _ _ _ h => h) (Or.inl ⟨by rfl, ?_⟩) (by assumption) ?_
    rotate_left
    · intro w hSw; (try dsimp only at hSw); go_simp; (try with_reducible rfl)
    simp only [Act.put, List.setIfInBounds_toArray, List.set_cons_zero, List.set_cons_succ]
    refine wpAnyH_take (i := 13) (oi := { dst := some 7, op := Go.Op.assign (Go.Operand.const (Go.Value.bool true)), type := 4, pos := "l7_periods.go:119", after := #[{ on := 12, ground := Go.Ground.chain }, { on := 0, ground := Go.Ground.phase }, { on := 1, ground := Go.Ground.phase }, { on := 2, ground := Go.Ground.phase }, { on := 3, ground := Go.Ground.phase }, { on := 4, ground := Go.Ground.phase }, { on := 5, ground := Go.Ground.phase }, { on := 6, ground := Go.Ground.phase }, { on := 7, ground := Go.Ground.phase }, { on := 8, ground := Go.Ground.phase }, { on := 9, ground := Go.Ground.phase }, { on := 10, ground := Go.Ground.phase }, { on := 11, ground := Go.Ground.phase }, { on := 12, ground := Go.Ground.phase }], guard := none }) (v := ?_) rfl (by kernel_rfl) (by kernel_rfl) (by kernel_rfl) (fun _ _ _ h => h) (Or.inl ⟨by rfl, ?_⟩) (by assumption) ?_
    rotate_left
    · intro w hSw; (try dsimp only at hSw); go_simp; (try with_reducible rfl)
    simp only [Act.put, List.setIfInBounds_toArray, List.set_cons_zero, List.set_cons_succ]
    refine wpAnyH_done (by kernel_rfl) ?_ _
    clear he1 he2
    go_wp2_with fail
    go_ret2
    exact ⟨rfl, hq.2.2⟩
  · obtain rfl : r = u2 := HR.out
    clear HR
    refine wp_region_held_drew (S := (fun U => U.cell? ⟨w.heap.size, 0, none⟩ = some (.int .i64 (rowv (a 0))) ∧ U.cell? ⟨w.heap.size, 1, none⟩ = some (.int .i64 (rowv (a 1))) ∧ U.cell? ⟨w.heap.size, 2, none⟩ = some (.int .i64 (rowv (a 2))) ∧ U.cell? ⟨w.heap.size, 3, none⟩ = some (.int .i64 (rowv (a 3))) ∧ U.cell? ⟨w.heap.size, 4, none⟩ = some (.int .i64 (rowv (a 4))) ∧ U.cell? ⟨w.heap.size, 5, none⟩ = some (.int .i64 (rowv (a 5))) ∧ KR 1 [(w.heap.size, o6 a)] w U)) (by kernel_rfl) ?_ (fun hHeld => ?_)
    · (try dsimp only)
      exact SKt hq
    refine wpAnyH_take (i := 0) (oi := { dst := some 21, op := Go.Op.load 28 (Go.Operand.tmp 3), type := 28, pos := "l7_periods.go:119", after := #[], guard := none }) (v := ?_) rfl (by kernel_rfl) (by kernel_rfl) (by kernel_rfl) (fun _ _ _ h => h) (Or.inl ⟨by rfl, ?_⟩) (by assumption) ?_
    rotate_left
    · intro w hSw; (try dsimp only at hSw); go_simp; (try with_reducible rfl)
    simp only [Act.put, List.setIfInBounds_toArray, List.set_cons_zero, List.set_cons_succ]
    refine wpAnyH_take (i := 1) (oi := { dst := some 22, op := Go.Op.move (Go.Operand.tmp 1), type := 3, pos := "l7_periods.go:119", after := #[], guard := none }) (v := ?_) rfl (by kernel_rfl) (by kernel_rfl) (by kernel_rfl) (fun _ _ _ h => h) (Or.inl ⟨by rfl, ?_⟩) (by assumption) ?_
    rotate_left
    · intro w hSw; (try dsimp only at hSw); go_simp; (try with_reducible rfl)
    simp only [Act.put, List.setIfInBounds_toArray, List.set_cons_zero, List.set_cons_succ]
    refine wpAnyH_take (i := 3) (oi := { dst := some 24, op := Go.Op.load 28 (Go.Operand.tmp 3), type := 28, pos := "l7_periods.go:119", after := #[], guard := none }) (v := ?_) rfl (by kernel_rfl) (by kernel_rfl) (by kernel_rfl) (fun _ _ _ h => h) (Or.inl ⟨by rfl, ?_⟩) (by assumption) ?_
    rotate_left
    · intro w hSw; (try dsimp only at hSw); go_simp; (try with_reducible rfl)
    simp only [Act.put, List.setIfInBounds_toArray, List.set_cons_zero, List.set_cons_succ]
    refine wpAnyH_ready (rs := [2]) (by kernel_rfl) (by simp) ?_
    refine AllReadyH.cons (o := { dst := some 23, op := Go.Op.call { callee := Go.Callee.value (Go.Operand.func 130), args := #[Go.Operand.tmp 21, Go.Operand.tmp 22, Go.Operand.const (Go.Value.int Go.IntKind.i64 0)], argTypes := #[28, 3, 3] }, type := 28, pos := "l7_periods.go:119", after := #[{ on := 0, ground := Go.Ground.data }, { on := 1, ground := Go.Ground.data }], guard := none }) rfl (fun K hK => ?_) AllReadyH.nil
    go_simp
    (go_at_call 130; with_reducible refine (HF1.out _).mono ?_; rintro e w' ⟨rfl, hb'⟩; have hq := hq.far hb' rfl; go_wp2_with fail)
    refine hK.out _ _ ?_ (fun hHeld => ?_)
    · (try dsimp only)
      exact SKt hq
    clear hK K
    (try simp only [Act.put, List.setIfInBounds_toArray, List.set_cons_zero, List.set_cons_succ])
    refine wpAnyH_take (i := 4) (oi := { dst := some 25, op := Go.Op.binOp Go.BinOp.eql 28 (Go.Operand.tmp 23) (Go.Operand.tmp 24) 28, type := 4, pos := "l7_periods.go:119", after := #[{ on := 2, ground := Go.Ground.data }, { on := 3, ground := Go.Ground.data }], guard := none }) (v := ?_) rfl (by kernel_rfl) (by kernel_rfl) (by kernel_rfl) (fun _ _ _ h => h) (Or.inl ⟨by rfl, ?_⟩) (by assumption) ?_
    rotate_left
    · intro w hSw; (try dsimp only at hSw); go_simp; (try simp only [he1]); (try with_reducible rfl)
    simp only [Act.put, List.setIfInBounds_toArray, List.set_cons_zero, List.set_cons_succ]
    refine wpAnyH_take (i := 5) (oi := { dst := some 26, op := Go.Op.move (Go.Operand.tmp 25), type := 4, pos := "l7_periods.go:119", after := #[{ on := 4, ground := Go.Ground.data }, { on := 2, ground := Go.Ground.chain }], guard := none }) (v := ?_) rfl (by kernel_rfl) (by kernel_rfl) (by kernel_rfl) (fun _ _ _ h => h) (Or.inl ⟨by rfl, ?_⟩) (by assumption) ?_
    rotate_left
    · intro w hSw; (try dsimp only at hSw); go_simp; (try with_reducible rfl)
    simp only [Act.put, List.setIfInBounds_toArray, List.set_cons_zero, List.set_cons_succ]
    refine wpAnyH_take (i := 6) (oi := { dst := some 27, op := Go.Op.load 28 (Go.Operand.tmp 3), type := 28, pos := "l7_periods.go:119", after := #[{ on := 5, ground := Go.Ground.guard }], guard := some (5, true) }) (v := ?_) rfl (by kernel_rfl) (by kernel_rfl) (by kernel_rfl) (fun _ _ _ h => h) (Or.inl ⟨by rfl, ?_⟩) (by assumption) ?_
    rotate_left
    · intro w hSw; (try dsimp only at hSw); go_simp; (try with_reducible rfl)
    simp only [Act.put, List.setIfInBounds_toArray, List.set_cons_zero, List.set_cons_succ]
    refine wpAnyH_take (i := 7) (oi := { dst := some 28, op := Go.Op.move (Go.Operand.tmp 2), type := 3, pos := "l7_periods.go:119", after := #[{ on := 5, ground := Go.Ground.guard }], guard := some (5, true) }) (v := ?_) rfl (by kernel_rfl) (by kernel_rfl) (by kernel_rfl) (fun _ _ _ h => h) (Or.inl ⟨by rfl, ?_⟩) (by assumption) ?_
    rotate_left
    · intro w hSw; (try dsimp only at hSw); go_simp; (try with_reducible rfl)
    simp only [Act.put, List.setIfInBounds_toArray, List.set_cons_zero, List.set_cons_succ]
    refine wpAnyH_take (i := 9) (oi := { dst := some 30, op := Go.Op.load 28 (Go.Operand.tmp 3), type := 28, pos := "l7_periods.go:119", after := #[{ on := 5, ground := Go.Ground.guard }], guard := some (5, true) }) (v := ?_) rfl (by kernel_rfl) (by kernel_rfl) (by kernel_rfl) (fun _ _ _ h => h) (Or.inl ⟨by rfl, ?_⟩) (by assumption) ?_
    rotate_left
    · intro w hSw; (try dsimp only at hSw); go_simp; (try with_reducible rfl)
    simp only [Act.put, List.setIfInBounds_toArray, List.set_cons_zero, List.set_cons_succ]
    refine wpAnyH_ready (rs := [8]) (by kernel_rfl) (by simp) ?_
    refine AllReadyH.cons (o := { dst := some 29, op := Go.Op.call { callee := Go.Callee.value (Go.Operand.func 130), args := #[Go.Operand.tmp 27, Go.Operand.const (Go.Value.int Go.IntKind.i64 0), Go.Operand.tmp 28], argTypes := #[28, 3, 3] }, type := 28, pos := "l7_periods.go:119", after := #[{ on := 6, ground := Go.Ground.data }, { on := 7, ground := Go.Ground.data }, { on := 5, ground := Go.Ground.chain }, { on := 5, ground := Go.Ground.guard }], guard := some (5, true) }) rfl (fun K hK => ?_) AllReadyH.nil
    go_simp
    (go_at_call 130; with_reducible refine (HF2.out _).mono ?_; rintro e w' ⟨rfl, hb'⟩; have hq := hq.far hb' rfl; go_wp2_with fail)
    refine hK.out _ _ ?_ (fun hHeld => ?_)
    · (try dsimp only)
      exact SKt hq
    clear hK K
    (try simp only [Act.put, List.setIfInBounds_toArray, List.set_cons_zero, List.set_cons_succ])
    refine wpAnyH_take (i := 10) (oi := { dst := some 31, op := Go.Op.binOp Go.BinOp.eql 28 (Go.Operand.tmp 29) (Go.Operand.tmp 30) 28, type := 4, pos := "l7_periods.go:119", after := #[{ on := 8, ground := Go.Ground.data }, { on := 9, ground := Go.Ground.data }, { on := 5, ground := Go.Ground.guard }], guard := some (5, true) }) (v := ?_) rfl (by kernel_rfl) (by kernel_rfl) (by kernel_rfl) (fun _ _ _ h => h) (Or.inl ⟨by rfl, ?_⟩) (by assumption) ?_
    rotate_left
    · intro w hSw; (try dsimp only at hSw); go_simp; (try simp only [he2]); (try with_reducible rfl)
    simp only [Act.put, List.setIfInBounds_toArray, List.set_cons_zero, List.set_cons_succ]
    refine wpAnyH_take (i := 11) (oi := { dst := some 32, op := Go.Op.pick (Go.Operand.tmp 26) (Go.Operand.tmp 31) (Go.Operand.const (Go.Value.bool false)), type := 4, pos := "l7_periods.go:119", after := #[{ on := 5, ground := Go.Ground.data }, { on := 10, ground := Go.Ground.data }], guard := none }) (v := ?_) rfl (by kernel_rfl) (by kernel_rfl) (by kernel_rfl) (fun _ _ _ h => h) (Or.inl ⟨by rfl, ?_⟩) (by assumption) ?_
    rotate_left
    · intro w hSw; (try dsimp only at hSw); go_simp; (try with_reducible rfl)
    simp only [Act.put, List.setIfInBounds_toArray, List.set_cons_zero, List.set_cons_succ]
    refine wpAnyH_take (i := 12) (oi := { dst := some 6, op := Go.Op.assign (Go.Operand.tmp 32), type := 4, pos := "l7_periods.go:119", after := #[{ on := 11, ground := Go.Ground.data }, { on := 8, ground := Go.Ground.chain }, { on := 0, ground := Go.Ground.phase }, { on := 1, ground := Go.Ground.phase }, { on := 2, ground := Go.Ground.phase }, { on := 3, ground := Go.Ground.phase }, { on := 4, ground := Go.Ground.phase }, { on := 5, ground := Go.Ground.phase }, { on := 6, ground := Go.Ground.phase }, { on := 7, ground := Go.Ground.phase }, { on := 8, ground := Go.Ground.phase }, { on := 9, ground := Go.Ground.phase }, { on := 10, ground := Go.Ground.phase }, { on := 11, ground := Go.Ground.phase }], guard := none }) (v := ?_) rfl (by kernel_rfl) (by kernel_rfl) (by kernel_rfl) (fun _ _ _ h => h) (Or.inl ⟨by rfl, ?_⟩) (by assumption) ?_
    rotate_left
    · intro w hSw; (try dsimp only at hSw); go_simp; (try with_reducible rfl)
    simp only [Act.put, List.setIfInBounds_toArray, List.set_cons_zero, List.set_cons_succ]
    refine wpAnyH_take (i := 13) (oi := { dst := some 7, op := Go.Op.assign (Go.Operand.const (Go.Value.bool true)), type := 4, pos := "l7_periods.go:119", after := #[{ on := 12, ground := Go.Ground.chain }, { on := 0, ground := Go.Ground.phase }, { on := 1, ground := Go.Ground.phase }, { on := 2, ground := Go.Ground.phase }, { on := 3, ground := Go.Ground.phase }, { on := 4, ground := Go.Ground.phase }, { on := 5, ground := Go.Ground.phase }, { on := 6, ground := Go.Ground.phase }, { on := 7, ground := Go.Ground.phase }, { on := 8, ground := Go.Ground.phase }, { on := 9, ground := Go.Ground.phase }, { on := 10, ground := Go.Ground.phase }, { on := 11, ground := Go.Ground.phase }, { on := 12, ground := Go.Ground.phase }], guard := none }) (v := ?_) rfl (by kernel_rfl) (by kernel_rfl) (by kernel_rfl) (fun _ _ _ h => h) (Or.inl ⟨by rfl, ?_⟩) (by assumption) ?_
    rotate_left
    · intro w hSw; (try dsimp only at hSw); go_simp; (try with_reducible rfl)
    simp only [Act.put, List.setIfInBounds_toArray, List.set_cons_zero, List.set_cons_succ]
    refine wpAnyH_done (by kernel_rfl) ?_ _
    clear he1 he2
    go_wp2_with fail
    go_ret2
    exact ⟨rfl, hq.2.2⟩
set_option maxHeartbeats 1000000 in
theorem itile_no0 (a0 a1 a2 a3 a4 a5 : Int) (H0 : Hid (∀ w, Calls Try.prog 122 #[.agg #[.int .i64 a0, .int .i64 a1, .int .i64 a2, .int .i64 a3, .int .i64 a4, .int .i64 a5]] w fun e w' => e = .returned (.bool false) ∧ Below w.heap.size w w')) (w0 h0 : Int) (w : World) : Calls Try.prog 37 #[.agg #[.int .i64 a0, .int .i64 a1, .int .i64 a2, .int .i64 a3, .int .i64 a4, .int .i64 a5], .int .i64 w0, .int .i64 h0] w fun e w' => e = .returned (.tuple #[.bool false, .bool false]) ∧ Below w.heap.size w w' := by
  go_enter Try.func37, Try.ntmps37
  go_wp2_with fail
  generalize hW : (World.alloc _ _ : World) = W0
  have K0 : KR 1 [(w.heap.size, o7s a0 a1 a2 a3 a4 a5)] w W0 := hW ▸ kr1 w _
  clear hW
  have a_c := fun j => cell_of_row W0 _ j _ _ _ (K0.row (g := w.heap.size) (o := o7s a0 a1 a2 a3 a4 a5) (by simp))
  go_wp2_with fail
  refine (H0.out _).mono ?_
  rintro e W1 ⟨rfl, hb⟩
  have K1 := K0.far hb rfl
  clear hb K0 a_c
  go_wp2_with fail
  go_ret2
  exact ⟨rfl, K1.2.2⟩
set_option maxHeartbeats 1000000 in
theorem itile_no1 (a0 a1 a2 a3 a4 a5 : Int) (H0 : Hid (∀ w, Calls Try.prog 122 #[.agg #[.int .i64 a0, .int .i64 a1, .int .i64 a2, .int .i64 a3, .int .i64 a4, .int .i64 a5]] w fun e w' => e = .returned (.bool true) ∧ Below w.heap.size w w')) (w0 h0 : Int) (hdw : dv w0 = false) (w : World) : Calls Try.prog 37 #[.agg #[.int .i64 a0, .int .i64 a1, .int .i64 a2, .int .i64 a3, .int .i64 a4, .int .i64 a5], .int .i64 w0, .int .i64 h0] w fun e w' => e = .returned (.tuple #[.bool false, .bool false]) ∧ Below w.heap.size w w' := by
  have HD1 := Lib.hid (fun w => hdw ▸ idv_any w0 w)
  clear hdw
  go_enter Try.func37, Try.ntmps37
  go_wp2_with fail
  generalize hW : (World.alloc _ _ : World) = W0
  have K0 : KR 1 [(w.heap.size, o7s a0 a1 a2 a3 a4 a5)] w W0 := hW ▸ kr1 w _
  clear hW
  have a_c := fun j => cell_of_row W0 _ j _ _ _ (K0.row (g := w.heap.size) (o := o7s a0 a1 a2 a3 a4 a5) (by simp))
  go_wp2_with fail
  refine (H0.out _).mono ?_
  rintro e W1 ⟨rfl, hb⟩
  have K1 := K0.far hb rfl
  clear hb K0 a_c
  go_wp2_with fail
  refine (HD1.out _).mono ?_
  rintro e w1 ⟨rfl, rfl⟩
  go_wp2_with fail
  go_ret2
  exact ⟨rfl, K1.2.2⟩
set_option maxHeartbeats 1000000 in
theorem itile_no2 (a0 a1 a2 a3 a4 a5 : Int) (H0 : Hid (∀ w, Calls Try.prog 122 #[.agg #[.int .i64 a0, .int .i64 a1, .int .i64 a2, .int .i64 a3, .int .i64 a4, .int .i64 a5]] w fun e w' => e = .returned (.bool true) ∧ Below w.heap.size w w')) (w0 h0 : Int) (hdw : dv w0 = true) (hdh : dv h0 = false) (w : World) : Calls Try.prog 37 #[.agg #[.int .i64 a0, .int .i64 a1, .int .i64 a2, .int .i64 a3, .int .i64 a4, .int .i64 a5], .int .i64 w0, .int .i64 h0] w fun e w' => e = .returned (.tuple #[.bool false, .bool false]) ∧ Below w.heap.size w w' := by
  have HD1 := Lib.hid (fun w => hdw ▸ idv_any w0 w)
  have HD2 := Lib.hid (fun w => hdh ▸ idv_any h0 w)
  clear hdw hdh
  go_enter Try.func37, Try.ntmps37
  go_wp2_with fail
  generalize hW : (World.alloc _ _ : World) = W0
  have K0 : KR 1 [(w.heap.size, o7s a0 a1 a2 a3 a4 a5)] w W0 := hW ▸ kr1 w _
  clear hW
  have a_c := fun j => cell_of_row W0 _ j _ _ _ (K0.row (g := w.heap.size) (o := o7s a0 a1 a2 a3 a4 a5) (by simp))
  go_wp2_with fail
  refine (H0.out _).mono ?_
  rintro e W1 ⟨rfl, hb⟩
  have K1 := K0.far hb rfl
  clear hb K0 a_c
  go_wp2_with fail
  refine (HD1.out _).mono ?_
  rintro e w1 ⟨rfl, rfl⟩
  go_wp2_with fail
  refine (HD2.out _).mono ?_
  rintro e w1 ⟨rfl, rfl⟩
  go_wp2_with fail
  go_ret2
  exact ⟨rfl, K1.2.2⟩
theorem tile_pair (a0 a1 a2 a3 a4 a5 : Int) (w0 h0 : Int) : ∃ (r t : Bool), (∀ w, Calls Try.prog 36 #[.agg #[.int .i64 a0, .int .i64 a1, .int .i64 a2, .int .i64 a3, .int .i64 a4, .int .i64 a5], .int .i64 w0, .int .i64 h0] w fun e w' => e = .returned (.tuple #[.bool r, .bool t]) ∧ Below w.heap.size w w') ∧ (∀ w, Calls Try.prog 37 #[.agg #[.int .i64 a0, .int .i64 a1, .int .i64 a2, .int .i64 a3, .int .i64 a4, .int .i64 a5], .int .i64 w0, .int .i64 h0] w fun e w' => e = .returned (.tuple #[.bool r, .bool t]) ∧ Below w.heap.size w w') := by
  cases hv : (ok a0 && ok a1 && ok a2 && ok a3 && ok a4 && ok a5)
  · refine ⟨false, false, ?_, ?_⟩
    · exact stile_no0 a0 a1 a2 a3 a4 a5 (Lib.hid (fun w => hv ▸ l2sheet_any a0 a1 a2 a3 a4 a5 w)) w0 h0
    · exact itile_no0 a0 a1 a2 a3 a4 a5 (Lib.hid (fun w => hv ▸ sheet_any a0 a1 a2 a3 a4 a5 w)) w0 h0
  · have HS := Lib.hid (fun w => hv ▸ l2sheet_any a0 a1 a2 a3 a4 a5 w)
    have HI := Lib.hid (fun w => hv ▸ sheet_any a0 a1 a2 a3 a4 a5 w)
    cases hdw : dv w0
    · exact ⟨false, false, stile_no1 a0 a1 a2 a3 a4 a5 HS w0 h0 hdw, itile_no1 a0 a1 a2 a3 a4 a5 HI w0 h0 hdw⟩
    · cases hdh : dv h0
      · exact ⟨false, false, stile_no2 a0 a1 a2 a3 a4 a5 HS w0 h0 hdw hdh, itile_no2 a0 a1 a2 a3 a4 a5 HI w0 h0 hdw hdh⟩
      · have h1 := dv_in hdw
        have h2 := dv_in hdh
        obtain ⟨f, rfl, rfl, rfl, rfl, rfl, rfl⟩ := sheet_bits a0 a1 a2 a3 a4 a5 hv
        have hp : w0 % 6 = ((w0 % 6).toNat : Int) := by omega
        have hq : h0 % 6 = ((h0 % 6).toNat : Int) := by omega
        exact ⟨_, _, stile_yes f HS w0 h0 (by omega) (by omega) _ _ hp hq hdw hdh, itile_yes f HI w0 h0 (by omega) (by omega) _ _ hp hq hdw hdh⟩
end Go.Proofs.Ytpmhnikilianoaa
