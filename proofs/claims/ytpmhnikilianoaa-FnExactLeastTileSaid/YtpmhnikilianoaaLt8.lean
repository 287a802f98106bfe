/- CONTRACTS: LeastTile, the model's. -/
import Derived.Test.YtpmhnikilianoaaN7
import Derived.Deep.RegionHeld3
import Derived.WalkKit
import Derived.ProofKit
import Derived.OpenShut
import Derived.Lib.Hide
import Derived.WalkSpells
import Derived.Below
import Derived.BigQuiet
import Derived.LoopN
namespace Go.Proofs.Ytpmhnikilianoaa
open Go.ChangeShapes Go.WideShapes Go.ChangeAt Go.RowKit
set_option linter.unusedVariables false
/-- The least divisor that a test of remainders takes. -/
def lw (q : Nat → Bool) : Nat := if q 1 then 1 else if q 2 then 2 else if q 3 then 3 else 6
theorem lw_in (q : Nat → Bool) : 1 ≤ lw q ∧ lw q ≤ 6 := by
  unfold lw
  repeat (first | omega | split)
theorem lw_no {q : Nat → Bool} {n : Nat} (h1 : 1 ≤ n) (hn : n < lw q) : dv (n : Int) = false ∨ q (n % 6) = false := by
  have h6 := (lw_in q).2
  have h5 : n = 1 ∨ n = 2 ∨ n = 3 ∨ n = 4 ∨ n = 5 := by omega
  unfold lw at hn
  rcases h5 with rfl | rfl | rfl | rfl | rfl
  · right
    cases hq : q 1
    · first | exact hq | rfl
    · rw [if_pos hq] at hn; omega
  · right
    cases hq : q 2
    · first | exact hq | rfl
    · rw [if_pos hq] at hn
      split at hn <;> omega
  · right
    cases hq : q 3
    · first | exact hq | rfl
    · rw [if_pos hq] at hn
      split at hn
      · omega
      · split at hn <;> omega
  · exact .inl rfl
  · exact .inl rfl
theorem lw_yes {q : Nat → Bool} (h0 : q 0 = true) : dv (lw q : Int) = true ∧ q (lw q % 6) = true := by
  unfold lw
  split
  · next h => exact ⟨rfl, h⟩
  · split
    · next h => exact ⟨rfl, h⟩
    · split
      · next h => exact ⟨rfl, h⟩
      · exact ⟨rfl, h0⟩
theorem lw_fin : ∀ q0 q1 q2 q3 q4 q5 : Bool, q0 = true → (∀ i j : Fin 6, pick6 q0 q1 q2 q3 q4 q5 i.val = true → pick6 q0 q1 q2 q3 q4 q5 j.val = true → pick6 q0 q1 q2 q3 q4 q5 ((i.val + j.val) % 6) = true) → (if q1 then 1 else if q2 then 2 else if q3 then 3 else 6) * ((if q0 then 1 else 0) + (if q1 then 1 else 0) + (if q2 then 1 else 0) + (if q3 then 1 else 0) + (if q4 then 1 else 0) + (if q5 then 1 else 0)) = 6 := by decide
theorem pick_q (q : Nat → Bool) : ∀ i, i < 6 → pick6 (q 0) (q 1) (q 2) (q 3) (q 4) (q 5) i = q i := by
  intro i hi
  have h : i = 0 ∨ i = 1 ∨ i = 2 ∨ i = 3 ∨ i = 4 ∨ i = 5 := by omega
  rcases h with rfl | rfl | rfl | rfl | rfl | rfl <;> rfl
theorem count6 (q : Nat → Bool) : (List.range 6).countP q = (if q 0 then 1 else 0) + (if q 1 then 1 else 0) + (if q 2 then 1 else 0) + (if q 3 then 1 else 0) + (if q 4 then 1 else 0) + (if q 5 then 1 else 0) := by
  rw [show List.range 6 = [0, 1, 2, 3, 4, 5] from rfl]
  simp only [List.countP_cons, List.countP_nil]
  omega
theorem lw_count {q : Nat → Bool} (h0 : q 0 = true) (hc : ∀ i j, i < 6 → j < 6 → q i = true → q j = true → q ((i + j) % 6) = true) {N : Nat} (hN : N * (List.range 6).countP q = 6) : N = lw q := by
  rw [count6] at hN
  have h := lw_fin (q 0) (q 1) (q 2) (q 3) (q 4) (q 5) h0 (fun i j hi hj => by
    rw [pick_q q _ i.isLt] at hi
    rw [pick_q q _ j.isLt] at hj
    rw [pick_q q _ (Nat.mod_lt _ (by decide))]
    exact hc _ _ i.isLt j.isLt hi hj)
  have hp : 0 < (if q 0 then 1 else 0) + (if q 1 then 1 else 0) + (if q 2 then 1 else 0) + (if q 3 then 1 else 0) + (if q 4 then 1 else 0) + (if q 5 then 1 else 0) := by rw [h0]; simp; omega
  exact Nat.eq_of_mul_eq_mul_right hp (hN.trans h.symm)
theorem sg7_add (a : Fn6) {x y u v : Nat} (hx : x < 6) (hy : y < 6) (hu : u < 6) (hv : v < 6) (h1 : sg7 a a x y = true) (h2 : sg7 a a u v = true) : sg7 a a ((x + u) % 6) ((y + v) % 6) = true := by
  rw [sg7_eqs, eqs_iff] at *
  rw [← sf_sf a hx hy hu hv]
  exact (h2.sf x y).trans7 h1
theorem sg7_addx (a : Fn6) {x u : Nat} (hx : x < 6) (hu : u < 6) (h1 : sg7 a a x 0 = true) (h2 : sg7 a a u 0 = true) : sg7 a a ((x + u) % 6) 0 = true := by
  have h := sg7_add a hx (show 0 < 6 by decide) hu (show 0 < 6 by decide) h1 h2
  rwa [show (0 + 0) % 6 = 0 from rfl] at h
theorem sg7_addy (a : Fn6) {x u : Nat} (hx : x < 6) (hu : u < 6) (h1 : sg7 a a 0 x = true) (h2 : sg7 a a 0 u = true) : sg7 a a 0 ((x + u) % 6) = true := by
  have h := sg7_add a (show 0 < 6 by decide) hx (show 0 < 6 by decide) hu h1 h2
  rwa [show (0 + 0) % 6 = 0 from rfl] at h
theorem sg7_0 (a : Fn6) : sg7 a a 0 0 = true := by
  rw [sg7_eqs, eqs_iff]
  exact sf_00 a
theorem perm61b : ∀ i : Fin (6 * 1), ((List.range (6 * 1)).map (fun k => adk 1 6 k i.val)).isPerm (List.range (6 * 1)) = true := by decide +kernel
theorem perm16b : ∀ i : Fin (1 * 6), ((List.range (1 * 6)).map (fun k => adk 6 1 k i.val)).isPerm (List.range (1 * 6)) = true := by decide +kernel
/-- The least tile's two numbers. -/
theorem least_x (a : Fn6) : nd (ek a 1) 6 = lw (fun x => sg7 a a x 0) := by
  have hc : ∀ i j, i < 6 → j < 6 → sg7 a a i 0 = true → sg7 a a j 0 = true → sg7 a a ((i + j) % 6) 0 = true := fun i j hi hj h1 h2 => sg7_addx a hi hj h1 h2
  refine lw_count (q := fun x => sg7 a a x 0) (sg7_0 a) hc ?_
  have h := nd_ek a 1 6 (.inr rfl) (.inl rfl) (fun i hi => perm61b ⟨i, hi⟩)
  rw [countP_same _ (fun x => sg7 a a x 0) _ (fun k _ => by rw [ek_0, Nat.div_one, Nat.mod_one])] at h
  exact h
theorem least_y (a : Fn6) : nd (ek a 6) 6 = lw (fun y => sg7 a a 0 y) := by
  have hc : ∀ i j, i < 6 → j < 6 → sg7 a a 0 i = true → sg7 a a 0 j = true → sg7 a a 0 ((i + j) % 6) = true := fun i j hi hj h1 h2 => sg7_addy a hi hj h1 h2
  refine lw_count (q := fun y => sg7 a a 0 y) (sg7_0 a) hc ?_
  have h := nd_ek a 6 1 (.inl rfl) (.inr rfl) (fun i hi => perm16b ⟨i, hi⟩)
  rw [countP_same _ (fun y => sg7 a a 0 y) _ (fun k hk => by
    have hk := List.mem_range.mp hk
    rw [ek_0, Nat.div_eq_of_lt hk, Nat.mod_eq_of_lt hk])] at h
  exact h
theorem neq_sg7 (a b : Fn6) (x y : Nat) (w : World) : (binOp .neq 28 (.agg #[.int .i64 (rowv (sf x y a 0)), .int .i64 (rowv (sf x y a 1)), .int .i64 (rowv (sf x y a 2)), .int .i64 (rowv (sf x y a 3)), .int .i64 (rowv (sf x y a 4)), .int .i64 (rowv (sf x y a 5))]) (.agg #[.int .i64 (rowv (b 0)), .int .i64 (rowv (b 1)), .int .i64 (rowv (b 2)), .int .i64 (rowv (b 3)), .int .i64 (rowv (b 4)), .int .i64 (rowv (b 5))])).run Try.prog w = .ok (.bool (!sg7 a b x y)) w := by
  have h := eq_sg7 a b x y w
  rw [run_eql_struct] at h
  rw [run_neq_struct]
  generalize (Op.equalIn 10000 28 (.agg #[.int .i64 (rowv (sf x y a 0)), .int .i64 (rowv (sf x y a 1)), .int .i64 (rowv (sf x y a 2)), .int .i64 (rowv (sf x y a 3)), .int .i64 (rowv (sf x y a 4)), .int .i64 (rowv (sf x y a 5))]) (.agg #[.int .i64 (rowv (b 0)), .int .i64 (rowv (b 1)), .int .i64 (rowv (b 2)), .int .i64 (rowv (b 3)), .int .i64 (rowv (b 4)), .int .i64 (rowv (b 5))])).run Try.prog w = r at h ⊢
  cases r with
  | ok v w' =>
    simp only [Result.andThen_ok, Result.ok.injEq, Value.bool.injEq] at h ⊢
    exact ⟨by rw [h.1], h.2⟩
  | halt e w' => cases h
/-- Midway: the sheet, the answer's room, and in block g the two numbers so far. -/
def Lt7 (w : World) (a : Fn6) (p q g : Nat) (W : World) : Prop := KR 2 [(w.heap.size, o6 a), (w.heap.size + 1, .cells #[.int .i64 0, .int .i64 0] 37 (0, 0))] w W ∧ W.heap[g]? = some (.cells #[.int .i64 (p : Int), .int .i64 (q : Int)] 37 (0, 0)) ∧ w.heap.size + 2 ≤ g ∧ g < W.heap.size
theorem Lt7.below {w W W' : World} {a : Fn6} {p q g M : Nat} (h : Lt7 w a p q g W) (hb : Below M W W') (hM : M = W.heap.size) : Lt7 w a p q g W' := ⟨h.1.far hb hM, rowk h.2.1 hb hM, h.2.2.1, Nat.lt_of_lt_of_le h.2.2.2 hb.size⟩
theorem Lt7.put0 {w W : World} {a : Fn6} {p q g : Nat} (h : Lt7 w a p q g W) : Lt7 w a (p + 1) q g (W.setCell ⟨g, 0, none⟩ (.int .i64 ((p : Int) + 1))) := ⟨h.1.set h.2.2.1, heap_setCell_same W g 0 _ _ _ h.2.1, h.2.2.1, by simpa using h.2.2.2⟩
theorem Lt7.put1 {w W : World} {a : Fn6} {p q g : Nat} (h : Lt7 w a p q g W) : Lt7 w a p (q + 1) g (W.setCell ⟨g, 1, none⟩ (.int .i64 ((q : Int) + 1))) := ⟨h.1.set h.2.2.1, heap_setCell_same W g 1 _ _ _ h.2.1, h.2.2.1, by simpa using h.2.2.2⟩
theorem SKz {w U : World} {a : Fn6} {p q g : Nat} (h : Lt7 w a p q g U) : U.cell? ⟨w.heap.size, 0, none⟩ = some (.int .i64 (rowv (a 0))) ∧ U.cell? ⟨w.heap.size, 1, none⟩ = some (.int .i64 (rowv (a 1))) ∧ U.cell? ⟨w.heap.size, 2, none⟩ = some (.int .i64 (rowv (a 2))) ∧ U.cell? ⟨w.heap.size, 3, none⟩ = some (.int .i64 (rowv (a 3))) ∧ U.cell? ⟨w.heap.size, 4, none⟩ = some (.int .i64 (rowv (a 4))) ∧ U.cell? ⟨w.heap.size, 5, none⟩ = some (.int .i64 (rowv (a 5))) ∧ U.cell? ⟨g, 0, none⟩ = some (.int .i64 (p : Int)) ∧ U.cell? ⟨g, 1, none⟩ = some (.int .i64 (q : Int)) ∧ Lt7 w a p q g U :=
  have h0 := fun j => cell_of_row U _ j _ _ _ (h.1.row (g := w.heap.size) (o := o6 a) (List.mem_cons_self ..))
  have h2 := fun j => cell_of_row U _ j _ _ _ h.2.1
  ⟨h0 0, h0 1, h0 2, h0 3, h0 4, h0 5, h2 0, h2 1, h⟩
theorem div_n (n : Nat) {r : Bool} (h : dv (n : Int) = r) (w : World) : Calls Try.prog 126 #[.int .i64 (n : Int)] w fun e w' => e = .returned (.bool r) ∧ w' = w := h ▸ ldv_any (n : Int) w
theorem kr2l (w : World) (o o2 : Obj) : KR 2 [(w.heap.size, o), (w.heap.size + 1, o2)] w ((w.alloc o).alloc o2) := kr2 w o o2
set_option maxHeartbeats 4000000 in
theorem sleast_yes (a : Fn6) (H0 : Hid (∀ w, Calls Try.prog 119 #[.agg #[.int .i64 (rowv (a 0)), .int .i64 (rowv (a 1)), .int .i64 (rowv (a 2)), .int .i64 (rowv (a 3)), .int .i64 (rowv (a 4)), .int .i64 (rowv (a 5))]] w fun e w' => e = .returned (.bool true) ∧ Below w.heap.size w w')) (w : World) : Calls Try.prog 33 #[.agg #[.int .i64 (rowv (a 0)), .int .i64 (rowv (a 1)), .int .i64 (rowv (a 2)), .int .i64 (rowv (a 3)), .int .i64 (rowv (a 4)), .int .i64 (rowv (a 5))]] w fun e w' => e = .returned (.tuple #[.agg #[.int .i64 (lw (fun x => sg7 a a x 0) : Int), .int .i64 (lw (fun y => sg7 a a 0 y) : Int)], .bool true]) ∧ Below w.heap.size w w' := by
  obtain ⟨M, hM⟩ : ∃ M, M = lw (fun x => sg7 a a x 0) := ⟨_, rfl⟩
  obtain ⟨K, hK⟩ : ∃ K, K = lw (fun y => sg7 a a 0 y) := ⟨_, rfl⟩
  have m1 := lw_in (fun x => sg7 a a x 0)
  have k1 := lw_in (fun y => sg7 a a 0 y)
  have m2 : ∀ n, 1 ≤ n → n < M → dv (n : Int) = false ∨ sg7 a a (n % 6) 0 = false := fun n h1 h2 => lw_no (q := fun x => sg7 a a x 0) h1 (hM ▸ h2)
  have k2 : ∀ n, 1 ≤ n → n < K → dv (n : Int) = false ∨ sg7 a a 0 (n % 6) = false := fun n h1 h2 => lw_no (q := fun y => sg7 a a 0 y) h1 (hK ▸ h2)
  have m3 := lw_yes (q := fun x => sg7 a a x 0) (sg7_0 a)
  have k3 := lw_yes (q := fun y => sg7 a a 0 y) (sg7_0 a)
  rw [← hM] at m1 m3 ⊢
  rw [← hK] at k1 k3 ⊢
  have m3 : dv (M : Int) = true ∧ sg7 a a (M % 6) 0 = true := m3
  have k3 : dv (K : Int) = true ∧ sg7 a a 0 (K % 6) = true := k3
  have HM2 := Lib.hid m2
  have HK2 := Lib.hid k2
  have HM3 := Lib.hid m3
  have HK3 := Lib.hid k3
  clear m2 k2 m3 k3 hM hK
  go_enter Try.func33, Try.ntmps33
  go_wp2_with fail
  generalize hW : (World.alloc _ _ : World) = W0
  have K0 : KR 2 [(w.heap.size, o6 a), (w.heap.size + 1, .cells #[.int .i64 0, .int .i64 0] 37 (0, 0))] w W0 := hW ▸ kr2l w _ _
  clear hW
  have a_c := fun j => cell_of_row W0 _ j _ _ _ (K0.row (g := w.heap.size) (o := o6 a) (by simp))
  go_wp2_with fail
  refine (H0.out _).mono ?_
  rintro e W1 ⟨rfl, hb⟩
  have K1 := K0.far hb rfl
  clear hb K0 a_c
  go_wp2_with fail
  have S0 : Hid (Lt7 w a 1 1 W1.heap.size (W1.alloc (.cells #[.int .i64 1, .int .i64 1] 37))) := Lib.hid ⟨K1.al, alloc_at rfl, K1.2.1, by simp⟩
  clear K1 H0
  generalize (World.alloc _ _ : World) = W2 at S0 ⊢
  generalize W1.heap.size = g at S0 ⊢
  go_loopw [22] (fun _ wr => ∃ p : Nat, 1 ≤ p ∧ p ≤ M ∧ Hid (Lt7 w a p 1 g wr)) (fun _ wr => match wr.cell? ⟨g, 0, none⟩ with | some (.int _ v) => 7 - v.toNat | _ => 0)
  case atStart => exact ⟨1, by omega, m1.1, S0⟩
  case round =>
    obtain ⟨p, hp1, hpM, HS⟩ := hrel
    have hlt6 : p ≤ 6 := by omega
    have hm7 : wr.cell? ⟨g, 0, none⟩ = some (.int .i64 (p : Int)) := cell_of_row wr g 0 _ _ _ HS.out.2.1
    have hq : Lt7 w a p 1 g wr.drew := HS.out.below (M := wr.heap.size) (Below.refl _ _).drew rfl
    rcases Nat.lt_or_ge p M with hlt | hge
    · have hno := HM2.out p hp1 hlt
      have HP := Lib.hid (fun (W : World) (h : Lt7 w a p 1 g W) => h.put0)
      cases hd : dv (p : Int)
      · have HD := Lib.hid (div_n p hd)
        clear hno hd HS
        go_wp2_with fail
        refine wp_region_held_drew (S := (fun U => U.cell? ⟨w.heap.size, 0, none⟩ = some (.int .i64 (rowv (a 0))) ∧ U.cell? ⟨w.heap.size, 1, none⟩ = some (.int .i64 (rowv (a 1))) ∧ U.cell? ⟨w.heap.size, 2, none⟩ = some (.int .i64 (rowv (a 2))) ∧ U.cell? ⟨w.heap.size, 3, none⟩ = some (.int .i64 (rowv (a 3))) ∧ U.cell? ⟨w.heap.size, 4, none⟩ = some (.int .i64 (rowv (a 4))) ∧ U.cell? ⟨w.heap.size, 5, none⟩ = some (.int .i64 (rowv (a 5))) ∧ U.cell? ⟨g, 0, none⟩ = some (.int .i64 (p : Int)) ∧ U.cell? ⟨g, 1, none⟩ = some (.int .i64 ((1 : Nat) : Int)) ∧ Lt7 w a p 1 g U)) (by kernel_rfl) ?_ (fun hHeld => ?_)
        · (try dsimp only)
          exact SKz hq
        refine wpAnyH_take (i := 0) (oi := { dst := some 10, op := Go.Op.indexAddr 37 (Go.Operand.tmp 4) (Go.Operand.const (Go.Value.int Go.IntKind.i64 0)), type := 0, pos := "l7_periods.go:53", after := #[], guard := none }) (v := ?_) rfl (by kernel_rfl) (by kernel_rfl) (by kernel_rfl) (fun _ _ _ h => h) (Or.inl ⟨by rfl, ?_⟩) (by assumption) ?_
        rotate_left
        · intro w hSw; (try dsimp only at hSw); go_simp; (try with_reducible rfl)
        simp only [Act.put, List.setIfInBounds_toArray, List.set_cons_zero, List.set_cons_succ]
        refine wpAnyH_take (i := 1) (oi := { dst := some 11, op := Go.Op.load 3 (Go.Operand.tmp 10), type := 3, pos := "l7_periods.go:53", after := #[{ on := 0, ground := Go.Ground.data }], guard := none }) (v := ?_) rfl (by kernel_rfl) (by kernel_rfl) (by kernel_rfl) (fun _ _ _ h => h) (Or.inl ⟨by rfl, ?_⟩) (by assumption) ?_
        rotate_left
        · intro w hSw; (try dsimp only at hSw); go_simp; (try with_reducible rfl)
        simp only [Act.put, List.setIfInBounds_toArray, List.set_cons_zero, List.set_cons_succ]
        refine wpAnyH_ready (rs := [2]) (by kernel_rfl) (by simp) ?_
        refine AllReadyH.cons (o := { dst := some 12, op := Go.Op.call { callee := Go.Callee.value (Go.Operand.func 126), args := #[Go.Operand.tmp 11], argTypes := #[3] }, type := 4, pos := "l7_periods.go:53", after := #[{ on := 1, ground := Go.Ground.data }], guard := none }) rfl (fun K hK => ?_) AllReadyH.nil
        go_simp
        (go_at_call 126; with_reducible refine (HD.out _).mono ?_; rintro e w' ⟨rfl, hw'⟩; (obtain rfl := hw'.symm); clear hw'; go_wp2_with fail)
        refine hK.out _ _ ?_ (fun hHeld => ?_)
        · (try dsimp only)
          exact SKz hq
        clear hK K
        (try simp only [Act.put, List.setIfInBounds_toArray, List.set_cons_zero, List.set_cons_succ])
        refine wpAnyH_take (i := 3) (oi := { dst := some 13, op := Go.Op.unOp Go.UnOp.not 4 (Go.Operand.tmp 12), type := 4, pos := "l7_periods.go:53", after := #[{ on := 2, ground := Go.Ground.data }], guard := none }) (v := ?_) rfl (by kernel_rfl) (by kernel_rfl) (by kernel_rfl) (fun _ _ _ h => h) (Or.inl ⟨by rfl, ?_⟩) (by assumption) ?_
        rotate_left
        · intro w hSw; (try dsimp only at hSw); go_simp; (try with_reducible rfl)
        simp only [Act.put, List.setIfInBounds_toArray, List.set_cons_zero, List.set_cons_succ]
        refine wpAnyH_take (i := 4) (oi := { dst := some 14, op := Go.Op.move (Go.Operand.tmp 13), type := 4, pos := "l7_periods.go:53", after := #[{ on := 3, ground := Go.Ground.data }, { on := 2, ground := Go.Ground.chain }], guard := none }) (v := ?_) rfl (by kernel_rfl) (by kernel_rfl) (by kernel_rfl) (fun _ _ _ h => h) (Or.inl ⟨by rfl, ?_⟩) (by assumption) ?_
        rotate_left
        · intro w hSw; (try dsimp only at hSw); go_simp; (try with_reducible rfl)
        simp only [Act.put, List.setIfInBounds_toArray, List.set_cons_zero, List.set_cons_succ]
        refine wpAnyH_take (i := 5) (oi := { dst := some 15, op := Go.Op.load 28 (Go.Operand.tmp 1), type := 28, pos := "l7_periods.go:53", after := #[{ on := 4, ground := Go.Ground.guard }], guard := some (4, false) }) (v := undef) rfl (by kernel_rfl) (by kernel_rfl) (by kernel_rfl) (fun _ _ _ h => h) (Or.inr ⟨by rfl, rfl⟩) (by assumption) ?_
        simp only [Act.put, List.setIfInBounds_toArray, List.set_cons_zero, List.set_cons_succ]
        refine wpAnyH_take (i := 6) (oi := { dst := some 16, op := Go.Op.indexAddr 37 (Go.Operand.tmp 4) (Go.Operand.const (Go.Value.int Go.IntKind.i64 0)), type := 0, pos := "l7_periods.go:53", after := #[{ on := 4, ground := Go.Ground.guard }], guard := some (4, false) }) (v := undef) rfl (by kernel_rfl) (by kernel_rfl) (by kernel_rfl) (fun _ _ _ h => h) (Or.inr ⟨by rfl, rfl⟩) (by assumption) ?_
        simp only [Act.put, List.setIfInBounds_toArray, List.set_cons_zero, List.set_cons_succ]
        refine wpAnyH_take (i := 7) (oi := { dst := some 17, op := Go.Op.load 3 (Go.Operand.tmp 16), type := 3, pos := "l7_periods.go:53", after := #[{ on := 6, ground := Go.Ground.data }, { on := 4, ground := Go.Ground.guard }], guard := some (4, false) }) (v := undef) rfl (by kernel_rfl) (by kernel_rfl) (by kernel_rfl) (fun _ _ _ h => h) (Or.inr ⟨by rfl, rfl⟩) (by assumption) ?_
        simp only [Act.put, List.setIfInBounds_toArray, List.set_cons_zero, List.set_cons_succ]
        refine wpAnyH_take (i := 8) (oi := { dst := some 18, op := Go.Op.call { callee := Go.Callee.value (Go.Operand.func 127), args := #[Go.Operand.tmp 15, Go.Operand.tmp 17, Go.Operand.const (Go.Value.int Go.IntKind.i64 0)], argTypes := #[28, 3, 3] }, type := 28, pos := "l7_periods.go:53", after := #[{ on := 5, ground := Go.Ground.data }, { on := 7, ground := Go.Ground.data }, { on := 4, ground := Go.Ground.chain }, { on := 4, ground := Go.Ground.guard }], guard := some (4, false) }) (v := undef) rfl (by kernel_rfl) (by kernel_rfl) (by kernel_rfl) (fun _ _ _ h => h) (Or.inr ⟨by rfl, rfl⟩) (by assumption) ?_
        simp only [Act.put, List.setIfInBounds_toArray, List.set_cons_zero, List.set_cons_succ]
        refine wpAnyH_take (i := 9) (oi := { dst := some 19, op := Go.Op.load 28 (Go.Operand.tmp 1), type := 28, pos := "l7_periods.go:53", after := #[{ on := 4, ground := Go.Ground.guard }], guard := some (4, false) }) (v := undef) rfl (by kernel_rfl) (by kernel_rfl) (by kernel_rfl) (fun _ _ _ h => h) (Or.inr ⟨by rfl, rfl⟩) (by assumption) ?_
        simp only [Act.put, List.setIfInBounds_toArray, List.set_cons_zero, List.set_cons_succ]
        refine wpAnyH_take (i := 10) (oi := { dst := some 20, op := Go.Op.binOp Go.BinOp.neq 28 (Go.Operand.tmp 18) (Go.Operand.tmp 19) 28, type := 4, pos := "l7_periods.go:53", after := #[{ on := 8, ground := Go.Ground.data }, { on := 9, ground := Go.Ground.data }, { on := 4, ground := Go.Ground.guard }], guard := some (4, false) }) (v := undef) rfl (by kernel_rfl) (by kernel_rfl) (by kernel_rfl) (fun _ _ _ h => h) (Or.inr ⟨by rfl, rfl⟩) (by assumption) ?_
        simp only [Act.put, List.setIfInBounds_toArray, List.set_cons_zero, List.set_cons_succ]
        refine wpAnyH_take (i := 11) (oi := { dst := some 21, op := Go.Op.pick (Go.Operand.tmp 14) (Go.Operand.const (Go.Value.bool true)) (Go.Operand.tmp 20), type := 4, pos := "l7_periods.go:53", after := #[{ on := 4, ground := Go.Ground.data }, { on := 10, ground := Go.Ground.data }], guard := none }) (v := ?_) rfl (by kernel_rfl) (by kernel_rfl) (by kernel_rfl) (fun _ _ _ h => h) (Or.inl ⟨by rfl, ?_⟩) (by assumption) ?_
        rotate_left
        · intro w hSw; (try dsimp only at hSw); go_simp; (try with_reducible rfl)
        simp only [Act.put, List.setIfInBounds_toArray, List.set_cons_zero, List.set_cons_succ]
        refine wpAnyH_done (by kernel_rfl) ?_ _
        have HQ := Lib.hid (HP.out _ hq)
        have hg1 := hq.2.1
        have g_c := fun j => cell_of_row _ g j _ _ _ hg1
        have g_f := fun j => frozen_of_row _ g j _ _ hg1
        clear hq HP HD hg1
        go_wp2_with fail
        clear g_c g_f
        go_roundw
        case rel => exact ⟨p + 1, by omega, by omega, HQ⟩
        case measure =>
          have h8 : (wr.setCell ⟨g, 0, none⟩ (.int .i64 ((p : Int) + 1))).drew.cell? ⟨g, 0, none⟩ = some (.int .i64 ((p : Int) + 1)) := cell_of_row _ g 0 _ _ _ HQ.out.2.1
          rw [h8, hm7]
          simp
          omega
      · have hs : sg7 a a (p % 6) 0 = false := by
          rcases hno with h | h
          · rw [hd] at h; cases h
          · exact h
        have HD := Lib.hid (div_n p hd)
        have HF := Lib.hid (l2shift_m a (p : Int) 0 (by omega) (by omega) (p % 6) 0 (by omega) (by omega))
        have he := neq_sg7 a a (p % 6) 0
        rw [hs] at he
        clear hno hd HS hs
        go_wp2_with fail
        refine wp_region_held_drew (S := (fun U => U.cell? ⟨w.heap.size, 0, none⟩ = some (.int .i64 (rowv (a 0))) ∧ U.cell? ⟨w.heap.size, 1, none⟩ = some (.int .i64 (rowv (a 1))) ∧ U.cell? ⟨w.heap.size, 2, none⟩ = some (.int .i64 (rowv (a 2))) ∧ U.cell? ⟨w.heap.size, 3, none⟩ = some (.int .i64 (rowv (a 3))) ∧ U.cell? ⟨w.heap.size, 4, none⟩ = some (.int .i64 (rowv (a 4))) ∧ U.cell? ⟨w.heap.size, 5, none⟩ = some (.int .i64 (rowv (a 5))) ∧ U.cell? ⟨g, 0, none⟩ = some (.int .i64 (p : Int)) ∧ U.cell? ⟨g, 1, none⟩ = some (.int .i64 ((1 : Nat) : Int)) ∧ Lt7 w a p 1 g U)) (by kernel_rfl) ?_ (fun hHeld => ?_)
        · (try dsimp only)
          exact SKz hq
        refine wpAnyH_take (i := 0) (oi := { dst := some 10, op := Go.Op.indexAddr 37 (Go.Operand.tmp 4) (Go.Operand.const (Go.Value.int Go.IntKind.i64 0)), type := 0, pos := "l7_periods.go:53", after := #[], guard := none }) (v := ?_) rfl (by kernel_rfl) (by kernel_rfl) (by kernel_rfl) (fun _ _ _ h => h) (Or.inl ⟨by rfl, ?_⟩) (by assumption) ?_
        rotate_left
        · intro w hSw; (try dsimp only at hSw); go_simp; (try with_reducible rfl)
        simp only [Act.put, List.setIfInBounds_toArray, List.set_cons_zero, List.set_cons_succ]
        refine wpAnyH_take (i := 1) (oi := { dst := some 11, op := Go.Op.load 3 (Go.Operand.tmp 10), type := 3, pos := "l7_periods.go:53", after := #[{ on := 0, ground := Go.Ground.data }], guard := none }) (v := ?_) rfl (by kernel_rfl) (by kernel_rfl) (by kernel_rfl) (fun _ _ _ h => h) (Or.inl ⟨by rfl, ?_⟩) (by assumption) ?_
        rotate_left
        · intro w hSw; (try dsimp only at hSw); go_simp; (try with_reducible rfl)
        simp only [Act.put, List.setIfInBounds_toArray, List.set_cons_zero, List.set_cons_succ]
        refine wpAnyH_ready (rs := [2]) (by kernel_rfl) (by simp) ?_
        refine AllReadyH.cons (o := { dst := some 12, op := Go.Op.call { callee := Go.Callee.value (Go.Operand.func 126), args := #[Go.Operand.tmp 11], argTypes := #[3] }, type := 4, pos := "l7_periods.go:53", after := #[{ on := 1, ground := Go.Ground.data }], guard := none }) rfl (fun K hK => ?_) AllReadyH.nil
        go_simp
        (go_at_call 126; with_reducible refine (HD.out _).mono ?_; rintro e w' ⟨rfl, hw'⟩; (obtain rfl := hw'.symm); clear hw'; go_wp2_with fail)
        refine hK.out _ _ ?_ (fun hHeld => ?_)
        · (try dsimp only)
          exact SKz hq
        clear hK K
        (try simp only [Act.put, List.setIfInBounds_toArray, List.set_cons_zero, List.set_cons_succ])
        refine wpAnyH_take (i := 3) (oi := { dst := some 13, op := Go.Op.unOp Go.UnOp.not 4 (Go.Operand.tmp 12), type := 4, pos := "l7_periods.go:53", after := #[{ on := 2, ground := Go.Ground.data }], guard := none }) (v := ?_) rfl (by kernel_rfl) (by kernel_rfl) (by kernel_rfl) (fun _ _ _ h => h) (Or.inl ⟨by rfl, ?_⟩) (by assumption) ?_
        rotate_left
        · intro w hSw; (try dsimp only at hSw); go_simp; (try with_reducible rfl)
        simp only [Act.put, List.setIfInBounds_toArray, List.set_cons_zero, List.set_cons_succ]
        refine wpAnyH_take (i := 4) (oi := { dst := some 14, op := Go.Op.move (Go.Operand.tmp 13), type := 4, pos := "l7_periods.go:53", after := #[{ on := 3, ground := Go.Ground.data }, { on := 2, ground := Go.Ground.chain }], guard := none }) (v := ?_) rfl (by kernel_rfl) (by kernel_rfl) (by kernel_rfl) (fun _ _ _ h => h) (Or.inl ⟨by rfl, ?_⟩) (by assumption) ?_
        rotate_left
        · intro w hSw; (try dsimp only at hSw); go_simp; (try with_reducible rfl)
        simp only [Act.put, List.setIfInBounds_toArray, List.set_cons_zero, List.set_cons_succ]
        refine wpAnyH_take (i := 5) (oi := { dst := some 15, op := Go.Op.load 28 (Go.Operand.tmp 1), type := 28, pos := "l7_periods.go:53", after := #[{ on := 4, ground := Go.Ground.guard }], guard := some (4, false) }) (v := ?_) rfl (by kernel_rfl) (by kernel_rfl) (by kernel_rfl) (fun _ _ _ h => h) (Or.inl ⟨by rfl, ?_⟩) (by assumption) ?_
        rotate_left
        · intro w hSw; (try dsimp only at hSw); go_simp; (try with_reducible rfl)
        simp only [Act.put, List.setIfInBounds_toArray, List.set_cons_zero, List.set_cons_succ]
        refine wpAnyH_take (i := 6) (oi := { dst := some 16, op := Go.Op.indexAddr 37 (Go.Operand.tmp 4) (Go.Operand.const (Go.Value.int Go.IntKind.i64 0)), type := 0, pos := "l7_periods.go:53", after := #[{ on := 4, ground := Go.Ground.guard }], guard := some (4, false) }) (v := ?_) rfl (by kernel_rfl) (by kernel_rfl) (by kernel_rfl) (fun _ _ _ h => h) (Or.inl ⟨by rfl, ?_⟩) (by assumption) ?_
        rotate_left
        · intro w hSw; (try dsimp only at hSw); go_simp; (try with_reducible rfl)
        simp only [Act.put, List.setIfInBounds_toArray, List.set_cons_zero, List.set_cons_succ]
        refine wpAnyH_take (i := 7) (oi := { dst := some 17, op := Go.Op.load 3 (Go.Operand.tmp 16), type := 3, pos := "l7_periods.go:53", after := #[{ on := 6, ground := Go.Ground.data }, { on := 4, ground := Go.Ground.guard }], guard := some (4, false) }) (v := ?_) rfl (by kernel_rfl) (by kernel_rfl) (by kernel_rfl) (fun _ _ _ h => h) (Or.inl ⟨by rfl, ?_⟩) (by assumption) ?_
        rotate_left
        · intro w hSw; (try dsimp only at hSw); go_simp; (try with_reducible rfl)
        simp only [Act.put, List.setIfInBounds_toArray, List.set_cons_zero, List.set_cons_succ]
        refine wpAnyH_take (i := 9) (oi := { dst := some 19, op := Go.Op.load 28 (Go.Operand.tmp 1), type := 28, pos := "l7_periods.go:53", after := #[{ on := 4, ground := Go.Ground.guard }], guard := some (4, false) }) (v := ?_) rfl (by kernel_rfl) (by kernel_rfl) (by kernel_rfl) (fun _ _ _ h => h) (Or.inl ⟨by rfl, ?_⟩) (by assumption) ?_
        rotate_left
        · intro w hSw; (try dsimp only at hSw); go_simp; (try with_reducible rfl)
        simp only [Act.put, List.setIfInBounds_toArray, List.set_cons_zero, List.set_cons_succ]
        refine wpAnyH_ready (rs := [8]) (by kernel_rfl) (by simp) ?_
        refine AllReadyH.cons (o := { dst := some 18, op := Go.Op.call { callee := Go.Callee.value (Go.Operand.func 127), args := #[Go.Operand.tmp 15, Go.Operand.tmp 17, Go.Operand.const (Go.Value.int Go.IntKind.i64 0)], argTypes := #[28, 3, 3] }, type := 28, pos := "l7_periods.go:53", after := #[{ on := 5, ground := Go.Ground.data }, { on := 7, ground := Go.Ground.data }, { on := 4, ground := Go.Ground.chain }, { on := 4, ground := Go.Ground.guard }], guard := some (4, false) }) rfl (fun K hK => ?_) AllReadyH.nil
        go_simp
        (go_at_call 127; with_reducible refine (HF.out _).mono ?_; rintro e w' ⟨rfl, hb'⟩; have hq := hq.below hb' rfl; go_wp2_with fail)
        refine hK.out _ _ ?_ (fun hHeld => ?_)
        · (try dsimp only)
          exact SKz hq
        clear hK K
        (try simp only [Act.put, List.setIfInBounds_toArray, List.set_cons_zero, List.set_cons_succ])
        refine wpAnyH_take (i := 10) (oi := { dst := some 20, op := Go.Op.binOp Go.BinOp.neq 28 (Go.Operand.tmp 18) (Go.Operand.tmp 19) 28, type := 4, pos := "l7_periods.go:53", after := #[{ on := 8, ground := Go.Ground.data }, { on := 9, ground := Go.Ground.data }, { on := 4, ground := Go.Ground.guard }], guard := some (4, false) }) (v := ?_) rfl (by kernel_rfl) (by kernel_rfl) (by kernel_rfl) (fun _ _ _ h => h) (Or.inl ⟨by rfl, ?_⟩) (by assumption) ?_
        rotate_left
        · intro w hSw; (try dsimp only at hSw); go_simp; (try simp only [he]); (try with_reducible rfl)
        simp only [Act.put, List.setIfInBounds_toArray, List.set_cons_zero, List.set_cons_succ]
        refine wpAnyH_take (i := 11) (oi := { dst := some 21, op := Go.Op.pick (Go.Operand.tmp 14) (Go.Operand.const (Go.Value.bool true)) (Go.Operand.tmp 20), type := 4, pos := "l7_periods.go:53", after := #[{ on := 4, ground := Go.Ground.data }, { on := 10, ground := Go.Ground.data }], guard := none }) (v := ?_) rfl (by kernel_rfl) (by kernel_rfl) (by kernel_rfl) (fun _ _ _ h => h) (Or.inl ⟨by rfl, ?_⟩) (by assumption) ?_
        rotate_left
        · intro w hSw; (try dsimp only at hSw); go_simp; (try with_reducible rfl)
        simp only [Act.put, List.setIfInBounds_toArray, List.set_cons_zero, List.set_cons_succ]
        refine wpAnyH_done (by kernel_rfl) ?_ _
        have HQ := Lib.hid (HP.out _ hq)
        have hg1 := hq.2.1
        have g_c := fun j => cell_of_row _ g j _ _ _ hg1
        have g_f := fun j => frozen_of_row _ g j _ _ hg1
        clear hq HP HD hg1
        go_wp2_with fail
        clear g_c g_f
        go_roundw
        case rel => exact ⟨p + 1, by omega, by omega, HQ⟩
        case measure =>
          have h8 : (w'.setCell ⟨g, 0, none⟩ (.int .i64 ((p : Int) + 1))).cell? ⟨g, 0, none⟩ = some (.int .i64 ((p : Int) + 1)) := cell_of_row _ g 0 _ _ _ HQ.out.2.1
          rw [h8, hm7]
          simp
          omega
    · obtain rfl : p = M := by omega
      have HD := Lib.hid (div_n p HM3.out.1)
      have HF := Lib.hid (l2shift_m a (p : Int) 0 (by omega) (by omega) (p % 6) 0 (by omega) (by omega))
      have he := neq_sg7 a a (p % 6) 0
      rw [HM3.out.2] at he
      clear HS HM2 HM3 hm7 hge
      go_wp2_with fail
      refine wp_region_held_drew (S := (fun U => U.cell? ⟨w.heap.size, 0, none⟩ = some (.int .i64 (rowv (a 0))) ∧ U.cell? ⟨w.heap.size, 1, none⟩ = some (.int .i64 (rowv (a 1))) ∧ U.cell? ⟨w.heap.size, 2, none⟩ = some (.int .i64 (rowv (a 2))) ∧ U.cell? ⟨w.heap.size, 3, none⟩ = some (.int .i64 (rowv (a 3))) ∧ U.cell? ⟨w.heap.size, 4, none⟩ = some (.int .i64 (rowv (a 4))) ∧ U.cell? ⟨w.heap.size, 5, none⟩ = some (.int .i64 (rowv (a 5))) ∧ U.cell? ⟨g, 0, none⟩ = some (.int .i64 (p : Int)) ∧ U.cell? ⟨g, 1, none⟩ = some (.int .i64 ((1 : Nat) : Int)) ∧ Lt7 w a p 1 g U)) (by kernel_rfl) ?_ (fun hHeld => ?_)
      · (try dsimp only)
        exact SKz hq
      refine wpAnyH_take (i := 0) (oi := { dst := some 10, op := Go.Op.indexAddr 37 (Go.Operand.tmp 4) (Go.Operand.const (Go.Value.int Go.IntKind.i64 0)), type := 0, pos := "l7_periods.go:53", after := #[], guard := none }) (v := ?_) rfl (by kernel_rfl) (by kernel_rfl) (by kernel_rfl) (fun _ _ _ h => h) (Or.inl ⟨by rfl, ?_⟩) (by assumption) ?_
      rotate_left
      · intro w hSw; (try dsimp only at hSw); go_simp; (try with_reducible rfl)
      simp only [Act.put, List.setIfInBounds_toArray, List.set_cons_zero, List.set_cons_succ]
      refine wpAnyH_take (i := 1) (oi := { dst := some 11, op := Go.Op.load 3 (Go.Operand.tmp 10), type := 3, pos := "l7_periods.go:53", after := #[{ on := 0, ground := Go.Ground.data }], guard := none }) (v := ?_) rfl (by kernel_rfl) (by kernel_rfl) (by kernel_rfl) (fun _ _ _ h => h) (Or.inl ⟨by rfl, ?_⟩) (by assumption) ?_
      rotate_left
      · intro w hSw; (try dsimp only at hSw); go_simp; (try with_reducible rfl)
      simp only [Act.put, List.setIfInBounds_toArray, List.set_cons_zero, List.set_cons_succ]
      refine wpAnyH_ready (rs := [2]) (by kernel_rfl) (by simp) ?_
      refine AllReadyH.cons (o := { dst := some 12, op := Go.Op.call { callee := Go.Callee.value (Go.Operand.func 126), args := #[Go.Operand.tmp 11], argTypes := #[3] }, type := 4, pos := "l7_periods.go:53", after := #[{ on := 1, ground := Go.Ground.data }], guard := none }) rfl (fun K hK => ?_) AllReadyH.nil
      go_simp
      (go_at_call 126; with_reducible refine (HD.out _).mono ?_; rintro e w' ⟨rfl, hw'⟩; (obtain rfl := hw'.symm); clear hw'; go_wp2_with fail)
      refine hK.out _ _ ?_ (fun hHeld => ?_)
      · (try dsimp only)
        exact SKz hq
      clear hK K
      (try simp only [Act.put, List.setIfInBounds_toArray, List.set_cons_zero, List.set_cons_succ])
      refine wpAnyH_take (i := 3) (oi := { dst := some 13, op := Go.Op.unOp Go.UnOp.not 4 (Go.Operand.tmp 12), type := 4, pos := "l7_periods.go:53", after := #[{ on := 2, ground := Go.Ground.data }], guard := none }) (v := ?_) rfl (by kernel_rfl) (by kernel_rfl) (by kernel_rfl) (fun _ _ _ h => h) (Or.inl ⟨by rfl, ?_⟩) (by assumption) ?_
      rotate_left
      · intro w hSw; (try dsimp only at hSw); go_simp; (try with_reducible rfl)
      simp only [Act.put, List.setIfInBounds_toArray, List.set_cons_zero, List.set_cons_succ]
      refine wpAnyH_take (i := 4) (oi := { dst := some 14, op := Go.Op.move (Go.Operand.tmp 13), type := 4, pos := "l7_periods.go:53", after := #[{ on := 3, ground := Go.Ground.data }, { on := 2, ground := Go.Ground.chain }], guard := none }) (v := ?_) rfl (by kernel_rfl) (by kernel_rfl) (by kernel_rfl) (fun _ _ _ h => h) (Or.inl ⟨by rfl, ?_⟩) (by assumption) ?_
      rotate_left
      · intro w hSw; (try dsimp only at hSw); go_simp; (try with_reducible rfl)
      simp only [Act.put, List.setIfInBounds_toArray, List.set_cons_zero, List.set_cons_succ]
      refine wpAnyH_take (i := 5) (oi := { dst := some 15, op := Go.Op.load 28 (Go.Operand.tmp 1), type := 28, pos := "l7_periods.go:53", after := #[{ on := 4, ground := Go.Ground.guard }], guard := some (4, false) }) (v := ?_) rfl (by kernel_rfl) (by kernel_rfl) (by kernel_rfl) (fun _ _ _ h => h) (Or.inl ⟨by rfl, ?_⟩) (by assumption) ?_
      rotate_left
      · intro w hSw; (try dsimp only at hSw); go_simp; (try with_reducible rfl)
      simp only [Act.put, List.setIfInBounds_toArray, List.set_cons_zero, List.set_cons_succ]
      refine wpAnyH_take (i := 6) (oi := { dst := some 16, op := Go.Op.indexAddr 37 (Go.Operand.tmp 4) (Go.Operand.const (Go.Value.int Go.IntKind.i64 0)), type := 0, pos := "l7_periods.go:53", after := #[{ on := 4, ground := Go.Ground.guard }], guard := some (4, false) }) (v := ?_) rfl (by kernel_rfl) (by kernel_rfl) (by kernel_rfl) (fun _ _ _ h => h) (Or.inl ⟨by rfl, ?_⟩) (by assumption) ?_
      rotate_left
      · intro w hSw; (try dsimp only at hSw); go_simp; (try with_reducible rfl)
      simp only [Act.put, List.setIfInBounds_toArray, List.set_cons_zero, List.set_cons_succ]
      refine wpAnyH_take (i := 7) (oi := { dst := some 17, op := Go.Op.load 3 (Go.Operand.tmp 16), type := 3, pos := "l7_periods.go:53", after := #[{ on := 6, ground := Go.Ground.data }, { on := 4, ground := Go.Ground.guard }], guard := some (4, false) }) (v := ?_) rfl (by kernel_rfl) (by kernel_rfl) (by kernel_rfl) (fun _ _ _ h => h) (Or.inl ⟨by rfl, ?_⟩) (by assumption) ?_
      rotate_left
      · intro w hSw; (try dsimp only at hSw); go_simp; (try with_reducible rfl)
      simp only [Act.put, List.setIfInBounds_toArray, List.set_cons_zero, List.set_cons_succ]
      refine wpAnyH_take (i := 9) (oi := { dst := some 19, op := Go.Op.load 28 (Go.Operand.tmp 1), type := 28, pos := "l7_periods.go:53", after := #[{ on := 4, ground := Go.Ground.guard }], guard := some (4, false) }) (v := ?_) rfl (by kernel_rfl) (by kernel_rfl) (by kernel_rfl) (fun _ _ _ h => h) (Or.inl ⟨by rfl, ?_⟩) (by assumption) ?_
      rotate_left
      · intro w hSw; (try dsimp only at hSw); go_simp; (try with_reducible rfl)
      simp only [Act.put, List.setIfInBounds_toArray, List.set_cons_zero, List.set_cons_succ]
      refine wpAnyH_ready (rs := [8]) (by kernel_rfl) (by simp) ?_
      refine AllReadyH.cons (o := { dst := some 18, op := Go.Op.call { callee := Go.Callee.value (Go.Operand.func 127), args := #[Go.Operand.tmp 15, Go.Operand.tmp 17, Go.Operand.const (Go.Value.int Go.IntKind.i64 0)], argTypes := #[28, 3, 3] }, type := 28, pos := "l7_periods.go:53", after := #[{ on := 5, ground := Go.Ground.data }, { on := 7, ground := Go.Ground.data }, { on := 4, ground := Go.Ground.chain }, { on := 4, ground := Go.Ground.guard }], guard := some (4, false) }) rfl (fun K hK => ?_) AllReadyH.nil
      go_simp
      (go_at_call 127; with_reducible refine (HF.out _).mono ?_; rintro e w' ⟨rfl, hb'⟩; have hq := hq.below hb' rfl; go_wp2_with fail)
      refine hK.out _ _ ?_ (fun hHeld => ?_)
      · (try dsimp only)
        exact SKz hq
      clear hK K
      (try simp only [Act.put, List.setIfInBounds_toArray, List.set_cons_zero, List.set_cons_succ])
      refine wpAnyH_take (i := 10) (oi := { dst := some 20, op := Go.Op.binOp Go.BinOp.neq 28 (Go.Operand.tmp 18) (Go.Operand.tmp 19) 28, type := 4, pos := "l7_periods.go:53", after := #[{ on := 8, ground := Go.Ground.data }, { on := 9, ground := Go.Ground.data }, { on := 4, ground := Go.Ground.guard }], guard := some (4, false) }) (v := ?_) rfl (by kernel_rfl) (by kernel_rfl) (by kernel_rfl) (fun _ _ _ h => h) (Or.inl ⟨by rfl, ?_⟩) (by assumption) ?_
      rotate_left
      · intro w hSw; (try dsimp only at hSw); go_simp; (try simp only [he]); (try with_reducible rfl)
      simp only [Act.put, List.setIfInBounds_toArray, List.set_cons_zero, List.set_cons_succ]
      refine wpAnyH_take (i := 11) (oi := { dst := some 21, op := Go.Op.pick (Go.Operand.tmp 14) (Go.Operand.const (Go.Value.bool true)) (Go.Operand.tmp 20), type := 4, pos := "l7_periods.go:53", after := #[{ on := 4, ground := Go.Ground.data }, { on := 10, ground := Go.Ground.data }], guard := none }) (v := ?_) rfl (by kernel_rfl) (by kernel_rfl) (by kernel_rfl) (fun _ _ _ h => h) (Or.inl ⟨by rfl, ?_⟩) (by assumption) ?_
      rotate_left
      · intro w hSw; (try dsimp only at hSw); go_simp; (try with_reducible rfl)
      simp only [Act.put, List.setIfInBounds_toArray, List.set_cons_zero, List.set_cons_succ]
      refine wpAnyH_done (by kernel_rfl) ?_ _
      have HQ := Lib.hid hq
      clear hq HD HF he
      go_wp2_with fail
      go_loopw [38] (fun _ wr => ∃ q : Nat, 1 ≤ q ∧ q ≤ K ∧ Hid (Lt7 w a p q g wr)) (fun _ wr => match wr.cell? ⟨g, 1, none⟩ with | some (.int _ v) => 7 - v.toNat | _ => 0)
      case atStart => exact ⟨1, by omega, k1.1, HQ⟩
      case round =>
        obtain ⟨q, hp1, hpM, HS⟩ := hrel
        have hlt6 : q ≤ 6 := by omega
        have hm7 : wr.cell? ⟨g, 1, none⟩ = some (.int .i64 (q : Int)) := cell_of_row wr g 1 _ _ _ HS.out.2.1
        have hq : Lt7 w a p q g wr.drew := HS.out.below (M := wr.heap.size) (Below.refl _ _).drew rfl
        rcases Nat.lt_or_ge q K with hlt | hge
        · have hno := HK2.out q hp1 hlt
          have HP := Lib.hid (fun (W : World) (h : Lt7 w a p q g W) => h.put1)
          cases hd : dv (q : Int)
          · have HD := Lib.hid (div_n q hd)
            clear hno hd HS
            go_wp2_with fail
            refine wp_region_held_drew (S := (fun U => U.cell? ⟨w.heap.size, 0, none⟩ = some (.int .i64 (rowv (a 0))) ∧ U.cell? ⟨w.heap.size, 1, none⟩ = some (.int .i64 (rowv (a 1))) ∧ U.cell? ⟨w.heap.size, 2, none⟩ = some (.int .i64 (rowv (a 2))) ∧ U.cell? ⟨w.heap.size, 3, none⟩ = some (.int .i64 (rowv (a 3))) ∧ U.cell? ⟨w.heap.size, 4, none⟩ = some (.int .i64 (rowv (a 4))) ∧ U.cell? ⟨w.heap.size, 5, none⟩ = some (.int .i64 (rowv (a 5))) ∧ U.cell? ⟨g, 0, none⟩ = some (.int .i64 (p : Int)) ∧ U.cell? ⟨g, 1, none⟩ = some (.int .i64 (q : Int)) ∧ Lt7 w a p q g U)) (by kernel_rfl) ?_ (fun hHeld => ?_)
            · (try dsimp only)
              exact SKz hq
            refine wpAnyH_take (i := 0) (oi := { dst := some 26, op := Go.Op.indexAddr 37 (Go.Operand.tmp 4) (Go.Operand.const (Go.Value.int Go.IntKind.i64 1)), type := 0, pos := "l7_periods.go:56", after := #[], guard := none }) (v := ?_) rfl (by kernel_rfl) (by kernel_rfl) (by kernel_rfl) (fun _ _ _ h => h) (Or.inl ⟨by rfl, ?_⟩) (by assumption) ?_
            rotate_left
            · intro w hSw; (try dsimp only at hSw); go_simp; (try with_reducible rfl)
            simp only [Act.put, List.setIfInBounds_toArray, List.set_cons_zero, List.set_cons_succ]
            refine wpAnyH_take (i := 1) (oi := { dst := some 27, op := Go.Op.load 3 (Go.Operand.tmp 26), type := 3, pos := "l7_periods.go:56", after := #[{ on := 0, ground := Go.Ground.data }], guard := none }) (v := ?_) rfl (by kernel_rfl) (by kernel_rfl) (by kernel_rfl) (fun _ _ _ h => h) (Or.inl ⟨by rfl, ?_⟩) (by assumption) ?_
            rotate_left
            · intro w hSw; (try dsimp only at hSw); go_simp; (try with_reducible rfl)
            simp only [Act.put, List.setIfInBounds_toArray, List.set_cons_zero, List.set_cons_succ]
            refine wpAnyH_ready (rs := [2]) (by kernel_rfl) (by simp) ?_
            refine AllReadyH.cons (o := { dst := some 28, op := Go.Op.call { callee := Go.Callee.value (Go.Operand.func 126), args := #[Go.Operand.tmp 27], argTypes := #[3] }, type := 4, pos := "l7_periods.go:56", after := #[{ on := 1, ground := Go.Ground.data }], guard := none }) rfl (fun K hK => ?_) AllReadyH.nil
            go_simp
            (go_at_call 126; with_reducible refine (HD.out _).mono ?_; rintro e w' ⟨rfl, hw'⟩; (obtain rfl := hw'.symm); clear hw'; go_wp2_with fail)
            refine hK.out _ _ ?_ (fun hHeld => ?_)
            · (try dsimp only)
              exact SKz hq
            clear hK K
            (try simp only [Act.put, List.setIfInBounds_toArray, List.set_cons_zero, List.set_cons_succ])
            refine wpAnyH_take (i := 3) (oi := { dst := some 29, op := Go.Op.unOp Go.UnOp.not 4 (Go.Operand.tmp 28), type := 4, pos := "l7_periods.go:56", after := #[{ on := 2, ground := Go.Ground.data }], guard := none }) (v := ?_) rfl (by kernel_rfl) (by kernel_rfl) (by kernel_rfl) (fun _ _ _ h => h) (Or.inl ⟨by rfl, ?_⟩) (by assumption) ?_
            rotate_left
            · intro w hSw; (try dsimp only at hSw); go_simp; (try with_reducible rfl)
            simp only [Act.put, List.setIfInBounds_toArray, List.set_cons_zero, List.set_cons_succ]
            refine wpAnyH_take (i := 4) (oi := { dst := some 30, op := Go.Op.move (Go.Operand.tmp 29), type := 4, pos := "l7_periods.go:56", after := #[{ on := 3, ground := Go.Ground.data }, { on := 2, ground := Go.Ground.chain }], guard := none }) (v := ?_) rfl (by kernel_rfl) (by kernel_rfl) (by kernel_rfl) (fun _ _ _ h => h) (Or.inl ⟨by rfl, ?_⟩) (by assumption) ?_
            rotate_left
            · intro w hSw; (try dsimp only at hSw); go_simp; (try with_reducible rfl)
            simp only [Act.put, List.setIfInBounds_toArray, List.set_cons_zero, List.set_cons_succ]
            refine wpAnyH_take (i := 5) (oi := { dst := some 31, op := Go.Op.load 28 (Go.Operand.tmp 1), type := 28, pos := "l7_periods.go:56", after := #[{ on := 4, ground := Go.Ground.guard }], guard := some (4, false) }) (v := undef) rfl (by kernel_rfl) (by kernel_rfl) (by kernel_rfl) (fun _ _ _ h => h) (Or.inr ⟨by rfl, rfl⟩) (by assumption) ?_
            simp only [Act.put, List.setIfInBounds_toArray, List.set_cons_zero, List.set_cons_succ]
            refine wpAnyH_take (i := 6) (oi := { dst := some 32, op := Go.Op.indexAddr 37 (Go.Operand.tmp 4) (Go.Operand.const (Go.Value.int Go.IntKind.i64 1)), type := 0, pos := "l7_periods.go:56", after := #[{ on := 4, ground := Go.Ground.guard }], guard := some (4, false) }) (v := undef) rfl (by kernel_rfl) (by kernel_rfl) (by kernel_rfl) (fun _ _ _ h => h) (Or.inr ⟨by rfl, rfl⟩) (by assumption) ?_
            simp only [Act.put, List.setIfInBounds_toArray, List.set_cons_zero, List.set_cons_succ]
            refine wpAnyH_take (i := 7) (oi := { dst := some 33, op := Go.Op.load 3 (Go.Operand.tmp 32), type := 3, pos := "l7_periods.go:56", after := #[{ on := 6, ground := Go.Ground.data }, { on := 4, ground := Go.Ground.guard }], guard := some (4, false) }) (v := undef) rfl (by kernel_rfl) (by kernel_rfl) (by kernel_rfl) (fun _ _ _ h => h) (Or.inr ⟨by rfl, rfl⟩) (by assumption) ?_
            simp only [Act.put, List.setIfInBounds_toArray, List.set_cons_zero, List.set_cons_succ]
            refine wpAnyH_take (i := 8) (oi := { dst := some 34, op := Go.Op.call { callee := Go.Callee.value (Go.Operand.func 127), args := #[Go.Operand.tmp 31, Go.Operand.const (Go.Value.int Go.IntKind.i64 0), Go.Operand.tmp 33], argTypes := #[28, 3, 3] }, type := 28, pos := "l7_periods.go:56", after := #[{ on := 5, ground := Go.Ground.data }, { on := 7, ground := Go.Ground.data }, { on := 4, ground := Go.Ground.chain }, { on := 4, ground := Go.Ground.guard }], guard := some (4, false) }) (v := undef) rfl (by kernel_rfl) (by kernel_rfl) (by kernel_rfl) (fun _ _ _ h => h) (Or.inr ⟨by rfl, rfl⟩) (by assumption) ?_
            simp only [Act.put, List.setIfInBounds_toArray, List.set_cons_zero, List.set_cons_succ]
            refine wpAnyH_take (i := 9) (oi := { dst := some 35, op := Go.Op.load 28 (Go.Operand.tmp 1), type := 28, pos := "l7_periods.go:56", after := #[{ on := 4, ground := Go.Ground.guard }], guard := some (4, false) }) (v := undef) rfl (by kernel_rfl) (by kernel_rfl) (by kernel_rfl) (fun _ _ _ h => h) (Or.inr ⟨by rfl, rfl⟩) (by assumption) ?_
            simp only [Act.put, List.setIfInBounds_toArray, List.set_cons_zero, List.set_cons_succ]
            refine wpAnyH_take (i := 10) (oi := { dst := some 36, op := Go.Op.binOp Go.BinOp.neq 28 (Go.Operand.tmp 34) (Go.Operand.tmp 35) 28, type := 4, pos := "l7_periods.go:56", after := #[{ on := 8, ground := Go.Ground.data }, { on := 9, ground := Go.Ground.data }, { on := 4, ground := Go.Ground.guard }], guard := some (4, false) }) (v := undef) rfl (by kernel_rfl) (by kernel_rfl) (by kernel_rfl) (fun _ _ _ h => h) (Or.inr ⟨by rfl, rfl⟩) (by assumption) ?_
            simp only [Act.put, List.setIfInBounds_toArray, List.set_cons_zero, List.set_cons_succ]
            refine wpAnyH_take (i := 11) (oi := { dst := some 37, op := Go.Op.pick (Go.Operand.tmp 30) (Go.Operand.const (Go.Value.bool true)) (Go.Operand.tmp 36), type := 4, pos := "l7_periods.go:56", after := #[{ on := 4, ground := Go.Ground.data }, { on := 10, ground := Go.Ground.data }], guard := none }) (v := ?_) rfl (by kernel_rfl) (by kernel_rfl) (by kernel_rfl) (fun _ _ _ h => h) (Or.inl ⟨by rfl, ?_⟩) (by assumption) ?_
            rotate_left
            · intro w hSw; (try dsimp only at hSw); go_simp; (try with_reducible rfl)
            simp only [Act.put, List.setIfInBounds_toArray, List.set_cons_zero, List.set_cons_succ]
            refine wpAnyH_done (by kernel_rfl) ?_ _
            have HQ := Lib.hid (HP.out _ hq)
            have hg1 := hq.2.1
            have g_c := fun j => cell_of_row _ g j _ _ _ hg1
            have g_f := fun j => frozen_of_row _ g j _ _ hg1
            clear hq HP HD hg1
            go_wp2_with fail
            clear g_c g_f
            go_roundw
            case rel => exact ⟨q + 1, by omega, by omega, HQ⟩
            case measure =>
              have h8 : (wr.setCell ⟨g, 1, none⟩ (.int .i64 ((q : Int) + 1))).drew.cell? ⟨g, 1, none⟩ = some (.int .i64 ((q : Int) + 1)) := cell_of_row _ g 1 _ _ _ HQ.out.2.1
              rw [h8, hm7]
              simp
              omega
          · have hs : sg7 a a 0 (q % 6) = false := by
              rcases hno with h | h
              · rw [hd] at h; cases h
              · exact h
            have HD := Lib.hid (div_n q hd)
            have HF := Lib.hid (l2shift_m a 0 (q : Int) (by omega) (by omega) 0 (q % 6) (by omega) (by omega))
            have he := neq_sg7 a a 0 (q % 6)
            rw [hs] at he
            clear hno hd HS hs
            go_wp2_with fail
            refine wp_region_held_drew (S := (fun U => U.cell? ⟨w.heap.size, 0, none⟩ = some (.int .i64 (rowv (a 0))) ∧ U.cell? ⟨w.heap.size, 1, none⟩ = some (.int .i64 (rowv (a 1))) ∧ U.cell? ⟨w.heap.size, 2, none⟩ = some (.int .i64 (rowv (a 2))) ∧ U.cell? ⟨w.heap.size, 3, none⟩ = some (.int .i64 (rowv (a 3))) ∧ U.cell? ⟨w.heap.size, 4, none⟩ = some (.int .i64 (rowv (a 4))) ∧ U.cell? ⟨w.heap.size, 5, none⟩ = some (.int .i64 (rowv (a 5))) ∧ U.cell? ⟨g, 0, none⟩ = some (.int .i64 (p : Int)) ∧ U.cell? ⟨g, 1, none⟩ = some (.int .i64 (q : Int)) ∧ Lt7 w a p q g U)) (by kernel_rfl) ?_ (fun hHeld => ?_)
            · (try dsimp only)
              exact SKz hq
            refine wpAnyH_take (i := 0) (oi := { dst := some 26, op := Go.Op.indexAddr 37 (Go.Operand.tmp 4) (Go.Operand.const (Go.Value.int Go.IntKind.i64 1)), type := 0, pos := "l7_periods.go:56", after := #[], guard := none }) (v := ?_) rfl (by kernel_rfl) (by kernel_rfl) (by kernel_rfl) (fun _ _ _ h => h) (Or.inl ⟨by rfl, ?_⟩) (by assumption) ?_
            rotate_left
            · intro w hSw; (try dsimp only at hSw); go_simp; (try with_reducible rfl)
            simp only [Act.put, List.setIfInBounds_toArray, List.set_cons_zero, List.set_cons_succ]
            refine wpAnyH_take (i := 1) (oi := { dst := some 27, op := Go.Op.load 3 (Go.Operand.tmp 26), type := 3, pos := "l7_periods.go:56", after := #[{ on := 0, ground := Go.Ground.data }], guard := none }) (v := ?_) rfl (by kernel_rfl) (by kernel_rfl) (by kernel_rfl) (fun _ _ _ h => h) (Or.inl ⟨by rfl, ?_⟩) (by assumption) ?_
            rotate_left
            · intro w hSw; (try dsimp only at hSw); go_simp; (try with_reducible rfl)
            simp only [Act.put, List.setIfInBounds_toArray, List.set_cons_zero, List.set_cons_succ]
            refine wpAnyH_ready (rs := [2]) (by kernel_rfl) (by simp) ?_
            refine AllReadyH.cons (o := { dst := some 28, op := Go.Op.call { callee := Go.Callee.value (Go.Operand.func 126), args := #[Go.Operand.tmp 27], argTypes := #[3] }, type := 4, pos := "l7_periods.go:56", after := #[{ on := 1, ground := Go.Ground.data }], guard := none }) rfl (fun K hK => ?_) AllReadyH.nil
            go_simp
            (go_at_call 126; with_reducible refine (HD.out _).mono ?_; rintro e w' ⟨rfl, hw'⟩; (obtain rfl := hw'.symm); clear hw'; go_wp2_with fail)
            refine hK.out _ _ ?_ (fun hHeld => ?_)
            · (try dsimp only)
              exact SKz hq
            clear hK K
            (try simp only [Act.put, List.setIfInBounds_toArray, List.set_cons_zero, List.set_cons_succ])
            refine wpAnyH_take (i := 3) (oi := { dst := some 29, op := Go.Op.unOp Go.UnOp.not 4 (Go.Operand.tmp 28), type := 4, pos := "l7_periods.go:56", after := #[{ on := 2, ground := Go.Ground.data }], guard := none }) (v := ?_) rfl (by kernel_rfl) (by kernel_rfl) (by kernel_rfl) (fun _ _ _ h => h) (Or.inl ⟨by rfl, ?_⟩) (by assumption) ?_
            rotate_left
            · intro w hSw; (try dsimp only at hSw); go_simp; (try with_reducible rfl)
            simp only [Act.put, List.setIfInBounds_toArray, List.set_cons_zero, List.set_cons_succ]
            refine wpAnyH_take (i := 4) (oi := { dst := some 30, op := Go.Op.move (Go.Operand.tmp 29), type := 4, pos := "l7_periods.go:56", after := #[{ on := 3, ground := Go.Ground.data }, { on := 2, ground := Go.Ground.chain }], guard := none }) (v := ?_) rfl (by kernel_rfl) (by kernel_rfl) (by kernel_rfl) (fun _ _ _ h => h) (Or.inl ⟨by rfl, ?_⟩) (by assumption) ?_
            rotate_left
            · intro w hSw; (try dsimp only at hSw); go_simp; (try with_reducible rfl)
            simp only [Act.put, List.setIfInBounds_toArray, List.set_cons_zero, List.set_cons_succ]
            refine wpAnyH_take (i := 5) (oi := { dst := some 31, op := Go.Op.load 28 (Go.Operand.tmp 1), type := 28, pos := "l7_periods.go:56", after := #[{ on := 4, ground := Go.Ground.guard }], guard := some (4, false) }) (v := ?_) rfl (by kernel_rfl) (by kernel_rfl) (by kernel_rfl) (fun _ _ _ h => h) (Or.inl ⟨by rfl, ?_⟩) (by assumption) ?_
            rotate_left
            · intro w hSw; (try dsimp only at hSw); go_simp; (try with_reducible rfl)
            simp only [Act.put, List.setIfInBounds_toArray, List.set_cons_zero, List.set_cons_succ]
            refine wpAnyH_take (i := 6) (oi := { dst := some 32, op := Go.Op.indexAddr 37 (Go.Operand.tmp 4) (Go.Operand.const (Go.Value.int Go.IntKind.i64 1)), type := 0, pos := "l7_periods.go:56", after := #[{ on := 4, ground := Go.Ground.guard }], guard := some (4, false) }) (v := ?_) rfl (by kernel_rfl) (by kernel_rfl) (by kernel_rfl) (fun _ _ _ h => h) (Or.inl ⟨by rfl, ?_⟩) (by assumption) ?_
            rotate_left
            · intro w hSw; (try dsimp only at hSw); go_simp; (try with_reducible rfl)
            simp only [Act.put, List.setIfInBounds_toArray, List.set_cons_zero, List.set_cons_succ]
            refine wpAnyH_take (i := 7) (oi := { dst := some 33, op := Go.Op.load 3 (Go.Operand.tmp 32), type := 3, pos := "l7_periods.go:56", after := #[{ on := 6, ground := Go.Ground.data }, { on := 4, ground := Go.Ground.guard }], guard := some (4, false) }) (v := ?_) rfl (by kernel_rfl) (by kernel_rfl) (by kernel_rfl) (fun _ _ _ h => h) (Or.inl ⟨by rfl, ?_⟩) (by assumption) ?_
            rotate_left
            · intro w hSw; (try dsimp only at hSw); go_simp; (try with_reducible rfl)
            simp only [Act.put, List.setIfInBounds_toArray, List.set_cons_zero, List.set_cons_succ]
            refine wpAnyH_take (i := 9) (oi := { dst := some 35, op := Go.Op.load 28 (Go.Operand.tmp 1), type := 28, pos := "l7_periods.go:56", after := #[{ on := 4, ground := Go.Ground.guard }], guard := some (4, false) }) (v := ?_) rfl (by kernel_rfl) (by kernel_rfl) (by kernel_rfl) (fun _ _ _ h => h) (Or.inl ⟨by rfl, ?_⟩) (by assumption) ?_
            rotate_left
            · intro w hSw; (try dsimp only at hSw); go_simp; (try with_reducible rfl)
            simp only [Act.put, List.setIfInBounds_toArray, List.set_cons_zero, List.set_cons_succ]
            refine wpAnyH_ready (rs := [8]) (by kernel_rfl) (by simp) ?_
            refine AllReadyH.cons (o := { dst := some 34, op := Go.Op.call { callee := Go.Callee.value (Go.Operand.func 127), args := #[Go.Operand.tmp 31, Go.Operand.const (Go.Value.int Go.IntKind.i64 0), Go.Operand.tmp 33], argTypes := #[28, 3, 3] }, type := 28, pos := "l7_periods.go:56", after := #[{ on := 5, ground := Go.Ground.data }, { on := 7, ground := Go.Ground.data }, { on := 4, ground := Go.Ground.chain }, { on := 4, ground := Go.Ground.guard }], guard := some (4, false) }) rfl (fun K hK => ?_) AllReadyH.nil
            go_simp
            (go_at_call 127; with_reducible refine (HF.out _).mono ?_; rintro e w' ⟨rfl, hb'⟩; have hq := hq.below hb' rfl; go_wp2_with fail)
            refine hK.out _ _ ?_ (fun hHeld => ?_)
            · (try dsimp only)
              exact SKz hq
            clear hK K
            (try simp only [Act.put, List.setIfInBounds_toArray, List.set_cons_zero, List.set_cons_succ])
            refine wpAnyH_take (i := 10) (oi := { dst := some 36, op := Go.Op.binOp Go.BinOp.neq 28 (Go.Operand.tmp 34) (Go.Operand.tmp 35) 28, type := 4, pos := "l7_periods.go:56", after := #[{ on := 8, ground := Go.Ground.data }, { on := 9, ground := Go.Ground.data }, { on := 4, ground := Go.Ground.guard }], guard := some (4, false) }) (v := ?_) rfl (by kernel_rfl) (by kernel_rfl) (by kernel_rfl) (fun _ _ _ h => h) (Or.inl ⟨by rfl, ?_⟩) (by assumption) ?_
            rotate_left
            · intro w hSw; (try dsimp only at hSw); go_simp; (try simp only [he]); (try with_reducible rfl)
            simp only [Act.put, List.setIfInBounds_toArray, List.set_cons_zero, List.set_cons_succ]
            refine wpAnyH_take (i := 11) (oi := { dst := some 37, op := Go.Op.pick (Go.Operand.tmp 30) (Go.Operand.const (Go.Value.bool true)) (Go.Operand.tmp 36), type := 4, pos := "l7_periods.go:56", after := #[{ on := 4, ground := Go.Ground.data }, { on := 10, ground := Go.Ground.data }], guard := none }) (v := ?_) rfl (by kernel_rfl) (by kernel_rfl) (by kernel_rfl) (fun _ _ _ h => h) (Or.inl ⟨by rfl, ?_⟩) (by assumption) ?_
            rotate_left
            · intro w hSw; (try dsimp only at hSw); go_simp; (try with_reducible rfl)
            simp only [Act.put, List.setIfInBounds_toArray, List.set_cons_zero, List.set_cons_succ]
            refine wpAnyH_done (by kernel_rfl) ?_ _
            have HQ := Lib.hid (HP.out _ hq)
            have hg1 := hq.2.1
            have g_c := fun j => cell_of_row _ g j _ _ _ hg1
            have g_f := fun j => frozen_of_row _ g j _ _ hg1
            clear hq HP HD hg1
            go_wp2_with fail
            clear g_c g_f
            go_roundw
            case rel => exact ⟨q + 1, by omega, by omega, HQ⟩
            case measure =>
              have h8 : (w'.setCell ⟨g, 1, none⟩ (.int .i64 ((q : Int) + 1))).cell? ⟨g, 1, none⟩ = some (.int .i64 ((q : Int) + 1)) := cell_of_row _ g 1 _ _ _ HQ.out.2.1
              rw [h8, hm7]
              simp
              omega
        · obtain rfl : q = K := by omega
          have HD := Lib.hid (div_n q HK3.out.1)
          have HF := Lib.hid (l2shift_m a 0 (q : Int) (by omega) (by omega) 0 (q % 6) (by omega) (by omega))
          have he := neq_sg7 a a 0 (q % 6)
          rw [HK3.out.2] at he
          clear HS HK2 HK3 hm7 hge
          go_wp2_with fail
          refine wp_region_held_drew (S := (fun U => U.cell? ⟨w.heap.size, 0, none⟩ = some (.int .i64 (rowv (a 0))) ∧ U.cell? ⟨w.heap.size, 1, none⟩ = some (.int .i64 (rowv (a 1))) ∧ U.cell? ⟨w.heap.size, 2, none⟩ = some (.int .i64 (rowv (a 2))) ∧ U.cell? ⟨w.heap.size, 3, none⟩ = some (.int .i64 (rowv (a 3))) ∧ U.cell? ⟨w.heap.size, 4, none⟩ = some (.int .i64 (rowv (a 4))) ∧ U.cell? ⟨w.heap.size, 5, none⟩ = some (.int .i64 (rowv (a 5))) ∧ U.cell? ⟨g, 0, none⟩ = some (.int .i64 (p : Int)) ∧ U.cell? ⟨g, 1, none⟩ = some (.int .i64 (q : Int)) ∧ Lt7 w a p q g U)) (by kernel_rfl) ?_ (fun hHeld => ?_)
          · (try dsimp only)
            exact SKz hq
          refine wpAnyH_take (i := 0) (oi := { dst := some 26, op := Go.Op.indexAddr 37 (Go.Operand.tmp 4) (Go.Operand.const (Go.Value.int Go.IntKind.i64 1)), type := 0, pos := "l7_periods.go:56", after := #[], guard := none }) (v := ?_) rfl (by kernel_rfl) (by kernel_rfl) (by kernel_rfl) (fun _ _ _ h => h) (Or.inl ⟨by rfl, ?_⟩) (by assumption) ?_
          rotate_left
          · intro w hSw; (try dsimp only at hSw); go_simp; (try with_reducible rfl)
          simp only [Act.put, List.setIfInBounds_toArray, List.set_cons_zero, List.set_cons_succ]
          refine wpAnyH_take (i := 1) (oi := { dst := some 27, op := Go.Op.load 3 (Go.Operand.tmp 26), type := 3, pos := "l7_periods.go:56", after := #[{ on := 0, ground := Go.Ground.data }], guard := none }) (v := ?_) rfl (by kernel_rfl) (by kernel_rfl) (by kernel_rfl) (fun _ _ _ h => h) (Or.inl ⟨by rfl, ?_⟩) (by assumption) ?_
          rotate_left
          · intro w hSw; (try dsimp only at hSw); go_simp; (try with_reducible rfl)
          simp only [Act.put, List.setIfInBounds_toArray, List.set_cons_zero, List.set_cons_succ]
          refine wpAnyH_ready (rs := [2]) (by kernel_rfl) (by simp) ?_
          refine AllReadyH.cons (o := { dst := some 28, op := Go.Op.call { callee := Go.Callee.value (Go.Operand.func 126), args := #[Go.Operand.tmp 27], argTypes := #[3] }, type := 4, pos := "l7_periods.go:56", after := #[{ on := 1, ground := Go.Ground.data }], guard := none }) rfl (fun K hK => ?_) AllReadyH.nil
          go_simp
          (go_at_call 126; with_reducible refine (HD.out _).mono ?_; rintro e w' ⟨rfl, hw'⟩; (obtain rfl := hw'.symm); clear hw'; go_wp2_with fail)
          refine hK.out _ _ ?_ (fun hHeld => ?_)
          · (try dsimp only)
            exact SKz hq
          clear hK K
          (try simp only [Act.put, List.setIfInBounds_toArray, List.set_cons_zero, List.set_cons_succ])
          refine wpAnyH_take (i := 3) (oi := { dst := some 29, op := Go.Op.unOp Go.UnOp.not 4 (Go.Operand.tmp 28), type := 4, pos := "l7_periods.go:56", after := #[{ on := 2, ground := Go.Ground.data }], guard := none }) (v := ?_) rfl (by kernel_rfl) (by kernel_rfl) (by kernel_rfl) (fun _ _ _ h => h) (Or.inl ⟨by rfl, ?_⟩) (by assumption) ?_
          rotate_left
          · intro w hSw; (try dsimp only at hSw); go_simp; (try with_reducible rfl)
          simp only [Act.put, List.setIfInBounds_toArray, List.set_cons_zero, List.set_cons_succ]
          refine wpAnyH_take (i := 4) (oi := { dst := some 30, op := Go.Op.move (Go.Operand.tmp 29), type := 4, pos := "l7_periods.go:56", after := #[{ on := 3, ground := Go.Ground.data }, { on := 2, ground := Go.Ground.chain }], guard := none }) (v := ?_) rfl (by kernel_rfl) (by kernel_rfl) (by kernel_rfl) (fun _ _ _ h => h) (Or.inl ⟨by rfl, ?_⟩) (by assumption) ?_
          rotate_left
          · intro w hSw; (try dsimp only at hSw); go_simp; (try with_reducible rfl)
          simp only [Act.put, List.setIfInBounds_toArray, List.set_cons_zero, List.set_cons_succ]
          refine wpAnyH_take (i := 5) (oi := { dst := some 31, op := Go.Op.load 28 (Go.Operand.tmp 1), type := 28, pos := "l7_periods.go:56", after := #[{ on := 4, ground := Go.Ground.guard }], guard := some (4, false) }) (v := ?_) rfl (by kernel_rfl) (by kernel_rfl) (by kernel_rfl) (fun _ _ _ h => h) (Or.inl ⟨by rfl, ?_⟩) (by assumption) ?_
          rotate_left
          · intro w hSw; (try dsimp only at hSw); go_simp; (try with_reducible rfl)
          simp only [Act.put, List.setIfInBounds_toArray, List.set_cons_zero, List.set_cons_succ]
          refine wpAnyH_take (i := 6) (oi := { dst := some 32, op := Go.Op.indexAddr 37 (Go.Operand.tmp 4) (Go.Operand.const (Go.Value.int Go.IntKind.i64 1)), type := 0, pos := "l7_periods.go:56", after := #[{ on := 4, ground := Go.Ground.guard }], guard := some (4, false) }) (v := ?_) rfl (by kernel_rfl) (by kernel_rfl) (by kernel_rfl) (fun _ _ _ h => h) (Or.inl ⟨by rfl, ?_⟩) (by assumption) ?_
          rotate_left
          · intro w hSw; (try dsimp only at hSw); go_simp; (try with_reducible rfl)
          simp only [Act.put, List.setIfInBounds_toArray, List.set_cons_zero, List.set_cons_succ]
          refine wpAnyH_take (i := 7) (oi := { dst := some 33, op := Go.Op.load 3 (Go.Operand.tmp 32), type := 3, pos := "l7_periods.go:56", after := #[{ on := 6, ground := Go.Ground.data }, { on := 4, ground := Go.Ground.guard }], guard := some (4, false) }) (v := ?_) rfl (by kernel_rfl) (by kernel_rfl) (by kernel_rfl) (fun _ _ _ h => h) (Or.inl ⟨by rfl, ?_⟩) (by assumption) ?_
          rotate_left
          · intro w hSw; (try dsimp only at hSw); go_simp; (try with_reducible rfl)
          simp only [Act.put, List.setIfInBounds_toArray, List.set_cons_zero, List.set_cons_succ]
          refine wpAnyH_take (i := 9) (oi := { dst := some 35, op := Go.Op.load 28 (Go.Operand.tmp 1), type := 28, pos := "l7_periods.go:56", after := #[{ on := 4, ground := Go.Ground.guard }], guard := some (4, false) }) (v := ?_) rfl (by kernel_rfl) (by kernel_rfl) (by kernel_rfl) (fun _ _ _ h => h) (Or.inl ⟨by rfl, ?_⟩) (by assumption) ?_
          rotate_left
          · intro w hSw; (try dsimp only at hSw); go_simp; (try with_reducible rfl)
          simp only [Act.put, List.setIfInBounds_toArray, List.set_cons_zero, List.set_cons_succ]
          refine wpAnyH_ready (rs := [8]) (by kernel_rfl) (by simp) ?_
          refine AllReadyH.cons (o := { dst := some 34, op := Go.Op.call { callee := Go.Callee.value (Go.Operand.func 127), args := #[Go.Operand.tmp 31, Go.Operand.const (Go.Value.int Go.IntKind.i64 0), Go.Operand.tmp 33], argTypes := #[28, 3, 3] }, type := 28, pos := "l7_periods.go:56", after := #[{ on := 5, ground := Go.Ground.data }, { on := 7, ground := Go.Ground.data }, { on := 4, ground := Go.Ground.chain }, { on := 4, ground := Go.Ground.guard }], guard := some (4, false) }) rfl (fun K hK => ?_) AllReadyH.nil
          go_simp
          (go_at_call 127; with_reducible refine (HF.out _).mono ?_; rintro e w' ⟨rfl, hb'⟩; have hq := hq.below hb' rfl; go_wp2_with fail)
          refine hK.out _ _ ?_ (fun hHeld => ?_)
          · (try dsimp only)
            exact SKz hq
          clear hK K
          (try simp only [Act.put, List.setIfInBounds_toArray, List.set_cons_zero, List.set_cons_succ])
          refine wpAnyH_take (i := 10) (oi := { dst := some 36, op := Go.Op.binOp Go.BinOp.neq 28 (Go.Operand.tmp 34) (Go.Operand.tmp 35) 28, type := 4, pos := "l7_periods.go:56", after := #[{ on := 8, ground := Go.Ground.data }, { on := 9, ground := Go.Ground.data }, { on := 4, ground := Go.Ground.guard }], guard := some (4, false) }) (v := ?_) rfl (by kernel_rfl) (by kernel_rfl) (by kernel_rfl) (fun _ _ _ h => h) (Or.inl ⟨by rfl, ?_⟩) (by assumption) ?_
          rotate_left
          · intro w hSw; (try dsimp only at hSw); go_simp; (try simp only [he]); (try with_reducible rfl)
          simp only [Act.put, List.setIfInBounds_toArray, List.set_cons_zero, List.set_cons_succ]
          refine wpAnyH_take (i := 11) (oi := { dst := some 37, op := Go.Op.pick (Go.Operand.tmp 30) (Go.Operand.const (Go.Value.bool true)) (Go.Operand.tmp 36), type := 4, pos := "l7_periods.go:56", after := #[{ on := 4, ground := Go.Ground.data }, { on := 10, ground := Go.Ground.data }], guard := none }) (v := ?_) rfl (by kernel_rfl) (by kernel_rfl) (by kernel_rfl) (fun _ _ _ h => h) (Or.inl ⟨by rfl, ?_⟩) (by assumption) ?_
          rotate_left
          · intro w hSw; (try dsimp only at hSw); go_simp; (try with_reducible rfl)
          simp only [Act.put, List.setIfInBounds_toArray, List.set_cons_zero, List.set_cons_succ]
          refine wpAnyH_done (by kernel_rfl) ?_ _
          have HQ := Lib.hid hq
          have hg1 := hq.2.1
          have hz1 := hq.1.row (g := w.heap.size + 1) (o := .cells #[.int .i64 0, .int .i64 0] 37 (0, 0)) (List.mem_cons_of_mem _ (List.mem_cons_self ..))
          have g_c := fun j => cell_of_row _ g j _ _ _ hg1
          have z_c := fun j => cell_of_row _ _ j _ _ _ hz1
          have z_f := fun j => frozen_of_row _ _ j _ _ hz1
          have hB := hq.1.2.2
          clear hq HD HF he hg1
          go_wp2_with fail
          have qr := o7_set2 (.int .i64 (p : Int)) (.int .i64 (q : Int)) hz1
          have hB2 := belowc2 (u0 := .int .i64 (p : Int)) (u1 := .int .i64 (q : Int)) hB (show w.heap.size ≤ w.heap.size + 1 by omega)
          clear g_c z_c z_f hB hz1 HQ
          generalize (World.setCell _ _ _ : World) = X at qr hB2 ⊢
          have x_c := fun j => cell_of_row X _ j _ _ _ qr
          exact bodyPost_ret (v := .tuple #[.agg #[.int .i64 (p : Int), .int .i64 (q : Int)], .bool true]) (by simp [results, Try.results33, go_sem, x_c]) rfl ⟨rfl, hB2⟩
end Go.Proofs.Ytpmhnikilianoaa
