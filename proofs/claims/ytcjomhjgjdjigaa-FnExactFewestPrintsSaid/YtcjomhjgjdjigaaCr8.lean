/- CONTRACTS: whether prints at some places give a picture; the fewest prints so far. -/
import Derived.Test.YtcjomhjgjdjigaaCq8
import Derived.Test.YtcjomhjgjdjigaaMc9
import Derived.Test.YtcjomhjgjdjigaaEq9
import Derived.WalkKit
import Derived.ProofKit
import Derived.OpenShut
import Derived.Lib.Hide
import Derived.WalkSpells
import Derived.Below
import Derived.BigQuiet
import Derived.LoopN
namespace Go.Proofs.Ytcjomhjgjdjigaa
open Go.ChangeShapes Go.WideShapes Go.ChangeAt Go.RowKit
set_option linter.unusedVariables false
section
variable {a : Act} {w : World} {dst : Option Tmp} {type : TypeId} {pos : String} {after : Array Edge} {gd : Option (Nat × Bool)} {x y : Operand}
theorem fieldP (m : Nat → Int) (W : World) : (Instr.field 27 (pv m) 0).run Try.prog W = .ok (pv m) W := by kernel_rfl
theorem exL8 {g : Nat} {m : Nat → Int} (hx : a.eval x = .pointer (some ⟨g, 0, none⟩)) (h : w.heap[g]? = some (pb 27 m)) : (execOp a.eval ⟨dst, .load 27 x, type, pos, after, gd⟩).run Try.prog w = .ok (.value (pv m)) w := by
  unfold execOp
  simp only [hx, Instr.loadAt, Instr.sureAddr, Sem.run_bind, Sem.run_pure, Result.andThen_ok, run_loadP h]
theorem run_loadA {X : World} {g : Nat} {m : Nat → Int} (h : X.heap[g]? = some (pb 27 m)) : (loadVar 23 ⟨g, 0, none⟩).run Try.prog X = .ok (pv m) X := run_load36 h 23 _ Try.underlying23 rfl (by kernel_rfl)
theorem exLA {g : Nat} {m : Nat → Int} (hx : a.eval x = .pointer (some ⟨g, 0, none⟩)) (h : w.heap[g]? = some (pb 27 m)) : (execOp a.eval ⟨dst, .load 23 x, type, pos, after, gd⟩).run Try.prog w = .ok (.value (pv m)) w := by
  unfold execOp
  simp only [hx, Instr.loadAt, Instr.sureAddr, Sem.run_bind, Sem.run_pure, Result.andThen_ok, run_loadA h]
theorem exF8 {p : Nat → Int} (hx : a.eval x = pv p) : (execOp a.eval ⟨dst, .field 27 x 0, type, pos, after, gd⟩).run Try.prog w = .ok (.value (pv p)) w := by
  unfold execOp
  simp only [hx, Sem.run_bind, Sem.run_pure, fieldP, Result.andThen_ok]
theorem exQ8 {p q : Nat → Int} {t2 : TypeId} (hx : a.eval x = pv p) (hy : a.eval y = pv q) : (execOp a.eval ⟨dst, .binOp .eql 27 x y t2, type, pos, after, gd⟩).run Try.prog w = .ok (.value (.bool (peq p q))) w := by
  unfold execOp
  simp only [hx, hy, Sem.run_bind, Sem.run_pure, gP, eqP, Result.andThen_ok]
theorem exQA {p q : Nat → Int} {t2 : TypeId} (hx : a.eval x = pv p) (hy : a.eval y = pv q) : (execOp a.eval ⟨dst, .binOp .eql 23 x y t2, type, pos, after, gd⟩).run Try.prog w = .ok (.value (.bool (peq p q))) w := by
  unfold execOp
  simp only [hx, hy, Sem.run_bind, Sem.run_pure, gA, eqA, Result.andThen_ok]
end
/-- Midway: a picture in a block, the prints, a list of places. -/
def Fi8 (w : World) (gp : Nat) (m : Nat → Int) (z : List Pn) (gz cz : Nat) (o : List Nat) (g c : Nat) (U : World) : Prop := U.heap[gp]? = some (pb 27 m) ∧ Op9 0 gz cz z U ∧ On8 0 g c o U ∧ Below w.heap.size w U
theorem Fi8.below {w : World} {gp : Nat} {m : Nat → Int} {z : List Pn} {gz cz : Nat} {o : List Nat} {g c M : Nat} {U V : World} (h : Fi8 w gp m z gz cz o g c U) (hb : Below M U V) (hM : M = U.heap.size) : Fi8 w gp m z gz cz o g c V :=
  ⟨rowk h.1 hb hM, h.2.1.below hb hM, h.2.2.1.below hb hM, below_of h.2.2.2 hb (by rw [hM]; exact h.2.2.2.size)⟩
theorem Fi8.two {w : World} {gp : Nat} {m : Nat → Int} {z : List Pn} {gz cz : Nat} {o : List Nat} {g c : Nat} {U : World} (h : Fi8 w gp m z gz cz o g c U) : Op9 0 gz cz z U ∧ On8 0 g c o U := ⟨h.2.1, h.2.2.1⟩
theorem Fi8.drew {w : World} {gp : Nat} {m : Nat → Int} {z : List Pn} {gz cz : Nat} {o : List Nat} {g c : Nat} {U : World} (h : Fi8 w gp m z gz cz o g c U) : Fi8 w gp m z gz cz o g c U.drew := h.below (M := U.heap.size) (Below.refl _ _).drew rfl
set_option maxRecDepth 8000 in
set_option maxHeartbeats 2000000 in
theorem igiven_f (m : Nat → Int) (z : List Pn) (hz : z.length ≤ 1048576) (o : List Nat) (ho : o.length ≤ 1048576) (hok : ∀ i (hi : i < z.length), okR z[i] = true) (hin : ∀ i (hi : i < o.length), o[i] < z.length) (gz cz go co : Nat) (w : World) (h1 : Op9 0 gz cz z w) (h2 : On8 0 go co o w) : Calls Try.prog 90 #[pv m, .slice (some ⟨gz, 0, none⟩) z.length cz, .slice (some ⟨go, 0, none⟩) o.length co] w fun e w' => e = .returned (.bool (peq (al8 z o) m)) ∧ Below w.heap.size w w' := by
  have HB := Lib.hid (fun (W : World) (h : Op9 0 gz cz z W ∧ On8 0 go co o W) => iby_f z hz o ho hok hin gz cz go co W h.1 h.2)
  have S0 : Hid (Fi8 w w.heap.size m z gz cz o go co (w.alloc (pb 27 m)).drew) := Lib.hid (Fi8.drew ⟨alloc_at rfl, h1.below (M := w.heap.size) ((Below.refl _ _).alloc (Nat.le_refl _) _) rfl, h2.below (M := w.heap.size) ((Below.refl _ _).alloc (Nat.le_refl _) _) rfl, by (repeat (first | exact Below.refl _ _ | assumption | refine Below.setCell ?_ (by first | (simp; done) | (simp; omega)) _ | refine Below.alloc ?_ (by first | (simp; done) | (simp; omega)) _ | refine Below.drew ?_))⟩)
  generalize al8 z o = q at HB ⊢
  clear h1 h2 hok hin
  go_enter Try.func90, Try.ntmps90
  go_wp2_with ((with_reducible refine wpB36 m ?_ ?_); rfl)
  generalize (World.alloc _ _ : World) = W1 at S0 ⊢
  refine wp_region_held_drew (S := fun U => Fi8 w w.heap.size m z gz cz o go co U) (by kernel_rfl) ?_ (fun hHeld => ?_)
  · exact S0.out
  refine wpAnyH_take (i := 0) (oi := { dst := some 7, op := Go.Op.move (Go.Operand.tmp 1), type := 45, pos := "l8_inks.go:87", after := #[], guard := none }) (v := ?_) rfl (by kernel_rfl) (by kernel_rfl) (by kernel_rfl) (fun _ _ _ h => h) (Or.inl ⟨by rfl, ?_⟩) (by assumption) ?_
  rotate_left
  · intro U hSw; (try dsimp only at hSw); go_simp; (try with_reducible rfl)
  simp only [Act.put, List.setIfInBounds_toArray, List.set_cons_zero, List.set_cons_succ]
  refine wpAnyH_take (i := 1) (oi := { dst := some 8, op := Go.Op.move (Go.Operand.tmp 2), type := 54, pos := "l8_inks.go:87", after := #[], guard := none }) (v := ?_) rfl (by kernel_rfl) (by kernel_rfl) (by kernel_rfl) (fun _ _ _ h => h) (Or.inl ⟨by rfl, ?_⟩) (by assumption) ?_
  rotate_left
  · intro U hSw; (try dsimp only at hSw); go_simp; (try with_reducible rfl)
  simp only [Act.put, List.setIfInBounds_toArray, List.set_cons_zero, List.set_cons_succ]
  refine wpAnyH_take (i := 4) (oi := { dst := some 11, op := Go.Op.fieldAddr 27 (Go.Operand.tmp 3) 0, type := 0, pos := "l8_inks.go:87", after := #[], guard := none }) (v := ?_) rfl (by kernel_rfl) (by kernel_rfl) (by kernel_rfl) (fun _ _ _ h => h) (Or.inl ⟨by rfl, ?_⟩) (by assumption) ?_
  rotate_left
  · intro U hSw; (try dsimp only at hSw); go_simp; (try with_reducible rfl)
  simp only [Act.put, List.setIfInBounds_toArray, List.set_cons_zero, List.set_cons_succ]
  refine wpAnyH_take (i := 5) (oi := { dst := some 12, op := Go.Op.load 23 (Go.Operand.tmp 11), type := 23, pos := "l8_inks.go:87", after := #[{ on := 4, ground := Go.Ground.data }], guard := none }) (v := ?_) rfl (by kernel_rfl) (by kernel_rfl) (by kernel_rfl) (fun _ _ _ h => h) (Or.inl ⟨by rfl, ?_⟩) (by assumption) ?_
  rotate_left
  · intro U hSw; refine exLA (g := w.heap.size) ?_ hSw.1; rfl
  simp only [Act.put, List.setIfInBounds_toArray, List.set_cons_zero, List.set_cons_succ]
  refine wpAnyH_ready (rs := [2]) (by kernel_rfl) (by simp) ?_
  refine AllReadyH.cons (o := { dst := some 9, op := Go.Op.call { callee := Go.Callee.value (Go.Operand.func 75), args := #[Go.Operand.tmp 7, Go.Operand.tmp 8], argTypes := #[45, 54] }, type := 27, pos := "l8_inks.go:87", after := #[{ on := 0, ground := Go.Ground.data }, { on := 1, ground := Go.Ground.data }], guard := none }) rfl (fun K hK => ?_) AllReadyH.nil
  go_simp
  (go_at_call 75; with_reducible refine (HB.out _ S0.out.two).mono ?_; rintro e w' ⟨rfl, hb'⟩; have hq := S0.out.below hb' rfl; go_wp2_with fail)
  refine hK.out _ _ ?_ (fun hHeld => ?_)
  · exact hq
  clear hK K
  (try simp only [Act.put, List.setIfInBounds_toArray, List.set_cons_zero, List.set_cons_succ])
  refine wpAnyH_take (i := 3) (oi := { dst := some 10, op := Go.Op.field 27 (Go.Operand.tmp 9) 0, type := 23, pos := "l8_inks.go:87", after := #[{ on := 2, ground := Go.Ground.data }], guard := none }) (v := ?_) rfl (by kernel_rfl) (by kernel_rfl) (by kernel_rfl) (fun _ _ _ h => h) (Or.inl ⟨by rfl, ?_⟩) (by assumption) ?_
  rotate_left
  · intro U hSw; refine exF8 (p := q) ?_; rfl
  simp only [Act.put, List.setIfInBounds_toArray, List.set_cons_zero, List.set_cons_succ]
  refine wpAnyH_take (i := 6) (oi := { dst := some 13, op := Go.Op.binOp Go.BinOp.eql 23 (Go.Operand.tmp 10) (Go.Operand.tmp 12) 23, type := 4, pos := "l8_inks.go:87", after := #[{ on := 3, ground := Go.Ground.data }, { on := 5, ground := Go.Ground.data }], guard := none }) (v := ?_) rfl (by kernel_rfl) (by kernel_rfl) (by kernel_rfl) (fun _ _ _ h => h) (Or.inl ⟨by rfl, ?_⟩) (by assumption) ?_
  rotate_left
  · intro U hSw; refine exQA (p := q) (q := m) ?_ ?_ <;> rfl
  simp only [Act.put, List.setIfInBounds_toArray, List.set_cons_zero, List.set_cons_succ]
  refine wpAnyH_take (i := 7) (oi := { dst := some 6, op := Go.Op.assign (Go.Operand.tmp 13), type := 4, pos := "l8_inks.go:87", after := #[{ on := 6, ground := Go.Ground.data }, { on := 2, ground := Go.Ground.chain }, { on := 0, ground := Go.Ground.phase }, { on := 1, ground := Go.Ground.phase }, { on := 2, ground := Go.Ground.phase }, { on := 3, ground := Go.Ground.phase }, { on := 4, ground := Go.Ground.phase }, { on := 5, ground := Go.Ground.phase }, { on := 6, ground := Go.Ground.phase }], guard := none }) (v := ?_) rfl (by kernel_rfl) (by kernel_rfl) (by kernel_rfl) (fun _ _ _ h => h) (Or.inl ⟨by rfl, ?_⟩) (by assumption) ?_
  rotate_left
  · intro U hSw; (try dsimp only at hSw); go_simp; (try with_reducible rfl)
  simp only [Act.put, List.setIfInBounds_toArray, List.set_cons_zero, List.set_cons_succ]
  refine wpAnyH_done (by kernel_rfl) ?_ _
  go_wp2_with fail
  go_ret
  exact ⟨rfl, hq.2.2.2⟩
theorem nl7_mem (g : Nat → Bool) : ∀ k x, x ∈ nl7 g k → x < k
  | 0, x, h => by simp [nl7] at h
  | k + 1, x, h => by
    cases hg : g k
    · rw [nl7_no hg] at h
      have := nl7_mem g k x h
      omega
    · rw [nl7_yes hg] at h
      simp only [List.mem_append, List.mem_cons, List.not_mem_nil, or_false] at h
      rcases h with h | h
      · have := nl7_mem g k x h
        omega
      · omega
theorem bp_n : ∀ n : Fin 7, ∀ c : Fin 64, c.val < 2 ^ n.val → nl7 (fun i => c.val.testBit i) n.val = bp8 c.val := by decide +kernel
theorem bp_is {n c : Nat} (hn : n ≤ 6) (hc : c < 2 ^ n) (h64 : c < 64) : nl7 (fun i => c.testBit i) n = bp8 c := bp_n ⟨n, by omega⟩ ⟨c, h64⟩ hc
theorem pow_64 {n : Nat} (hn : n ≤ 6) : 1 ≤ 2 ^ n ∧ 2 ^ n ≤ 64 := by
  have : n = 0 ∨ n = 1 ∨ n = 2 ∨ n = 3 ∨ n = 4 ∨ n = 5 ∨ n = 6 := by omega
  rcases this with rfl | rfl | rfl | rfl | rfl | rfl | rfl <;> decide
/-- The fewest prints of those that the first k numbers choose. -/
def fw8 (z : List Pn) (n : Nat) : Nat → List Nat
  | 0 => List.range n
  | k + 1 => if peq (al8 z (bp8 k)) (al8 z (List.range n)) && snr (bp8 k) (fw8 z n k) then bp8 k else fw8 z n k
theorem fw8_yes {z : List Pn} {n k : Nat} (h : peq (al8 z (bp8 k)) (al8 z (List.range n)) = true) (h2 : snr (bp8 k) (fw8 z n k) = true) : fw8 z n (k + 1) = bp8 k := by rw [fw8, h, h2]; rfl
theorem fw8_no1 {z : List Pn} {n k : Nat} (h : peq (al8 z (bp8 k)) (al8 z (List.range n)) = false) : fw8 z n (k + 1) = fw8 z n k := by rw [fw8, h]; rfl
theorem fw8_no2 {z : List Pn} {n k : Nat} (h2 : snr (bp8 k) (fw8 z n k) = false) : fw8 z n (k + 1) = fw8 z n k := by rw [fw8, h2, Bool.and_false]; rfl
theorem bp8_len (c : Nat) : (bp8 c).length ≤ 6 := nl7_len _ 6
theorem bp8_in {n c : Nat} (hn : n ≤ 6) (hc : c < 2 ^ n) : ∀ i (hi : i < (bp8 c).length), (bp8 c)[i] < n := fun i hi => by
  have h64 : c < 64 := by have := pow_64 hn; omega
  have h := List.getElem_mem hi
  have h2 := nl7_mem (fun i => c.testBit i) n (bp8 c)[i] (by rw [bp_is hn hc h64]; exact h)
  exact h2
theorem fw8_len (z : List Pn) {n : Nat} (hn : n ≤ 6) : ∀ k, (fw8 z n k).length ≤ 6
  | 0 => by simp [fw8]; omega
  | k + 1 => by
    rw [fw8]
    split
    · exact bp8_len k
    · exact fw8_len z hn k
end Go.Proofs.Ytcjomhjgjdjigaa
