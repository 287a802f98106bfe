/- CONTRACTS: SheetText, the code's. -/
import Derived.Test.YtjhokdccgachcaaZm
import Derived.Test.YtjhokdccgachcaaSa
import Derived.RegionTactic
import Derived.WalkKit
import Derived.ProofKit
import Derived.OpenShut
import Derived.Lib.Hide
import Derived.WalkSpells
import Derived.Below
import Derived.BigQuiet
import Derived.LoopN
namespace Go.Proofs.Ytjhokdccgachcaa
open Go.ChangeShapes Go.WideShapes Go.ChangeAt Go.RowKit
set_option linter.unusedVariables false
theorem ixs (s : F6) {y : Nat} (hy : y < 6) (w : World) : (Instr.index 22 (.agg #[.int .i64 (rowv (s 0)), .int .i64 (rowv (s 1)), .int .i64 (rowv (s 2)), .int .i64 (rowv (s 3)), .int .i64 (rowv (s 4)), .int .i64 (rowv (s 5))]) (.int .i64 (y : Int))).run Try.prog w = .ok (.int .i64 (rowv (s y))) w := by
  rcases six_n hy with rfl | rfl | rfl | rfl | rfl | rfl
  · exact ix0 _ _ _ _ _ _ w
  · exact ix1 _ _ _ _ _ _ w
  · exact ix2 _ _ _ _ _ _ w
  · exact ix3 _ _ _ _ _ _ w
  · exact ix4 _ _ _ _ _ _ w
  · exact ix5 _ _ _ _ _ _ w
/-- The six rows as texts. -/
def rx6 (s : F6) : List ByteArray := [rtx (s 0), rtx (s 1), rtx (s 2), rtx (s 3), rtx (s 4), rtx (s 5)]
theorem rx6_len (s : F6) : (rx6 s).length = 6 := rfl
theorem rtx_size (g : Nat → Bool) : (rtx g).size = 6 := rfl
theorem rtx_has (g : Nat → Bool) : Zi.has 47 (rtx g) = false := by
  unfold Zi.has
  rw [decide_eq_false_iff_not]
  show ¬ (47 ∈ rtl g)
  unfold rtl
  have : ∀ b, sgb b ≠ 47 := by decide
  simp only [List.mem_cons, List.not_mem_nil, or_false, not_or]
  exact ⟨(this _).symm, (this _).symm, (this _).symm, (this _).symm, (this _).symm, (this _).symm⟩
theorem can_of6 {c : UInt8} : ∀ (xs : List ByteArray) (L : Int), (∀ x ∈ xs, Zi.has c x = false) → L + (xs.map fun x => (x.size : Int) + 1).sum ≤ 4000 → Zi.canFrom c xs L = true
  | [], _, _, _ => rfl
  | x :: r, L, h, hl => by
    have hs : ∀ l : List ByteArray, 0 ≤ (l.map fun x => (x.size : Int) + 1).sum := by
      intro l
      induction l with
      | nil => simp
      | cons a r ih => simp only [List.map_cons, List.sum_cons]; omega
    have := hs r
    simp only [List.map_cons, List.sum_cons] at hl
    rw [Zi.canFrom, if_neg (by omega), if_neg (by rw [h x (by simp)]; simp)]
    exact can_of6 r _ (fun y hy => h y (by simp [hy])) (by omega)
theorem rx6_can (s : F6) : Zi.canFrom 47 (rx6 s) (-1) = true := by
  refine can_of6 _ _ (fun x hx => ?_) ?_
  · unfold rx6 at hx
    simp only [List.mem_cons, List.not_mem_nil, or_false] at hx
    rcases hx with rfl | rfl | rfl | rfl | rfl | rfl <;> exact rtx_has _
  · unfold rx6
    simp only [List.map_cons, List.map_nil, List.sum_cons, List.sum_nil, rtx_size]
    decide
/-- The text of a sheet. -/
def sgt (s : F6) : ByteArray := Zi.jn (rx6 s) 47 6
theorem sv6_to (s : F6) {i : Nat} (j : Nat) (h : j ≠ i) : sv6 s (i + 1) j = sv6 s i j := by
  unfold sv6
  have : (j < i + 1) ↔ (j < i) := by omega
  simp only [this]
theorem sv6_at (s : F6) (i : Nat) : sv6 s (i + 1) i = .string (rtx (s i)) := by unfold sv6; rw [if_pos (by omega)]
theorem rx6_get (s : F6) {j : Nat} {x : ByteArray} (h : (rx6 s)[j]? = some x) : j < 6 ∧ x = rtx (s j) := by
  have hj : j < 6 := (List.getElem?_eq_some_iff.1 h).1
  refine ⟨hj, ?_⟩
  rcases six_n hj with rfl | rfl | rfl | rfl | rfl | rfl <;> (simp [rx6] at h; exact h.symm)
theorem rd_s (s : F6) (gs : Nat) (W : World) (h : W.heap[gs]? = some (c6 (sv6 s 6) 9)) : Zi.RdS W gs 0 (rx6 s) := fun j x hx => by
  obtain ⟨hj, rfl⟩ := rx6_get s hx
  rw [Nat.zero_add, c6_at hj h]
  unfold sv6
  rw [if_pos hj]
set_option maxRecDepth 8000 in
set_option maxHeartbeats 1000000 in
theorem stext_yes (s : F6) (H0 : Hid (∀ w, Calls Try.prog 104 #[.agg #[.int .i64 (rowv (s 0)), .int .i64 (rowv (s 1)), .int .i64 (rowv (s 2)), .int .i64 (rowv (s 3)), .int .i64 (rowv (s 4)), .int .i64 (rowv (s 5))]] w fun e w' => e = .returned (.bool true) ∧ Below w.heap.size w w')) (w : World) : Calls Try.prog 68 #[.agg #[.int .i64 (rowv (s 0)), .int .i64 (rowv (s 1)), .int .i64 (rowv (s 2)), .int .i64 (rowv (s 3)), .int .i64 (rowv (s 4)), .int .i64 (rowv (s 5))]] w fun e w' => e = .returned (.tuple #[.string (sgt s), .bool true]) ∧ Below w.heap.size w w' := by
  have hmk := make_s s
  go_enter Try.func68, Try.ntmps68
  go_wp2_with (go_at_call 104; refine (H0.out _).mono ?_; rintro e W1 ⟨rfl, hb⟩; have k0 : Hid (W1.heap[w.heap.size]? = some (o6 s)) := Lib.hid (rowk (alloc_at rfl) hb rfl); have s_c := fun j => cell_of_row (W1.alloc (c6 (sv6 s 0) 9)) _ j _ _ _ (alloc_past k0.out))
  have B1 : Below w.heap.size w W1 := below_of (by (repeat (first | exact Below.refl _ _ | assumption | refine Below.setCell ?_ (by first | (simp; done) | (simp; omega)) _ | refine Below.alloc ?_ (by first | (simp; done) | (simp; omega)) _ | refine Below.drew ?_))) hb (by simp)
  have hGs := row_lt k0.out
  have S0 : Hid ((W1.alloc (c6 (sv6 s 0) 9)).heap[W1.heap.size]? = some (c6 (sv6 s 0) 9) ∧ Below w.heap.size w (W1.alloc (c6 (sv6 s 0) 9))) := Lib.hid ⟨alloc_at rfl, B1.alloc (Nat.le_of_lt hGs) _⟩
  clear hb k0 B1 s_c
  obtain ⟨G, hG⟩ : ∃ G, G = W1.heap.size := ⟨_, rfl⟩
  simp only [← hG] at S0 hGs ⊢
  generalize (World.alloc W1 _ : World) = W0 at S0 ⊢
  clear hmk hG
  go_loopw [13] (fun c wr => ∃ i : Nat, i ≤ 6 ∧ c = .int .i64 i ∧ Hid (wr.heap[G]? = some (c6 (sv6 s i) 9) ∧ Below w.heap.size w wr)) (fun c _ => 6 - (intOf c).toNat)
  case atStart => exact ⟨0, by omega, rfl, S0⟩
  case round =>
    obtain ⟨i, hi, rfl, HS⟩ := hrel
    by_cases hlt : i < 6
    · have hlt' : (i : Int) < 6 := by omega
      have hi0 : (0 : Int) ≤ i := by omega
      have hix := ixs s hlt
      go_wp2_with (go_at_call 126; refine (rtext_f _ _).mono ?_; rintro e W2 ⟨rfl, hb⟩; have k2 : Hid (W2.heap[G]? = some (c6 (sv6 s i) 9) ∧ Below w.heap.size w W2) := Lib.hid ⟨rowk HS.out.1 hb rfl, below_of HS.out.2 hb (Nat.le_of_lt (Nat.lt_trans hGs (row_lt HS.out.1)))⟩; have b_y := c6_at hlt k2.out.1; have b_f := fun j => frozen_of_row W2 _ j _ _ k2.out.1)
      refine ⟨⟨i + 1, by omega, rfl, Lib.hid ⟨?_, ?_⟩⟩, ?_⟩
      · have H1 := c6_set (v' := sv6 s (i + 1)) hlt (fun j _ hj => sv6_to s j hj) k2.out.1
        rw [sv6_at] at H1
        exact H1
      · have := k2.out.2; have := hGs; (repeat (first | exact Below.refl _ _ | assumption | refine Below.setCell ?_ (by first | (simp; done) | (simp; omega)) _ | refine Below.alloc ?_ (by first | (simp; done) | (simp; omega)) _ | refine Below.drew ?_))
      · show 6 - ((i : Int) + 1).toNat < 6 - (i : Int).toNat
        omega
    · have e6 : i = 6 := by omega
      subst e6
      have HJ := Zi.implJ_any G 0 6 (rx6 s) 47 wr (rd_s s G wr HS.out.1) (row_lt HS.out.1) (fun x hx => by
        obtain ⟨j, hj, rfl⟩ := List.getElem_of_mem hx
        rw [(rx6_get s (List.getElem?_eq_getElem hj)).2, rtx_size]; decide) (by rw [rx6_len]; decide) (by rw [rx6_len]; decide) (by rw [rx6_len]; decide) ⟨#[47]⟩ rfl rfl
      rw [rx6_len, Zi.JRes_yes (rx6_can s), rx6_len] at HJ
      have HJ := Lib.hid HJ
      go_wp2_with (go_at_call 127; refine HJ.out.mono ?_; rintro e W2 ⟨rfl, hb⟩)
      (try rw [Exit.noGoto_ret])
      go_ret2
      exact ⟨rfl, below_of HS.out.2 hb (Nat.le_of_lt (Nat.lt_trans hGs (row_lt HS.out.1)))⟩
end Go.Proofs.Ytjhokdccgachcaa
