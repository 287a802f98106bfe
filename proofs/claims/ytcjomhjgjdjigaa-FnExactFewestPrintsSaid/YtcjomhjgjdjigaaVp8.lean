/- CONTRACTS: whether a picture is valid, of the model and of the code. -/
import Derived.Test.YtcjomhjgjdjigaaPv8
import Derived.Test.YtcjomhjgjdjigaaSa
import Derived.WalkKit
import Derived.ProofKit
import Derived.OpenShut
import Derived.Lib.Hide
import Derived.WalkSpells
import Derived.Below
import Derived.BigQuiet
import Derived.LoopN
namespace Go.Proofs.Ytcjomhjgjdjigaa
open Go.ChangeShapes Go.WideShapes Go.ChangeAt Go.RowKit
set_option linter.unusedVariables false
/-- Whether the first n numbers are inks, or 0. -/
def okp (m : Nat → Int) : Bool := (List.range 36).all fun j => decide (0 ≤ m j) && decide (m j ≤ 4)
theorem okp_yes {m : Nat → Int} (h : ∀ j, j < 36 → 0 ≤ m j ∧ m j ≤ 4) : okp m = true := by
  unfold okp
  simp only [List.all_eq_true, List.mem_range, Bool.and_eq_true, decide_eq_true_eq]
  exact h
theorem okp_all {m : Nat → Int} (h : okp m = true) : ∀ j, j < 36 → 0 ≤ m j ∧ m j ≤ 4 := by
  unfold okp at h
  simp only [List.all_eq_true, List.mem_range, Bool.and_eq_true, decide_eq_true_eq] at h
  exact h
theorem okp_no {m : Nat → Int} {j : Nat} (hj : j < 36) (h : (decide (0 ≤ m j) && decide (m j ≤ 4)) = false) : okp m = false := by
  cases e : okp m
  · rfl
  · have := okp_all e j hj
    simp [this] at h
set_option maxRecDepth 8000 in
set_option maxHeartbeats 1000000 in
theorem spic_any (m : Nat → Int) (w : World) : Calls Try.prog 64 #[pv m] w fun e w' => e = .returned (.bool (okp m)) ∧ Below w.heap.size w w' := by
  have HI := Lib.hid l1in_any
  go_enter Try.func64, Try.ntmps64
  go_wp2_with (refine wpList_box36 rfl 27 _ rfl m rfl ?_)
  have S0 : Hid (KR 1 [(w.heap.size, pb 27 m)] w (w.alloc (pb 27 m)) ∧ ∀ j, j < 6 * 0 → 0 ≤ m j ∧ m j ≤ 4) := Lib.hid ⟨⟨by intro p hp; simp only [List.mem_cons, List.mem_nil_iff, or_false] at hp; subst hp; exact ⟨by simp, alloc_at rfl⟩, by simp, by (repeat (first | exact Below.refl _ _ | assumption | refine Below.setCell ?_ (by first | (simp; done) | (simp; omega)) _ | refine Below.alloc ?_ (by first | (simp; done) | (simp; omega)) _ | refine Below.drew ?_))⟩, fun j hj => by omega⟩
  generalize (World.alloc _ _ : World) = W1 at S0 ⊢
  go_loopw [3] (fun c wr => ∃ y : Nat, y ≤ 6 ∧ c = .int .i64 y ∧ Hid (KR 1 [(w.heap.size, pb 27 m)] w wr ∧ ∀ j, j < 6 * y → 0 ≤ m j ∧ m j ≤ 4)) (fun c _ => 6 - (intOf c).toNat)
  case atStart => exact ⟨0, by omega, rfl, S0⟩
  case round =>
    obtain ⟨y, hy, rfl, HS⟩ := hrel
    by_cases hlt : y < 6
    · have hlt' : (y : Int) < 6 := by omega
      have hlt2 : decide ((y : Int) < 6) = true := decide_eq_true hlt'
      go_wp2_with fail
      try rw [hlt2]
      clear hlt2
      go_loopw [4] (fun c wr => ∃ x : Nat, x ≤ 6 ∧ c = .int .i64 x ∧ Hid (KR 1 [(w.heap.size, pb 27 m)] w wr ∧ ∀ j, j < 6 * y + x → 0 ≤ m j ∧ m j ≤ 4)) (fun c _ => 6 - (intOf c).toNat)
      case atStart => exact ⟨0, by omega, rfl, HS⟩
      case round =>
        obtain ⟨x, hx, rfl, HT⟩ := hrel
        by_cases hlx : x < 6
        · have hlx' : (x : Int) < 6 := by omega
          have hy0 : (0 : Int) ≤ y := by omega
          have hx0 : (0 : Int) ≤ x := by omega
          have c0 := pb_cell (HT.out.1.row (g := w.heap.size) (o := pb 27 m) (by simp)) (y * 6 + x)
          rw [if_pos (by omega)] at c0
          have HN : Hid ((decide (0 ≤ m (y * 6 + x)) && decide (m (y * 6 + x) ≤ 4)) = false → okp m = false) := Lib.hid (okp_no (by omega))
          have HY : Hid ((decide (0 ≤ m (y * 6 + x)) && decide (m (y * 6 + x) ≤ 4)) = true → ∀ j, j < 6 * y + (x + 1) → 0 ≤ m j ∧ m j ≤ 4) := Lib.hid fun h j hj => by
            by_cases e : j = y * 6 + x
            · subst e; simpa using h
            · exact HT.out.2 j (by omega)
          generalize m (y * 6 + x) = v at c0 HN HY
          go_wp2_with fail
          refine (HI.out _ _ _ _).mono ?_
          rintro e W2 ⟨rfl, hw⟩
          subst hw
          generalize (decide (0 ≤ v) && decide (v ≤ 4)) = b at HN HY ⊢
          clear c0
          cases b
          · go_wp2_with fail
            go_ret
            have eN := HN.out (by first | rfl | trivial)
            exact ⟨by rw [eN]; rfl, HT.out.1.2.2⟩
          · go_wp2_with fail
            have HT2 := Lib.hid (And.intro HT.out.1 (HY.out (by first | rfl | trivial)))
            go_roundw
            case rel => exact ⟨x + 1, by omega, by go_num, HT2⟩
            case measure => simp [intOf]; omega
        · obtain rfl : x = 6 := by omega
          go_wp2_with fail
          go_roundw
          case rel => exact ⟨y + 1, by omega, by go_num, Lib.hid ⟨HT.out.1, fun j hj => HT.out.2 j (by omega)⟩⟩
          case measure => simp [intOf]; omega
    · obtain rfl : y = 6 := by omega
      go_wp2_with fail
      go_ret
      have eY := okp_yes (fun j hj => HS.out.2 j (by omega))
      exact ⟨by rw [eY]; rfl, HS.out.1.2.2⟩
theorem ispec_any (m : Nat → Int) (w : World) : Calls Try.prog 18 #[pv m] w fun e w' => e = .returned (.bool (okp m)) ∧ Below w.heap.size w w' := by
  have HS := Lib.hid (spic_any m)
  go_enter Try.func18, Try.ntmps18
  have q1 : (w.alloc (pb 27 m)).heap[w.heap.size]? = some (pb 27 m) := alloc_at rfl
  go_wp2_with (first | refine wpList_box36 rfl 27 _ rfl m rfl ?_ | refine wpList_load36 rfl 27 _ rfl w.heap.size rfl 27 m q1 _ Try.underlying27 rfl (by kernel_rfl) ?_)
  refine (HS.out _).mono ?_
  rintro e W2 ⟨rfl, hb⟩
  have hB := below_of (B := w.heap.size) (w := w) (by (repeat (first | exact Below.refl _ _ | assumption | refine Below.setCell ?_ (by first | (simp; done) | (simp; omega)) _ | refine Below.alloc ?_ (by first | (simp; done) | (simp; omega)) _ | refine Below.drew ?_))) hb (by simp)
  clear hb q1
  go_wp2_with fail
  go_ret
  exact ⟨rfl, hB⟩
theorem ink_any (a : Int) (w : World) : Calls Try.prog 66 #[.int .i64 a] w fun e w' => e = .returned (.bool (decide (0 ≤ a) && decide (a ≤ 4))) ∧ w' = w := by
  by_cases h0 : 0 ≤ a <;> by_cases h1 : a ≤ 4
  all_goals
    go_enter Try.func66, Try.ntmps66
    go_wp2_with fail
    go_ret
    exact ⟨by simp [h0, h1] <;> omega, rfl⟩
end Go.Proofs.Ytcjomhjgjdjigaa
