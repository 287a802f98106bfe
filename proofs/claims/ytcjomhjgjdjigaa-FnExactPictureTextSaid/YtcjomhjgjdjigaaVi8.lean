/- CONTRACTS: whether a picture is valid, by the code. -/
import Derived.Test.YtcjomhjgjdjigaaVp8
import Derived.WalkKit
import Derived.ProofKit
import Derived.OpenShut
import Derived.Lib.Hide
import Derived.WalkSpells
import Derived.Below
import Derived.BigQuiet
import Derived.LoopN
namespace Go.Proofs.Ytcjomhjgjdjigaa
open Go.ChangeShapes Go.WideShapes Go.ChangeAt Go.RowKit
set_option linter.unusedVariables false
set_option maxRecDepth 8000 in
set_option maxHeartbeats 1000000 in
theorem impic_any (m : Nat → Int) (w : World) : Calls Try.prog 20 #[pv m] w fun e w' => e = .returned (.bool (okp m)) ∧ Below w.heap.size w w' := by
  have HI := Lib.hid ink_any
  go_enter Try.func20, Try.ntmps20
  have q1 : (w.alloc (pb 27 m)).heap[w.heap.size]? = some (pb 27 m) := alloc_at rfl
  have hB : Below w.heap.size w (w.alloc (pb 27 m)) := by (repeat (first | exact Below.refl _ _ | assumption | refine Below.setCell ?_ (by first | (simp; done) | (simp; omega)) _ | refine Below.alloc ?_ (by first | (simp; done) | (simp; omega)) _ | refine Below.drew ?_))
  go_wp2_with (first | ((with_reducible refine wpB36 m ?_ ?_); rfl) | ((with_reducible refine wpL36 w.heap.size 27 m q1 _ Try.underlying23 ?_ ?_ ?_ ?_); rfl; rfl; kernel_rfl))
  have S0 : Hid (Below w.heap.size w (w.alloc (pb 27 m)) ∧ ∀ j, j < 6 * 0 → 0 ≤ m j ∧ m j ≤ 4) := Lib.hid ⟨hB, fun j hj => by omega⟩
  clear q1 hB
  generalize (World.alloc _ _ : World) = W1 at S0 ⊢
  go_loopw [9] (fun c wr => ∃ y : Nat, y ≤ 6 ∧ c = .int .i64 y ∧ Hid (Below w.heap.size w wr ∧ ∀ j, j < 6 * y → 0 ≤ m j ∧ m j ≤ 4)) (fun c _ => 6 - (intOf c).toNat)
  case atStart => exact ⟨0, by omega, rfl, S0⟩
  case round =>
    obtain ⟨y, hy, rfl, HS⟩ := hrel
    by_cases hlt : y < 6
    · have hlt' : (y : Int) < 6 := by omega
      have hlt2 : decide ((y : Int) < 6) = true := decide_eq_true hlt'
      have hr := row36 m y hlt
      go_wp2_with fail
      try rw [hlt2]
      have HA : Hid (Below w.heap.size w (wr.alloc (.cells #[.int .i64 (m (y * 6)), .int .i64 (m (y * 6 + 1)), .int .i64 (m (y * 6 + 2)), .int .i64 (m (y * 6 + 3)), .int .i64 (m (y * 6 + 4)), .int .i64 (m (y * 6 + 5))] 22)) ∧ ∀ j, j < 6 * y + 0 → 0 ≤ m j ∧ m j ≤ 4) := Lib.hid ⟨HS.out.1.alloc HS.out.1.size _, HS.out.2⟩
      clear hlt2 hr HS
      generalize (World.alloc _ _ : World) = W2 at HA ⊢
      go_loopw [13] (fun c wr => ∃ x : Nat, x ≤ 6 ∧ c = .int .i64 x ∧ Hid (Below w.heap.size w wr ∧ ∀ j, j < 6 * y + x → 0 ≤ m j ∧ m j ≤ 4)) (fun c _ => 6 - (intOf c).toNat)
      case atStart => exact ⟨0, by omega, rfl, HA⟩
      case round =>
        obtain ⟨x, hx, rfl, HT⟩ := hrel
        by_cases hlx : x < 6
        · have hlx' : (x : Int) < 6 := by omega
          have he : ∀ W, (Instr.index 22 (.agg #[.int .i64 (m (y * 6)), .int .i64 (m (y * 6 + 1)), .int .i64 (m (y * 6 + 2)), .int .i64 (m (y * 6 + 3)), .int .i64 (m (y * 6 + 4)), .int .i64 (m (y * 6 + 5))]) (.int .i64 x)).run Try.prog W = .ok (.int .i64 (m (y * 6 + x))) W := el6 (fun j => m (y * 6 + j)) x hlx
          have HN : Hid ((decide (0 ≤ m (y * 6 + x)) && decide (m (y * 6 + x) ≤ 4)) = false → okp m = false) := Lib.hid (okp_no (by omega))
          have HY : Hid ((decide (0 ≤ m (y * 6 + x)) && decide (m (y * 6 + x) ≤ 4)) = true → ∀ j, j < 6 * y + (x + 1) → 0 ≤ m j ∧ m j ≤ 4) := Lib.hid fun h j hj => by
            by_cases e : j = y * 6 + x
            · subst e; simpa using h
            · exact HT.out.2 j (by omega)
          generalize m (y * 6 + x) = v at he HN HY
          go_wp2_with fail
          refine (HI.out _ _).mono ?_
          rintro e W3 ⟨rfl, hw⟩
          subst hw
          generalize (decide (0 ≤ v) && decide (v ≤ 4)) = b at HN HY ⊢
          clear he
          cases b
          · go_wp2_with fail
            go_ret
            have eN := HN.out (by first | rfl | trivial)
            exact ⟨by rw [eN]; rfl, HT.out.1⟩
          · go_wp2_with fail
            have HT2 := Lib.hid (And.intro HT.out.1 (HY.out (by first | rfl | trivial)))
            go_roundw
            case rel => exact ⟨x + 1, by omega, by go_num, HT2⟩
            case measure => simp [intOf]; omega
        · obtain rfl : x = 6 := by omega
          go_wp2_with fail
          go_roundw
          case rel => exact ⟨y + 1, by omega, by go_num, Lib.hid ⟨HT.out.1, fun j hj => HT.out.2 j (by omega)⟩⟩
          case measure => simp [intOf]; omega
    · obtain rfl : y = 6 := by omega
      go_wp2_with fail
      go_ret
      have eY := okp_yes (fun j hj => HS.out.2 j (by omega))
      exact ⟨by rw [eY]; rfl, HS.out.1⟩
end Go.Proofs.Ytcjomhjgjdjigaa
