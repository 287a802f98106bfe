/- CONTRACTS: marks on a slice of prints. -/
import Derived.Test.YtcjomhjgjdjigaaZq9
import Derived.WalkKit
import Derived.ProofKit
import Derived.OpenShut
import Derived.Lib.Hide
import Derived.WalkSpells
import Derived.Below
import Derived.BigQuiet
import Derived.LoopN
namespace Go.Proofs.Ytcjomhjgjdjigaa
open Go.ChangeShapes Go.WideShapes Go.ChangeAt Go.RowKit
set_option linter.unusedVariables false
set_option maxRecDepth 8000 in
set_option maxHeartbeats 2000000 in
theorem mark_prints (g cap n : Nat) (hn : n ≤ 1048576) (w : World) (h0 : Mk9 g (n * 9) w w) : Calls Try.prog 36 #[.slice (some ⟨g, 0, none⟩) n cap, .int .i64 1] w fun e w' => e = .returned (.int .i64 ((n : Int) * 9 + 1)) ∧ w.grownBy w' (some g) := by
  have S0 := Lib.hid h0
  clear h0
  go_enter Try.func36, Try.ntmps36
  go_wp2_with fail
  go_loopw [1, 5] (fun a b wr => ∃ i : Nat, i ≤ n ∧ a = .int .i64 ((i : Int) * 9 + 1) ∧ b = .int .i64 i ∧ Hid (Mk9 g (n * 9) w wr)) (fun _ b _ => n - (intOf b).toNat)
  case atStart => exact ⟨0, Nat.zero_le _, rfl, rfl, S0⟩
  case round =>
    obtain ⟨i, hi, rfl, rfl, HS⟩ := hrel
    by_cases hlt : i < n
    · have hlt' : (i : Int) < n := by omega
      have hi0 : (0 : Int) ≤ i := by omega
      obtain ⟨M, hM⟩ : ∃ M : Int, M = (i : Int) * 9 + 1 := ⟨_, rfl⟩
      have hM1 : 1 ≤ M := by omega
      have hM2 : M ≤ 9437185 := by omega
      have HM := Lib.hid hM
      rw [← hM]
      clear hM
      have e1 : wrap64 (M + 1) = M + 1 := by unfold wrap64; omega
      obtain ⟨u, hu⟩ := HS.out.1 (i * 9) (by omega)
      have hf := HS.out.2.1 (i * 9)
      have H1 := Lib.hid (HS.out.put (j := i * 9) (.int .i64 M))
      clear HS
      have hlt2 : decide ((0 : Int) < 6) = true := by decide
      go_wp2_with fail
      try rw [hlt2]
      clear hu hf hlt2
      generalize (World.setCell _ _ _ : World) = W1 at H1 ⊢
      go_loopw [1, 6] (fun a c wr => ∃ j : Nat, j ≤ 6 ∧ a = .int .i64 (M + 1 + j) ∧ c = .int .i64 j ∧ Hid (Mk9 g (n * 9) w wr)) (fun _ c _ => 6 - (intOf c).toNat)
      case atStart => exact ⟨0, by omega, by simp, rfl, H1⟩
      case round =>
        obtain ⟨j, hj, rfl, rfl, HT⟩ := hrel
        by_cases hlj : j < 6
        · have hlj' : (j : Int) < 6 := by omega
          have hj0 : (0 : Int) ≤ j := by omega
          obtain ⟨K, hK⟩ : ∃ K : Int, K = M + 1 + (j : Int) := ⟨_, rfl⟩
          have e2 : wrap64 (K + 1) = K + 1 := by unfold wrap64; omega
          have HK := Lib.hid hK
          rw [← hK]
          clear hK
          obtain ⟨u, hu⟩ := HT.out.1 (i * 9 + 1 + j) (by omega)
          have hf := HT.out.2.1 (i * 9 + 1 + j)
          have H2 := Lib.hid (HT.out.put (j := i * 9 + 1 + j) (.int .i64 K))
          clear HT
          go_wp2_with fail
          clear hu hf
          go_roundw
          case rel => exact ⟨j + 1, by omega, by have := HK.out; simp; omega, by go_num, H2⟩
          case measure => simp [intOf]; omega
        · obtain rfl : j = 6 := by omega
          have hlt2 : decide ((0 : Int) < 2) = true := by decide
          go_wp2_with fail
          try rw [hlt2]
          clear hlt2
          go_loopw [1, 7] (fun a c wr => ∃ j : Nat, j ≤ 2 ∧ a = .int .i64 (M + 1 + 6 + j) ∧ c = .int .i64 j ∧ Hid (Mk9 g (n * 9) w wr)) (fun _ c _ => 2 - (intOf c).toNat)
          case atStart => exact ⟨0, by omega, by simp, rfl, HT⟩
          case round =>
            obtain ⟨j, hj, rfl, rfl, HT⟩ := hrel
            by_cases hlj : j < 2
            · have hlj' : (j : Int) < 2 := by omega
              have hj0 : (0 : Int) ≤ j := by omega
              obtain ⟨K, hK⟩ : ∃ K : Int, K = M + 1 + 6 + (j : Int) := ⟨_, rfl⟩
              have e2 : wrap64 (K + 1) = K + 1 := by unfold wrap64; omega
              have HK := Lib.hid hK
              rw [← hK]
              clear hK
              obtain ⟨u, hu⟩ := HT.out.1 (i * 9 + 7 + j) (by omega)
              have hf := HT.out.2.1 (i * 9 + 7 + j)
              have H2 := Lib.hid (HT.out.put (j := i * 9 + 7 + j) (.int .i64 K))
              clear HT
              go_wp2_with fail
              clear hu hf
              go_roundw
              case rel => exact ⟨j + 1, by omega, by have := HK.out; simp; omega, by go_num, H2⟩
              case measure => simp [intOf]; omega
            · obtain rfl : j = 2 := by omega
              go_wp2_with fail
              go_roundw
              case rel => exact ⟨i + 1, by omega, by have := HM.out; simp; omega, by go_num, HT⟩
              case measure => simp [intOf]; omega
    · obtain rfl : i = n := by omega
      go_wp2_with fail
      go_ret
      exact ⟨rfl, HS.out.2.2⟩
theorem Op9.mk {B g c : Nat} {z : List Pn} {w : World} (h : Op9 B g c z w) : Mk9 g (z.length * 9) w w := by
  refine ⟨fun j hj => ?_, fun j => h.frozenAt j, ⟨rfl, rfl, rfl, Nat.le_refl _, fun _ _ _ => rfl⟩⟩
  have hl : j < (cw9 z).length := by rw [cw9_len]; exact hj
  exact ⟨_, own_at h (List.getElem?_eq_getElem hl)⟩
theorem ZPost9.get {z : List Pn} {w w' : World} {e : Ending} (h : ZPost9 z w e w') : ∃ g, e = .returned (.slice (some ⟨g, 0, none⟩) z.length z.length) ∧ Op9 w.heap.size g z.length z w' ∧ Below w.heap.size w w' := h
end Go.Proofs.Ytcjomhjgjdjigaa
