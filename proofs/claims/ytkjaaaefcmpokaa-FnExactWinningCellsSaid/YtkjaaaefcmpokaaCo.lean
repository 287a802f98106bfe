/- CONTRACTS: the laws' marks on a slice of pairs, and their check. -/
import Derived.Test.YtkjaaaefcmpokaaCn
import Derived.Laws.OwnMore
import Derived.WalkKit
import Derived.ProofKit
import Derived.OpenShut
import Derived.Lib.Hide
import Derived.WalkSpells
import Derived.Below
import Derived.BigQuiet
import Derived.LoopN
namespace Go.Proofs.Ytkjaaaefcmpokaa
open Go.ChangeShapes Go.WideShapes Go.ChangeAt Go.RowKit
set_option linter.unusedVariables false
theorem gtr {W W' W2 : World} {g : Nat} (h : W.grownBy W' (some g)) (h' : W'.grownBy W2 (some g)) : W.grownBy W2 (some g) := ⟨h'.os.trans h.os, h'.tape.trans h.tape, h'.output.trans h.output, Nat.le_trans h.size h'.size, fun k hk hne => (h'.block k (Nat.lt_of_lt_of_le hk h.size) hne).trans (h.block k hk hne)⟩
/-- A row of cells whose first i have been marked by 1, 2 and so on. -/
def mks (xs : List Value) (i : Nat) : List Value := (List.range i).map (fun j : Nat => Value.int .i64 ((j : Int) + 1)) ++ xs.drop i
theorem mks_zero (xs : List Value) : mks xs 0 = xs := by simp [mks]
theorem mks_set {xs : List Value} {i : Nat} (h : i < xs.length) : (mks xs i).set i (.int .i64 ((i : Int) + 1)) = mks xs (i + 1) := by
  unfold mks
  rw [List.set_append_right _ _ (by simp), List.length_map, List.length_range, Nat.sub_self, List.drop_eq_getElem_cons h, List.set_cons_zero, List.range_succ, List.map_append, List.append_assoc]
  rfl
theorem mks_at (xs : List Value) {i j : Nat} (h : j < i) : (mks xs i)[j]? = some (.int .i64 ((j : Int) + 1)) := by
  unfold mks
  rw [List.getElem?_append_left (by simpa using h)]
  simp [h]
theorem mks_len (xs : List Value) {i : Nat} (h : i ≤ xs.length) : (mks xs i).length = xs.length := by simp [mks]; omega
theorem own_store {W : World} {B g n cap i : Nat} {xs : List Value} (h : W.ownsRow B 47 2 (.slice (some ⟨g, 0, none⟩) n cap) n (mks xs i)) (hx : xs.length = n * 2) (hi : i < n * 2) : (∃ u, W.cell? ⟨g, i, none⟩ = some u) ∧ W.frozen? ⟨g, i, none⟩ = false ∧ (W.setCell ⟨g, i, none⟩ (.int .i64 ((i : Int) + 1))).ownsRow B 47 2 (.slice (some ⟨g, 0, none⟩) n cap) n (mks xs (i + 1)) ∧ W.grownBy (W.setCell ⟨g, i, none⟩ (.int .i64 ((i : Int) + 1))) (some g) := by
  have hs := h.stored i (.int .i64 ((i : Int) + 1))
  rw [mks_set (by omega)] at hs
  refine ⟨⟨(mks xs i)[i]'(by rw [mks_len xs (by omega)]; omega), ?_⟩, h.frozenAt i, hs.1, hs.2⟩
  rw [h.cellAt i hi]
  exact List.getElem?_eq_getElem _
set_option maxHeartbeats 4000000 in
theorem mark_cells (g cap B n : Nat) (xs : List Value) (hn : n ≤ 100) (w : World) (hown : w.ownsRow B 47 2 (.slice (some ⟨g, 0, none⟩) n cap) n xs) : Calls Try.prog 26 #[.slice (some ⟨g, 0, none⟩) n cap, .int .i64 1] w fun e w' => e = .returned (.int .i64 ((n : Int) * 2 + 1)) ∧ w'.ownsRow B 47 2 (.slice (some ⟨g, 0, none⟩) n cap) n (mks xs (n * 2)) ∧ w.grownBy w' (some g) := by
  have HO := Lib.hid hown
  have hx : xs.length = n * 2 := hown.1
  clear hown
  go_enter Try.func26, Try.ntmps26
  go_wp2_with fail
  go_loopw [1, 5] (fun a b wr => ∃ i : Nat, i ≤ n ∧ a = .int .i64 ((i : Int) * 2 + 1) ∧ b = .int .i64 i ∧ Hid (wr.ownsRow B 47 2 (.slice (some ⟨g, 0, none⟩) n cap) n (mks xs (i * 2)) ∧ w.grownBy wr (some g))) (fun _ b _ => n - (intOf b).toNat)
  case atStart => exact ⟨0, Nat.zero_le _, rfl, rfl, Lib.hid ⟨by rw [Nat.zero_mul, mks_zero]; exact HO.out, ⟨rfl, rfl, rfl, Nat.le_refl _, fun _ _ _ => rfl⟩⟩⟩
  case round =>
    obtain ⟨i, hi, rfl, rfl, HS⟩ := hrel
    by_cases hlt : i < n
    · have hlt' : (i : Int) < n := by omega
      have hi0 : (0 : Int) ≤ i := by omega
      obtain ⟨⟨u, hu⟩, hf, hs⟩ := own_store HS.out.1 hx (show i * 2 < n * 2 by omega)
      have H1 := Lib.hid (show _ ∧ w.grownBy _ (some g) from ⟨hs.1, gtr HS.out.2 hs.2⟩)
      obtain ⟨⟨u2, hu2⟩, hf2, hs2⟩ := own_store H1.out.1 hx (show i * 2 + 1 < n * 2 by omega)
      have H2 := Lib.hid (show _ ∧ w.grownBy _ (some g) from ⟨hs2.1, gtr H1.out.2 hs2.2⟩)
      clear hs hs2 HO H1 HS
      rw [show ((i * 2 + 1 : Nat) : Int) + 1 = ((i : Int) * 2 + 1) + 1 by omega, show ((i * 2 : Nat) : Int) + 1 = (i : Int) * 2 + 1 by omega] at H2
      rw [show ((i * 2 : Nat) : Int) + 1 = (i : Int) * 2 + 1 by omega] at hu2 hf2
      obtain ⟨M, hM⟩ : ∃ M : Int, M = (i : Int) * 2 + 1 := ⟨_, rfl⟩
      have hM1 : 1 ≤ M := by omega
      have hM2 : M ≤ 201 := by omega
      have HM := Lib.hid hM
      rw [← hM] at H2 hu2 hf2 ⊢
      clear hM
      have e1 : wrap64 (M + 1) = M + 1 := by unfold wrap64; omega
      have e2 : wrap64 (M + 1 + 1) = M + 1 + 1 := by unfold wrap64; omega
      go_wp2_with fail
      refine wp_loop_rounds 3 ?_
      rw [rounds_succ]
      go_wp2_with fail
      generalize hW1 : (World.setCell _ _ _ : World) = W1 at hu2 hf2 H2 ⊢
      try rw [rounds_succ]
      go_wp2_with fail
      generalize hW2 : (World.setCell _ _ _ : World) = W2 at H2 ⊢
      clear hW1 hW2 hu hf hu2 hf2
      try rw [rounds_succ]
      go_wp2_with fail
      go_roundw
      case rel => exact ⟨i + 1, by omega, by have := HM.out; simp; omega, by go_num, by rw [show (i + 1) * 2 = i * 2 + 1 + 1 by omega]; exact H2⟩
      case measure => simp [intOf]; omega
    · obtain rfl : i = n := by omega
      go_wp2_with fail
      go_ret
      exact ⟨rfl, HS.out.1, HS.out.2⟩
theorem held_cells (g cap B n : Nat) (xs : List Value) (hn : n ≤ 100) (w : World) (hx : xs.length = n * 2) (hown : w.ownsRow B 47 2 (.slice (some ⟨g, 0, none⟩) n cap) n (mks xs (n * 2))) : Calls Try.prog 27 #[.slice (some ⟨g, 0, none⟩) n cap, .int .i64 1] w fun e w' => e = .returned (.int .i64 ((n : Int) * 2 + 1)) ∧ w' = w := by
  have HO := Lib.hid hown
  clear hown
  go_enter Try.func27, Try.ntmps27
  go_wp2_with fail
  go_loopw [1, 5] (fun a b wr => ∃ i : Nat, i ≤ n ∧ a = .int .i64 ((i : Int) * 2 + 1) ∧ b = .int .i64 i ∧ wr = w) (fun _ b _ => n - (intOf b).toNat)
  case atStart => exact ⟨0, Nat.zero_le _, rfl, rfl, rfl⟩
  case round =>
    obtain ⟨i, hi, rfl, rfl, rfl⟩ := hrel
    by_cases hlt : i < n
    · have hlt' : (i : Int) < n := by omega
      have hi0 : (0 : Int) ≤ i := by omega
      have c0 := own_at HO.out (mks_at xs (show i * 2 < n * 2 by omega))
      have c1 := own_at HO.out (mks_at xs (show i * 2 + 1 < n * 2 by omega))
      rw [show ((i * 2 + 1 : Nat) : Int) + 1 = ((i : Int) * 2 + 1) + 1 by omega] at c1
      rw [show ((i * 2 : Nat) : Int) + 1 = (i : Int) * 2 + 1 by omega] at c0
      obtain ⟨M, hM⟩ : ∃ M : Int, M = (i : Int) * 2 + 1 := ⟨_, rfl⟩
      have hM1 : 1 ≤ M := by omega
      have hM2 : M ≤ 201 := by omega
      have HM := Lib.hid hM
      rw [← hM] at c0 c1 ⊢
      clear hM HO
      have e1 : wrap64 (M + 1) = M + 1 := by unfold wrap64; omega
      have e2 : wrap64 (M + 1 + 1) = M + 1 + 1 := by unfold wrap64; omega
      go_wp2_with fail
      refine wp_loop_rounds 3 ?_
      rw [rounds_succ]
      go_wp2_with fail
      try rw [rounds_succ]
      try go_wp2_with fail
      try rw [rounds_succ]
      try go_wp2_with fail
      go_roundw
      case rel => exact ⟨i + 1, by omega, by have := HM.out; simp; omega, by go_num, by first | rfl | trivial⟩
      case measure => simp [intOf]; omega
    · obtain rfl : i = n := by omega
      go_wp2_with fail
      go_ret
      exact ⟨rfl, rfl⟩
end Go.Proofs.Ytkjaaaefcmpokaa
