/- CONTRACTS: the laws' comparison, marks and check of a slice of motions. -/
import Derived.Test.YtpgfmigbjffemaaKd
import Derived.Test.YtpgfmigbjffemaaNn
import Derived.Test.YtpgfmigbjffemaaCo
import Derived.WalkKit
import Derived.ProofKit
import Derived.OpenShut
import Derived.Lib.Hide
import Derived.WalkSpells
import Derived.Below
import Derived.BigQuiet
import Derived.LoopN
namespace Go.Proofs.Ytpgfmigbjffemaa
open Go.ChangeShapes Go.WideShapes Go.ChangeAt Go.RowKit
set_option linter.unusedVariables false
set_option maxHeartbeats 4000000 in
theorem eqmot_same (l : List (Nat × Nat × Nat)) (hl : l.length ≤ 600) (B C g1 c1 g2 c2 : Nat) (w : World) (h1 : w.ownsRow B 67 3 (.slice (some ⟨g1, 0, none⟩) l.length c1) l.length (tv l)) (h2 : w.ownsRow C 67 3 (.slice (some ⟨g2, 0, none⟩) l.length c2) l.length (tv l)) : Calls Try.prog 84 #[.slice (some ⟨g1, 0, none⟩) l.length c1, .slice (some ⟨g2, 0, none⟩) l.length c2] w fun e w' => e = .returned (.bool true) ∧ Below w.heap.size w w' := by
  have H1 := Lib.hid h1
  have H2 := Lib.hid h2
  clear h1 h2
  go_enter Try.func84, Try.ntmps84
  go_wp2_with fail
  go_loopw [5] (fun i wr => ∃ k : Nat, k ≤ l.length ∧ i = .int .i64 k ∧ Hid (Below w.heap.size w wr)) (fun i _ => l.length - (intOf i).toNat)
  case atStart => exact ⟨0, by omega, rfl, Lib.hid (Below.refl _ _)⟩
  case round =>
    obtain ⟨k, hk, rfl, HB⟩ := hrel
    by_cases hlt : k < l.length
    · have hlt' : (k : Int) < l.length := by omega
      have hk0 : (0 : Int) ≤ k := by omega
      have hk2 : k ≤ 600 := by omega
      have O1 := H1.out.kept (grown_below HB.out rfl) (.inr (by simp [Value.ownBlock]))
      have O2 := H2.out.kept (grown_below HB.out rfl) (.inr (by simp [Value.ownBlock]))
      obtain ⟨p1, p2, p3⟩ := tv_at l k hlt
      have a1 := own_at O1 p1
      have a2 := own_at O1 p2
      have a3 := own_at O1 p3
      have b1 := own_at O2 p1
      have b2 := own_at O2 p2
      have b3 := own_at O2 p3
      clear O1 O2 p1 p2 p3
      generalize (l[k].1 : Int) = X at a1 b1
      generalize (l[k].2.1 : Int) = Y at a2 b2
      generalize (l[k].2.2 : Int) = Z at a3 b3
      have HE := Lib.hid (eq3_same X Y Z)
      have k0 : (fun U => U.cell? ⟨g1, k * 3, none⟩ = some (.int .i64 X) ∧ U.cell? ⟨g1, k * 3 + 1, none⟩ = some (.int .i64 Y) ∧ U.cell? ⟨g1, k * 3 + 2, none⟩ = some (.int .i64 Z) ∧ U.cell? ⟨g2, k * 3, none⟩ = some (.int .i64 X) ∧ U.cell? ⟨g2, k * 3 + 1, none⟩ = some (.int .i64 Y) ∧ U.cell? ⟨g2, k * 3 + 2, none⟩ = some (.int .i64 Z) ∧ Below w.heap.size w U) wr := ⟨a1, a2, a3, b1, b2, b3, HB.out⟩
      dsimp only at k0
      clear a1 a2 a3 b1 b2 b3
      go_wp2_with fail
      go_region_held3 (fun U => U.cell? ⟨g1, k * 3, none⟩ = some (.int .i64 X) ∧ U.cell? ⟨g1, k * 3 + 1, none⟩ = some (.int .i64 Y) ∧ U.cell? ⟨g1, k * 3 + 2, none⟩ = some (.int .i64 Z) ∧ U.cell? ⟨g2, k * 3, none⟩ = some (.int .i64 X) ∧ U.cell? ⟨g2, k * 3 + 1, none⟩ = some (.int .i64 Y) ∧ U.cell? ⟨g2, k * 3 + 2, none⟩ = some (.int .i64 Z) ∧ Below w.heap.size w U) (first | with_reducible exact drewc6 k0 | with_reducible assumption) (first | (go_at_call 71; with_reducible refine (HE.out _).mono ?_; rintro e w' ⟨rfl, hb'⟩; have hk := keepc6 (by with_reducible assumption) hb' rfl))
      all_goals
        have HB2 := Lib.hid hk.2.2.2.2.2.2
        clear hk k0 HB
        go_wp2_with fail
        go_roundw
        case rel => exact ⟨k + 1, by omega, by go_num, HB2⟩
        case measure => simp [intOf]; omega
    · obtain rfl : k = l.length := by omega
      go_wp2_with fail
      go_ret
      exact ⟨rfl, HB.out⟩
theorem own_store3 {W : World} {B g n cap i : Nat} {xs : List Value} (h : W.ownsRow B 67 3 (.slice (some ⟨g, 0, none⟩) n cap) n (mks xs i)) (hx : xs.length = n * 3) (hi : i < n * 3) : (∃ u, W.cell? ⟨g, i, none⟩ = some u) ∧ W.frozen? ⟨g, i, none⟩ = false ∧ (W.setCell ⟨g, i, none⟩ (.int .i64 ((i : Int) + 1))).ownsRow B 67 3 (.slice (some ⟨g, 0, none⟩) n cap) n (mks xs (i + 1)) ∧ W.grownBy (W.setCell ⟨g, i, none⟩ (.int .i64 ((i : Int) + 1))) (some g) := by
  have hs := h.stored i (.int .i64 ((i : Int) + 1))
  rw [mks_set (by omega)] at hs
  refine ⟨⟨(mks xs i)[i]'(by rw [mks_len xs (by omega)]; omega), ?_⟩, h.frozenAt i, hs.1, hs.2⟩
  rw [h.cellAt i hi]
  exact List.getElem?_eq_getElem _
set_option maxHeartbeats 4000000 in
theorem mark_mots (g cap B n : Nat) (xs : List Value) (hn : n ≤ 600) (w : World) (hown : w.ownsRow B 67 3 (.slice (some ⟨g, 0, none⟩) n cap) n xs) : Calls Try.prog 85 #[.slice (some ⟨g, 0, none⟩) n cap, .int .i64 1] w fun e w' => e = .returned (.int .i64 ((n : Int) * 3 + 1)) ∧ w'.ownsRow B 67 3 (.slice (some ⟨g, 0, none⟩) n cap) n (mks xs (n * 3)) ∧ w.grownBy w' (some g) := by
  have HO := Lib.hid hown
  have hx : xs.length = n * 3 := hown.1
  clear hown
  go_enter Try.func85, Try.ntmps85
  go_wp2_with fail
  go_loopw [1, 5] (fun a b wr => ∃ i : Nat, i ≤ n ∧ a = .int .i64 ((i : Int) * 3 + 1) ∧ b = .int .i64 i ∧ Hid (wr.ownsRow B 67 3 (.slice (some ⟨g, 0, none⟩) n cap) n (mks xs (i * 3)) ∧ w.grownBy wr (some g))) (fun _ b _ => n - (intOf b).toNat)
  case atStart => exact ⟨0, Nat.zero_le _, rfl, rfl, Lib.hid ⟨by rw [Nat.zero_mul, mks_zero]; exact HO.out, ⟨rfl, rfl, rfl, Nat.le_refl _, fun _ _ _ => rfl⟩⟩⟩
  case round =>
    obtain ⟨i, hi, rfl, rfl, HS⟩ := hrel
    by_cases hlt : i < n
    · have hlt' : (i : Int) < n := by omega
      have hi0 : (0 : Int) ≤ i := by omega
      obtain ⟨⟨u, hu⟩, hf, hs⟩ := own_store3 HS.out.1 hx (show i * 3 < n * 3 by omega)
      have H1 := Lib.hid (show _ ∧ w.grownBy _ (some g) from ⟨hs.1, gtr HS.out.2 hs.2⟩)
      obtain ⟨⟨u2, hu2⟩, hf2, hs2⟩ := own_store3 H1.out.1 hx (show i * 3 + 1 < n * 3 by omega)
      have H2 := Lib.hid (show _ ∧ w.grownBy _ (some g) from ⟨hs2.1, gtr H1.out.2 hs2.2⟩)
      obtain ⟨⟨u3, hu3⟩, hf3, hs3⟩ := own_store3 H2.out.1 hx (show i * 3 + 1 + 1 < n * 3 by omega)
      have H3 := Lib.hid (show _ ∧ w.grownBy _ (some g) from ⟨hs3.1, gtr H2.out.2 hs3.2⟩)
      clear hs hs2 hs3 HO H1 H2 HS
      rw [show ((i * 3 + 1 + 1 : Nat) : Int) + 1 = ((i : Int) * 3 + 1) + 1 + 1 by omega, show ((i * 3 + 1 : Nat) : Int) + 1 = ((i : Int) * 3 + 1) + 1 by omega, show ((i * 3 : Nat) : Int) + 1 = (i : Int) * 3 + 1 by omega] at H3
      rw [show ((i * 3 + 1 : Nat) : Int) + 1 = ((i : Int) * 3 + 1) + 1 by omega, show ((i * 3 : Nat) : Int) + 1 = (i : Int) * 3 + 1 by omega] at hu3 hf3
      rw [show ((i * 3 : Nat) : Int) + 1 = (i : Int) * 3 + 1 by omega] at hu2 hf2
      obtain ⟨M, hM⟩ : ∃ M : Int, M = (i : Int) * 3 + 1 := ⟨_, rfl⟩
      have hM1 : 1 ≤ M := by omega
      have hM2 : M ≤ 1801 := by omega
      have HM := Lib.hid hM
      rw [← hM] at H3 hu2 hf2 hu3 hf3 ⊢
      clear hM
      have e1 : wrap64 (M + 1) = M + 1 := by unfold wrap64; omega
      have e2 : wrap64 (M + 1 + 1) = M + 1 + 1 := by unfold wrap64; omega
      have e3 : wrap64 (M + 1 + 1 + 1) = M + 1 + 1 + 1 := by unfold wrap64; omega
      go_wp2_with fail
      refine wp_loop_rounds 4 ?_
      rw [rounds_succ]
      go_wp2_with fail
      generalize hW1 : (World.setCell _ _ _ : World) = W1 at hu2 hf2 hu3 hf3 H3 ⊢
      try rw [rounds_succ]
      go_wp2_with fail
      generalize hW2 : (World.setCell _ _ _ : World) = W2 at hu3 hf3 H3 ⊢
      try rw [rounds_succ]
      go_wp2_with fail
      generalize hW3 : (World.setCell _ _ _ : World) = W3 at H3 ⊢
      clear hW1 hW2 hW3 hu hf hu2 hf2 hu3 hf3
      try rw [rounds_succ]
      go_wp2_with fail
      go_roundw
      case rel => exact ⟨i + 1, by omega, by have := HM.out; simp; omega, by go_num, by rw [show (i + 1) * 3 = i * 3 + 1 + 1 + 1 by omega]; exact H3⟩
      case measure => simp [intOf]; omega
    · obtain rfl : i = n := by omega
      go_wp2_with fail
      go_ret
      exact ⟨rfl, HS.out.1, HS.out.2⟩
theorem held_mots (g cap B n : Nat) (xs : List Value) (hn : n ≤ 600) (w : World) (hx : xs.length = n * 3) (hown : w.ownsRow B 67 3 (.slice (some ⟨g, 0, none⟩) n cap) n (mks xs (n * 3))) : Calls Try.prog 86 #[.slice (some ⟨g, 0, none⟩) n cap, .int .i64 1] w fun e w' => e = .returned (.int .i64 ((n : Int) * 3 + 1)) ∧ w' = w := by
  have HO := Lib.hid hown
  clear hown
  go_enter Try.func86, Try.ntmps86
  go_wp2_with fail
  go_loopw [1, 5] (fun a b wr => ∃ i : Nat, i ≤ n ∧ a = .int .i64 ((i : Int) * 3 + 1) ∧ b = .int .i64 i ∧ wr = w) (fun _ b _ => n - (intOf b).toNat)
  case atStart => exact ⟨0, Nat.zero_le _, rfl, rfl, rfl⟩
  case round =>
    obtain ⟨i, hi, rfl, rfl, rfl⟩ := hrel
    by_cases hlt : i < n
    · have hlt' : (i : Int) < n := by omega
      have hi0 : (0 : Int) ≤ i := by omega
      have c0 := own_at HO.out (mks_at xs (show i * 3 < n * 3 by omega))
      have c1 := own_at HO.out (mks_at xs (show i * 3 + 1 < n * 3 by omega))
      have c2 := own_at HO.out (mks_at xs (show i * 3 + 1 + 1 < n * 3 by omega))
      rw [show ((i * 3 + 1 + 1 : Nat) : Int) + 1 = ((i : Int) * 3 + 1) + 1 + 1 by omega] at c2
      rw [show ((i * 3 + 1 : Nat) : Int) + 1 = ((i : Int) * 3 + 1) + 1 by omega] at c1
      rw [show ((i * 3 : Nat) : Int) + 1 = (i : Int) * 3 + 1 by omega] at c0
      obtain ⟨M, hM⟩ : ∃ M : Int, M = (i : Int) * 3 + 1 := ⟨_, rfl⟩
      have hM1 : 1 ≤ M := by omega
      have hM2 : M ≤ 1801 := by omega
      have HM := Lib.hid hM
      rw [← hM] at c0 c1 c2 ⊢
      clear hM HO
      have e1 : wrap64 (M + 1) = M + 1 := by unfold wrap64; omega
      have e2 : wrap64 (M + 1 + 1) = M + 1 + 1 := by unfold wrap64; omega
      have e3 : wrap64 (M + 1 + 1 + 1) = M + 1 + 1 + 1 := by unfold wrap64; omega
      go_wp2_with fail
      refine wp_loop_rounds 4 ?_
      rw [rounds_succ]
      go_wp2_with fail
      try rw [rounds_succ]
      try go_wp2_with fail
      try rw [rounds_succ]
      try go_wp2_with fail
      try rw [rounds_succ]
      try go_wp2_with fail
      go_roundw
      case rel => exact ⟨i + 1, by omega, by have := HM.out; simp; omega, by go_num, by first | rfl | trivial⟩
      case measure => simp [intOf]; omega
    · obtain rfl : i = n := by omega
      go_wp2_with fail
      go_ret
      exact ⟨rfl, rfl⟩
end Go.Proofs.Ytpgfmigbjffemaa
