/- CONTRACTS: marks on rows of sheets and of steps, and their checks. -/
import Derived.Test.YtnkjamdpafpcpaaRt11
import Derived.WalkKit
import Derived.ProofKit
import Derived.OpenShut
import Derived.Lib.Hide
import Derived.WalkSpells
import Derived.Below
import Derived.BigQuiet
import Derived.LoopN
namespace Go.Proofs.Ytnkjamdpafpcpaa
open Go.ChangeShapes Go.WideShapes Go.ChangeAt Go.RowKit
set_option linter.unusedVariables false
/-- The first i cells marked from K on. -/
def mk11 (K : Int) (xs : List Value) (i : Nat) : List Value := (List.range i).map (fun j : Nat => Value.int .i64 (K + (j : Int))) ++ xs.drop i
theorem mk11_zero (K : Int) (xs : List Value) : mk11 K xs 0 = xs := by simp [mk11]
theorem mk11_set {K : Int} {xs : List Value} {i : Nat} (h : i < xs.length) : (mk11 K xs i).set i (.int .i64 (K + (i : Int))) = mk11 K xs (i + 1) := by
  unfold mk11
  rw [List.set_append_right _ _ (by simp), List.length_map, List.length_range, Nat.sub_self, List.drop_eq_getElem_cons h, List.set_cons_zero, List.range_succ, List.map_append, List.append_assoc]
  rfl
theorem mk11_at (K : Int) (xs : List Value) {i j : Nat} (h : j < i) : (mk11 K xs i)[j]? = some (.int .i64 (K + (j : Int))) := by
  unfold mk11
  rw [List.getElem?_append_left (by simpa using h)]
  simp [h]
theorem mk11_len (K : Int) (xs : List Value) {i : Nat} (h : i ≤ xs.length) : (mk11 K xs i).length = xs.length := by simp [mk11]; omega
theorem own_mk11 {W : World} {B g n cap i k : Nat} {K : Int} {e : TypeId} {xs : List Value} (h : W.ownsRow B e k (.slice (some ⟨g, 0, none⟩) n cap) n (mk11 K xs i)) (hx : xs.length = n * k) (hi : i < n * k) : (∃ u, W.cell? ⟨g, i, none⟩ = some u) ∧ W.frozen? ⟨g, i, none⟩ = false ∧ (W.setCell ⟨g, i, none⟩ (.int .i64 (K + (i : Int)))).ownsRow B e k (.slice (some ⟨g, 0, none⟩) n cap) n (mk11 K xs (i + 1)) ∧ W.grownBy (W.setCell ⟨g, i, none⟩ (.int .i64 (K + (i : Int)))) (some g) := by
  have hs := h.stored i (.int .i64 (K + (i : Int)))
  rw [mk11_set (by omega)] at hs
  refine ⟨⟨(mk11 K xs i)[i]'(by rw [mk11_len K xs (by omega)]; omega), ?_⟩, h.frozenAt i, hs.1, hs.2⟩
  rw [h.cellAt i hi]
  exact List.getElem?_eq_getElem _
theorem grr11 {W W' W2 : World} {g : Nat} (h : W.grownBy W' (some g)) (h' : W'.grownBy W2 (some g)) : W.grownBy W2 (some g) := ⟨h'.os.trans h.os, h'.tape.trans h.tape, h'.output.trans h.output, Nat.le_trans h.size h'.size, fun k hk hne => (h'.block k (Nat.lt_of_lt_of_le hk h.size) hne).trans (h.block k hk hne)⟩
/-- Midway in a marking. -/
def Mk11 (B : Nat) (e : TypeId) (k g n cap : Nat) (K : Int) (xs : List Value) (i : Nat) (w U : World) : Prop := U.ownsRow B e k (.slice (some ⟨g, 0, none⟩) n cap) n (mk11 K xs i) ∧ w.grownBy U (some g)
theorem Mk11.step {B k g n cap i : Nat} {e : TypeId} {K M : Int} {xs : List Value} {w U : World} (h : Mk11 B e k g n cap K xs i w U) (hx : xs.length = n * k) (hi : i < n * k) (hM : M = K + (i : Int)) : (∃ u, U.cell? ⟨g, i, none⟩ = some u) ∧ U.frozen? ⟨g, i, none⟩ = false ∧ Mk11 B e k g n cap K xs (i + 1) w (U.setCell ⟨g, i, none⟩ (.int .i64 M)) := by
  subst hM
  obtain ⟨h1, h2, h3, h4⟩ := own_mk11 h.1 hx hi
  exact ⟨h1, h2, h3, grr11 h.2 h4⟩
set_option maxHeartbeats 4000000 in
theorem mark_sheets11 (g cap B n : Nat) (xs : List Value) (K : Int) (hn : n ≤ 1048576) (hK : 1 ≤ K ∧ K ≤ 16777216) (w : World) (hown : w.ownsRow B 28 6 (.slice (some ⟨g, 0, none⟩) n cap) n xs) : Calls Try.prog 128 #[.slice (some ⟨g, 0, none⟩) n cap, .int .i64 K] w fun e w' => e = .returned (.int .i64 (K + ((n * 6 : Nat) : Int))) ∧ w'.ownsRow B 28 6 (.slice (some ⟨g, 0, none⟩) n cap) n (mk11 K xs (n * 6)) ∧ w.grownBy w' (some g) := by
  have HO := Lib.hid hown
  have hx : xs.length = n * 6 := hown.1
  clear hown
  go_enter Try.func128, Try.ntmps128
  go_wp2_with fail
  go_loopw [1, 5] (fun a b wr => ∃ i : Nat, i ≤ n ∧ a = .int .i64 (K + ((i * 6 : Nat) : Int)) ∧ b = .int .i64 i ∧ Hid (Mk11 B 28 6 g n cap K xs (i * 6) w wr)) (fun _ b _ => n - (intOf b).toNat)
  case atStart => exact ⟨0, Nat.zero_le _, by simp, rfl, Lib.hid ⟨by rw [Nat.zero_mul, mk11_zero]; exact HO.out, ⟨rfl, rfl, rfl, Nat.le_refl _, fun _ _ _ => rfl⟩⟩⟩
  case round =>
    obtain ⟨i, hi, rfl, rfl, HS⟩ := hrel
    by_cases hlt : i < n
    · have hlt' : (i : Int) < n := by omega
      have hi0 : (0 : Int) ≤ i := by omega
      clear HO
      go_wp2_with fail
      go_loopw [1, 6] (fun a c wr2 => ∃ j : Nat, j ≤ 6 ∧ a = .int .i64 (K + ((i * 6 + j : Nat) : Int)) ∧ c = .int .i64 j ∧ Hid (Mk11 B 28 6 g n cap K xs (i * 6 + j) w wr2)) (fun _ c _ => 6 - (intOf c).toNat)
      case atStart => exact ⟨0, by omega, by simp, rfl, HS⟩
      case round =>
        obtain ⟨j, hj, rfl, rfl, HS2⟩ := hrel
        by_cases hj6 : j < 6
        · have hj6' : (j : Int) < 6 := by omega
          have hj0 : (0 : Int) ≤ j := by omega
          obtain ⟨M, hM⟩ : ∃ M : Int, M = K + ((i * 6 + j : Nat) : Int) := ⟨_, rfl⟩
          obtain ⟨⟨u, hu⟩, hf, hs⟩ := HS2.out.step hx (show i * 6 + j < n * 6 by omega) hM
          have H1 := Lib.hid hs
          have hM1 : 1 ≤ M := by omega
          have hM2 : M ≤ 33554432 := by omega
          have HM := Lib.hid hM
          rw [← hM]
          clear hs HS HS2 hM
          have e1 : wrap64 (M + 1) = M + 1 := by unfold wrap64; omega
          go_wp2_with fail
          generalize hW1 : (World.setCell _ _ _ : World) = W1 at H1 ⊢
          clear hW1 hu hf
          go_roundw
          case rel => exact ⟨j + 1, by omega, by have := HM.out; simp; omega, by go_num, by rw [← Nat.add_assoc]; exact H1⟩
          case measure => simp [intOf]; omega
        · obtain rfl : j = 6 := by omega
          go_wp2_with fail
          go_roundw
          case rel => exact ⟨i + 1, by omega, by simp; omega, by go_num, by rw [show (i + 1) * 6 = i * 6 + 6 by omega]; exact HS2⟩
          case measure => simp [intOf]; omega
    · obtain rfl : i = n := by omega
      go_wp2_with fail
      go_ret
      exact ⟨rfl, HS.out.1, HS.out.2⟩
set_option maxHeartbeats 4000000 in
theorem held_sheets11 (g cap B n : Nat) (xs : List Value) (K : Int) (hn : n ≤ 1048576) (hK : 1 ≤ K ∧ K ≤ 16777216) (w : World) (hx : xs.length = n * 6) (hown : w.ownsRow B 28 6 (.slice (some ⟨g, 0, none⟩) n cap) n (mk11 K xs (n * 6))) : Calls Try.prog 130 #[.slice (some ⟨g, 0, none⟩) n cap, .int .i64 K] w fun e w' => e = .returned (.int .i64 (K + ((n * 6 : Nat) : Int))) ∧ w' = w := by
  have HO := Lib.hid hown
  clear hown
  go_enter Try.func130, Try.ntmps130
  go_wp2_with fail
  go_loopw [1, 5] (fun a b wr => ∃ i : Nat, i ≤ n ∧ a = .int .i64 (K + ((i * 6 : Nat) : Int)) ∧ b = .int .i64 i ∧ wr = w) (fun _ b _ => n - (intOf b).toNat)
  case atStart => exact ⟨0, Nat.zero_le _, by simp, rfl, rfl⟩
  case round =>
    obtain ⟨i, hi, rfl, rfl, rfl⟩ := hrel
    by_cases hlt : i < n
    · have hlt' : (i : Int) < n := by omega
      have hi0 : (0 : Int) ≤ i := by omega
      go_wp2_with fail
      go_loopw [1, 6] (fun a c wr2 => ∃ j : Nat, j ≤ 6 ∧ a = .int .i64 (K + ((i * 6 + j : Nat) : Int)) ∧ c = .int .i64 j ∧ wr2 = wr) (fun _ c _ => 6 - (intOf c).toNat)
      case atStart => exact ⟨0, by omega, by simp, rfl, rfl⟩
      case round =>
        obtain ⟨j, hj, rfl, rfl, rfl⟩ := hrel
        by_cases hj6 : j < 6
        · have hj6' : (j : Int) < 6 := by omega
          have hj0 : (0 : Int) ≤ j := by omega
          have c0 := own_at HO.out (mk11_at K xs (show i * 6 + j < n * 6 by omega))
          obtain ⟨M, hM⟩ : ∃ M : Int, M = K + ((i * 6 + j : Nat) : Int) := ⟨_, rfl⟩
          have hM1 : 1 ≤ M := by omega
          have hM2 : M ≤ 33554432 := by omega
          have HM := Lib.hid hM
          rw [← hM] at c0 ⊢
          clear hM
          have e1 : wrap64 (M + 1) = M + 1 := by unfold wrap64; omega
          go_wp2_with fail
          go_roundw
          case rel => exact ⟨j + 1, by omega, by have := HM.out; simp; omega, by go_num, by first | rfl | trivial⟩
          case measure => simp [intOf]; omega
        · obtain rfl : j = 6 := by omega
          go_wp2_with fail
          go_roundw
          case rel => exact ⟨i + 1, by omega, by simp; omega, by go_num, by first | rfl | trivial⟩
          case measure => simp [intOf]; omega
    · obtain rfl : i = n := by omega
      go_wp2_with fail
      go_ret
      exact ⟨rfl, rfl⟩
set_option maxHeartbeats 4000000 in
theorem mark_steps11 (g cap B n : Nat) (xs : List Value) (K : Int) (hn : n ≤ 1048576) (hK : 1 ≤ K ∧ K ≤ 16777216) (w : World) (hown : w.ownsRow B 73 4 (.slice (some ⟨g, 0, none⟩) n cap) n xs) : Calls Try.prog 129 #[.slice (some ⟨g, 0, none⟩) n cap, .int .i64 K] w fun e w' => e = .returned (.int .i64 (K + ((n * 4 : Nat) : Int))) ∧ w'.ownsRow B 73 4 (.slice (some ⟨g, 0, none⟩) n cap) n (mk11 K xs (n * 4)) ∧ w.grownBy w' (some g) := by
  have HO := Lib.hid hown
  have hx : xs.length = n * 4 := hown.1
  clear hown
  go_enter Try.func129, Try.ntmps129
  go_wp2_with fail
  go_loopw [1, 5] (fun a b wr => ∃ i : Nat, i ≤ n ∧ a = .int .i64 (K + ((i * 4 : Nat) : Int)) ∧ b = .int .i64 i ∧ Hid (Mk11 B 73 4 g n cap K xs (i * 4) w wr)) (fun _ b _ => n - (intOf b).toNat)
  case atStart => exact ⟨0, Nat.zero_le _, by simp, rfl, Lib.hid ⟨by rw [Nat.zero_mul, mk11_zero]; exact HO.out, ⟨rfl, rfl, rfl, Nat.le_refl _, fun _ _ _ => rfl⟩⟩⟩
  case round =>
    obtain ⟨i, hi, rfl, rfl, HS⟩ := hrel
    by_cases hlt : i < n
    · have hlt' : (i : Int) < n := by omega
      have hi0 : (0 : Int) ≤ i := by omega
      clear HO
      obtain ⟨M, hM⟩ : ∃ M : Int, M = K + ((i * 4 : Nat) : Int) := ⟨_, rfl⟩
      obtain ⟨⟨u, hu⟩, hf, hs⟩ := HS.out.step hx (show i * 4 < n * 4 by omega) hM
      obtain ⟨⟨u2, hu2⟩, hf2, hs2⟩ := hs.step (M := M + 1) hx (show i * 4 + 1 < n * 4 by omega) (by rw [hM]; simp; omega)
      have H1 := Lib.hid hs2
      have hM1 : 1 ≤ M := by omega
      have hM2 : M ≤ 33554432 := by omega
      have HM := Lib.hid hM
      rw [← hM]
      clear hs hs2 HS hM
      have e1 : wrap64 (M + 1) = M + 1 := by unfold wrap64; omega
      have e2 : wrap64 (M + 1 + 1) = M + 2 := by unfold wrap64; omega
      have hlt2 : decide ((0 : Int) < 2) = true := by decide
      have hU2 := Lib.hid hu2
      have hF2 := Lib.hid hf2
      go_wp2_with fail
      try rw [hlt2]
      clear hu hf hu2 hf2 hU2 hF2 hlt2
      generalize (World.setCell _ _ _ : World) = W1 at H1 ⊢
      go_loopw [1, 6] (fun a c wr2 => ∃ j : Nat, j ≤ 2 ∧ a = .int .i64 (M + 2 + j) ∧ c = .int .i64 j ∧ Hid (Mk11 B 73 4 g n cap K xs (i * 4 + 2 + j) w wr2)) (fun _ c _ => 2 - (intOf c).toNat)
      case atStart => exact ⟨0, by omega, by simp; omega, rfl, H1⟩
      case round =>
        obtain ⟨j, hj, rfl, rfl, HS2⟩ := hrel
        by_cases hj6 : j < 2
        · have hj6' : (j : Int) < 2 := by omega
          have hj0 : (0 : Int) ≤ j := by omega
          obtain ⟨N, hN⟩ : ∃ N : Int, N = M + 2 + (j : Int) := ⟨_, rfl⟩
          obtain ⟨⟨u, hu⟩, hf, hs⟩ := HS2.out.step (M := N) hx (show i * 4 + 2 + j < n * 4 by omega) (by rw [hN, HM.out]; simp; omega)
          have H1 := Lib.hid hs
          have hN1 : 1 ≤ N := by omega
          have hN2 : N ≤ 33554440 := by omega
          have HN := Lib.hid hN
          rw [← hN]
          clear hs HS2 hN
          have e1 : wrap64 (N + 1) = N + 1 := by unfold wrap64; omega
          go_wp2_with fail
          generalize hW1 : (World.setCell _ _ _ : World) = W1 at H1 ⊢
          clear hW1 hu hf
          go_roundw
          case rel => exact ⟨j + 1, by omega, by have := HN.out; simp; omega, by go_num, by rw [← Nat.add_assoc]; exact H1⟩
          case measure => simp [intOf]; omega
        · obtain rfl : j = 2 := by omega
          go_wp2_with fail
          go_roundw
          case rel => exact ⟨i + 1, by omega, by have := HM.out; simp; omega, by go_num, by rw [show (i + 1) * 4 = i * 4 + 2 + 2 by omega]; exact HS2⟩
          case measure => simp [intOf]; omega
    · obtain rfl : i = n := by omega
      go_wp2_with fail
      go_ret
      exact ⟨rfl, HS.out.1, HS.out.2⟩
set_option maxHeartbeats 4000000 in
theorem held_steps11 (g cap B n : Nat) (xs : List Value) (K : Int) (hn : n ≤ 1048576) (hK : 1 ≤ K ∧ K ≤ 16777216) (w : World) (hx : xs.length = n * 4) (hown : w.ownsRow B 73 4 (.slice (some ⟨g, 0, none⟩) n cap) n (mk11 K xs (n * 4))) : Calls Try.prog 131 #[.slice (some ⟨g, 0, none⟩) n cap, .int .i64 K] w fun e w' => e = .returned (.int .i64 (K + ((n * 4 : Nat) : Int))) ∧ w' = w := by
  have HO := Lib.hid hown
  clear hown
  go_enter Try.func131, Try.ntmps131
  go_wp2_with fail
  go_loopw [1, 5] (fun a b wr => ∃ i : Nat, i ≤ n ∧ a = .int .i64 (K + ((i * 4 : Nat) : Int)) ∧ b = .int .i64 i ∧ wr = w) (fun _ b _ => n - (intOf b).toNat)
  case atStart => exact ⟨0, Nat.zero_le _, by simp, rfl, rfl⟩
  case round =>
    obtain ⟨i, hi, rfl, rfl, rfl⟩ := hrel
    by_cases hlt : i < n
    · have hlt' : (i : Int) < n := by omega
      have hi0 : (0 : Int) ≤ i := by omega
      have c0 := own_at HO.out (mk11_at K xs (show i * 4 < n * 4 by omega))
      have c1 := own_at HO.out (mk11_at K xs (show i * 4 + 1 < n * 4 by omega))
      obtain ⟨M, hM⟩ : ∃ M : Int, M = K + ((i * 4 : Nat) : Int) := ⟨_, rfl⟩
      have hM1 : 1 ≤ M := by omega
      have hM2 : M ≤ 33554432 := by omega
      have HM := Lib.hid hM
      rw [show K + ((i * 4 + 1 : Nat) : Int) = M + 1 by rw [hM]; simp; omega] at c1
      rw [← hM] at c0 ⊢
      clear hM
      have e1 : wrap64 (M + 1) = M + 1 := by unfold wrap64; omega
      have e2 : wrap64 (M + 1 + 1) = M + 2 := by unfold wrap64; omega
      have hlt2 : decide ((0 : Int) < 2) = true := by decide
      go_wp2_with fail
      try rw [hlt2]
      clear c0 c1 hlt2
      go_loopw [1, 6] (fun a c wr2 => ∃ j : Nat, j ≤ 2 ∧ a = .int .i64 (M + 2 + j) ∧ c = .int .i64 j ∧ wr2 = wr) (fun _ c _ => 2 - (intOf c).toNat)
      case atStart => exact ⟨0, by omega, by simp; omega, rfl, rfl⟩
      case round =>
        obtain ⟨j, hj, rfl, rfl, rfl⟩ := hrel
        by_cases hj6 : j < 2
        · have hj6' : (j : Int) < 2 := by omega
          have hj0 : (0 : Int) ≤ j := by omega
          have c0 := own_at HO.out (mk11_at K xs (show i * 4 + 2 + j < n * 4 by omega))
          obtain ⟨N, hN⟩ : ∃ N : Int, N = M + 2 + (j : Int) := ⟨_, rfl⟩
          rw [show K + ((i * 4 + 2 + j : Nat) : Int) = N by rw [hN, HM.out]; simp; omega] at c0
          have hN1 : 1 ≤ N := by omega
          have hN2 : N ≤ 33554440 := by omega
          have HN := Lib.hid hN
          rw [← hN]
          clear hN
          have e1 : wrap64 (N + 1) = N + 1 := by unfold wrap64; omega
          go_wp2_with fail
          go_roundw
          case rel => exact ⟨j + 1, by omega, by have := HN.out; simp; omega, by go_num, by first | rfl | trivial⟩
          case measure => simp [intOf]; omega
        · obtain rfl : j = 2 := by omega
          go_wp2_with fail
          go_roundw
          case rel => exact ⟨i + 1, by omega, by have := HM.out; simp; omega, by go_num, by first | rfl | trivial⟩
          case measure => simp [intOf]; omega
    · obtain rfl : i = n := by omega
      go_wp2_with fail
      go_ret
      exact ⟨rfl, rfl⟩
theorem mark_Sheet11_zero (a : Option Addr) (c : Nat) (K : Int) (w : World) : Calls Try.prog 128 #[.slice a 0 c, .int .i64 K] w fun e w' => e = .returned (.int .i64 K) ∧ w' = w := by
  go_enter Try.func128, Try.ntmps128
  go_wp2_with fail
  refine wp_loop_rounds 1 ?_
  rw [rounds_succ]
  go_wp2_with fail
  go_ret
  exact ⟨rfl, rfl⟩
theorem mark_Step11_zero (a : Option Addr) (c : Nat) (K : Int) (w : World) : Calls Try.prog 129 #[.slice a 0 c, .int .i64 K] w fun e w' => e = .returned (.int .i64 K) ∧ w' = w := by
  go_enter Try.func129, Try.ntmps129
  go_wp2_with fail
  refine wp_loop_rounds 1 ?_
  rw [rounds_succ]
  go_wp2_with fail
  go_ret
  exact ⟨rfl, rfl⟩
theorem held_Sheet11_zero (a : Option Addr) (c : Nat) (K : Int) (w : World) : Calls Try.prog 130 #[.slice a 0 c, .int .i64 K] w fun e w' => e = .returned (.int .i64 K) ∧ w' = w := by
  go_enter Try.func130, Try.ntmps130
  go_wp2_with fail
  refine wp_loop_rounds 1 ?_
  rw [rounds_succ]
  go_wp2_with fail
  go_ret
  exact ⟨rfl, rfl⟩
theorem held_Step11_zero (a : Option Addr) (c : Nat) (K : Int) (w : World) : Calls Try.prog 131 #[.slice a 0 c, .int .i64 K] w fun e w' => e = .returned (.int .i64 K) ∧ w' = w := by
  go_enter Try.func131, Try.ntmps131
  go_wp2_with fail
  refine wp_loop_rounds 1 ?_
  rw [rounds_succ]
  go_wp2_with fail
  go_ret
  exact ⟨rfl, rfl⟩
end Go.Proofs.Ytnkjamdpafpcpaa
