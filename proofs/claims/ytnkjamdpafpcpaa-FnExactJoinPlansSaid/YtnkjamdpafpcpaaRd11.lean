/- CONTRACTS: marks on a plan, and their check. -/
import Derived.Test.YtnkjamdpafpcpaaRc11
import Derived.WalkKit
import Derived.ProofKit
import Derived.OpenShut
import Derived.Lib.Hide
import Derived.WalkSpells
import Derived.Below
import Derived.BigQuiet
import Derived.LoopN
namespace Go.Proofs.Ytnkjamdpafpcpaa
open Go.ChangeShapes Go.WideShapes Go.ChangeAt Go.RowKit
set_option linter.unusedVariables false
/-- A plan's rows that are marked. -/
def Mp11 (lo hi : Nat) (v1 v2 : Value) (l : List H11) (st : List S11) (U : World) : Prop := U.ownsRow lo 28 6 v1 l.length (mk11 1 (hv11 l) (l.length * 6)) ∧ U.ownsRow lo 73 4 v2 st.length (mk11 (1 + ((l.length * 6 : Nat) : Int)) (sv11 st) (st.length * 4)) ∧ (∀ k, v1.ownBlock = some k → k < hi) ∧ (∀ k, v2.ownBlock = some k → k < hi) ∧ (∀ k, v1.ownBlock = some k → v2.ownBlock ≠ some k)
theorem Mp11.st {lo hi : Nat} {v1 v2 : Value} {l : List H11} {st : List S11} (U V : World) (hs : SameIn lo hi U V) (h : Mp11 lo hi v1 v2 l st U) : Mp11 lo hi v1 v2 l st V :=
  ⟨own_same h.1 hs (fun k hk => ⟨(h.1.lt k hk).1, h.2.2.1 k hk⟩), own_same h.2.1 hs (fun k hk => ⟨(h.2.1.lt k hk).1, h.2.2.2.1 k hk⟩), h.2.2⟩
theorem marksheets_any11 (v : Value) (B n : Nat) (xs : List Value) (K : Int) (hn : n ≤ 1048576) (hK : 1 ≤ K ∧ K ≤ 16777216) (w : World) (h : w.ownsRow B 28 6 v n xs) : Calls Try.prog 128 #[v, .int .i64 K] w fun e w' => e = .returned (.int .i64 (K + ((n * 6 : Nat) : Int))) ∧ w'.ownsRow B 28 6 v n (mk11 K xs (n * 6)) ∧ w.grownBy w' v.ownBlock := by
  rcases h.2 with ⟨rfl, rfl⟩ | ⟨g, cap, cur, rfl, _⟩
  · refine (mark_Sheet11_zero none 0 K w).mono ?_
    rintro e w' ⟨rfl, rfl⟩
    exact ⟨by simp, by rw [Nat.zero_mul, mk11_zero]; exact h, ⟨rfl, rfl, rfl, Nat.le_refl _, fun _ _ _ => rfl⟩⟩
  · exact mark_sheets11 g cap B n xs K hn hK w h
theorem marksteps_any11 (v : Value) (B n : Nat) (xs : List Value) (K : Int) (hn : n ≤ 1048576) (hK : 1 ≤ K ∧ K ≤ 16777216) (w : World) (h : w.ownsRow B 73 4 v n xs) : Calls Try.prog 129 #[v, .int .i64 K] w fun e w' => e = .returned (.int .i64 (K + ((n * 4 : Nat) : Int))) ∧ w'.ownsRow B 73 4 v n (mk11 K xs (n * 4)) ∧ w.grownBy w' v.ownBlock := by
  rcases h.2 with ⟨rfl, rfl⟩ | ⟨g, cap, cur, rfl, _⟩
  · refine (mark_Step11_zero none 0 K w).mono ?_
    rintro e w' ⟨rfl, rfl⟩
    exact ⟨by simp, by rw [Nat.zero_mul, mk11_zero]; exact h, ⟨rfl, rfl, rfl, Nat.le_refl _, fun _ _ _ => rfl⟩⟩
  · exact mark_steps11 g cap B n xs K hn hK w h
theorem heldsheets_any11 (v : Value) (B n : Nat) (xs : List Value) (K : Int) (hx : xs.length = n * 6) (hn : n ≤ 1048576) (hK : 1 ≤ K ∧ K ≤ 16777216) (w : World) (h : w.ownsRow B 28 6 v n (mk11 K xs (n * 6))) : Calls Try.prog 130 #[v, .int .i64 K] w fun e w' => e = .returned (.int .i64 (K + ((n * 6 : Nat) : Int))) ∧ w' = w := by
  rcases h.2 with ⟨rfl, rfl⟩ | ⟨g, cap, cur, rfl, _⟩
  · refine (held_Sheet11_zero none 0 K w).mono ?_
    rintro e w' ⟨rfl, rfl⟩
    exact ⟨by simp, rfl⟩
  · exact held_sheets11 g cap B n xs K hn hK w hx h
theorem heldsteps_any11 (v : Value) (B n : Nat) (xs : List Value) (K : Int) (hx : xs.length = n * 4) (hn : n ≤ 1048576) (hK : 1 ≤ K ∧ K ≤ 16777216) (w : World) (h : w.ownsRow B 73 4 v n (mk11 K xs (n * 4))) : Calls Try.prog 131 #[v, .int .i64 K] w fun e w' => e = .returned (.int .i64 (K + ((n * 4 : Nat) : Int))) ∧ w' = w := by
  rcases h.2 with ⟨rfl, rfl⟩ | ⟨g, cap, cur, rfl, _⟩
  · refine (held_Step11_zero none 0 K w).mono ?_
    rintro e w' ⟨rfl, rfl⟩
    exact ⟨by simp, rfl⟩
  · exact held_steps11 g cap B n xs K hn hK w hx h
set_option maxRecDepth 8000 in
set_option maxHeartbeats 1000000 in
theorem mark_plan11 (m0 m1 m2 m3 m4 m5 : Int) (v1 v2 : Value) (l : List H11) (st : List S11) (lo hi : Nat) (hz : l.length + st.length ≤ 1048576) (w : World) (hhi : hi ≤ w.heap.size) (hp : Pr11 lo hi v1 v2 l st w) : Calls Try.prog 39 #[.agg #[.int .i64 m0, .int .i64 m1, .int .i64 m2, .int .i64 m3, .int .i64 m4, .int .i64 m5, v1, v2], .int .i64 1] w fun e w' => e = .returned (.int .i64 (1 + ((l.length * 6 : Nat) : Int) + ((st.length * 4 : Nat) : Int))) ∧ Mp11 lo hi v1 v2 l st w' ∧ Onl11 lo hi w w' := by
  have H1 := Lib.hid (fun W h => marksheets_any11 v1 lo l.length (hv11 l) 1 (by omega) (by omega) W h)
  have H2 := Lib.hid (fun W h => marksteps_any11 v2 lo st.length (sv11 st) (1 + ((l.length * 6 : Nat) : Int)) (by omega) (by omega) W h)
  obtain ⟨M, hM⟩ : ∃ M : Int, M = 1 + ((l.length * 6 : Nat) : Int) := ⟨_, rfl⟩
  have HM := Lib.hid hM
  rw [← hM] at H1 H2
  rw [← hM]
  clear hM
  have HP := Lib.hid hp
  clear hp
  go_enter Try.func39, Try.ntmps39
  go_wp2_with fail
  generalize hW : (World.alloc _ _ : World) = W0
  have r0 : W0.heap[w.heap.size]? = some (.cells #[.int .i64 m0, .int .i64 m1, .int .i64 m2, .int .i64 m3, .int .i64 m4, .int .i64 m5, v1, v2] 62 (0, 0)) := by rw [← hW]; exact alloc_at rfl
  have hB0 : Below w.heap.size w W0 := by rw [← hW]; (repeat (first | exact Below.refl _ _ | assumption | refine Below.setCell ?_ (by first | (simp; done) | (simp; omega)) _ | refine Below.alloc ?_ (by first | (simp; done) | (simp; omega)) _ | refine Below.drew ?_))
  clear hW
  have hp0 := HP.out.st w W0 (fun k _ hk => hB0.block k (by omega))
  clear HP
  refine (H1.out _ hp0.1).mono ?_
  rintro e W1 ⟨rfl, ho, hg⟩
  have hl1 := fun k hk => hp0.1.lt k hk
  have o1 : Onl11 lo hi w W1 := (Onl11.of_below hB0 rfl).trans (Onl11.of_grown hg (fun k hk => ⟨(hl1 k hk).1, hp0.2.2.1 k hk⟩))
  have r1 : W1.heap[w.heap.size]? = some (.cells #[.int .i64 m0, .int .i64 m1, .int .i64 m2, .int .i64 m3, .int .i64 m4, .int .i64 m5, v1, v2] 62 (0, 0)) := by
    rw [hg.block w.heap.size ((Array.getElem?_eq_some_iff.1 r0).1) (fun e => by have := hp0.2.2.1 _ e.symm; omega)]
    exact r0
  have q2 : W1.ownsRow lo 73 4 v2 st.length (sv11 st) := hp0.2.1.kept hg (by
    cases hq : v2.ownBlock
    · exact .inl rfl
    · exact .inr (fun e => hp0.2.2.2.2 _ e.symm hq))
  have HT := Lib.hid hp0.2.2
  have HO1 := Lib.hid o1
  have HA := Lib.hid ho
  have a_c := fun j => cell_of_row W1 _ j _ _ _ r1
  clear r0 hB0 hp0 H1 hg hl1 o1 ho r1
  go_wp2_with fail
  refine (H2.out _ q2).mono ?_
  rintro e W2 ⟨rfl, ho2, hg2⟩
  have hl2 := fun k hk => q2.lt k hk
  have o2 : Onl11 lo hi w W2 := HO1.out.trans (Onl11.of_grown hg2 (fun k hk => ⟨(hl2 k hk).1, HT.out.2.1 k hk⟩))
  have q1 : W2.ownsRow lo 28 6 v1 l.length (mk11 1 (hv11 l) (l.length * 6)) := HA.out.kept hg2 (by
    cases hq : v1.ownBlock
    · exact .inl rfl
    · exact .inr (fun e => HT.out.2.2 _ hq e.symm))
  have HF := Lib.hid (show Mp11 lo hi v1 v2 l st W2 ∧ Onl11 lo hi w W2 from ⟨⟨q1, by rw [← HM.out]; exact ho2, HT.out⟩, o2⟩)
  clear a_c q2 ho2 hg2 hl2 o2 q1 HA HO1 H2
  go_wp2_with fail
  go_ret
  exact ⟨rfl, HF.out⟩
set_option maxRecDepth 8000 in
set_option maxHeartbeats 1000000 in
theorem held_plan11 (m0 m1 m2 m3 m4 m5 : Int) (v1 v2 : Value) (l : List H11) (st : List S11) (lo hi : Nat) (hz : l.length + st.length ≤ 1048576) (w : World) (hhi : hi ≤ w.heap.size) (hp : Mp11 lo hi v1 v2 l st w) : Calls Try.prog 40 #[.agg #[.int .i64 m0, .int .i64 m1, .int .i64 m2, .int .i64 m3, .int .i64 m4, .int .i64 m5, v1, v2], .int .i64 1] w fun e w' => e = .returned (.int .i64 (1 + ((l.length * 6 : Nat) : Int) + ((st.length * 4 : Nat) : Int))) ∧ Below w.heap.size w w' := by
  have H1 := Lib.hid (fun W h => heldsheets_any11 v1 lo l.length (hv11 l) 1 (hv11_len l) (by omega) (by omega) W h)
  have H2 := Lib.hid (fun W h => heldsteps_any11 v2 lo st.length (sv11 st) (1 + ((l.length * 6 : Nat) : Int)) (sv11_len st) (by omega) (by omega) W h)
  have hp1 := hp.1
  have hp2 := hp.2.1
  have hl1 := hp.2.2.1
  have hl2 := hp.2.2.2.1
  clear hp
  obtain ⟨M, hM⟩ : ∃ M : Int, M = 1 + ((l.length * 6 : Nat) : Int) := ⟨_, rfl⟩
  have hM1 : 1 ≤ M := by omega
  have hM2 : 1 ≤ M + ((st.length * 4 : Nat) : Int) := by omega
  rw [← hM] at H1 H2 hp2
  rw [← hM]
  clear hM
  obtain ⟨N, hN⟩ : ∃ N : Int, N = M + ((st.length * 4 : Nat) : Int) := ⟨_, rfl⟩
  rw [← hN] at H2 hM2
  rw [← hN]
  clear hN
  have HP1 := Lib.hid hp1
  have HP2 := Lib.hid hp2
  have c1 : ¬ M < 0 := by omega
  have c2 : ¬ N < 0 := by omega
  have HL1 := Lib.hid hl1
  have HL2 := Lib.hid hl2
  clear hp1 hp2 hl1 hl2
  go_enter Try.func40, Try.ntmps40
  go_wp2_with fail
  generalize hW : (World.alloc _ _ : World) = W0
  have r0 : W0.heap[w.heap.size]? = some (.cells #[.int .i64 m0, .int .i64 m1, .int .i64 m2, .int .i64 m3, .int .i64 m4, .int .i64 m5, v1, v2] 62 (0, 0)) := by rw [← hW]; exact alloc_at rfl
  have hB0 : Below w.heap.size w W0 := by rw [← hW]; (repeat (first | exact Below.refl _ _ | assumption | refine Below.setCell ?_ (by first | (simp; done) | (simp; omega)) _ | refine Below.alloc ?_ (by first | (simp; done) | (simp; omega)) _ | refine Below.drew ?_))
  clear hW
  have q1 := own_same (lo := lo) (hi := hi) HP1.out (fun k _ hk => hB0.block k (by omega)) (fun k hk => ⟨(HP1.out.lt k hk).1, HL1.out k hk⟩)
  have q2 := own_same (lo := lo) (hi := hi) HP2.out (fun k _ hk => hB0.block k (by omega)) (fun k hk => ⟨(HP2.out.lt k hk).1, HL2.out k hk⟩)
  refine (H1.out _ q1).mono ?_
  rintro e W1 ⟨rfl, hb⟩
  obtain rfl := hb.symm
  have a_c := fun j => cell_of_row W0 _ j _ _ _ r0
  clear q1 HP1 HP2 HL1 HL2 H1
  go_wp2_with fail
  refine (H2.out _ q2).mono ?_
  rintro e W1 ⟨rfl, hb⟩
  obtain rfl := hb.symm
  clear q2 H2
  go_wp2_with fail
  go_ret
  exact ⟨rfl, hB0⟩
def mp (lo hi : Nat) (v1 v2 : Value) (l : List H11) (st : List S11) : It := ⟨lo, hi, Mp11 lo hi v1 v2 l st, Mp11.st⟩
end Go.Proofs.Ytnkjamdpafpcpaa
