/- CONTRACTS: the motions that keep a sheet, in the code. -/
import Derived.Test.YtkobgklpcpoglaaIo
import Derived.Test.YtkobgklpcpoglaaFs
import Derived.Test.YtkobgklpcpoglaaEq
import Derived.RegionTactic
import Derived.Deep.RegionHeld3
import Derived.WalkKit
import Derived.ProofKit
import Derived.OpenShut
import Derived.Lib.Hide
import Derived.WalkSpells
import Derived.Below
import Derived.BigQuiet
import Derived.LoopN
namespace Go.Proofs.Ytkobgklpcpoglaa
open Go.ChangeShapes Go.WideShapes Go.ChangeAt Go.RowKit
set_option linter.unusedVariables false
open Go.Maps
theorem mos68 : Mos (L1 6 8) := by
  have h : ∀ c ∈ L1 6 8, c.1 < 8 ∧ c.2.1 < 6 ∧ c.2.2 < 6 := by decide +kernel
  exact h
theorem len68 : (L1 6 8).length = 288 := L1_len 6 8
/-- Whether a motion keeps a sheet. -/
def kb (f : Nat → Nat → Bool) (c : Nat × Nat × Nat) : Bool := rowv (sf c.2.1 c.2.2 (tf c.1 f) 0) == rowv (f 0) && rowv (sf c.2.1 c.2.2 (tf c.1 f) 1) == rowv (f 1) && rowv (sf c.2.1 c.2.2 (tf c.1 f) 2) == rowv (f 2) && rowv (sf c.2.1 c.2.2 (tf c.1 f) 3) == rowv (f 3) && rowv (sf c.2.1 c.2.2 (tf c.1 f) 4) == rowv (f 4) && rowv (sf c.2.1 c.2.2 (tf c.1 f) 5) == rowv (f 5)
def ks (f : Nat → Nat → Bool) (l : List (Nat × Nat × Nat)) : List (Nat × Nat × Nat) := l.filter (kb f)
theorem ks_len (f : Nat → Nat → Bool) (l : List (Nat × Nat × Nat)) : (ks f l).length ≤ l.length := List.length_filter_le _ _
theorem ks_no {f : Nat → Nat → Bool} {l : List (Nat × Nat × Nat)} {i : Nat} (hi : i < l.length) (h : kb f l[i] = false) : ks f (l.take (i + 1)) = ks f (l.take i) := by
  rw [List.take_add_one, List.getElem?_eq_getElem hi]
  unfold ks
  rw [List.filter_append]
  simp only [Option.toList, List.filter, h]
  try simp
theorem ks_yes {f : Nat → Nat → Bool} {l : List (Nat × Nat × Nat)} {i : Nat} (hi : i < l.length) (h : kb f l[i] = true) : ks f (l.take (i + 1)) = ks f (l.take i) ++ [l[i]] := by
  rw [List.take_add_one, List.getElem?_eq_getElem hi]
  unfold ks
  rw [List.filter_append]
  simp only [Option.toList, List.filter, h]
  try simp
/-- Midway: the kept ones of the first i motions; the sheet, the motions' row and the map stand. -/
def Rk (w : World) (f : Nat → Nat → Bool) (l : List (Nat × Nat × Nat)) (g1 c1 b i : Nat) (v : Value) (W : World) : Prop :=
  ∃ gv cv, v = .slice (some ⟨gv, 0, none⟩) (ks f (l.take i)).length cv ∧ gv ≠ g1 ∧ gv ≠ b ∧ W.ownsRow (w.heap.size + 1) 62 3 v (ks f (l.take i)).length (tv (ks f (l.take i))) ∧ W.heap[w.heap.size]? = some (.cells #[.int .i64 (rowv (f 0)), .int .i64 (rowv (f 1)), .int .i64 (rowv (f 2)), .int .i64 (rowv (f 3)), .int .i64 (rowv (f 4)), .int .i64 (rowv (f 5))] 25 (0, 0)) ∧ W.ownsRow 0 62 3 (.slice (some ⟨g1, 0, none⟩) l.length c1) l.length (tv l) ∧ (∃ D : DataW Value, W.ownsMap Try.prog 62 RV b l.length D ∧ Imgs f l D) ∧ Below w.heap.size w W ∧ w.heap.size + 2 ≤ W.heap.size ∧ w.heap.size < g1
theorem Rk.below {w W W' : World} {f : Nat → Nat → Bool} {l : List (Nat × Nat × Nat)} {g1 c1 b i N : Nat} {v : Value} (h : Rk w f l g1 c1 b i v W) (hb : Below N W W') (hN : N = W.heap.size) : Rk w f l g1 c1 b i v W' := by
  obtain ⟨gv, cv, h1, h2, h3, h4, h5, h6, ⟨D, h7, h8⟩, h9, h10, h11⟩ := h
  exact ⟨gv, cv, h1, h2, h3, h4.kept (grown_below hb hN) (.inr (by rw [h1]; simp [Value.ownBlock])), rowk h5 hb hN, h6.kept (grown_below hb hN) (.inr (by simp [Value.ownBlock])), ⟨D, h7.kept (grown_below hb hN) (by simp), h8⟩, below_of h9 hb (by omega), Nat.le_trans h10 hb.size, h11⟩
theorem Rk.no {w W : World} {f : Nat → Nat → Bool} {l : List (Nat × Nat × Nat)} {g1 c1 b i : Nat} {v : Value} (h : Rk w f l g1 c1 b i v W) (hi : i < l.length) (hk : kb f l[i] = false) : Rk w f l g1 c1 b (i + 1) v W := by
  unfold Rk at h ⊢
  rw [ks_no hi hk]
  exact h
theorem Rk.yes {w W w1 : World} {f : Nat → Nat → Bool} {l : List (Nat × Nat × Nat)} {g1 c1 b i k x y : Nat} {v v' : Value} (h : Rk w f l g1 c1 b i v W) (hi : i < l.length) (hk : kb f l[i] = true) (hc : l[i] = (k, x, y)) (hown : w1.ownsRow (w.heap.size + 1) 62 3 v' ((ks f (l.take i)).length + 1) (tv (ks f (l.take i)) ++ [.int .i64 (k : Int), .int .i64 (x : Int), .int .i64 (y : Int)])) (hg : W.grownBy w1 v.ownBlock) (hn : v' = .slice none 0 0 ↔ v = .slice none 0 0 ∧ 1 = 0) (hloc : v'.ownBlock = v.ownBlock ∨ v'.ownBlock = some W.heap.size) : Rk w f l g1 c1 b (i + 1) v' w1 := by
  obtain ⟨gv, cv, h1, h2, h3, h4, h5, h6, ⟨D, h7, h8⟩, h9, h10, h11⟩ := h
  rcases hown.2 with ⟨e, _⟩ | ⟨g2, cap2, cur, e, hr⟩
  · exact absurd (hn.mp e).2 (by decide)
  · have el : (ks f (l.take (i + 1))).length = (ks f (l.take i)).length + 1 := by rw [ks_yes hi hk]; simp
    have ec : tv (ks f (l.take (i + 1))) = tv (ks f (l.take i)) ++ [.int .i64 (k : Int), .int .i64 (x : Int), .int .i64 (y : Int)] := by rw [ks_yes hi hk, hc, tv_snoc]
    have hlt := h4.lt
    have hg1 := (h6.lt g1 rfl).2
    have hb1 := h7.lt
    have hne : g2 ≠ g1 ∧ g2 ≠ b := by
      rw [e, h1] at hloc
      simp only [Value.ownBlock, Option.some.injEq] at hloc
      rcases hloc with rfl | rfl
      · exact ⟨h2, h3⟩
      · exact ⟨by omega, by omega⟩
    unfold Rk
    rw [el, ec]
    refine ⟨g2, cap2, e, hne.1, hne.2, hown, ?_, h6.kept hg (.inr (by rw [h1]; simp only [Value.ownBlock, ne_eq, Option.some.injEq]; omega)), ⟨D, h7.kept hg (by rw [h1]; simp only [Value.ownBlock, ne_eq, Option.some.injEq]; omega), h8⟩, h9.grown hg (by omega) (fun k hk => by have := (hlt k hk).1; omega), Nat.le_trans h10 hg.size, h11⟩
    rw [hg.block _ (by omega) (fun e2 => by have := (hlt _ e2.symm).1; omega)]
    exact h5
def KpPost (l : List (Nat × Nat × Nat)) (t : Bool) (w : World) (e : Ending) (w' : World) : Prop := ∃ g cap, e = .returned (.tuple #[.slice (some ⟨g, 0, none⟩) l.length cap, .bool t]) ∧ w'.ownsRow w.heap.size 62 3 (.slice (some ⟨g, 0, none⟩) l.length cap) l.length (tv l) ∧ Below w.heap.size w w'
set_option maxHeartbeats 4000000 in
theorem ikept_f (f : Nat → Nat → Bool) (w : World) : Calls Try.prog 101 #[.agg #[.int .i64 (rowv (f 0)), .int .i64 (rowv (f 1)), .int .i64 (rowv (f 2)), .int .i64 (rowv (f 3)), .int .i64 (rowv (f 4)), .int .i64 (rowv (f 5))]] w (KpPost (ks f (L1 6 8)) true w) := by
  obtain ⟨i0, hi, hz0, hz1, hz2⟩ := info_parts info67
  have HV := sh_ai _ _ _ _ _ _ (sh_of f)
  go_enter Try.func101, Try.ntmps101
  go_wp2_with fail
  have B0 := Lib.hid (show Below w.heap.size w ((w.alloc (.cells #[.int .i64 (rowv (f 0)), .int .i64 (rowv (f 1)), .int .i64 (rowv (f 2)), .int .i64 (rowv (f 3)), .int .i64 (rowv (f 4)), .int .i64 (rowv (f 5))] 25)).alloc (.cells #[] 62)) by (repeat (first | exact Below.refl _ _ | assumption | refine Below.setCell ?_ (by first | (simp; done) | (simp; omega)) _ | refine Below.alloc ?_ (by first | (simp; done) | (simp; omega)) _ | refine Below.drew ?_)))
  have Q0 := Lib.hid (show ((w.alloc (.cells #[.int .i64 (rowv (f 0)), .int .i64 (rowv (f 1)), .int .i64 (rowv (f 2)), .int .i64 (rowv (f 3)), .int .i64 (rowv (f 4)), .int .i64 (rowv (f 5))] 25)).alloc (.cells #[] 62)).heap[w.heap.size]? = some (.cells #[.int .i64 (rowv (f 0)), .int .i64 (rowv (f 1)), .int .i64 (rowv (f 2)), .int .i64 (rowv (f 3)), .int .i64 (rowv (f 4)), .int .i64 (rowv (f 5))] 25 (0, 0)) from alloc_past (alloc_at rfl))
  have O0 : Hid (((w.alloc (.cells #[.int .i64 (rowv (f 0)), .int .i64 (rowv (f 1)), .int .i64 (rowv (f 2)), .int .i64 (rowv (f 3)), .int .i64 (rowv (f 4)), .int .i64 (rowv (f 5))] 25)).alloc (.cells #[] 62)).ownsRow (w.heap.size + 1) 62 3 (.slice (some ⟨w.heap.size + 1, 0, none⟩) 0 0) 0 []) := Lib.hid (by
    have h := World.ownsRow_lit (base := w.heap.size + 1) (e := 62) (size := 3) (w.alloc (.cells #[.int .i64 (rowv (f 0)), .int .i64 (rowv (f 1)), .int .i64 (rowv (f 2)), .int .i64 (rowv (f 3)), .int .i64 (rowv (f 4)), .int .i64 (rowv (f 5))] 25)) #[] 0 (by simp) (by unfold maxLen; omega) rfl
    rw [show (w.alloc (.cells #[.int .i64 (rowv (f 0)), .int .i64 (rowv (f 1)), .int .i64 (rowv (f 2)), .int .i64 (rowv (f 3)), .int .i64 (rowv (f 4)), .int .i64 (rowv (f 5))] 25)).heap.size = w.heap.size + 1 by simp] at h
    exact h)
  have Z0 : Hid (w.heap.size + 2 ≤ ((w.alloc (.cells #[.int .i64 (rowv (f 0)), .int .i64 (rowv (f 1)), .int .i64 (rowv (f 2)), .int .i64 (rowv (f 3)), .int .i64 (rowv (f 4)), .int .i64 (rowv (f 5))] 25)).alloc (.cells #[] 62)).heap.size) := Lib.hid (by simp)
  refine (HV.out _).mono ?_
  rintro e W0 ⟨rfl, hb⟩
  have B1 := Lib.hid (below_of B0.out hb B0.out.size)
  have Q1 := Lib.hid (rowk Q0.out hb rfl)
  have O1 := Lib.hid (O0.out.kept (grown_below hb rfl) (.inr (by simp [Value.ownBlock])))
  have Z1 := Lib.hid (Nat.le_trans Z0.out hb.size)
  clear hb B0 Q0 O0 Z0 HV
  go_wp2_with fail
  refine (allmotions_f W0).mono ?_
  rintro e W1 ⟨g1, c1, rfl, ho, hge, hb⟩
  have B2 := Lib.hid (below_of B1.out hb B1.out.size)
  have Q2 := Lib.hid (rowk Q1.out hb rfl)
  have O2 := Lib.hid (O1.out.kept (grown_below hb rfl) (.inr (by simp [Value.ownBlock])))
  have M2 := Lib.hid ho
  have G2 := Lib.hid ((ho.lt g1 rfl).2)
  have Z2 := Lib.hid (Nat.le_trans Z1.out hb.size)
  have Y2 := Lib.hid (Nat.le_trans Z1.out hge)
  clear hb ho hge B1 Q1 O1 Z1
  have a_c := fun k => cell_of_row W1 _ k _ _ _ Q2.out
  go_wp2_with fail
  refine (images_f f (L1 6 8) mos68 (by rw [len68]; decide) W0.heap.size g1 c1 W1 G2.out M2.out).mono ?_
  rintro e W2 ⟨b, D, rfl, hbge, hmap, him, hb⟩
  have S0 : Hid (Rk w f (L1 6 8) g1 c1 b 0 (.slice (some ⟨w.heap.size + 1, 0, none⟩) 0 0) W2) := Lib.hid (by
    have y2 := Y2.out
    have z2 := Z2.out
    refine ⟨w.heap.size + 1, 0, rfl, by omega, by omega, O2.out.kept (grown_below hb rfl) (.inr (by simp [Value.ownBlock])), rowk Q2.out hb rfl, own_mono (M2.out.kept (grown_below hb rfl) (.inr (by simp [Value.ownBlock]))) (Nat.zero_le _), ⟨D, hmap, him⟩, below_of B2.out hb B2.out.size, Nat.le_trans z2 hb.size, by omega⟩)
  clear hb hmap him hbge B2 Q2 O2 M2 G2 Z2 Y2 a_c
  generalize hv0 : (Value.slice (some ⟨w.heap.size + 1, 0, none⟩) 0 0) = v0 at S0 ⊢
  clear hv0
  have hll : (L1 6 8).length ≤ 600 := by rw [len68]; decide
  have hmo := mos68
  obtain ⟨l, hl⟩ : ∃ l, l = L1 6 8 := ⟨_, rfl⟩
  rw [← hl] at S0 hll hmo ⊢
  have HL := Lib.hid hl
  have HM := Lib.hid hmo
  clear hl hmo
  go_wp2_with fail
  go_loopw [4, 20] (fun v c wr => ∃ i : Nat, i ≤ l.length ∧ c = .int .i64 i ∧ Hid (Rk w f l g1 c1 b i v wr)) (fun _ c _ => l.length - (intOf c).toNat)
  case atStart => exact ⟨0, by omega, rfl, S0⟩
  case round =>
    obtain ⟨i, hil, rfl, HS⟩ := hrel
    by_cases hlt : i < l.length
    · have hlt' : (i : Int) < l.length := by omega
      have hi0 : (0 : Int) ≤ i := by omega
      obtain ⟨m1, m2, m3⟩ := HM.out _ (List.getElem_mem hlt)
      have hlook : ∀ v W, Rk w f l g1 c1 b i v W → (Instr.lookup 152 (.map (some b)) (mkey (l[i]).1 (l[i]).2.1 (l[i]).2.2) false).run Try.prog W = .ok (img f l[i]) W := fun v W h => by
        obtain ⟨_, _, _, _, _, _, _, _, ⟨D, h7, h8⟩, _, _, _⟩ := h
        exact look_img h7 h8 (List.getElem_mem hlt) m1 m2 m3
      obtain ⟨gv, cv, rfl, n1, n2, h4, h5, h6, h7, h9, h10, h11⟩ := HS.out
      obtain ⟨p1, p2, p3⟩ := tv_at l i hlt
      have a1 := own_at h6 p1
      have a2 := own_at h6 p2
      have a3 := own_at h6 p3
      have hsz := h10
      clear h4 h5 h6 h7 h9 h10 h11 n1 n2 p1 p2 p3 m1 m2 m3
      obtain ⟨ck, cx, cy, hc⟩ : ∃ a b d, l[i] = (a, b, d) := ⟨_, _, _, rfl⟩
      rw [hc] at a1 a2 a3 hlook
      simp only [mkey, img] at a1 a2 a3 hlook
      have HC := Lib.hid hc
      have HK := Lib.hid hlook
      clear hlook hc
      go_wp2_with fail
      have HA := Lib.hid (HS.out.below (N := wr.heap.size) ((Below.refl _ _).alloc (Nat.le_refl _) (.cells #[.int .i64 (ck : Int), .int .i64 (cx : Int), .int .i64 (cy : Int)] 62)) rfl)
      have hq : (wr.alloc (.cells #[.int .i64 (ck : Int), .int .i64 (cx : Int), .int .i64 (cy : Int)] 62)).heap[wr.heap.size]? = some (.cells #[.int .i64 (ck : Int), .int .i64 (cx : Int), .int .i64 (cy : Int)] 62 (0, 0)) := alloc_at rfl
      clear a1 a2 a3 HS
      generalize (World.alloc _ _ : World) = W1 at HA hq ⊢
      generalize wr.heap.size = gc at hq hsz ⊢
      have HD := Lib.hid (HA.out.below (N := W1.heap.size) (Below.refl _ _).drew rfl)
      have e1 := HK.out _ _ HA.out
      have e2 := HK.out _ _ HD.out
      have hq2 : W1.drew.heap[gc]? = some (.cells #[.int .i64 (ck : Int), .int .i64 (cx : Int), .int .i64 (cy : Int)] 62 (0, 0)) := hq
      have q0 : W1.cell? ⟨gc, 0, none⟩ = some (.int .i64 (ck : Int)) := cell_of_row W1 _ 0 _ _ _ hq
      have q1 : W1.cell? ⟨gc, 1, none⟩ = some (.int .i64 (cx : Int)) := cell_of_row W1 _ 1 _ _ _ hq
      have q2 : W1.cell? ⟨gc, 2, none⟩ = some (.int .i64 (cy : Int)) := cell_of_row W1 _ 2 _ _ _ hq
      obtain ⟨_, _, _, _, _, _, hs, _⟩ := HA.out
      have s0 : W1.cell? ⟨w.heap.size, 0, none⟩ = some (.int .i64 (rowv (f 0))) := cell_of_row W1 _ 0 _ _ _ hs
      have s1 : W1.cell? ⟨w.heap.size, 1, none⟩ = some (.int .i64 (rowv (f 1))) := cell_of_row W1 _ 1 _ _ _ hs
      have s2 : W1.cell? ⟨w.heap.size, 2, none⟩ = some (.int .i64 (rowv (f 2))) := cell_of_row W1 _ 2 _ _ _ hs
      have s3 : W1.cell? ⟨w.heap.size, 3, none⟩ = some (.int .i64 (rowv (f 3))) := cell_of_row W1 _ 3 _ _ _ hs
      have s4 : W1.cell? ⟨w.heap.size, 4, none⟩ = some (.int .i64 (rowv (f 4))) := cell_of_row W1 _ 4 _ _ _ hs
      have s5 : W1.cell? ⟨w.heap.size, 5, none⟩ = some (.int .i64 (rowv (f 5))) := cell_of_row W1 _ 5 _ _ _ hs
      have e3 := eq26 (rowv (sf cx cy (tf ck f) 0)) (rowv (sf cx cy (tf ck f) 1)) (rowv (sf cx cy (tf ck f) 2)) (rowv (sf cx cy (tf ck f) 3)) (rowv (sf cx cy (tf ck f) 4)) (rowv (sf cx cy (tf ck f) 5)) (rowv (f 0)) (rowv (f 1)) (rowv (f 2)) (rowv (f 3)) (rowv (f 4)) (rowv (f 5))
      cases hk : kb f (ck, cx, cy)
      · have e4 : ∀ w, (binOp .eql 25 (.agg #[.int .i64 (rowv (sf cx cy (tf ck f) 0)), .int .i64 (rowv (sf cx cy (tf ck f) 1)), .int .i64 (rowv (sf cx cy (tf ck f) 2)), .int .i64 (rowv (sf cx cy (tf ck f) 3)), .int .i64 (rowv (sf cx cy (tf ck f) 4)), .int .i64 (rowv (sf cx cy (tf ck f) 5))]) (.agg #[.int .i64 (rowv (f 0)), .int .i64 (rowv (f 1)), .int .i64 (rowv (f 2)), .int .i64 (rowv (f 3)), .int .i64 (rowv (f 4)), .int .i64 (rowv (f 5))])).run Try.prog w = .ok (.bool false) w := fun w => (e3 w).trans (by rw [show (rowv (sf cx cy (tf ck f) 0) == rowv (f 0) && rowv (sf cx cy (tf ck f) 1) == rowv (f 1) && rowv (sf cx cy (tf ck f) 2) == rowv (f 2) && rowv (sf cx cy (tf ck f) 3) == rowv (f 3) && rowv (sf cx cy (tf ck f) 4) == rowv (f 4) && rowv (sf cx cy (tf ck f) 5) == rowv (f 5)) = kb f (ck, cx, cy) from rfl, hk])
        clear hq hq2 hs HA e3
        set_option maxRecDepth 8000 in
        go_region
        all_goals
          clear e1 e2 e4 q0 q1 q2 s0 s1 s2 s3 s4 s5
          go_wp2_with fail
          go_roundw
          case rel => exact ⟨i + 1, by omega, by go_num, Lib.hid (HD.out.no hlt (by rw [HC.out]; exact hk))⟩
          case measure => simp [intOf]; omega
      · have e4 : ∀ w, (binOp .eql 25 (.agg #[.int .i64 (rowv (sf cx cy (tf ck f) 0)), .int .i64 (rowv (sf cx cy (tf ck f) 1)), .int .i64 (rowv (sf cx cy (tf ck f) 2)), .int .i64 (rowv (sf cx cy (tf ck f) 3)), .int .i64 (rowv (sf cx cy (tf ck f) 4)), .int .i64 (rowv (sf cx cy (tf ck f) 5))]) (.agg #[.int .i64 (rowv (f 0)), .int .i64 (rowv (f 1)), .int .i64 (rowv (f 2)), .int .i64 (rowv (f 3)), .int .i64 (rowv (f 4)), .int .i64 (rowv (f 5))])).run Try.prog w = .ok (.bool true) w := fun w => (e3 w).trans (by rw [show (rowv (sf cx cy (tf ck f) 0) == rowv (f 0) && rowv (sf cx cy (tf ck f) 1) == rowv (f 1) && rowv (sf cx cy (tf ck f) 2) == rowv (f 2) && rowv (sf cx cy (tf ck f) 3) == rowv (f 3) && rowv (sf cx cy (tf ck f) 4) == rowv (f 4) && rowv (sf cx cy (tf ck f) 5) == rowv (f 5)) = kb f (ck, cx, cy) from rfl, hk])
        clear hq hs HA e3
        have HQ := Lib.hid hq2
        clear hq2
        set_option maxRecDepth 8000 in
        go_region
        all_goals
          clear e1 e2 e4 q0 q1 q2 s0 s1 s2 s3 s4 s5
          generalize W1.drew = W2 at HD HQ ⊢
          have HE := Lib.hid (HD.out.below (N := W2.heap.size) ((Below.refl _ _).alloc (Nat.le_refl _) (.cells #[.int .i64 (ck : Int), .int .i64 (cx : Int), .int .i64 (cy : Int)] 62)) rfl)
          obtain ⟨_, _, _, _, _, HO, _, _, _, _, HB, _⟩ := HE.out
          have HN : (ks f (l.take i)).length ≤ 600 := Nat.le_trans (ks_len _ _) (Nat.le_trans (List.length_take_le _ _) (by omega))
          have g_c := fun k => cell_of_row W2 _ k _ _ _ HQ.out
          go_wp2_with (at_builtin; refine wpList_append_own_at _ rfl _ _ 84 rfl (w.heap.size + 1) 62 i0 (.agg #[.int .i64 0, .int .i64 0, .int .i64 0]) 3 24 Try.underlying84 hi hz0 hz1 hz2 rfl (by decide) _ _ _ rfl HO ⟨W2.heap.size, 0, none⟩ 1 1 [.int .i64 (ck : Int), .int .i64 (cx : Int), .int .i64 (cy : Int)] rfl rfl (three_new _ _ _ _ _) (ints_one3 _ _ _) (by have := HN; unfold maxLen; omega) (by have := HN; omega) (by omega) ?_; intro v' w1 hown' hgrow hnn hloc; have R := Lib.hid (HE.out.yes hlt (by rw [HC.out]; exact hk) HC.out hown' hgrow hnn hloc); clear hown' hgrow hnn hloc HE HO HB HN g_c)
          go_roundw
          case rel => exact ⟨i + 1, by omega, by go_num, R⟩
          case measure => simp [intOf]; omega
    · obtain rfl : i = l.length := by omega
      obtain ⟨gv, cv, rfl, _, _, h4, _, _, _, h9, _, _⟩ := HS.out
      have H4 := Lib.hid h4
      have H9 := Lib.hid h9
      clear h4 h9 HS hi hz0 hz1 hz2
      go_wp2_with fail
      go_ret2
      have h := H4.out
      have hl := HL.out
      rw [List.take_length] at h ⊢
      rw [hl] at h ⊢
      exact ⟨gv, cv, rfl, own_mono h (Nat.le_succ _), H9.out⟩
end Go.Proofs.Ytkobgklpcpoglaa
