/- MERGED, for one claim's sake: Se11, Aj11, Ak11, Al11, Mk12, Rj11. -/
import Derived.Test.YtnkjamdpafpcpaaPl11
import Derived.Test.YtnkjamdpafpcpaaEq
import Derived.Test.YtnkjamdpafpcpaaMf12
import Derived.Test.YtnkjamdpafpcpaaRd11
import Derived.StillTailTactics
import Derived.Deep.RegionHeld3
import Derived.WalkKit
import Derived.ProofKit
import Derived.OpenShut
import Derived.Lib.Hide
import Derived.WalkSpells
import Derived.Below
import Derived.BigQuiet
import Derived.LoopN
namespace Go.Proofs.Ytnkjamdpafpcpaa
open Go.ChangeShapes Go.WideShapes Go.ChangeAt Go.RowKit
set_option linter.unusedVariables false
/- Se11 -/
theorem neq_h11 (a0 a1 a2 a3 a4 a5 : Int) (b0 b1 b2 b3 b4 b5 : Int) (w : World) : (binOp .neq 28 (.agg #[.int .i64 a0, .int .i64 a1, .int .i64 a2, .int .i64 a3, .int .i64 a4, .int .i64 a5]) (.agg #[.int .i64 b0, .int .i64 b1, .int .i64 b2, .int .i64 b3, .int .i64 b4, .int .i64 b5])).run Try.prog w = .ok (.bool (decide (¬ ((a0, a1, a2, a3, a4, a5) : H11) = (b0, b1, b2, b3, b4, b5)))) w := by
  have h := eq26 a0 a1 a2 a3 a4 a5 b0 b1 b2 b3 b4 b5 w
  rw [run_eql_struct] at h
  rw [run_neq_struct]
  have hf : (a0 == b0 && a1 == b1 && a2 == b2 && a3 == b3 && a4 == b4 && a5 == b5) = decide (((a0, a1, a2, a3, a4, a5) : H11) = (b0, b1, b2, b3, b4, b5)) := by
    rw [Bool.eq_iff_iff]
    simp only [Bool.and_eq_true, beq_iff_eq, decide_eq_true_eq, Prod.mk.injEq, and_assoc]
  rw [hf] at h
  generalize (Op.equalIn 10000 28 (.agg #[.int .i64 a0, .int .i64 a1, .int .i64 a2, .int .i64 a3, .int .i64 a4, .int .i64 a5]) (.agg #[.int .i64 b0, .int .i64 b1, .int .i64 b2, .int .i64 b3, .int .i64 b4, .int .i64 b5])).run Try.prog w = x at h ⊢
  cases x with
  | ok v w' =>
    simp only [Result.andThen_ok, Result.ok.injEq, Value.bool.injEq] at h ⊢
    exact ⟨by rw [h.1]; simp, h.2⟩
  | halt e w' => cases h
/-- Two rows, and nothing below touched. -/
def E2r (w : World) (g1 g2 : Nat) (xs ys : List Value) (U : World) : Prop := U.rangeAt g1 0 xs ∧ U.rangeAt g2 0 ys ∧ Below w.heap.size w U
theorem E2r.drew {w U : World} {g1 g2 : Nat} {xs ys : List Value} (h : E2r w g1 g2 xs ys U) : E2r w g1 g2 xs ys U.drew :=
  ⟨ra_below h.1 (Below.refl U.heap.size U).drew rfl, ra_below h.2.1 (Below.refl U.heap.size U).drew rfl, h.2.2.drew⟩
theorem E2r.at1 {w U : World} {g1 g2 k : Nat} {z : List H11} {ys : List Value} {q0 q1 q2 q3 q4 q5 : Int} (h : E2r w g1 g2 (hv11 z) ys U) (hk : k < z.length) (hp : z[k] = (q0, q1, q2, q3, q4, q5)) : U.cell? ⟨g1, k * 6, none⟩ = some (.int .i64 q0) ∧ U.cell? ⟨g1, k * 6 + 1, none⟩ = some (.int .i64 q1) ∧ U.cell? ⟨g1, k * 6 + 2, none⟩ = some (.int .i64 q2) ∧ U.cell? ⟨g1, k * 6 + 3, none⟩ = some (.int .i64 q3) ∧ U.cell? ⟨g1, k * 6 + 4, none⟩ = some (.int .i64 q4) ∧ U.cell? ⟨g1, k * 6 + 5, none⟩ = some (.int .i64 q5) := by
  have q1 := fm_range ch11_len h.1 hk
  rw [hp] at q1
  exact ⟨q1 0 _ rfl, q1 1 _ rfl, q1 2 _ rfl, q1 3 _ rfl, q1 4 _ rfl, q1 5 _ rfl⟩
theorem E2r.swap {w U : World} {g1 g2 : Nat} {xs ys : List Value} (h : E2r w g1 g2 xs ys U) : E2r w g2 g1 ys xs U := ⟨h.2.1, h.1, h.2.2⟩
theorem take_more {α : Type} {l m : List α} {k : Nat} (h : l.take k = m.take k) (h1 : k < l.length) (h2 : k < m.length) (e : l[k] = m[k]) : l.take (k + 1) = m.take (k + 1) := by
  rw [List.take_add_one, List.take_add_one, h, List.getElem?_eq_getElem h1, List.getElem?_eq_getElem h2, e]
set_option maxRecDepth 8000 in
set_option maxHeartbeats 2000000 in
theorem slEq_11 (l m : List H11) (hl : l.length ≤ 1048576) (hm : m.length ≤ 1048576) (g1 c1 g2 c2 : Nat) (w : World) (h1 : w.rangeAt g1 0 (hv11 l)) (h2 : w.rangeAt g2 0 (hv11 m)) : Calls Try.prog 141 #[.slice (some ⟨g1, 0, none⟩) l.length c1, .slice (some ⟨g2, 0, none⟩) m.length c2] w fun e w' => e = .returned (.bool (decide (l = m))) ∧ Below w.heap.size w w' := by
  have S0 : Hid (E2r w g1 g2 (hv11 l) (hv11 m) w) := Lib.hid ⟨h1, h2, Below.refl _ _⟩
  clear h1 h2
  by_cases hn : l.length = m.length
  · obtain ⟨n, hm2⟩ : ∃ n, m.length = n := ⟨_, rfl⟩
    rw [hm2] at hn hm ⊢
    rw [hn]
    clear hl
    go_enter Try.func141, Try.ntmps141
    go_wp2_with fail
    go_loopw [13] (fun i wr => ∃ k : Nat, k ≤ n ∧ i = .int .i64 k ∧ Hid (l.take k = m.take k) ∧ Hid (E2r w g1 g2 (hv11 l) (hv11 m) wr)) (fun i _ => n - (intOf i).toNat)
    case atStart => exact ⟨0, by omega, rfl, Lib.hid rfl, S0⟩
    case round =>
      obtain ⟨k, hk, rfl, HK, HB⟩ := hrel
      by_cases hlt' : k < n
      · have hlt : k < l.length := by omega
        have hlt2 : (k : Int) < n := by omega
        have hlm : k < m.length := by omega
        have hk0 : (0 : Int) ≤ k := by omega
        have hk2 : k ≤ 1048576 := by omega
        obtain ⟨p, hp⟩ : ∃ p, l[k] = p := ⟨_, rfl⟩
        obtain ⟨q0, q1, q2, q3, q4, q5⟩ := p
        obtain ⟨u, hu⟩ : ∃ u, m[k] = u := ⟨_, rfl⟩
        obtain ⟨u0, u1, u2, u3, u4, u5⟩ := u
        have hne := fun W => neq_h11 q0 q1 q2 q3 q4 q5 u0 u1 u2 u3 u4 u5 W
        have HD := Lib.hid HB.out.drew
        obtain ⟨x0, x1, x2, x3, x4, x5⟩ := HD.out.at1 hlt hp
        obtain ⟨y0, y1, y2, y3, y4, y5⟩ := HD.out.swap.at1 hlm hu
        have HP := Lib.hid hp
        have HU := Lib.hid hu
        clear hp hu
        go_wp2_with fail
        refine wp_region_still_tail 8 (by kernel_rfl) (by kernel_rfl) ?_
        simp only [List.take_succ_cons, List.take_zero, List.drop_succ_cons, List.drop_zero]
        repeat still_step
        refine wpStill_nil ?_
        change wpList _ _ _ _ _ wr.drew
        by_cases he : ((q0, q1, q2, q3, q4, q5) : H11) = (u0, u1, u2, u3, u4, u5)
        · have HE := Lib.hid (take_more HK.out hlt hlm (by rw [HP.out, HU.out]; exact he))
          have hd : decide (¬ ((q0, q1, q2, q3, q4, q5) : H11) = (u0, u1, u2, u3, u4, u5)) = false := decide_eq_false (fun h => h he)
          rw [hd] at hne
          clear hd he x0 x1 x2 x3 x4 x5 y0 y1 y2 y3 y4 y5
          go_wp2_with fail
          go_roundw
          case rel => exact ⟨k + 1, by omega, by go_num, HE, HD⟩
          case measure => simp [intOf]; omega
        · have hF : l ≠ m := fun h => he (by rw [← HP.out, ← HU.out]; subst h; rfl)
          have hd : decide (¬ ((q0, q1, q2, q3, q4, q5) : H11) = (u0, u1, u2, u3, u4, u5)) = true := decide_eq_true he
          rw [hd] at hne
          clear hd he x0 x1 x2 x3 x4 x5 y0 y1 y2 y3 y4 y5
          go_wp2_with fail
          go_ret
          exact ⟨by rw [decide_eq_false hF]; rfl, HD.out.2.2⟩
      · obtain rfl : k = n := by omega
        have hF : l = m := by
          have h := HK.out
          rw [List.take_of_length_le (by omega), List.take_of_length_le (by omega)] at h
          exact h
        go_wp2_with fail
        go_ret
        exact ⟨by rw [decide_eq_true hF]; rfl, HB.out.2.2⟩
  · have hn1 : ¬ (l.length : Int) = m.length := by omega
    have hF : l ≠ m := fun h => hn (by rw [h])
    go_enter Try.func141, Try.ntmps141
    go_wp2_with fail
    go_ret
    exact ⟨by rw [decide_eq_false hF]; rfl, S0.out.2.2⟩
/- Aj11 -/
theorem okP_app {s : H11} {l : List H11} {st st2 : List S11} {s2 : H11} (h : okP s l st = true) (h2 : okP s2 l st2 = true) : okP s l (st ++ st2) = decide (st.length + st2.length ≤ 40) := by
  obtain ⟨h1, h2', h3, h4, h5⟩ := okP_parts h
  obtain ⟨k1, k2, k3, k4, k5⟩ := okP_parts h2
  unfold okP at h h2 ⊢
  simp only [Bool.and_eq_true] at h h2
  simp only [h.1.1.1.1, h.1.1.1.2, h.1.2, List.length_append, List.all_append, h.2, h2.2, Bool.and_true, Bool.true_and]
set_option maxRecDepth 20000 in
set_option maxHeartbeats 4000000 in
theorem ijoin_q (m0 m1 m2 m3 m4 m5 : Int) (l : List H11) (st : List S11) (n0 n1 n2 n3 n4 n5 : Int) (l2 : List H11) (st2 : List S11) (g1 c1 g2 c2 g3 c3 g4 c4 : Nat) (hl : l.length ≤ 1048576) (hst : st.length ≤ 1048576) (hl2 : l2.length ≤ 1048576) (hst2 : st2.length ≤ 1048576) (hwf2 : ∀ p ∈ st2, (Lit.int .i64 p.x).wf = true ∧ (Lit.int .i64 p.y).wf = true) (hq : okP (n0, n1, n2, n3, n4, n5) l2 st2 = false) (w : World) (h1 : w.rangeAt g1 0 (hv11 l)) (h2 : w.rangeAt g2 0 (sv11 st)) (h3 : w.rangeAt g3 0 (hv11 l2)) (h4 : w.rangeAt g4 0 (sv11 st2)) : Calls Try.prog 47 #[.agg #[.int .i64 m0, .int .i64 m1, .int .i64 m2, .int .i64 m3, .int .i64 m4, .int .i64 m5, .slice (some ⟨g1, 0, none⟩) l.length c1, .slice (some ⟨g2, 0, none⟩) st.length c2], .agg #[.int .i64 n0, .int .i64 n1, .int .i64 n2, .int .i64 n3, .int .i64 n4, .int .i64 n5, .slice (some ⟨g3, 0, none⟩) l2.length c3, .slice (some ⟨g4, 0, none⟩) st2.length c4]] w (TP11 0 0 0 0 0 0 [] [] false w) := by
  have HP := Lib.hid (fun W a b => iplan_11 n0 n1 n2 n3 n4 n5 l2 st2 g3 c3 g4 c4 hl2 hst2 hwf2 W a b)
  rw [hq] at HP
  have R1 := Lib.hid h1
  have R2 := Lib.hid h2
  have R3 := Lib.hid h3
  have R4 := Lib.hid h4
  clear h1 h2 h3 h4
  clear hq hwf2
  go_enter Try.func47, Try.ntmps47
  go_wp2_with fail
  generalize hW : (World.alloc _ _ : World) = W0
  have q0 : W0.heap[w.heap.size]? = some (Obj.cells #[.int .i64 m0, .int .i64 m1, .int .i64 m2, .int .i64 m3, .int .i64 m4, .int .i64 m5, .slice (some ⟨g1, 0, none⟩) l.length c1, .slice (some ⟨g2, 0, none⟩) st.length c2] 62 (0, 0)) := by rw [← hW]; exact alloc_past (alloc_past (alloc_at rfl))
  have qs : W0.heap[w.heap.size + 1]? = some (Obj.cells #[.int .i64 n0, .int .i64 n1, .int .i64 n2, .int .i64 n3, .int .i64 n4, .int .i64 n5, .slice (some ⟨g3, 0, none⟩) l2.length c3, .slice (some ⟨g4, 0, none⟩) st2.length c4] 62 (0, 0)) := by rw [← hW]; exact alloc_past (alloc_at (by simp))
  have q1 : W0.heap[w.heap.size + 1 + 1]? = some (pz11 62) := by rw [← hW]; exact alloc_at (by simp)
  have hB : Below w.heap.size w W0 := by rw [← hW]; (repeat (first | exact Below.refl _ _ | assumption | refine Below.setCell ?_ (by first | (simp; done) | (simp; omega)) _ | refine Below.alloc ?_ (by first | (simp; done) | (simp; omega)) _ | refine Below.drew ?_))
  have hsz : w.heap.size + 3 ≤ W0.heap.size := by rw [← hW]; simp
  clear hW
  refine (HP.out _ (ra_below R3.out hB rfl) (ra_below R4.out hB rfl)).mono ?_
  rintro e W1 ⟨rfl, hb⟩
  replace q0 := rowk q0 hb rfl
  replace qs := rowk qs hb rfl
  replace q1 := rowk q1 hb rfl
  replace hB := below_of hB hb (by omega)
  replace hsz := Nat.le_trans hsz hb.size
  clear hb HP
  have z_f := fun j => frozen_of_row W1 _ j _ _ q1
  have z_c := fun j => cell_of_row W1 _ j _ _ _ q1
  have hz1 : w.heap.size + 1 + 1 < W1.heap.size := (Array.getElem?_eq_some_iff.1 q1).1
  have Q1 := Lib.hid q1
  clear q1
  clear q0 qs
  go_wp2_with fail
  clear z_f z_c
  have HF := fun X hX => Lib.hid (box_put11 (w := w) (X := X) (lo := W1.heap.size) (m0 := 0) (m1 := 0) (m2 := 0) (m3 := 0) (m4 := 0) (m5 := 0) Q1.out (Pr11.nil _ _ _) hz1 (by omega) (by omega) hB hX)
  generalize hX : (World.setCell _ _ _ : World) = X
  replace HF := HF X hX
  have x_c := fun j => cell_of_row X _ j _ _ _ HF.out.1
  exact bodyPost_ret (v := .tuple #[.agg #[.int .i64 0, .int .i64 0, .int .i64 0, .int .i64 0, .int .i64 0, .int .i64 0, .slice none 0 0, .slice none 0 0], .bool false]) (by simp [results, Try.results47, go_sem, x_c]) rfl ⟨_, _, rfl, HF.out.2⟩

set_option maxRecDepth 20000 in
set_option maxHeartbeats 4000000 in
theorem ijoin_e (m0 m1 m2 m3 m4 m5 : Int) (l : List H11) (st : List S11) (n0 n1 n2 n3 n4 n5 : Int) (l2 : List H11) (st2 : List S11) (g1 c1 g2 c2 g3 c3 g4 c4 : Nat) (hl : l.length ≤ 1048576) (hst : st.length ≤ 1048576) (hl2 : l2.length ≤ 1048576) (hst2 : st2.length ≤ 1048576) (hwf2 : ∀ p ∈ st2, (Lit.int .i64 p.x).wf = true ∧ (Lit.int .i64 p.y).wf = true) (hq : okP (n0, n1, n2, n3, n4, n5) l2 st2 = true) (he : l ≠ l2) (w : World) (h1 : w.rangeAt g1 0 (hv11 l)) (h2 : w.rangeAt g2 0 (sv11 st)) (h3 : w.rangeAt g3 0 (hv11 l2)) (h4 : w.rangeAt g4 0 (sv11 st2)) : Calls Try.prog 47 #[.agg #[.int .i64 m0, .int .i64 m1, .int .i64 m2, .int .i64 m3, .int .i64 m4, .int .i64 m5, .slice (some ⟨g1, 0, none⟩) l.length c1, .slice (some ⟨g2, 0, none⟩) st.length c2], .agg #[.int .i64 n0, .int .i64 n1, .int .i64 n2, .int .i64 n3, .int .i64 n4, .int .i64 n5, .slice (some ⟨g3, 0, none⟩) l2.length c3, .slice (some ⟨g4, 0, none⟩) st2.length c4]] w (TP11 0 0 0 0 0 0 [] [] false w) := by
  have HP := Lib.hid (fun W a b => iplan_11 n0 n1 n2 n3 n4 n5 l2 st2 g3 c3 g4 c4 hl2 hst2 hwf2 W a b)
  rw [hq] at HP
  have HE := Lib.hid (fun W a b => slEq_11 l l2 hl hl2 g1 c1 g3 c3 W a b)
  rw [decide_eq_false he] at HE
  have R1 := Lib.hid h1
  have R2 := Lib.hid h2
  have R3 := Lib.hid h3
  have R4 := Lib.hid h4
  clear h1 h2 h3 h4
  clear hq hwf2 he
  go_enter Try.func47, Try.ntmps47
  go_wp2_with fail
  generalize hW : (World.alloc _ _ : World) = W0
  have q0 : W0.heap[w.heap.size]? = some (Obj.cells #[.int .i64 m0, .int .i64 m1, .int .i64 m2, .int .i64 m3, .int .i64 m4, .int .i64 m5, .slice (some ⟨g1, 0, none⟩) l.length c1, .slice (some ⟨g2, 0, none⟩) st.length c2] 62 (0, 0)) := by rw [← hW]; exact alloc_past (alloc_past (alloc_at rfl))
  have qs : W0.heap[w.heap.size + 1]? = some (Obj.cells #[.int .i64 n0, .int .i64 n1, .int .i64 n2, .int .i64 n3, .int .i64 n4, .int .i64 n5, .slice (some ⟨g3, 0, none⟩) l2.length c3, .slice (some ⟨g4, 0, none⟩) st2.length c4] 62 (0, 0)) := by rw [← hW]; exact alloc_past (alloc_at (by simp))
  have q1 : W0.heap[w.heap.size + 1 + 1]? = some (pz11 62) := by rw [← hW]; exact alloc_at (by simp)
  have hB : Below w.heap.size w W0 := by rw [← hW]; (repeat (first | exact Below.refl _ _ | assumption | refine Below.setCell ?_ (by first | (simp; done) | (simp; omega)) _ | refine Below.alloc ?_ (by first | (simp; done) | (simp; omega)) _ | refine Below.drew ?_))
  have hsz : w.heap.size + 3 ≤ W0.heap.size := by rw [← hW]; simp
  clear hW
  refine (HP.out _ (ra_below R3.out hB rfl) (ra_below R4.out hB rfl)).mono ?_
  rintro e W1 ⟨rfl, hb⟩
  replace q0 := rowk q0 hb rfl
  replace qs := rowk qs hb rfl
  replace q1 := rowk q1 hb rfl
  replace hB := below_of hB hb (by omega)
  replace hsz := Nat.le_trans hsz hb.size
  clear hb HP
  have a_c := fun j => cell_of_row W1 _ j _ _ _ q0
  have s_c := fun j => cell_of_row W1 _ j _ _ _ qs
  go_wp2_with fail
  clear a_c s_c
  refine (HE.out _ (ra_below R1.out hB rfl) (ra_below R3.out hB rfl)).mono ?_
  rintro e W2 ⟨rfl, hb⟩
  replace q0 := rowk q0 hb rfl
  replace qs := rowk qs hb rfl
  replace q1 := rowk q1 hb rfl
  replace hB := below_of hB hb (by omega)
  replace hsz := Nat.le_trans hsz hb.size
  clear hb HE
  have z_f := fun j => frozen_of_row W2 _ j _ _ q1
  have z_c := fun j => cell_of_row W2 _ j _ _ _ q1
  have hz1 : w.heap.size + 1 + 1 < W2.heap.size := (Array.getElem?_eq_some_iff.1 q1).1
  have Q1 := Lib.hid q1
  clear q1
  clear q0 qs
  go_wp2_with fail
  clear z_f z_c
  have HF := fun X hX => Lib.hid (box_put11 (w := w) (X := X) (lo := W2.heap.size) (m0 := 0) (m1 := 0) (m2 := 0) (m3 := 0) (m4 := 0) (m5 := 0) Q1.out (Pr11.nil _ _ _) hz1 (by omega) (by omega) hB hX)
  generalize hX : (World.setCell _ _ _ : World) = X
  replace HF := HF X hX
  have x_c := fun j => cell_of_row X _ j _ _ _ HF.out.1
  exact bodyPost_ret (v := .tuple #[.agg #[.int .i64 0, .int .i64 0, .int .i64 0, .int .i64 0, .int .i64 0, .int .i64 0, .slice none 0 0, .slice none 0 0], .bool false]) (by simp [results, Try.results47, go_sem, x_c]) rfl ⟨_, _, rfl, HF.out.2⟩

set_option maxRecDepth 20000 in
set_option maxHeartbeats 4000000 in
theorem ijoin_any (m0 m1 m2 m3 m4 m5 : Int) (l : List H11) (st : List S11) (n0 n1 n2 n3 n4 n5 : Int) (l2 : List H11) (st2 : List S11) (g1 c1 g2 c2 g3 c3 g4 c4 : Nat) (r0 r1 r2 r3 r4 r5 : Int) (l' : List H11) (st' : List S11) (t : Bool) (hl : l.length ≤ 1048576) (hst : st.length ≤ 1048576) (hl2 : l2.length ≤ 1048576) (hst2 : st2.length ≤ 1048576) (hwf2 : ∀ p ∈ st2, (Lit.int .i64 p.x).wf = true ∧ (Lit.int .i64 p.y).wf = true) (hq : okP (n0, n1, n2, n3, n4, n5) l2 st2 = true) (he : l = l2) (HA : Hid (∀ (W : World), W.rangeAt g1 0 (hv11 l) → W.rangeAt g2 0 (sv11 st) → W.rangeAt g4 0 (sv11 st2) → Calls Try.prog 139 #[.agg #[.int .i64 m0, .int .i64 m1, .int .i64 m2, .int .i64 m3, .int .i64 m4, .int .i64 m5, .slice (some ⟨g1, 0, none⟩) l.length c1, .slice (some ⟨g2, 0, none⟩) st.length c2], .slice (some ⟨g4, 0, none⟩) st2.length c4] W (TP11 r0 r1 r2 r3 r4 r5 l' st' t W))) (w : World) (h1 : w.rangeAt g1 0 (hv11 l)) (h2 : w.rangeAt g2 0 (sv11 st)) (h3 : w.rangeAt g3 0 (hv11 l2)) (h4 : w.rangeAt g4 0 (sv11 st2)) : Calls Try.prog 47 #[.agg #[.int .i64 m0, .int .i64 m1, .int .i64 m2, .int .i64 m3, .int .i64 m4, .int .i64 m5, .slice (some ⟨g1, 0, none⟩) l.length c1, .slice (some ⟨g2, 0, none⟩) st.length c2], .agg #[.int .i64 n0, .int .i64 n1, .int .i64 n2, .int .i64 n3, .int .i64 n4, .int .i64 n5, .slice (some ⟨g3, 0, none⟩) l2.length c3, .slice (some ⟨g4, 0, none⟩) st2.length c4]] w (TP11 r0 r1 r2 r3 r4 r5 l' st' t w) := by
  have HP := Lib.hid (fun W a b => iplan_11 n0 n1 n2 n3 n4 n5 l2 st2 g3 c3 g4 c4 hl2 hst2 hwf2 W a b)
  rw [hq] at HP
  have HE := Lib.hid (fun W a b => slEq_11 l l2 hl hl2 g1 c1 g3 c3 W a b)
  rw [decide_eq_true he] at HE
  have R1 := Lib.hid h1
  have R2 := Lib.hid h2
  have R3 := Lib.hid h3
  have R4 := Lib.hid h4
  clear h1 h2 h3 h4
  clear hq hwf2 he
  go_enter Try.func47, Try.ntmps47
  go_wp2_with fail
  generalize hW : (World.alloc _ _ : World) = W0
  have q0 : W0.heap[w.heap.size]? = some (Obj.cells #[.int .i64 m0, .int .i64 m1, .int .i64 m2, .int .i64 m3, .int .i64 m4, .int .i64 m5, .slice (some ⟨g1, 0, none⟩) l.length c1, .slice (some ⟨g2, 0, none⟩) st.length c2] 62 (0, 0)) := by rw [← hW]; exact alloc_past (alloc_past (alloc_at rfl))
  have qs : W0.heap[w.heap.size + 1]? = some (Obj.cells #[.int .i64 n0, .int .i64 n1, .int .i64 n2, .int .i64 n3, .int .i64 n4, .int .i64 n5, .slice (some ⟨g3, 0, none⟩) l2.length c3, .slice (some ⟨g4, 0, none⟩) st2.length c4] 62 (0, 0)) := by rw [← hW]; exact alloc_past (alloc_at (by simp))
  have q1 : W0.heap[w.heap.size + 1 + 1]? = some (pz11 62) := by rw [← hW]; exact alloc_at (by simp)
  have hB : Below w.heap.size w W0 := by rw [← hW]; (repeat (first | exact Below.refl _ _ | assumption | refine Below.setCell ?_ (by first | (simp; done) | (simp; omega)) _ | refine Below.alloc ?_ (by first | (simp; done) | (simp; omega)) _ | refine Below.drew ?_))
  have hsz : w.heap.size + 3 ≤ W0.heap.size := by rw [← hW]; simp
  clear hW
  refine (HP.out _ (ra_below R3.out hB rfl) (ra_below R4.out hB rfl)).mono ?_
  rintro e W1 ⟨rfl, hb⟩
  replace q0 := rowk q0 hb rfl
  replace qs := rowk qs hb rfl
  replace q1 := rowk q1 hb rfl
  replace hB := below_of hB hb (by omega)
  replace hsz := Nat.le_trans hsz hb.size
  clear hb HP
  have a_c := fun j => cell_of_row W1 _ j _ _ _ q0
  have s_c := fun j => cell_of_row W1 _ j _ _ _ qs
  go_wp2_with fail
  clear a_c s_c
  refine (HE.out _ (ra_below R1.out hB rfl) (ra_below R3.out hB rfl)).mono ?_
  rintro e W2 ⟨rfl, hb⟩
  replace q0 := rowk q0 hb rfl
  replace qs := rowk qs hb rfl
  replace q1 := rowk q1 hb rfl
  replace hB := below_of hB hb (by omega)
  replace hsz := Nat.le_trans hsz hb.size
  clear hb HE
  have a_c := fun j => cell_of_row W2 _ j _ _ _ q0
  have s_c := fun j => cell_of_row W2 _ j _ _ _ qs
  go_wp2_with fail
  clear a_c s_c
  have hz0 : w.heap.size + 1 + 1 < W2.heap.size := by omega
  refine (HA.out _ (ra_below R1.out hB rfl) (ra_below R2.out hB rfl) (ra_below R4.out hB rfl)).mono ?_
  rintro e W3 ⟨v1, v2, rfl, hp, hb⟩
  have wv1 := st_one11 (own_one11 hp.1)
  have wv2 := st_one11 (own_one11 hp.2.1)
  replace q1 := rowk q1 hb rfl
  have hs1 := hb.size
  replace hB := below_of hB hb (by omega)
  clear hb HA q0 qs
  have z_f := fun j => frozen_of_row W3 _ j _ _ q1
  have z_c := fun j => cell_of_row W3 _ j _ _ _ q1
  have Q1 := Lib.hid q1
  have HPP := Lib.hid hp
  clear q1 hp
  go_wp2_with fail
  clear z_f z_c wv1 wv2
  have HF := fun X hX => Lib.hid (box_put11 (w := w) (X := X) (lo := W2.heap.size) (m0 := r0) (m1 := r1) (m2 := r2) (m3 := r3) (m4 := r4) (m5 := r5) Q1.out HPP.out hz0 (by omega) (by omega) hB hX)
  generalize hX : (World.setCell _ _ _ : World) = X
  replace HF := HF X hX
  have x_c := fun j => cell_of_row X _ j _ _ _ HF.out.1
  exact bodyPost_ret (v := .tuple #[.agg #[.int .i64 r0, .int .i64 r1, .int .i64 r2, .int .i64 r3, .int .i64 r4, .int .i64 r5, v1, v2], .bool t]) (by simp [results, Try.results47, go_sem, x_c]) rfl ⟨_, _, rfl, HF.out.2⟩
/- Ak11 -/
/-- Two plans' boxes and the answer's. -/
def Jn (w : World) (o1 o2 : Obj) (U : World) : Prop := U.heap[w.heap.size]? = some o1 ∧ U.heap[w.heap.size + 1]? = some o2 ∧ U.heap[w.heap.size + 1 + 1]? = some (pz11 62) ∧ w.heap.size + 3 ≤ U.heap.size ∧ Below w.heap.size w U
set_option maxRecDepth 20000 in
set_option maxHeartbeats 4000000 in
theorem sjoin_p (m0 m1 m2 m3 m4 m5 : Int) (l : List H11) (st : List S11) (n0 n1 n2 n3 n4 n5 : Int) (l2 : List H11) (st2 : List S11) (g1 c1 g2 c2 g3 c3 g4 c4 : Nat) (hl : l.length ≤ 1048576) (hst : st.length ≤ 1048576) (hl2 : l2.length ≤ 1048576) (hst2 : st2.length ≤ 1048576) (hq1 : okP (m0, m1, m2, m3, m4, m5) l st = false) (w : World) (h1 : w.rangeAt g1 0 (hv11 l)) (h2 : w.rangeAt g2 0 (sv11 st)) (h3 : w.rangeAt g3 0 (hv11 l2)) (h4 : w.rangeAt g4 0 (sv11 st2)) : Calls Try.prog 46 #[.agg #[.int .i64 m0, .int .i64 m1, .int .i64 m2, .int .i64 m3, .int .i64 m4, .int .i64 m5, .slice (some ⟨g1, 0, none⟩) l.length c1, .slice (some ⟨g2, 0, none⟩) st.length c2], .agg #[.int .i64 n0, .int .i64 n1, .int .i64 n2, .int .i64 n3, .int .i64 n4, .int .i64 n5, .slice (some ⟨g3, 0, none⟩) l2.length c3, .slice (some ⟨g4, 0, none⟩) st2.length c4]] w (TP11 0 0 0 0 0 0 [] [] false w) := by
  have HP1 := Lib.hid (fun W a b => lplan_11 m0 m1 m2 m3 m4 m5 l st g1 c1 g2 c2 hl hst W a b)
  rw [hq1] at HP1
  have R1 := Lib.hid h1
  have R2 := Lib.hid h2
  have R3 := Lib.hid h3
  have R4 := Lib.hid h4
  clear h1 h2 h3 h4
  clear hq1
  go_enter Try.func46, Try.ntmps46
  go_wp2_with fail
  generalize hW : (World.alloc _ _ : World) = W0
  have q0 : W0.heap[w.heap.size]? = some (Obj.cells #[.int .i64 m0, .int .i64 m1, .int .i64 m2, .int .i64 m3, .int .i64 m4, .int .i64 m5, .slice (some ⟨g1, 0, none⟩) l.length c1, .slice (some ⟨g2, 0, none⟩) st.length c2] 62 (0, 0)) := by rw [← hW]; exact alloc_past (alloc_past (alloc_at rfl))
  have qs : W0.heap[w.heap.size + 1]? = some (Obj.cells #[.int .i64 n0, .int .i64 n1, .int .i64 n2, .int .i64 n3, .int .i64 n4, .int .i64 n5, .slice (some ⟨g3, 0, none⟩) l2.length c3, .slice (some ⟨g4, 0, none⟩) st2.length c4] 62 (0, 0)) := by rw [← hW]; exact alloc_past (alloc_at (by simp))
  have q1 : W0.heap[w.heap.size + 1 + 1]? = some (pz11 62) := by rw [← hW]; exact alloc_at (by simp)
  have hB : Below w.heap.size w W0 := by rw [← hW]; (repeat (first | exact Below.refl _ _ | assumption | refine Below.setCell ?_ (by first | (simp; done) | (simp; omega)) _ | refine Below.alloc ?_ (by first | (simp; done) | (simp; omega)) _ | refine Below.drew ?_))
  have hsz : w.heap.size + 3 ≤ W0.heap.size := by rw [← hW]; simp
  clear hW
  refine (HP1.out _ (ra_below R1.out hB rfl) (ra_below R2.out hB rfl)).mono ?_
  rintro e W1 ⟨rfl, hb⟩
  replace q0 := rowk q0 hb rfl
  replace qs := rowk qs hb rfl
  replace q1 := rowk q1 hb rfl
  replace hB := below_of hB hb (by omega)
  replace hsz := Nat.le_trans hsz hb.size
  clear hb HP1
  have a_c := fun j => cell_of_row W1 _ j _ _ _ q0
  have s_c := fun j => cell_of_row W1 _ j _ _ _ qs
  have z_f := fun j => frozen_of_row W1 _ j _ _ q1
  have z_c := fun j => cell_of_row W1 _ j _ _ _ q1
  have hz1 : w.heap.size + 1 + 1 < W1.heap.size := (Array.getElem?_eq_some_iff.1 q1).1
  have Q1 := Lib.hid q1
  clear q1
  clear q0 qs
  go_wp2_with fail
  clear z_f z_c a_c s_c
  have HF := fun X hX => Lib.hid (box_put11 (w := w) (X := X) (lo := W1.heap.size) (m0 := 0) (m1 := 0) (m2 := 0) (m3 := 0) (m4 := 0) (m5 := 0) Q1.out (Pr11.nil _ _ _) hz1 (by omega) (by omega) hB hX)
  generalize hX : (World.setCell _ _ _ : World) = X
  replace HF := HF X hX
  have x_c := fun j => cell_of_row X _ j _ _ _ HF.out.1
  exact bodyPost_ret (v := .tuple #[.agg #[.int .i64 0, .int .i64 0, .int .i64 0, .int .i64 0, .int .i64 0, .int .i64 0, .slice none 0 0, .slice none 0 0], .bool false]) (by simp [results, Try.results46, go_sem, x_c]) rfl ⟨_, _, rfl, HF.out.2⟩

set_option maxRecDepth 20000 in
set_option maxHeartbeats 4000000 in
theorem sjoin_q (m0 m1 m2 m3 m4 m5 : Int) (l : List H11) (st : List S11) (n0 n1 n2 n3 n4 n5 : Int) (l2 : List H11) (st2 : List S11) (g1 c1 g2 c2 g3 c3 g4 c4 : Nat) (hl : l.length ≤ 1048576) (hst : st.length ≤ 1048576) (hl2 : l2.length ≤ 1048576) (hst2 : st2.length ≤ 1048576) (hq1 : okP (m0, m1, m2, m3, m4, m5) l st = true) (hq2 : okP (n0, n1, n2, n3, n4, n5) l2 st2 = false) (w : World) (h1 : w.rangeAt g1 0 (hv11 l)) (h2 : w.rangeAt g2 0 (sv11 st)) (h3 : w.rangeAt g3 0 (hv11 l2)) (h4 : w.rangeAt g4 0 (sv11 st2)) : Calls Try.prog 46 #[.agg #[.int .i64 m0, .int .i64 m1, .int .i64 m2, .int .i64 m3, .int .i64 m4, .int .i64 m5, .slice (some ⟨g1, 0, none⟩) l.length c1, .slice (some ⟨g2, 0, none⟩) st.length c2], .agg #[.int .i64 n0, .int .i64 n1, .int .i64 n2, .int .i64 n3, .int .i64 n4, .int .i64 n5, .slice (some ⟨g3, 0, none⟩) l2.length c3, .slice (some ⟨g4, 0, none⟩) st2.length c4]] w (TP11 0 0 0 0 0 0 [] [] false w) := by
  have HP1 := Lib.hid (fun W a b => lplan_11 m0 m1 m2 m3 m4 m5 l st g1 c1 g2 c2 hl hst W a b)
  rw [hq1] at HP1
  have HP2 := Lib.hid (fun W a b => lplan_11 n0 n1 n2 n3 n4 n5 l2 st2 g3 c3 g4 c4 hl2 hst2 W a b)
  rw [hq2] at HP2
  have R1 := Lib.hid h1
  have R2 := Lib.hid h2
  have R3 := Lib.hid h3
  have R4 := Lib.hid h4
  clear h1 h2 h3 h4
  clear hq1 hq2
  go_enter Try.func46, Try.ntmps46
  go_wp2_with fail
  generalize hW : (World.alloc _ _ : World) = W0
  have q0 : W0.heap[w.heap.size]? = some (Obj.cells #[.int .i64 m0, .int .i64 m1, .int .i64 m2, .int .i64 m3, .int .i64 m4, .int .i64 m5, .slice (some ⟨g1, 0, none⟩) l.length c1, .slice (some ⟨g2, 0, none⟩) st.length c2] 62 (0, 0)) := by rw [← hW]; exact alloc_past (alloc_past (alloc_at rfl))
  have qs : W0.heap[w.heap.size + 1]? = some (Obj.cells #[.int .i64 n0, .int .i64 n1, .int .i64 n2, .int .i64 n3, .int .i64 n4, .int .i64 n5, .slice (some ⟨g3, 0, none⟩) l2.length c3, .slice (some ⟨g4, 0, none⟩) st2.length c4] 62 (0, 0)) := by rw [← hW]; exact alloc_past (alloc_at (by simp))
  have q1 : W0.heap[w.heap.size + 1 + 1]? = some (pz11 62) := by rw [← hW]; exact alloc_at (by simp)
  have hB : Below w.heap.size w W0 := by rw [← hW]; (repeat (first | exact Below.refl _ _ | assumption | refine Below.setCell ?_ (by first | (simp; done) | (simp; omega)) _ | refine Below.alloc ?_ (by first | (simp; done) | (simp; omega)) _ | refine Below.drew ?_))
  have hsz : w.heap.size + 3 ≤ W0.heap.size := by rw [← hW]; simp
  clear hW
  refine (HP1.out _ (ra_below R1.out hB rfl) (ra_below R2.out hB rfl)).mono ?_
  rintro e W1 ⟨rfl, hb⟩
  replace q0 := rowk q0 hb rfl
  replace qs := rowk qs hb rfl
  replace q1 := rowk q1 hb rfl
  replace hB := below_of hB hb (by omega)
  replace hsz := Nat.le_trans hsz hb.size
  clear hb HP1
  have a_c := fun j => cell_of_row W1 _ j _ _ _ q0
  have s_c := fun j => cell_of_row W1 _ j _ _ _ qs
  go_wp2_with fail
  clear a_c s_c
  refine (HP2.out _ (ra_below R3.out hB rfl) (ra_below R4.out hB rfl)).mono ?_
  rintro e W2 ⟨rfl, hb⟩
  replace q0 := rowk q0 hb rfl
  replace qs := rowk qs hb rfl
  replace q1 := rowk q1 hb rfl
  replace hB := below_of hB hb (by omega)
  replace hsz := Nat.le_trans hsz hb.size
  clear hb HP2
  have a_c := fun j => cell_of_row W2 _ j _ _ _ q0
  have s_c := fun j => cell_of_row W2 _ j _ _ _ qs
  have z_f := fun j => frozen_of_row W2 _ j _ _ q1
  have z_c := fun j => cell_of_row W2 _ j _ _ _ q1
  have hz1 : w.heap.size + 1 + 1 < W2.heap.size := (Array.getElem?_eq_some_iff.1 q1).1
  have Q1 := Lib.hid q1
  clear q1
  clear q0 qs
  go_wp2_with fail
  clear z_f z_c a_c s_c
  have HF := fun X hX => Lib.hid (box_put11 (w := w) (X := X) (lo := W2.heap.size) (m0 := 0) (m1 := 0) (m2 := 0) (m3 := 0) (m4 := 0) (m5 := 0) Q1.out (Pr11.nil _ _ _) hz1 (by omega) (by omega) hB hX)
  generalize hX : (World.setCell _ _ _ : World) = X
  replace HF := HF X hX
  have x_c := fun j => cell_of_row X _ j _ _ _ HF.out.1
  exact bodyPost_ret (v := .tuple #[.agg #[.int .i64 0, .int .i64 0, .int .i64 0, .int .i64 0, .int .i64 0, .int .i64 0, .slice none 0 0, .slice none 0 0], .bool false]) (by simp [results, Try.results46, go_sem, x_c]) rfl ⟨_, _, rfl, HF.out.2⟩

set_option maxRecDepth 20000 in
set_option maxHeartbeats 4000000 in
theorem sjoin_n (m0 m1 m2 m3 m4 m5 : Int) (l : List H11) (st : List S11) (n0 n1 n2 n3 n4 n5 : Int) (l2 : List H11) (st2 : List S11) (g1 c1 g2 c2 g3 c3 g4 c4 : Nat) (hl : l.length ≤ 1048576) (hst : st.length ≤ 1048576) (hl2 : l2.length ≤ 1048576) (hst2 : st2.length ≤ 1048576) (hq1 : okP (m0, m1, m2, m3, m4, m5) l st = true) (hq2 : okP (n0, n1, n2, n3, n4, n5) l2 st2 = true) (hn : ¬ (l.length : Int) = (l2.length : Int)) (w : World) (h1 : w.rangeAt g1 0 (hv11 l)) (h2 : w.rangeAt g2 0 (sv11 st)) (h3 : w.rangeAt g3 0 (hv11 l2)) (h4 : w.rangeAt g4 0 (sv11 st2)) : Calls Try.prog 46 #[.agg #[.int .i64 m0, .int .i64 m1, .int .i64 m2, .int .i64 m3, .int .i64 m4, .int .i64 m5, .slice (some ⟨g1, 0, none⟩) l.length c1, .slice (some ⟨g2, 0, none⟩) st.length c2], .agg #[.int .i64 n0, .int .i64 n1, .int .i64 n2, .int .i64 n3, .int .i64 n4, .int .i64 n5, .slice (some ⟨g3, 0, none⟩) l2.length c3, .slice (some ⟨g4, 0, none⟩) st2.length c4]] w (TP11 0 0 0 0 0 0 [] [] false w) := by
  have HP1 := Lib.hid (fun W a b => lplan_11 m0 m1 m2 m3 m4 m5 l st g1 c1 g2 c2 hl hst W a b)
  rw [hq1] at HP1
  have HP2 := Lib.hid (fun W a b => lplan_11 n0 n1 n2 n3 n4 n5 l2 st2 g3 c3 g4 c4 hl2 hst2 W a b)
  rw [hq2] at HP2
  have R1 := Lib.hid h1
  have R2 := Lib.hid h2
  have R3 := Lib.hid h3
  have R4 := Lib.hid h4
  clear h1 h2 h3 h4
  clear hq1 hq2
  go_enter Try.func46, Try.ntmps46
  go_wp2_with fail
  generalize hW : (World.alloc _ _ : World) = W0
  have q0 : W0.heap[w.heap.size]? = some (Obj.cells #[.int .i64 m0, .int .i64 m1, .int .i64 m2, .int .i64 m3, .int .i64 m4, .int .i64 m5, .slice (some ⟨g1, 0, none⟩) l.length c1, .slice (some ⟨g2, 0, none⟩) st.length c2] 62 (0, 0)) := by rw [← hW]; exact alloc_past (alloc_past (alloc_at rfl))
  have qs : W0.heap[w.heap.size + 1]? = some (Obj.cells #[.int .i64 n0, .int .i64 n1, .int .i64 n2, .int .i64 n3, .int .i64 n4, .int .i64 n5, .slice (some ⟨g3, 0, none⟩) l2.length c3, .slice (some ⟨g4, 0, none⟩) st2.length c4] 62 (0, 0)) := by rw [← hW]; exact alloc_past (alloc_at (by simp))
  have q1 : W0.heap[w.heap.size + 1 + 1]? = some (pz11 62) := by rw [← hW]; exact alloc_at (by simp)
  have hB : Below w.heap.size w W0 := by rw [← hW]; (repeat (first | exact Below.refl _ _ | assumption | refine Below.setCell ?_ (by first | (simp; done) | (simp; omega)) _ | refine Below.alloc ?_ (by first | (simp; done) | (simp; omega)) _ | refine Below.drew ?_))
  have hsz : w.heap.size + 3 ≤ W0.heap.size := by rw [← hW]; simp
  clear hW
  refine (HP1.out _ (ra_below R1.out hB rfl) (ra_below R2.out hB rfl)).mono ?_
  rintro e W1 ⟨rfl, hb⟩
  replace q0 := rowk q0 hb rfl
  replace qs := rowk qs hb rfl
  replace q1 := rowk q1 hb rfl
  replace hB := below_of hB hb (by omega)
  replace hsz := Nat.le_trans hsz hb.size
  clear hb HP1
  have a_c := fun j => cell_of_row W1 _ j _ _ _ q0
  have s_c := fun j => cell_of_row W1 _ j _ _ _ qs
  go_wp2_with fail
  clear a_c s_c
  refine (HP2.out _ (ra_below R3.out hB rfl) (ra_below R4.out hB rfl)).mono ?_
  rintro e W2 ⟨rfl, hb⟩
  replace q0 := rowk q0 hb rfl
  replace qs := rowk qs hb rfl
  replace q1 := rowk q1 hb rfl
  replace hB := below_of hB hb (by omega)
  replace hsz := Nat.le_trans hsz hb.size
  clear hb HP2
  have a_c := fun j => cell_of_row W2 _ j _ _ _ q0
  have s_c := fun j => cell_of_row W2 _ j _ _ _ qs
  have z_f := fun j => frozen_of_row W2 _ j _ _ q1
  have z_c := fun j => cell_of_row W2 _ j _ _ _ q1
  have hz1 : w.heap.size + 1 + 1 < W2.heap.size := (Array.getElem?_eq_some_iff.1 q1).1
  have Q1 := Lib.hid q1
  clear q1
  clear q0 qs
  go_wp2_with fail
  clear z_f z_c a_c s_c
  have HF := fun X hX => Lib.hid (box_put11 (w := w) (X := X) (lo := W2.heap.size) (m0 := 0) (m1 := 0) (m2 := 0) (m3 := 0) (m4 := 0) (m5 := 0) Q1.out (Pr11.nil _ _ _) hz1 (by omega) (by omega) hB hX)
  generalize hX : (World.setCell _ _ _ : World) = X
  replace HF := HF X hX
  have x_c := fun j => cell_of_row X _ j _ _ _ HF.out.1
  exact bodyPost_ret (v := .tuple #[.agg #[.int .i64 0, .int .i64 0, .int .i64 0, .int .i64 0, .int .i64 0, .int .i64 0, .slice none 0 0, .slice none 0 0], .bool false]) (by simp [results, Try.results46, go_sem, x_c]) rfl ⟨_, _, rfl, HF.out.2⟩

set_option maxRecDepth 20000 in
set_option maxHeartbeats 4000000 in
theorem sjoin_m (m0 m1 m2 m3 m4 m5 : Int) (l : List H11) (st : List S11) (n0 n1 n2 n3 n4 n5 : Int) (l2 : List H11) (st2 : List S11) (g1 c1 g2 c2 g3 c3 g4 c4 : Nat) (hl : l.length ≤ 1048576) (hst : st.length ≤ 1048576) (hl2 : l2.length ≤ 1048576) (hst2 : st2.length ≤ 1048576) (hq1 : okP (m0, m1, m2, m3, m4, m5) l st = true) (hq2 : okP (n0, n1, n2, n3, n4, n5) l2 st2 = true) (hn : l2.length = l.length) (hs : (st.length : Int) + (st2.length : Int) > 40) (w : World) (h1 : w.rangeAt g1 0 (hv11 l)) (h2 : w.rangeAt g2 0 (sv11 st)) (h3 : w.rangeAt g3 0 (hv11 l2)) (h4 : w.rangeAt g4 0 (sv11 st2)) : Calls Try.prog 46 #[.agg #[.int .i64 m0, .int .i64 m1, .int .i64 m2, .int .i64 m3, .int .i64 m4, .int .i64 m5, .slice (some ⟨g1, 0, none⟩) l.length c1, .slice (some ⟨g2, 0, none⟩) st.length c2], .agg #[.int .i64 n0, .int .i64 n1, .int .i64 n2, .int .i64 n3, .int .i64 n4, .int .i64 n5, .slice (some ⟨g3, 0, none⟩) l.length c3, .slice (some ⟨g4, 0, none⟩) st2.length c4]] w (TP11 0 0 0 0 0 0 [] [] false w) := by
  have HP1 := Lib.hid (fun W a b => lplan_11 m0 m1 m2 m3 m4 m5 l st g1 c1 g2 c2 hl hst W a b)
  rw [hq1] at HP1
  have HP2 := Lib.hid (fun W a b => lplan_11 n0 n1 n2 n3 n4 n5 l2 st2 g3 c3 g4 c4 hl2 hst2 W a b)
  rw [hq2] at HP2
  rw [hn] at HP2
  have R1 := Lib.hid h1
  have R2 := Lib.hid h2
  have R3 := Lib.hid h3
  have R4 := Lib.hid h4
  clear h1 h2 h3 h4
  clear hq1 hq2
  go_enter Try.func46, Try.ntmps46
  go_wp2_with fail
  generalize hW : (World.alloc _ _ : World) = W0
  have q0 : W0.heap[w.heap.size]? = some (Obj.cells #[.int .i64 m0, .int .i64 m1, .int .i64 m2, .int .i64 m3, .int .i64 m4, .int .i64 m5, .slice (some ⟨g1, 0, none⟩) l.length c1, .slice (some ⟨g2, 0, none⟩) st.length c2] 62 (0, 0)) := by rw [← hW]; exact alloc_past (alloc_past (alloc_at rfl))
  have qs : W0.heap[w.heap.size + 1]? = some (Obj.cells #[.int .i64 n0, .int .i64 n1, .int .i64 n2, .int .i64 n3, .int .i64 n4, .int .i64 n5, .slice (some ⟨g3, 0, none⟩) l.length c3, .slice (some ⟨g4, 0, none⟩) st2.length c4] 62 (0, 0)) := by rw [← hW]; exact alloc_past (alloc_at (by simp))
  have q1 : W0.heap[w.heap.size + 1 + 1]? = some (pz11 62) := by rw [← hW]; exact alloc_at (by simp)
  have hB : Below w.heap.size w W0 := by rw [← hW]; (repeat (first | exact Below.refl _ _ | assumption | refine Below.setCell ?_ (by first | (simp; done) | (simp; omega)) _ | refine Below.alloc ?_ (by first | (simp; done) | (simp; omega)) _ | refine Below.drew ?_))
  have hsz : w.heap.size + 3 ≤ W0.heap.size := by rw [← hW]; simp
  clear hW
  refine (HP1.out _ (ra_below R1.out hB rfl) (ra_below R2.out hB rfl)).mono ?_
  rintro e W1 ⟨rfl, hb⟩
  replace q0 := rowk q0 hb rfl
  replace qs := rowk qs hb rfl
  replace q1 := rowk q1 hb rfl
  replace hB := below_of hB hb (by omega)
  replace hsz := Nat.le_trans hsz hb.size
  clear hb HP1
  have a_c := fun j => cell_of_row W1 _ j _ _ _ q0
  have s_c := fun j => cell_of_row W1 _ j _ _ _ qs
  go_wp2_with fail
  clear a_c s_c
  refine (HP2.out _ (ra_below R3.out hB rfl) (ra_below R4.out hB rfl)).mono ?_
  rintro e W2 ⟨rfl, hb⟩
  replace q0 := rowk q0 hb rfl
  replace qs := rowk qs hb rfl
  replace q1 := rowk q1 hb rfl
  replace hB := below_of hB hb (by omega)
  replace hsz := Nat.le_trans hsz hb.size
  clear hb HP2
  have a_c := fun j => cell_of_row W2 _ j _ _ _ q0
  have s_c := fun j => cell_of_row W2 _ j _ _ _ qs
  have z_f := fun j => frozen_of_row W2 _ j _ _ q1
  have z_c := fun j => cell_of_row W2 _ j _ _ _ q1
  have hz1 : w.heap.size + 1 + 1 < W2.heap.size := (Array.getElem?_eq_some_iff.1 q1).1
  have Q1 := Lib.hid q1
  clear q1
  clear q0 qs
  go_wp2_with fail
  clear z_f z_c a_c s_c
  have HF := fun X hX => Lib.hid (box_put11 (w := w) (X := X) (lo := W2.heap.size) (m0 := 0) (m1 := 0) (m2 := 0) (m3 := 0) (m4 := 0) (m5 := 0) Q1.out (Pr11.nil _ _ _) hz1 (by omega) (by omega) hB hX)
  generalize hX : (World.setCell _ _ _ : World) = X
  replace HF := HF X hX
  have x_c := fun j => cell_of_row X _ j _ _ _ HF.out.1
  exact bodyPost_ret (v := .tuple #[.agg #[.int .i64 0, .int .i64 0, .int .i64 0, .int .i64 0, .int .i64 0, .int .i64 0, .slice none 0 0, .slice none 0 0], .bool false]) (by simp [results, Try.results46, go_sem, x_c]) rfl ⟨_, _, rfl, HF.out.2⟩

set_option maxRecDepth 20000 in
set_option maxHeartbeats 4000000 in
theorem sjoin_e (m0 m1 m2 m3 m4 m5 : Int) (l : List H11) (st : List S11) (n0 n1 n2 n3 n4 n5 : Int) (l2 : List H11) (st2 : List S11) (g1 c1 g2 c2 g3 c3 g4 c4 : Nat) (hl : l.length ≤ 1048576) (hst : st.length ≤ 1048576) (hl2 : l2.length ≤ 1048576) (hst2 : st2.length ≤ 1048576) (hq1 : okP (m0, m1, m2, m3, m4, m5) l st = true) (hq2 : okP (n0, n1, n2, n3, n4, n5) l2 st2 = true) (hn : l2.length = l.length) (hs : ¬ (st.length : Int) + (st2.length : Int) > 40) (hx : l ≠ l2) (w : World) (h1 : w.rangeAt g1 0 (hv11 l)) (h2 : w.rangeAt g2 0 (sv11 st)) (h3 : w.rangeAt g3 0 (hv11 l2)) (h4 : w.rangeAt g4 0 (sv11 st2)) : Calls Try.prog 46 #[.agg #[.int .i64 m0, .int .i64 m1, .int .i64 m2, .int .i64 m3, .int .i64 m4, .int .i64 m5, .slice (some ⟨g1, 0, none⟩) l.length c1, .slice (some ⟨g2, 0, none⟩) st.length c2], .agg #[.int .i64 n0, .int .i64 n1, .int .i64 n2, .int .i64 n3, .int .i64 n4, .int .i64 n5, .slice (some ⟨g3, 0, none⟩) l.length c3, .slice (some ⟨g4, 0, none⟩) st2.length c4]] w (TP11 0 0 0 0 0 0 [] [] false w) := by
  have HP1 := Lib.hid (fun W a b => lplan_11 m0 m1 m2 m3 m4 m5 l st g1 c1 g2 c2 hl hst W a b)
  rw [hq1] at HP1
  have HP2 := Lib.hid (fun W a b => lplan_11 n0 n1 n2 n3 n4 n5 l2 st2 g3 c3 g4 c4 hl2 hst2 W a b)
  rw [hq2] at HP2
  rw [hn] at HP2
  have R1 := Lib.hid h1
  have R2 := Lib.hid h2
  have R3 := Lib.hid h3
  have R4 := Lib.hid h4
  clear h1 h2 h3 h4
  clear hq1 hq2
  go_enter Try.func46, Try.ntmps46
  go_wp2_with fail
  generalize hW : (World.alloc _ _ : World) = W0
  have q0 : W0.heap[w.heap.size]? = some (Obj.cells #[.int .i64 m0, .int .i64 m1, .int .i64 m2, .int .i64 m3, .int .i64 m4, .int .i64 m5, .slice (some ⟨g1, 0, none⟩) l.length c1, .slice (some ⟨g2, 0, none⟩) st.length c2] 62 (0, 0)) := by rw [← hW]; exact alloc_past (alloc_past (alloc_at rfl))
  have qs : W0.heap[w.heap.size + 1]? = some (Obj.cells #[.int .i64 n0, .int .i64 n1, .int .i64 n2, .int .i64 n3, .int .i64 n4, .int .i64 n5, .slice (some ⟨g3, 0, none⟩) l.length c3, .slice (some ⟨g4, 0, none⟩) st2.length c4] 62 (0, 0)) := by rw [← hW]; exact alloc_past (alloc_at (by simp))
  have q1 : W0.heap[w.heap.size + 1 + 1]? = some (pz11 62) := by rw [← hW]; exact alloc_at (by simp)
  have hB : Below w.heap.size w W0 := by rw [← hW]; (repeat (first | exact Below.refl _ _ | assumption | refine Below.setCell ?_ (by first | (simp; done) | (simp; omega)) _ | refine Below.alloc ?_ (by first | (simp; done) | (simp; omega)) _ | refine Below.drew ?_))
  have hsz : w.heap.size + 3 ≤ W0.heap.size := by rw [← hW]; simp
  clear hW
  refine (HP1.out _ (ra_below R1.out hB rfl) (ra_below R2.out hB rfl)).mono ?_
  rintro e W1 ⟨rfl, hb⟩
  replace q0 := rowk q0 hb rfl
  replace qs := rowk qs hb rfl
  replace q1 := rowk q1 hb rfl
  replace hB := below_of hB hb (by omega)
  replace hsz := Nat.le_trans hsz hb.size
  clear hb HP1
  have a_c := fun j => cell_of_row W1 _ j _ _ _ q0
  have s_c := fun j => cell_of_row W1 _ j _ _ _ qs
  go_wp2_with fail
  clear a_c s_c
  refine (HP2.out _ (ra_below R3.out hB rfl) (ra_below R4.out hB rfl)).mono ?_
  rintro e W2 ⟨rfl, hb⟩
  replace q0 := rowk q0 hb rfl
  replace qs := rowk qs hb rfl
  replace q1 := rowk q1 hb rfl
  replace hB := below_of hB hb (by omega)
  replace hsz := Nat.le_trans hsz hb.size
  clear hb HP2
  have a_c := fun j => cell_of_row W2 _ j _ _ _ q0
  have s_c := fun j => cell_of_row W2 _ j _ _ _ qs
  go_wp2_with fail
  clear a_c s_c
  go_loopw [6] (fun i wr => ∃ k : Nat, k ≤ l.length ∧ i = .int .i64 k ∧ Hid (l.take k = l2.take k) ∧ Hid (Jn w (Obj.cells #[.int .i64 m0, .int .i64 m1, .int .i64 m2, .int .i64 m3, .int .i64 m4, .int .i64 m5, .slice (some ⟨g1, 0, none⟩) l.length c1, .slice (some ⟨g2, 0, none⟩) st.length c2] 62 (0, 0)) (Obj.cells #[.int .i64 n0, .int .i64 n1, .int .i64 n2, .int .i64 n3, .int .i64 n4, .int .i64 n5, .slice (some ⟨g3, 0, none⟩) l.length c3, .slice (some ⟨g4, 0, none⟩) st2.length c4] 62 (0, 0)) wr)) (fun i _ => l.length - (intOf i).toNat)
  case atStart => exact ⟨0, by omega, rfl, Lib.hid rfl, Lib.hid ⟨q0, qs, q1, hsz, hB⟩⟩
  case round =>
    clear q0 qs q1 hsz hB
    obtain ⟨k, hk, rfl, HK, HJ⟩ := hrel
    have q0 := HJ.out.1
    have qs := HJ.out.2.1
    have q1 := HJ.out.2.2.1
    have hsz := HJ.out.2.2.2.1
    have hB := HJ.out.2.2.2.2
    have a_c := fun j => cell_of_row wr _ j _ _ _ q0
    by_cases hlt : k < l.length
    · have hlt' : (k : Int) < l.length := by omega
      have hlm : k < l2.length := by omega
      have hk0 : (0 : Int) ≤ k := by omega
      have hk2 : k ≤ 1048576 := by omega
      obtain ⟨p, hp⟩ : ∃ p, l[k] = p := ⟨_, rfl⟩
      obtain ⟨q0, q1, q2, q3, q4, q5⟩ := p
      obtain ⟨u, hu⟩ : ∃ u, l2[k] = u := ⟨_, rfl⟩
      obtain ⟨u0, u1, u2, u3, u4, u5⟩ := u
      have hne := fun W => neq_h11 q0 q1 q2 q3 q4 q5 u0 u1 u2 u3 u4 u5 W
      have HD : Hid (E2r w g1 g3 (hv11 l) (hv11 l2) wr.drew) := Lib.hid (E2r.drew ⟨ra_below R1.out hB rfl, ra_below R3.out hB rfl, hB⟩)
      obtain ⟨x0, x1, x2, x3, x4, x5⟩ := HD.out.at1 hlt hp
      obtain ⟨y0, y1, y2, y3, y4, y5⟩ := HD.out.swap.at1 hlm hu
      have HPp := Lib.hid hp
      have HUu := Lib.hid hu
      clear hp hu
      go_wp2_with fail
      clear a_c
      have r0 : wr.drew.heap[w.heap.size]? = _ := HJ.out.1
      have rs : wr.drew.heap[w.heap.size + 1]? = _ := HJ.out.2.1
      have a_c := fun j => cell_of_row wr.drew _ j _ _ _ r0
      have s_c := fun j => cell_of_row wr.drew _ j _ _ _ rs
      refine wp_region_still_tail 10 (by kernel_rfl) (by kernel_rfl) ?_
      simp only [List.take_succ_cons, List.take_zero, List.drop_succ_cons, List.drop_zero]
      repeat still_step
      refine wpStill_nil ?_
      change wpList _ _ _ _ _ wr.drew
      by_cases he : ((q0, q1, q2, q3, q4, q5) : H11) = (u0, u1, u2, u3, u4, u5)
      · have HE := Lib.hid (take_more HK.out hlt hlm (by rw [HPp.out, HUu.out]; exact he))
        have hd : decide (¬ ((q0, q1, q2, q3, q4, q5) : H11) = (u0, u1, u2, u3, u4, u5)) = false := decide_eq_false (fun h => h he)
        rw [hd] at hne
        clear hd he x0 x1 x2 x3 x4 x5 y0 y1 y2 y3 y4 y5
        have HJ2 : Hid (Jn w (Obj.cells #[.int .i64 m0, .int .i64 m1, .int .i64 m2, .int .i64 m3, .int .i64 m4, .int .i64 m5, .slice (some ⟨g1, 0, none⟩) l.length c1, .slice (some ⟨g2, 0, none⟩) st.length c2] 62 (0, 0)) (Obj.cells #[.int .i64 n0, .int .i64 n1, .int .i64 n2, .int .i64 n3, .int .i64 n4, .int .i64 n5, .slice (some ⟨g3, 0, none⟩) l.length c3, .slice (some ⟨g4, 0, none⟩) st2.length c4] 62 (0, 0)) wr.drew) := Lib.hid ⟨HJ.out.1, HJ.out.2.1, HJ.out.2.2.1, HJ.out.2.2.2.1, hB.drew⟩
        go_wp2_with fail
        go_roundw
        case rel => exact ⟨k + 1, by omega, by go_num, HE, HJ2⟩
        case measure => simp [intOf]; omega
      · have hd : decide (¬ ((q0, q1, q2, q3, q4, q5) : H11) = (u0, u1, u2, u3, u4, u5)) = true := decide_eq_true he
        rw [hd] at hne
        clear hd he x0 x1 x2 x3 x4 x5 y0 y1 y2 y3 y4 y5
        clear a_c s_c
        have q1 : wr.drew.heap[w.heap.size + 1 + 1]? = some (pz11 62) := HJ.out.2.2.1
        replace hB := hB.drew
        replace hsz : w.heap.size + 3 ≤ wr.drew.heap.size := hsz
        clear HD r0 rs
        generalize wr.drew = V at hB hsz q1 ⊢
        have z_f := fun j => frozen_of_row V _ j _ _ q1
        have z_c := fun j => cell_of_row V _ j _ _ _ q1
        have hz1 : w.heap.size + 1 + 1 < V.heap.size := (Array.getElem?_eq_some_iff.1 q1).1
        have Q1 := Lib.hid q1
        clear q1
        go_wp2_with fail
        clear z_f z_c
        have HF := fun X hX => Lib.hid (box_put11 (w := w) (X := X) (lo := V.heap.size) (m0 := 0) (m1 := 0) (m2 := 0) (m3 := 0) (m4 := 0) (m5 := 0) Q1.out (Pr11.nil _ _ _) hz1 (by omega) (by omega) hB hX)
        generalize hX : (World.setCell _ _ _ : World) = X
        replace HF := HF X hX
        have x_c := fun j => cell_of_row X _ j _ _ _ HF.out.1
        exact bodyPost_ret (v := .tuple #[.agg #[.int .i64 0, .int .i64 0, .int .i64 0, .int .i64 0, .int .i64 0, .int .i64 0, .slice none 0 0, .slice none 0 0], .bool false]) (by simp [results, Try.results46, go_sem, x_c]) rfl ⟨_, _, rfl, HF.out.2⟩
    · exfalso
      apply hx
      have h := HK.out
      rw [List.take_of_length_le (by omega), List.take_of_length_le (by omega)] at h
      exact h
/- Al11 -/
theorem neq_self11 (a0 a1 a2 a3 a4 a5 : Int) (w : World) : (binOp .neq 28 (.agg #[.int .i64 a0, .int .i64 a1, .int .i64 a2, .int .i64 a3, .int .i64 a4, .int .i64 a5]) (.agg #[.int .i64 a0, .int .i64 a1, .int .i64 a2, .int .i64 a3, .int .i64 a4, .int .i64 a5])).run Try.prog w = .ok (.bool false) w := by
  rw [neq_h11]
  simp
set_option maxRecDepth 20000 in
set_option maxHeartbeats 4000000 in
theorem sjoin_yes (m0 m1 m2 m3 m4 m5 : Int) (l : List H11) (st : List S11) (n0 n1 n2 n3 n4 n5 : Int) (st2 : List S11) (g1 c1 g2 c2 g3 c3 g4 c4 : Nat) (hl : l.length ≤ 1048576) (hst : st.length ≤ 1048576) (hst2 : st2.length ≤ 1048576) (hq1 : okP (m0, m1, m2, m3, m4, m5) l st = true) (hq2 : okP (n0, n1, n2, n3, n4, n5) l st2 = true) (hs : st.length + st2.length ≤ 40) (w : World) (h1 : w.rangeAt g1 0 (hv11 l)) (h2 : w.rangeAt g2 0 (sv11 st)) (h3 : w.rangeAt g3 0 (hv11 l)) (h4 : w.rangeAt g4 0 (sv11 st2)) : Calls Try.prog 46 #[.agg #[.int .i64 m0, .int .i64 m1, .int .i64 m2, .int .i64 m3, .int .i64 m4, .int .i64 m5, .slice (some ⟨g1, 0, none⟩) l.length c1, .slice (some ⟨g2, 0, none⟩) st.length c2], .agg #[.int .i64 n0, .int .i64 n1, .int .i64 n2, .int .i64 n3, .int .i64 n4, .int .i64 n5, .slice (some ⟨g3, 0, none⟩) l.length c3, .slice (some ⟨g4, 0, none⟩) st2.length c4]] w (TP11 m0 m1 m2 m3 m4 m5 l (st ++ st2) true w) := by
  have hs2 : ¬ (st.length : Int) + (st2.length : Int) > 40 := by omega
  have HP1 := Lib.hid (fun W a b => lplan_11 m0 m1 m2 m3 m4 m5 l st g1 c1 g2 c2 hl hst W a b)
  rw [hq1] at HP1
  have HP2 := Lib.hid (fun W a b => lplan_11 n0 n1 n2 n3 n4 n5 l st2 g3 c3 g4 c4 hl hst2 W a b)
  rw [hq2] at HP2
  obtain ⟨_, p2, p3, _, _⟩ := okP_parts hq1
  have HHV := Lib.hid (fun W a b => lown_11 m0 m1 m2 m3 m4 m5 (.slice (some ⟨g2, 0, none⟩) st.length c2) l st g1 c1 g2 c2 (by omega) (by omega) W a b)
  clear p2 p3
  have R1 := Lib.hid h1
  have R2 := Lib.hid h2
  have R3 := Lib.hid h3
  have R4 := Lib.hid h4
  clear h1 h2 h3 h4
  clear hq1 hq2
  obtain ⟨i0, hi, hz0, hz1, hz2⟩ := infos_steps11
  go_enter Try.func46, Try.ntmps46
  go_wp2_with fail
  generalize hW : (World.alloc _ _ : World) = W0
  have q0 : W0.heap[w.heap.size]? = some (Obj.cells #[.int .i64 m0, .int .i64 m1, .int .i64 m2, .int .i64 m3, .int .i64 m4, .int .i64 m5, .slice (some ⟨g1, 0, none⟩) l.length c1, .slice (some ⟨g2, 0, none⟩) st.length c2] 62 (0, 0)) := by rw [← hW]; exact alloc_past (alloc_past (alloc_at rfl))
  have qs : W0.heap[w.heap.size + 1]? = some (Obj.cells #[.int .i64 n0, .int .i64 n1, .int .i64 n2, .int .i64 n3, .int .i64 n4, .int .i64 n5, .slice (some ⟨g3, 0, none⟩) l.length c3, .slice (some ⟨g4, 0, none⟩) st2.length c4] 62 (0, 0)) := by rw [← hW]; exact alloc_past (alloc_at (by simp))
  have q1 : W0.heap[w.heap.size + 1 + 1]? = some (pz11 62) := by rw [← hW]; exact alloc_at (by simp)
  have hB : Below w.heap.size w W0 := by rw [← hW]; (repeat (first | exact Below.refl _ _ | assumption | refine Below.setCell ?_ (by first | (simp; done) | (simp; omega)) _ | refine Below.alloc ?_ (by first | (simp; done) | (simp; omega)) _ | refine Below.drew ?_))
  have hsz : w.heap.size + 3 ≤ W0.heap.size := by rw [← hW]; simp
  clear hW
  refine (HP1.out _ (ra_below R1.out hB rfl) (ra_below R2.out hB rfl)).mono ?_
  rintro e W1 ⟨rfl, hb⟩
  replace q0 := rowk q0 hb rfl
  replace qs := rowk qs hb rfl
  replace q1 := rowk q1 hb rfl
  replace hB := below_of hB hb (by omega)
  replace hsz := Nat.le_trans hsz hb.size
  clear hb HP1
  have a_c := fun j => cell_of_row W1 _ j _ _ _ q0
  have s_c := fun j => cell_of_row W1 _ j _ _ _ qs
  go_wp2_with fail
  clear a_c s_c
  refine (HP2.out _ (ra_below R3.out hB rfl) (ra_below R4.out hB rfl)).mono ?_
  rintro e W2 ⟨rfl, hb⟩
  replace q0 := rowk q0 hb rfl
  replace qs := rowk qs hb rfl
  replace q1 := rowk q1 hb rfl
  replace hB := below_of hB hb (by omega)
  replace hsz := Nat.le_trans hsz hb.size
  clear hb HP2
  have a_c := fun j => cell_of_row W2 _ j _ _ _ q0
  have s_c := fun j => cell_of_row W2 _ j _ _ _ qs
  go_wp2_with fail
  clear a_c s_c
  go_loopw [6] (fun i wr => ∃ k : Nat, k ≤ l.length ∧ i = .int .i64 k ∧ Hid (Jn w (Obj.cells #[.int .i64 m0, .int .i64 m1, .int .i64 m2, .int .i64 m3, .int .i64 m4, .int .i64 m5, .slice (some ⟨g1, 0, none⟩) l.length c1, .slice (some ⟨g2, 0, none⟩) st.length c2] 62 (0, 0)) (Obj.cells #[.int .i64 n0, .int .i64 n1, .int .i64 n2, .int .i64 n3, .int .i64 n4, .int .i64 n5, .slice (some ⟨g3, 0, none⟩) l.length c3, .slice (some ⟨g4, 0, none⟩) st2.length c4] 62 (0, 0)) wr)) (fun i _ => l.length - (intOf i).toNat)
  case atStart => exact ⟨0, by omega, rfl, Lib.hid ⟨q0, qs, q1, hsz, hB⟩⟩
  case round =>
    clear q0 qs q1 hsz hB
    obtain ⟨k, hk, rfl, HJ⟩ := hrel
    have q0 := HJ.out.1
    have qs := HJ.out.2.1
    have q1 := HJ.out.2.2.1
    have hsz := HJ.out.2.2.2.1
    have hB := HJ.out.2.2.2.2
    have a_c := fun j => cell_of_row wr _ j _ _ _ q0
    by_cases hlt : k < l.length
    · have hlt' : (k : Int) < l.length := by omega
      have hk0 : (0 : Int) ≤ k := by omega
      have hk2 : k ≤ 1048576 := by omega
      obtain ⟨p, hp⟩ : ∃ p, l[k] = p := ⟨_, rfl⟩
      obtain ⟨q0, q1, q2, q3, q4, q5⟩ := p
      have hne := fun W => neq_self11 q0 q1 q2 q3 q4 q5 W
      have HD : Hid (E2r w g1 g3 (hv11 l) (hv11 l) wr.drew) := Lib.hid (E2r.drew ⟨ra_below R1.out hB rfl, ra_below R3.out hB rfl, hB⟩)
      obtain ⟨x0, x1, x2, x3, x4, x5⟩ := HD.out.at1 hlt hp
      obtain ⟨y0, y1, y2, y3, y4, y5⟩ := HD.out.swap.at1 hlt hp
      clear hp
      go_wp2_with fail
      clear a_c
      have r0 : wr.drew.heap[w.heap.size]? = _ := HJ.out.1
      have rs : wr.drew.heap[w.heap.size + 1]? = _ := HJ.out.2.1
      have a_c := fun j => cell_of_row wr.drew _ j _ _ _ r0
      have s_c := fun j => cell_of_row wr.drew _ j _ _ _ rs
      refine wp_region_still_tail 10 (by kernel_rfl) (by kernel_rfl) ?_
      simp only [List.take_succ_cons, List.take_zero, List.drop_succ_cons, List.drop_zero]
      repeat still_step
      refine wpStill_nil ?_
      change wpList _ _ _ _ _ wr.drew
      clear x0 x1 x2 x3 x4 x5 y0 y1 y2 y3 y4 y5
      have HJ2 : Hid (Jn w (Obj.cells #[.int .i64 m0, .int .i64 m1, .int .i64 m2, .int .i64 m3, .int .i64 m4, .int .i64 m5, .slice (some ⟨g1, 0, none⟩) l.length c1, .slice (some ⟨g2, 0, none⟩) st.length c2] 62 (0, 0)) (Obj.cells #[.int .i64 n0, .int .i64 n1, .int .i64 n2, .int .i64 n3, .int .i64 n4, .int .i64 n5, .slice (some ⟨g3, 0, none⟩) l.length c3, .slice (some ⟨g4, 0, none⟩) st2.length c4] 62 (0, 0)) wr.drew) := Lib.hid ⟨HJ.out.1, HJ.out.2.1, HJ.out.2.2.1, HJ.out.2.2.2.1, hB.drew⟩
      go_wp2_with fail
      go_roundw
      case rel => exact ⟨k + 1, by omega, by go_num, HJ2⟩
      case measure => simp [intOf]; omega
    · obtain rfl : k = l.length := by omega
      go_wp2_with fail
      clear a_c
      refine (HHV.out _ (ra_below R1.out hB rfl) (ra_below R2.out hB rfl)).mono ?_
      rintro e W3 ⟨ga, ka, gb, kb, he, hp, hb⟩
      subst he
      replace qs := rowk qs hb rfl
      replace q1 := rowk q1 hb rfl
      have hs3 := hb.size
      have hlo : w.heap.size + 1 + 1 < wr.heap.size := by omega
      replace hB := below_of hB hb (by omega)
      clear hb HHV q0 HJ
      have q6 : (W3.alloc (.cells #[.int .i64 m0, .int .i64 m1, .int .i64 m2, .int .i64 m3, .int .i64 m4, .int .i64 m5, .slice (some ⟨ga, 0, none⟩) l.length ka, .slice (some ⟨gb, 0, none⟩) st.length kb] 62)).heap[W3.heap.size]? = some (.cells #[.int .i64 m0, .int .i64 m1, .int .i64 m2, .int .i64 m3, .int .i64 m4, .int .i64 m5, .slice (some ⟨ga, 0, none⟩) l.length ka, .slice (some ⟨gb, 0, none⟩) st.length kb] 62 (0, 0)) := alloc_at rfl
      replace hp := hp.st W3 (W3.alloc (.cells #[.int .i64 m0, .int .i64 m1, .int .i64 m2, .int .i64 m3, .int .i64 m4, .int .i64 m5, .slice (some ⟨ga, 0, none⟩) l.length ka, .slice (some ⟨gb, 0, none⟩) st.length kb] 62)) (fun k _ hk => ((Below.refl W3.heap.size W3).alloc (Nat.le_refl _) _).block k hk)
      replace qs := alloc_past (o := (.cells #[.int .i64 m0, .int .i64 m1, .int .i64 m2, .int .i64 m3, .int .i64 m4, .int .i64 m5, .slice (some ⟨ga, 0, none⟩) l.length ka, .slice (some ⟨gb, 0, none⟩) st.length kb] 62)) qs
      replace q1 := alloc_past (o := (.cells #[.int .i64 m0, .int .i64 m1, .int .i64 m2, .int .i64 m3, .int .i64 m4, .int .i64 m5, .slice (some ⟨ga, 0, none⟩) l.length ka, .slice (some ⟨gb, 0, none⟩) st.length kb] 62)) q1
      replace hB := hB.alloc (by omega) (.cells #[.int .i64 m0, .int .i64 m1, .int .i64 m2, .int .i64 m3, .int .i64 m4, .int .i64 m5, .slice (some ⟨ga, 0, none⟩) l.length ka, .slice (some ⟨gb, 0, none⟩) st.length kb] 62)
      have hs6 : (W3.alloc (.cells #[.int .i64 m0, .int .i64 m1, .int .i64 m2, .int .i64 m3, .int .i64 m4, .int .i64 m5, .slice (some ⟨ga, 0, none⟩) l.length ka, .slice (some ⟨gb, 0, none⟩) st.length kb] 62)).heap.size = W3.heap.size + 1 := by simp
      have R4b := Lib.hid (ra_below R4.out hB rfl)
      have Q6 := Lib.hid q6
      have Q1 := Lib.hid q1
      have HPP := Lib.hid hp
      have HBB := Lib.hid hB
      have HLO := Lib.hid hlo
      have HS3 := Lib.hid hs3
      have HS6 := Lib.hid hs6
      have y_c := fun j => cell_of_row _ _ j _ _ _ q6
      have s_c := fun j => cell_of_row _ _ j _ _ _ qs
      clear q6 q1 hp hB hlo hs3 hs6 hsz qs
      go_wp2_with (at_builtin; go_loud (refine wpList_append_own_at _ rfl _ _ 60 rfl wr.heap.size 73 i0 (.agg #[.int .i64 0, .int .i64 0, .int .i64 0, .int .i64 0]) 4 32 Try.underlying60 hi hz0 hz1 hz2 rfl (by decide) (.slice (some ⟨gb, 0, none⟩) st.length kb) st.length (sv11 st) rfl HPP.out.2.1 ⟨g4, 0, none⟩ st2.length c4 (sv11 st2) rfl (sv11_len st2) (ra_add R4b.out) (sv11_one st2) (by unfold maxLen; omega) (by omega) (by have := HS3.out; have := HS6.out; omega) ?_; intro v' w1 hown hgr hnn hat; have HA2 := Lib.hid (And.intro hown (And.intro hgr hat)); obtain ⟨gn, kn, rfl⟩ := form10 hown (fun e => absurd (hnn.mp e).1 (by simp)); have q7 := (hgr.block W3.heap.size (by have := HS6.out; omega) (fun e => by have := HPP.out.2.2.2.1 W3.heap.size e.symm; omega)).trans Q6.out; clear y_c s_c; have y_c := fun j => cell_of_row w1 _ j _ _ _ q7; have y_f := fun j => frozen_of_row w1 _ j _ _ q7; have q1 := (hgr.block (w.heap.size + 1 + 1) (by have := HLO.out; have := HS3.out; have := HS6.out; omega) (fun e => by have := (HPP.out.2.1.lt _ e.symm).1; have := HLO.out; omega)).trans Q1.out; have z_c := fun j => cell_of_row w1 _ j _ _ _ q1; have z_f := fun j => frozen_of_row w1 _ j _ _ q1; have gne : w.heap.size + 1 + 1 ≠ W3.heap.size := (by have := HLO.out; have := HS3.out; omega); have gne2 : W3.heap.size ≠ w.heap.size + 1 + 1 := fun e => gne e.symm; have Q7 := Lib.hid q7; have QR := Lib.hid q1; clear hown hgr hnn hat q7 q1))
      have hga := HPP.out.2.2.1 ga rfl
      have hgb := HPP.out.2.2.2.1 gb rfl
      have hne : ga ≠ gb := fun e => HPP.out.2.2.2.2 ga rfl (by rw [e]; rfl)
      have hgl := HA2.out.1.lt gn rfl
      have hz6 := HS6.out
      have hgn : gn ≠ W3.heap.size ∧ ga ≠ gn := by
        rcases HA2.out.2.2 with e | e
        · have e : gn = gb := by simpa [Value.ownBlock] using e
          omega
        · have e : gn = (W3.alloc (.cells #[.int .i64 m0, .int .i64 m1, .int .i64 m2, .int .i64 m3, .int .i64 m4, .int .i64 m5, .slice (some ⟨ga, 0, none⟩) l.length ka, .slice (some ⟨gb, 0, none⟩) st.length kb] 62)).heap.size := by simpa [Value.ownBlock] using e
          rw [hz6] at e
          omega
      have hg6 := HA2.out.2.1
      have hl6 := HLO.out
      have hl3 := HS3.out
      have q1 : (w1.setCell ⟨W3.heap.size, 7, none⟩ (.slice (some ⟨gn, 0, none⟩) (st.length + st2.length) kn)).heap[w.heap.size + 1 + 1]? = some (pz11 62) := by
        rw [Below.heap_setCell _ _ _ _ (show w.heap.size + 1 + 1 ≠ W3.heap.size by omega)]
        exact QR.out
      have o1 := HPP.out.1.kept hg6 (.inr (by simp [Value.ownBlock]; omega))
      have o1 := own_same (lo := ga) (hi := ga + 1) (V := w1.setCell ⟨W3.heap.size, 7, none⟩ (.slice (some ⟨gn, 0, none⟩) (st.length + st2.length) kn)) o1 (fun k h1 h2 => Below.heap_setCell _ _ _ _ (show k ≠ W3.heap.size by omega)) (fun k hk => by (have : ga = k := (by simpa [Value.ownBlock] using hk)); omega)
      have o2 := own_same (lo := gn) (hi := gn + 1) (V := w1.setCell ⟨W3.heap.size, 7, none⟩ (.slice (some ⟨gn, 0, none⟩) (st.length + st2.length) kn)) HA2.out.1 (fun k h1 h2 => Below.heap_setCell _ _ _ _ (show k ≠ W3.heap.size by omega)) (fun k hk => by (have : gn = k := (by simpa [Value.ownBlock] using hk)); omega)
      rw [← sv11_app] at o2
      have hB : Below w.heap.size w (w1.setCell ⟨W3.heap.size, 7, none⟩ (.slice (some ⟨gn, 0, none⟩) (st.length + st2.length) kn)) := (HBB.out.grown hg6 (by have := HBB.out.size; exact this) (fun k hk => by have := (HPP.out.2.1.lt _ hk).1; omega)).setCell (show w.heap.size ≤ W3.heap.size by omega) _
      have hg1 := hg6.size
      have hlt1 : gn < w1.heap.size := hgl.2
      have hlt0 := hgl.1
      have hla := (HPP.out.1.lt ga rfl).1
      have hsx : (w1.setCell ⟨W3.heap.size, 7, none⟩ (.slice (some ⟨gn, 0, none⟩) (st.length + st2.length) kn)).heap.size = w1.heap.size := by simp
      clear HPP HA2 HBB Q6 Q1 Q7 QR HS3 HS6 hg6 hgl HLO gne gne2 y_c y_f z_c z_f
      generalize World.setCell w1 _ _ = X7 at q1 o1 o2 hB hsx ⊢
      have hp : Pr11 wr.heap.size X7.heap.size (.slice (some ⟨ga, 0, none⟩) l.length ka) (.slice (some ⟨gn, 0, none⟩) (st.length + st2.length) kn) l (st ++ st2) X7 := by
        refine ⟨o1, by rw [List.length_append]; exact o2, fun k hk => ?_, fun k hk => ?_, fun k h1 h2 => ?_⟩
        · have : ga = k := by simpa [Value.ownBlock] using hk
          omega
        · have : gn = k := by simpa [Value.ownBlock] using hk
          omega
        · have e1 : ga = k := by simpa [Value.ownBlock] using h1
          have e2 : gn = k := by simpa [Value.ownBlock] using h2
          omega
      have Q1 := Lib.hid q1
      have HF := fun X hX => Lib.hid (box_put11 (w := w) (X := X) (lo := wr.heap.size) (m0 := m0) (m1 := m1) (m2 := m2) (m3 := m3) (m4 := m4) (m5 := m5) Q1.out hp hl6 (by omega) (by omega) hB hX)
      clear q1 o1 o2 hp
      generalize hX : (World.setCell _ _ _ : World) = X
      replace HF := HF X hX
      have x_c := fun j => cell_of_row X _ j _ _ _ HF.out.1
      exact bodyPost_ret (v := .tuple #[.agg #[.int .i64 m0, .int .i64 m1, .int .i64 m2, .int .i64 m3, .int .i64 m4, .int .i64 m5, .slice (some ⟨ga, 0, none⟩) l.length ka, .slice (some ⟨gn, 0, none⟩) (st.length + st2.length) kn], .bool true]) (by simp [results, Try.results46, go_sem, x_c]) rfl ⟨_, _, rfl, HF.out.2⟩
theorem join_pair (m0 m1 m2 m3 m4 m5 : Int) (l : List H11) (st : List S11) (n0 n1 n2 n3 n4 n5 : Int) (l2 : List H11) (st2 : List S11) (hl : l.length ≤ 1048576) (hst : st.length ≤ 1048576) (hl2 : l2.length ≤ 1048576) (hst2 : st2.length ≤ 1048576) (hwf : ∀ p ∈ st, (Lit.int .i64 p.x).wf = true ∧ (Lit.int .i64 p.y).wf = true) (hwf2 : ∀ p ∈ st2, (Lit.int .i64 p.x).wf = true ∧ (Lit.int .i64 p.y).wf = true) : ∃ (r0 r1 r2 r3 r4 r5 : Int) (l' : List H11) (st' : List S11) (t : Bool), l'.length ≤ 1000 ∧ st'.length ≤ 1000 ∧ (∀ (g1 c1 g2 c2 g3 c3 g4 c4 : Nat) (W : World), st.length ≤ c2 → W.rangeAt g1 0 (hv11 l) → W.rangeAt g2 0 (sv11 st) → W.rangeAt g3 0 (hv11 l2) → W.rangeAt g4 0 (sv11 st2) → Calls Try.prog 46 #[.agg #[.int .i64 m0, .int .i64 m1, .int .i64 m2, .int .i64 m3, .int .i64 m4, .int .i64 m5, .slice (some ⟨g1, 0, none⟩) l.length c1, .slice (some ⟨g2, 0, none⟩) st.length c2], .agg #[.int .i64 n0, .int .i64 n1, .int .i64 n2, .int .i64 n3, .int .i64 n4, .int .i64 n5, .slice (some ⟨g3, 0, none⟩) l2.length c3, .slice (some ⟨g4, 0, none⟩) st2.length c4]] W (TP11 r0 r1 r2 r3 r4 r5 l' st' t W)) ∧ (∀ (g1 c1 g2 c2 g3 c3 g4 c4 : Nat) (W : World), st.length ≤ c2 → W.rangeAt g1 0 (hv11 l) → W.rangeAt g2 0 (sv11 st) → W.rangeAt g3 0 (hv11 l2) → W.rangeAt g4 0 (sv11 st2) → Calls Try.prog 47 #[.agg #[.int .i64 m0, .int .i64 m1, .int .i64 m2, .int .i64 m3, .int .i64 m4, .int .i64 m5, .slice (some ⟨g1, 0, none⟩) l.length c1, .slice (some ⟨g2, 0, none⟩) st.length c2], .agg #[.int .i64 n0, .int .i64 n1, .int .i64 n2, .int .i64 n3, .int .i64 n4, .int .i64 n5, .slice (some ⟨g3, 0, none⟩) l2.length c3, .slice (some ⟨g4, 0, none⟩) st2.length c4]] W (TP11 r0 r1 r2 r3 r4 r5 l' st' t W)) := by
  have hw2 : ∀ q ∈ st ++ st2, (Lit.int .i64 q.x).wf = true ∧ (Lit.int .i64 q.y).wf = true := by
    intro q hq
    rcases List.mem_append.mp hq with h | h
    · exact hwf q h
    · exact hwf2 q h
  cases hp : okP (m0, m1, m2, m3, m4, m5) l st <;> cases hq : okP (n0, n1, n2, n3, n4, n5) l2 st2
  · exact ⟨0, 0, 0, 0, 0, 0, [], [], false, by simp, by simp, fun g1 c1 g2 c2 g3 c3 g4 c4 W _ a b c d => sjoin_p m0 m1 m2 m3 m4 m5 l st n0 n1 n2 n3 n4 n5 l2 st2 g1 c1 g2 c2 g3 c3 g4 c4 hl hst hl2 hst2 hp W a b c d, fun g1 c1 g2 c2 g3 c3 g4 c4 W _ a b c d => ijoin_q m0 m1 m2 m3 m4 m5 l st n0 n1 n2 n3 n4 n5 l2 st2 g1 c1 g2 c2 g3 c3 g4 c4 hl hst hl2 hst2 hwf2 hq W a b c d⟩
  · by_cases he : l = l2
    · exact ⟨0, 0, 0, 0, 0, 0, [], [], false, by simp, by simp, fun g1 c1 g2 c2 g3 c3 g4 c4 W _ a b c d => sjoin_p m0 m1 m2 m3 m4 m5 l st n0 n1 n2 n3 n4 n5 l2 st2 g1 c1 g2 c2 g3 c3 g4 c4 hl hst hl2 hst2 hp W a b c d, fun g1 c1 g2 c2 g3 c3 g4 c4 W _ a b c d => ijoin_any m0 m1 m2 m3 m4 m5 l st n0 n1 n2 n3 n4 n5 l2 st2 g1 c1 g2 c2 g3 c3 g4 c4 0 0 0 0 0 0 [] [] false hl hst hl2 hst2 hwf2 hq he (Lib.hid (fun W' a' b' _ => iadd_no m0 m1 m2 m3 m4 m5 l st g1 c1 g2 c2 _ hl hst hwf hp W' a' b')) W a b c d⟩
    · exact ⟨0, 0, 0, 0, 0, 0, [], [], false, by simp, by simp, fun g1 c1 g2 c2 g3 c3 g4 c4 W _ a b c d => sjoin_p m0 m1 m2 m3 m4 m5 l st n0 n1 n2 n3 n4 n5 l2 st2 g1 c1 g2 c2 g3 c3 g4 c4 hl hst hl2 hst2 hp W a b c d, fun g1 c1 g2 c2 g3 c3 g4 c4 W _ a b c d => ijoin_e m0 m1 m2 m3 m4 m5 l st n0 n1 n2 n3 n4 n5 l2 st2 g1 c1 g2 c2 g3 c3 g4 c4 hl hst hl2 hst2 hwf2 hq he W a b c d⟩
  · exact ⟨0, 0, 0, 0, 0, 0, [], [], false, by simp, by simp, fun g1 c1 g2 c2 g3 c3 g4 c4 W _ a b c d => sjoin_q m0 m1 m2 m3 m4 m5 l st n0 n1 n2 n3 n4 n5 l2 st2 g1 c1 g2 c2 g3 c3 g4 c4 hl hst hl2 hst2 hp hq W a b c d, fun g1 c1 g2 c2 g3 c3 g4 c4 W _ a b c d => ijoin_q m0 m1 m2 m3 m4 m5 l st n0 n1 n2 n3 n4 n5 l2 st2 g1 c1 g2 c2 g3 c3 g4 c4 hl hst hl2 hst2 hwf2 hq W a b c d⟩
  · have k2 := (okP_parts hq).2.2.1
    have k1 := (okP_parts hp).2.2.1
    by_cases he : l = l2
    · subst he
      have hs1 := okP_app hp hq
      by_cases hs : st.length + st2.length ≤ 40
      · have hd : decide (st.length + st2.length ≤ 40) = true := decide_eq_true hs
        rw [hd] at hs1
        refine ⟨m0, m1, m2, m3, m4, m5, l, st ++ st2, true, by have := (okP_parts hp).2.1; omega, by rw [List.length_append]; omega, fun g1 c1 g2 c2 g3 c3 g4 c4 W _ a b c d => sjoin_yes m0 m1 m2 m3 m4 m5 l st n0 n1 n2 n3 n4 n5 st2 g1 c1 g2 c2 g3 c3 g4 c4 hl hst hst2 hp hq hs W a b c d, fun g1 c1 g2 c2 g3 c3 g4 c4 W _ a b c d => ijoin_any m0 m1 m2 m3 m4 m5 l st n0 n1 n2 n3 n4 n5 l st2 g1 c1 g2 c2 g3 c3 g4 c4 m0 m1 m2 m3 m4 m5 l (st ++ st2) true hl hst hl2 hst2 hwf2 hq rfl (Lib.hid (fun W' a' b' c' => ?_)) W a b c d⟩
        obtain ⟨f, F, e1, rfl, h2, h3, h5⟩ := okP_get hp
        simp only [t11, Prod.mk.injEq] at e1
        obtain ⟨rfl, rfl, rfl, rfl, rfl, rfl⟩ := e1
        have := iadd_yes f F st g1 c1 g2 c2 h3 h2 h5 st2 g4 c4 (by omega) hw2 hs1 W' a' b' c'
        rw [show (F.map t11).length = F.length from List.length_map t11]
        exact this
      · have hd : decide (st.length + st2.length ≤ 40) = false := decide_eq_false hs
        rw [hd] at hs1
        refine ⟨0, 0, 0, 0, 0, 0, [], [], false, by simp, by simp, fun g1 c1 g2 c2 g3 c3 g4 c4 W _ a b c d => sjoin_m m0 m1 m2 m3 m4 m5 l st n0 n1 n2 n3 n4 n5 l st2 g1 c1 g2 c2 g3 c3 g4 c4 hl hst hl2 hst2 hp hq rfl (by omega) W a b c d, fun g1 c1 g2 c2 g3 c3 g4 c4 W _ a b c d => ijoin_any m0 m1 m2 m3 m4 m5 l st n0 n1 n2 n3 n4 n5 l st2 g1 c1 g2 c2 g3 c3 g4 c4 0 0 0 0 0 0 [] [] false hl hst hl2 hst2 hwf2 hq rfl (Lib.hid (fun W' a' b' c' => ?_)) W a b c d⟩
        obtain ⟨f, F, e1, rfl, h2, h3, h5⟩ := okP_get hp
        simp only [t11, Prod.mk.injEq] at e1
        obtain ⟨rfl, rfl, rfl, rfl, rfl, rfl⟩ := e1
        have := iadd_bad f F st g1 c1 g2 c2 h3 h2 h5 st2 g4 c4 (by omega) hw2 hs1 W' a' b' c'
        rw [show (F.map t11).length = F.length from List.length_map t11]
        exact this
    · by_cases hn : l2.length = l.length
      · by_cases hs : st.length + st2.length ≤ 40
        · exact ⟨0, 0, 0, 0, 0, 0, [], [], false, by simp, by simp, fun g1 c1 g2 c2 g3 c3 g4 c4 W _ a b c d => (by have := sjoin_e m0 m1 m2 m3 m4 m5 l st n0 n1 n2 n3 n4 n5 l2 st2 g1 c1 g2 c2 g3 c3 g4 c4 hl hst hl2 hst2 hp hq hn (by omega) he W a b c d; rw [hn]; exact this), fun g1 c1 g2 c2 g3 c3 g4 c4 W _ a b c d => ijoin_e m0 m1 m2 m3 m4 m5 l st n0 n1 n2 n3 n4 n5 l2 st2 g1 c1 g2 c2 g3 c3 g4 c4 hl hst hl2 hst2 hwf2 hq he W a b c d⟩
        · exact ⟨0, 0, 0, 0, 0, 0, [], [], false, by simp, by simp, fun g1 c1 g2 c2 g3 c3 g4 c4 W _ a b c d => (by have := sjoin_m m0 m1 m2 m3 m4 m5 l st n0 n1 n2 n3 n4 n5 l2 st2 g1 c1 g2 c2 g3 c3 g4 c4 hl hst hl2 hst2 hp hq hn (by omega) W a b c d; rw [hn]; exact this), fun g1 c1 g2 c2 g3 c3 g4 c4 W _ a b c d => ijoin_e m0 m1 m2 m3 m4 m5 l st n0 n1 n2 n3 n4 n5 l2 st2 g1 c1 g2 c2 g3 c3 g4 c4 hl hst hl2 hst2 hwf2 hq he W a b c d⟩
      · exact ⟨0, 0, 0, 0, 0, 0, [], [], false, by simp, by simp, fun g1 c1 g2 c2 g3 c3 g4 c4 W _ a b c d => sjoin_n m0 m1 m2 m3 m4 m5 l st n0 n1 n2 n3 n4 n5 l2 st2 g1 c1 g2 c2 g3 c3 g4 c4 hl hst hl2 hst2 hp hq (by omega) W a b c d, fun g1 c1 g2 c2 g3 c3 g4 c4 W _ a b c d => ijoin_e m0 m1 m2 m3 m4 m5 l st n0 n1 n2 n3 n4 n5 l2 st2 g1 c1 g2 c2 g3 c3 g4 c4 hl hst hl2 hst2 hwf2 hq he W a b c d⟩
/- Mk12 -/
set_option maxHeartbeats 1000000 in
theorem size_planL11 (m0 m1 m2 m3 m4 m5 : Int) (a1 : Option Addr) (n1 cap1 : Nat) (a2 : Option Addr) (n2 cap2 : Nat) (hn1 : n1 ≤ maxLen) (hn2 : n2 ≤ maxLen) (M : Int) (hM0 : 0 ≤ M) (hM1 : M ≤ 1048576) (w : World) : Calls Try.prog 34 #[.agg #[.int .i64 m0, .int .i64 m1, .int .i64 m2, .int .i64 m3, .int .i64 m4, .int .i64 m5, .slice a1 n1 cap1, .slice a2 n2 cap2], .int .i64 M] w fun e w' => e = .returned (.int .i64 (if M < ((n1 + n2 : Nat) : Int) then -1 else M - ((n1 + n2 : Nat) : Int))) ∧ Below w.heap.size w w' := by
  have H1 := Lib.hid (size_sheets11 a1 n1 cap1 hn1 M (by omega) (by omega))
  by_cases h : (M : Int) < (n1 : Int)
  · rw [if_pos (by omega)]
    simp only [if_pos h] at H1
    go_enter Try.func34, Try.ntmps34
    go_wp2_with fail
    refine (H1.out _).mono ?_
    rintro e W1 ⟨rfl, hb⟩
    obtain rfl := hb.symm
    go_wp2_with fail
    go_ret
    exact ⟨rfl, by (repeat (first | exact Below.refl _ _ | assumption | refine Below.setCell ?_ (by first | (simp; done) | (simp; omega)) _ | refine Below.alloc ?_ (by first | (simp; done) | (simp; omega)) _ | refine Below.drew ?_))⟩
  · simp only [if_neg h] at H1
    have H2 := Lib.hid (size_steps11 a2 n2 cap2 hn2 (M - (n1 : Int)) (by omega) (by omega))
    have hq : ¬ (M - (n1 : Int) < 0) := by omega
    obtain ⟨L, hL⟩ : ∃ L : Int, L = M - (n1 : Int) := ⟨_, rfl⟩
    rw [← hL] at H1 H2 hq
    by_cases h2 : L < (n2 : Int)
    · rw [if_pos (by omega)]
      simp only [if_pos h2] at H2
      clear hL
      go_enter Try.func34, Try.ntmps34
      go_wp2_with fail
      refine (H1.out _).mono ?_
      rintro e W1 ⟨rfl, hb⟩
      obtain rfl := hb.symm
      go_wp2_with fail
      refine (H2.out _).mono ?_
      rintro e W1 ⟨rfl, hb⟩
      obtain rfl := hb.symm
      go_wp2_with fail
      go_ret
      exact ⟨rfl, by (repeat (first | exact Below.refl _ _ | assumption | refine Below.setCell ?_ (by first | (simp; done) | (simp; omega)) _ | refine Below.alloc ?_ (by first | (simp; done) | (simp; omega)) _ | refine Below.drew ?_))⟩
    · rw [if_neg (by omega)]
      simp only [if_neg h2] at H2
      have hq2 : ¬ (L - (n2 : Int) < 0) := by omega
      have hR : Hid (M - ((n1 + n2 : Nat) : Int) = L - n2) := Lib.hid (by omega)
      clear hL
      go_enter Try.func34, Try.ntmps34
      go_wp2_with fail
      refine (H1.out _).mono ?_
      rintro e W1 ⟨rfl, hb⟩
      obtain rfl := hb.symm
      go_wp2_with fail
      refine (H2.out _).mono ?_
      rintro e W1 ⟨rfl, hb⟩
      obtain rfl := hb.symm
      go_wp2_with fail
      go_ret
      exact ⟨by rw [hR.out]; rfl, by (repeat (first | exact Below.refl _ _ | assumption | refine Below.setCell ?_ (by first | (simp; done) | (simp; omega)) _ | refine Below.alloc ?_ (by first | (simp; done) | (simp; omega)) _ | refine Below.drew ?_))⟩
set_option maxRecDepth 8000 in
set_option maxHeartbeats 1000000 in
theorem mark_planK11 (m0 m1 m2 m3 m4 m5 : Int) (v1 v2 : Value) (l : List H11) (st : List S11) (lo hi : Nat) (K : Int) (hK : 1 ≤ K) (hK2 : K ≤ 8388608) (hz : l.length + st.length ≤ 1048576) (w : World) (hhi : hi ≤ w.heap.size) (hp : Pr11 lo hi v1 v2 l st w) : Calls Try.prog 39 #[.agg #[.int .i64 m0, .int .i64 m1, .int .i64 m2, .int .i64 m3, .int .i64 m4, .int .i64 m5, v1, v2], .int .i64 K] w fun e w' => e = .returned (.int .i64 (K + ((l.length * 6 : Nat) : Int) + ((st.length * 4 : Nat) : Int))) ∧ Onl11 lo hi w w' := by
  have H1 := Lib.hid (fun W h => marksheets_any11 v1 lo l.length (hv11 l) K (by omega) (by omega) W h)
  have H2 := Lib.hid (fun W h => marksteps_any11 v2 lo st.length (sv11 st) (K + ((l.length * 6 : Nat) : Int)) (by omega) (by omega) W h)
  obtain ⟨M, hM⟩ : ∃ M : Int, M = K + ((l.length * 6 : Nat) : Int) := ⟨_, rfl⟩
  have HM := Lib.hid hM
  rw [← hM] at H1 H2
  rw [← hM]
  clear hM
  have HP := Lib.hid hp
  clear hp
  go_enter Try.func39, Try.ntmps39
  go_wp2_with fail
  generalize hW : (World.alloc _ _ : World) = W0
  have r0 : W0.heap[w.heap.size]? = some (.cells #[.int .i64 m0, .int .i64 m1, .int .i64 m2, .int .i64 m3, .int .i64 m4, .int .i64 m5, v1, v2] 62 (0, 0)) := by rw [← hW]; exact alloc_at rfl
  have hB0 : Below w.heap.size w W0 := by rw [← hW]; (repeat (first | exact Below.refl _ _ | assumption | refine Below.setCell ?_ (by first | (simp; done) | (simp; omega)) _ | refine Below.alloc ?_ (by first | (simp; done) | (simp; omega)) _ | refine Below.drew ?_))
  clear hW
  have hp0 := HP.out.st w W0 (fun k _ hk => hB0.block k (by omega))
  clear HP
  refine (H1.out _ hp0.1).mono ?_
  rintro e W1 ⟨rfl, ho, hg⟩
  have hl1 := fun k hk => hp0.1.lt k hk
  have o1 : Onl11 lo hi w W1 := (Onl11.of_below hB0 rfl).trans (Onl11.of_grown hg (fun k hk => ⟨(hl1 k hk).1, hp0.2.2.1 k hk⟩))
  have r1 : W1.heap[w.heap.size]? = some (.cells #[.int .i64 m0, .int .i64 m1, .int .i64 m2, .int .i64 m3, .int .i64 m4, .int .i64 m5, v1, v2] 62 (0, 0)) := by
    rw [hg.block w.heap.size ((Array.getElem?_eq_some_iff.1 r0).1) (fun e => by have := hp0.2.2.1 _ e.symm; omega)]
    exact r0
  have q2 : W1.ownsRow lo 73 4 v2 st.length (sv11 st) := hp0.2.1.kept hg (by
    cases hq : v2.ownBlock
    · exact .inl rfl
    · exact .inr (fun e => hp0.2.2.2.2 _ e.symm hq))
  have HT := Lib.hid hp0.2.2
  have HO1 := Lib.hid o1
  have HA := Lib.hid ho
  have a_c := fun j => cell_of_row W1 _ j _ _ _ r1
  clear r0 hB0 hp0 H1 hg hl1 o1 ho r1
  go_wp2_with fail
  refine (H2.out _ q2).mono ?_
  rintro e W2 ⟨rfl, ho2, hg2⟩
  have hl2 := fun k hk => q2.lt k hk
  have o2 : Onl11 lo hi w W2 := HO1.out.trans (Onl11.of_grown hg2 (fun k hk => ⟨(hl2 k hk).1, HT.out.2.1 k hk⟩))
  have HF := Lib.hid o2
  clear a_c q2 ho2 hg2 hl2 o2 HA HO1 H2
  go_wp2_with fail
  go_ret
  exact ⟨rfl, HF.out⟩
/- Rj11 -/
theorem SKP_8 {wr U : World} {d0 d1 : Nat} {m0 m1 m2 m3 m4 m5 n0 n1 n2 n3 n4 n5 : Int} {a1 a2 b1 b2 : Option Addr} {k1 k2 h1 h2 : Nat} {z1 y1 : List H11} {z2 y2 : List S11} (e0 : wr.heap[d0]? = some (Obj.cells #[.int .i64 m0, .int .i64 m1, .int .i64 m2, .int .i64 m3, .int .i64 m4, .int .i64 m5, .slice a1 z1.length k1, .slice a2 z2.length k2] 57 (0, 0))) (e1 : wr.heap[d1]? = some (Obj.cells #[.int .i64 n0, .int .i64 n1, .int .i64 n2, .int .i64 n3, .int .i64 n4, .int .i64 n5, .slice b1 y1.length h1, .slice b2 y2.length h2] 57 (0, 0))) (hb : Below wr.heap.size wr U) : U.cell? ⟨d0, 0, none⟩ = some (.int .i64 m0) ∧ U.cell? ⟨d0, 1, none⟩ = some (.int .i64 m1) ∧ U.cell? ⟨d0, 2, none⟩ = some (.int .i64 m2) ∧ U.cell? ⟨d0, 3, none⟩ = some (.int .i64 m3) ∧ U.cell? ⟨d0, 4, none⟩ = some (.int .i64 m4) ∧ U.cell? ⟨d0, 5, none⟩ = some (.int .i64 m5) ∧ U.cell? ⟨d0, 6, none⟩ = some (.slice a1 z1.length k1) ∧ U.cell? ⟨d0, 7, none⟩ = some (.slice a2 z2.length k2) ∧ U.cell? ⟨d1, 0, none⟩ = some (.int .i64 n0) ∧ U.cell? ⟨d1, 1, none⟩ = some (.int .i64 n1) ∧ U.cell? ⟨d1, 2, none⟩ = some (.int .i64 n2) ∧ U.cell? ⟨d1, 3, none⟩ = some (.int .i64 n3) ∧ U.cell? ⟨d1, 4, none⟩ = some (.int .i64 n4) ∧ U.cell? ⟨d1, 5, none⟩ = some (.int .i64 n5) ∧ U.cell? ⟨d1, 6, none⟩ = some (.slice b1 y1.length h1) ∧ U.cell? ⟨d1, 7, none⟩ = some (.slice b2 y2.length h2) := by
  have q0 := fun j => cell_of_row U d0 j _ _ _ (rowk e0 hb rfl)
  have q1 := fun j => cell_of_row U d1 j _ _ _ (rowk e1 hb rfl)
  exact ⟨q0 0, q0 1, q0 2, q0 3, q0 4, q0 5, q0 6, q0 7, q1 0, q1 1, q1 2, q1 3, q1 4, q1 5, q1 6, q1 7⟩
set_option linter.unusedSimpArgs false in
set_option maxRecDepth 20000 in
set_option maxHeartbeats 8000000 in
theorem rj_8 {Q : Exit → Act → World → Prop} (wr : World) (d0 d1 : Nat) (m0 m1 m2 m3 m4 m5 : Int) (n0 n1 n2 n3 n4 n5 : Int) (a1 a2 b1 b2 : Option Addr) (k1 k2 h1 h2 : Nat) (z1 y1 : List H11) (z2 y2 : List S11) (r0 r1 r2 r3 r4 r5 : Int) (l' : List H11) (st' : List S11) (t : Bool) {x0 x1 x4 x5 x6 x7 x8 x9 x10 x11 x12 x13 x14 x15 x16 x17 x18 x19 x20 x21 x22 x23 x24 x25 x26 x27 x28 x29 x30 x31 x32 x33 x34 x35 x36 x37 x38 x39 x40 x41 x42 x43 x44 x45 x46 x47 x48 x49 x50 x51 x52 x53 x54 x55 x56 x57 x58 x59 x60 x61 x62 x63 x64 x65 x66 x67 x68 x69 x70 x71 x72 x73 x74 x75 x76 x77 x78 x79 x80 x81 x82 x83 x84 x85 x86 x87 x88 x89 x90 x91 x92 x93 x94 x95 x96 x97 x98 x99 x100 x101 x102 x103 x104 x105 x106 x107 x108 x109 x110 x111 x112 x113 x114 x115 x116 x117 x118 : Value} (H0 : Hid (wr.heap[d0]? = some (Obj.cells #[.int .i64 m0, .int .i64 m1, .int .i64 m2, .int .i64 m3, .int .i64 m4, .int .i64 m5, .slice a1 z1.length k1, .slice a2 z2.length k2] 57 (0, 0)))) (H1 : Hid (wr.heap[d1]? = some (Obj.cells #[.int .i64 n0, .int .i64 n1, .int .i64 n2, .int .i64 n3, .int .i64 n4, .int .i64 n5, .slice b1 y1.length h1, .slice b2 y2.length h2] 57 (0, 0)))) (HT : Hid (∀ (W : World), Is11 ch11 6 W a1 z1 → Is11 cs11 4 W a2 z2 → Calls Try.prog 36 #[.agg #[.int .i64 m0, .int .i64 m1, .int .i64 m2, .int .i64 m3, .int .i64 m4, .int .i64 m5, .slice a1 z1.length k1, .slice a2 z2.length k2]] W (PP11 m0 m1 m2 m3 m4 m5 z1 z2 W))) (J0 : Hid (Is11 ch11 6 wr a1 z1)) (J1 : Hid (Is11 cs11 4 wr a2 z2)) (HT2 : Hid (∀ (W : World), Is11 ch11 6 W b1 y1 → Is11 cs11 4 W b2 y2 → Calls Try.prog 36 #[.agg #[.int .i64 n0, .int .i64 n1, .int .i64 n2, .int .i64 n3, .int .i64 n4, .int .i64 n5, .slice b1 y1.length h1, .slice b2 y2.length h2]] W (PP11 n0 n1 n2 n3 n4 n5 y1 y2 W))) (K0 : Hid (Is11 ch11 6 wr b1 y1)) (K1 : Hid (Is11 cs11 4 wr b2 y2)) (HC : Hid (∀ (g1 c1 g2 c2 g3 c3 g4 c4 : Nat) (W : World), z2.length ≤ c2 → W.rangeAt g1 0 (hv11 z1) → W.rangeAt g2 0 (sv11 z2) → W.rangeAt g3 0 (hv11 y1) → W.rangeAt g4 0 (sv11 y2) → Calls Try.prog 46 #[.agg #[.int .i64 m0, .int .i64 m1, .int .i64 m2, .int .i64 m3, .int .i64 m4, .int .i64 m5, .slice (some ⟨g1, 0, none⟩) z1.length c1, .slice (some ⟨g2, 0, none⟩) z2.length c2], .agg #[.int .i64 n0, .int .i64 n1, .int .i64 n2, .int .i64 n3, .int .i64 n4, .int .i64 n5, .slice (some ⟨g3, 0, none⟩) y1.length c3, .slice (some ⟨g4, 0, none⟩) y2.length c4]] W (TP11 r0 r1 r2 r3 r4 r5 l' st' t W)))
    (hQ : ∀ (lo hi bw : Nat) (v1 v2 : Value) (X : World) (y27 y28 y29 y30 y31 y32 y33 y34 : Value), Below wr.heap.size wr X → X.heap[bw]? = some (Obj.cells #[.int .i64 r0, .int .i64 r1, .int .i64 r2, .int .i64 r3, .int .i64 r4, .int .i64 r5, v1, v2] 62 (0, 0)) → Pr11 lo hi v1 v2 l' st' X → (wr.heap.size ≤ bw ∧ bw < X.heap.size ∧ wr.heap.size ≤ lo ∧ hi ≤ X.heap.size ∧ (bw < lo ∨ hi ≤ bw)) → Q .normal { tmps := #[x0, x1, (.pointer (some ⟨d0, 0, none⟩)), (.pointer (some ⟨d1, 0, none⟩)), x4, x5, (.pointer (some ⟨bw, 0, none⟩)), (.bool t), x8, x9, x10, x11, x12, x13, x14, x15, x16, x17, x18, x19, x20, x21, x22, x23, x24, x25, x26, y27, y28, y29, y30, y31, y32, y33, y34, x35, x36, x37, x38, x39, x40, x41, x42, x43, x44, x45, x46, x47, x48, x49, x50, x51, x52, x53, x54, x55, x56, x57, x58, x59, x60, x61, x62, x63, x64, x65, x66, x67, x68, x69, x70, x71, x72, x73, x74, x75, x76, x77, x78, x79, x80, x81, x82, x83, x84, x85, x86, x87, x88, x89, x90, x91, x92, x93, x94, x95, x96, x97, x98, x99, x100, x101, x102, x103, x104, x105, x106, x107, x108, x109, x110, x111, x112, x113, x114, x115, x116, x117, x118], defers := [] } X) :
    (Code.region 8 #[{ dst := some 28, op := Go.Op.load 57 (Go.Operand.tmp 2), type := 57, pos := "exact.go:1484", after := #[], guard := none }, { dst := some 29, op := Go.Op.call { callee := Go.Callee.value (Go.Operand.func 36), args := #[Go.Operand.tmp 28], argTypes := #[57] }, type := 62, pos := "exact.go:1484", after := #[{ on := 0, ground := Go.Ground.data }], guard := none }, { dst := some 30, op := Go.Op.load 57 (Go.Operand.tmp 3), type := 57, pos := "exact.go:1484", after := #[], guard := none }, { dst := some 31, op := Go.Op.call { callee := Go.Callee.value (Go.Operand.func 36), args := #[Go.Operand.tmp 30], argTypes := #[57] }, type := 62, pos := "exact.go:1484", after := #[{ on := 2, ground := Go.Ground.data }, { on := 1, ground := Go.Ground.chain }], guard := none }, { dst := some 32, op := Go.Op.call { callee := Go.Callee.value (Go.Operand.func 46), args := #[Go.Operand.tmp 29, Go.Operand.tmp 31], argTypes := #[62, 62] }, type := 63, pos := "exact.go:1484", after := #[{ on := 1, ground := Go.Ground.data }, { on := 3, ground := Go.Ground.data }, { on := 3, ground := Go.Ground.chain }], guard := none }, { dst := some 27, op := Go.Op.move (Go.Operand.tmp 32), type := 63, pos := "exact.go:1484", after := #[{ on := 4, ground := Go.Ground.data }], guard := none }, { dst := some 33, op := Go.Op.extract (Go.Operand.tmp 27) 0, type := 62, pos := "exact.go:1484", after := #[{ on := 5, ground := Go.Ground.data }], guard := none }, { dst := some 34, op := Go.Op.extract (Go.Operand.tmp 27) 1, type := 4, pos := "exact.go:1484", after := #[{ on := 5, ground := Go.Ground.data }, { on := 9, ground := Go.Ground.gcOnly Go.Departure.lateStores }], guard := none }, { dst := some 6, op := Go.Op.alloc 62, type := 0, pos := "exact.go:1484", after := #[], guard := none }, { dst := none, op := Go.Op.store 62 (Go.Operand.tmp 6) (Go.Operand.tmp 33), type := 0, pos := "exact.go:1484", after := #[{ on := 8, ground := Go.Ground.data }, { on := 6, ground := Go.Ground.data }, { on := 4, ground := Go.Ground.chain }, { on := 0, ground := Go.Ground.phase }, { on := 1, ground := Go.Ground.phase }, { on := 2, ground := Go.Ground.phase }, { on := 3, ground := Go.Ground.phase }, { on := 4, ground := Go.Ground.phase }, { on := 5, ground := Go.Ground.phase }, { on := 6, ground := Go.Ground.phase }, { on := 7, ground := Go.Ground.textOnly Go.Departure.lateStores }, { on := 8, ground := Go.Ground.phase }], guard := none }, { dst := some 7, op := Go.Op.assign (Go.Operand.tmp 34), type := 4, pos := "exact.go:1484", after := #[{ on := 7, ground := Go.Ground.data }, { on := 9, ground := Go.Ground.chain }, { on := 0, ground := Go.Ground.phase }, { on := 1, ground := Go.Ground.phase }, { on := 2, ground := Go.Ground.phase }, { on := 3, ground := Go.Ground.phase }, { on := 4, ground := Go.Ground.phase }, { on := 5, ground := Go.Ground.phase }, { on := 6, ground := Go.Ground.phase }, { on := 7, ground := Go.Ground.phase }, { on := 8, ground := Go.Ground.phase }, { on := 9, ground := Go.Ground.phase }], guard := none }] true).wp Try.prog Q { tmps := #[x0, x1, (.pointer (some ⟨d0, 0, none⟩)), (.pointer (some ⟨d1, 0, none⟩)), x4, x5, x6, x7, x8, x9, x10, x11, x12, x13, x14, x15, x16, x17, x18, x19, x20, x21, x22, x23, x24, x25, x26, x27, x28, x29, x30, x31, x32, x33, x34, x35, x36, x37, x38, x39, x40, x41, x42, x43, x44, x45, x46, x47, x48, x49, x50, x51, x52, x53, x54, x55, x56, x57, x58, x59, x60, x61, x62, x63, x64, x65, x66, x67, x68, x69, x70, x71, x72, x73, x74, x75, x76, x77, x78, x79, x80, x81, x82, x83, x84, x85, x86, x87, x88, x89, x90, x91, x92, x93, x94, x95, x96, x97, x98, x99, x100, x101, x102, x103, x104, x105, x106, x107, x108, x109, x110, x111, x112, x113, x114, x115, x116, x117, x118], defers := [] } wr := by
  have HQ := Lib.hid hQ
  clear hQ
  have hk := Below.refl wr.heap.size wr
  refine wp_region_noPanic ?_
  refine wp_region_held_drew (S := (fun U => U.cell? ⟨d0, 0, none⟩ = some (.int .i64 m0) ∧ U.cell? ⟨d0, 1, none⟩ = some (.int .i64 m1) ∧ U.cell? ⟨d0, 2, none⟩ = some (.int .i64 m2) ∧ U.cell? ⟨d0, 3, none⟩ = some (.int .i64 m3) ∧ U.cell? ⟨d0, 4, none⟩ = some (.int .i64 m4) ∧ U.cell? ⟨d0, 5, none⟩ = some (.int .i64 m5) ∧ U.cell? ⟨d0, 6, none⟩ = some (.slice a1 z1.length k1) ∧ U.cell? ⟨d0, 7, none⟩ = some (.slice a2 z2.length k2) ∧ U.cell? ⟨d1, 0, none⟩ = some (.int .i64 n0) ∧ U.cell? ⟨d1, 1, none⟩ = some (.int .i64 n1) ∧ U.cell? ⟨d1, 2, none⟩ = some (.int .i64 n2) ∧ U.cell? ⟨d1, 3, none⟩ = some (.int .i64 n3) ∧ U.cell? ⟨d1, 4, none⟩ = some (.int .i64 n4) ∧ U.cell? ⟨d1, 5, none⟩ = some (.int .i64 n5) ∧ U.cell? ⟨d1, 6, none⟩ = some (.slice b1 y1.length h1) ∧ U.cell? ⟨d1, 7, none⟩ = some (.slice b2 y2.length h2))) (by kernel_rfl) ?_ (fun hHeld => ?_)
  · (try dsimp only)
    exact SKP_8 (wr := wr) (d0 := d0) (d1 := d1) H0.out H1.out (by (repeat (first | with_reducible assumption | with_reducible refine Below.drew ?_)))
  have hk := hk.drew
  generalize wr.drew = V at hk hHeld ⊢
  refine wpAnyH_take (i := 0) (oi := { dst := some 28, op := Go.Op.load 57 (Go.Operand.tmp 2), type := 57, pos := "exact.go:1484", after := #[], guard := none }) (v := ?_) rfl (by kernel_rfl) (by kernel_rfl) (by kernel_rfl) (fun _ _ _ h => h) (Or.inl ⟨by rfl, ?_⟩) (by assumption) ?_
  rotate_left
  · intro w hSw; (try dsimp only at hSw); go_simp; (try with_reducible rfl)
  simp only [Act.put, List.setIfInBounds_toArray, List.set_cons_zero, List.set_cons_succ]
  refine wpAnyH_take (i := 2) (oi := { dst := some 30, op := Go.Op.load 57 (Go.Operand.tmp 3), type := 57, pos := "exact.go:1484", after := #[], guard := none }) (v := ?_) rfl (by kernel_rfl) (by kernel_rfl) (by kernel_rfl) (fun _ _ _ h => h) (Or.inl ⟨by rfl, ?_⟩) (by assumption) ?_
  rotate_left
  · intro w hSw; (try dsimp only at hSw); go_simp; (try with_reducible rfl)
  simp only [Act.put, List.setIfInBounds_toArray, List.set_cons_zero, List.set_cons_succ]
  refine wpAnyH_ready (rs := [1, 8]) (by kernel_rfl) (by simp) ?_
  refine (AllReadyH.cons (o := { dst := some 29, op := Go.Op.call { callee := Go.Callee.value (Go.Operand.func 36), args := #[Go.Operand.tmp 28], argTypes := #[57] }, type := 62, pos := "exact.go:1484", after := #[{ on := 0, ground := Go.Ground.data }], guard := none }) rfl (fun K hK => ?_) (AllReadyH.cons (o := { dst := some 6, op := Go.Op.alloc 62, type := 0, pos := "exact.go:1484", after := #[], guard := none }) rfl (fun K hK => ?_) AllReadyH.nil))
  · go_simp
    refine (HT.out _ (Is11.below J0.out hk) (Is11.below J1.out hk)).mono ?_
    rintro e w' ⟨p1, p2, rfl, hpp, hb'⟩
    have R1 := own_range hpp.1
    have R2 := own_range hpp.2.1
    clear hpp
    have hk := hk.trans (hb'.mono hk.size)
    clear hb'
    refine hK.out _ _ ?_ (fun hHeld => ?_)
    · (try dsimp only)
      exact SKP_8 (wr := wr) (d0 := d0) (d1 := d1) H0.out H1.out (by (repeat (first | with_reducible assumption | with_reducible refine Below.drew ?_)))
    clear hK K
    (try simp only [Act.put, List.setIfInBounds_toArray, List.set_cons_zero, List.set_cons_succ])
    generalize w' = V at hk hHeld R1 R2 ⊢
    refine wpAnyH_ready (rs := [3, 8]) (by kernel_rfl) (by simp) ?_
    refine (AllReadyH.cons (o := { dst := some 31, op := Go.Op.call { callee := Go.Callee.value (Go.Operand.func 36), args := #[Go.Operand.tmp 30], argTypes := #[57] }, type := 62, pos := "exact.go:1484", after := #[{ on := 2, ground := Go.Ground.data }, { on := 1, ground := Go.Ground.chain }], guard := none }) rfl (fun K hK => ?_) (AllReadyH.cons (o := { dst := some 6, op := Go.Op.alloc 62, type := 0, pos := "exact.go:1484", after := #[], guard := none }) rfl (fun K hK => ?_) AllReadyH.nil))
    · go_simp
      refine (HT2.out _ (Is11.below K0.out hk) (Is11.below K1.out hk)).mono ?_
      rintro e w' ⟨p3, p4, rfl, hpp, hb'⟩
      have R1 := ra_below R1 hb' rfl
      have R2 := ra_below R2 hb' rfl
      have R3 := own_range hpp.1
      have R4 := own_range hpp.2.1
      clear hpp
      have hk := hk.trans (hb'.mono hk.size)
      clear hb'
      refine hK.out _ _ ?_ (fun hHeld => ?_)
      · (try dsimp only)
        exact SKP_8 (wr := wr) (d0 := d0) (d1 := d1) H0.out H1.out (by (repeat (first | with_reducible assumption | with_reducible refine Below.drew ?_)))
      clear hK K
      (try simp only [Act.put, List.setIfInBounds_toArray, List.set_cons_zero, List.set_cons_succ])
      generalize w' = V at hk hHeld R1 R2 R3 R4 ⊢
      refine wpAnyH_ready (rs := [4, 8]) (by kernel_rfl) (by simp) ?_
      refine (AllReadyH.cons (o := { dst := some 32, op := Go.Op.call { callee := Go.Callee.value (Go.Operand.func 46), args := #[Go.Operand.tmp 29, Go.Operand.tmp 31], argTypes := #[62, 62] }, type := 63, pos := "exact.go:1484", after := #[{ on := 1, ground := Go.Ground.data }, { on := 3, ground := Go.Ground.data }, { on := 3, ground := Go.Ground.chain }], guard := none }) rfl (fun K hK => ?_) (AllReadyH.cons (o := { dst := some 6, op := Go.Op.alloc 62, type := 0, pos := "exact.go:1484", after := #[], guard := none }) rfl (fun K hK => ?_) AllReadyH.nil))
      · go_simp
        refine (HC.out _ _ _ _ _ _ _ _ _ (Nat.le_refl _) R1 R2 R3 R4).mono ?_
        rintro e w' ⟨v1, v2, rfl, hp, hb'⟩
        clear R1 R2 R3 R4
        have hlo : wr.heap.size ≤ V.heap.size := hk.size
        have hk := hk.trans (hb'.mono hk.size)
        obtain ⟨hi, hhi⟩ : ∃ hi, hi = w'.heap.size := ⟨_, rfl⟩
        rw [← hhi] at hp
        have hhi : hi ≤ w'.heap.size := Nat.le_of_eq hhi
        clear hb'
        refine hK.out _ _ ?_ (fun hHeld => ?_)
        · (try dsimp only)
          exact SKP_8 (wr := wr) (d0 := d0) (d1 := d1) H0.out H1.out (by (repeat (first | with_reducible assumption | with_reducible refine Below.drew ?_)))
        clear hK K
        (try simp only [Act.put, List.setIfInBounds_toArray, List.set_cons_zero, List.set_cons_succ])
        obtain ⟨lo, hl⟩ : ∃ lo, lo = V.heap.size := ⟨_, rfl⟩
        rw [← hl] at hp hlo 
        clear hl
        generalize w' = V at hk hHeld hp hhi ⊢
        refine wpAnyH_take (i := 5) (oi := { dst := some 27, op := Go.Op.move (Go.Operand.tmp 32), type := 63, pos := "exact.go:1484", after := #[{ on := 4, ground := Go.Ground.data }], guard := none }) (v := ?_) rfl (by kernel_rfl) (by kernel_rfl) (by kernel_rfl) (fun _ _ _ h => h) (Or.inl ⟨by rfl, ?_⟩) (by assumption) ?_
        rotate_left
        · intro w hSw; (try dsimp only at hSw); go_simp; (try with_reducible rfl)
        simp only [Act.put, List.setIfInBounds_toArray, List.set_cons_zero, List.set_cons_succ]
        refine wpAnyH_take (i := 6) (oi := { dst := some 33, op := Go.Op.extract (Go.Operand.tmp 27) 0, type := 62, pos := "exact.go:1484", after := #[{ on := 5, ground := Go.Ground.data }], guard := none }) (v := ?_) rfl (by kernel_rfl) (by kernel_rfl) (by kernel_rfl) (fun _ _ _ h => h) (Or.inl ⟨by rfl, ?_⟩) (by assumption) ?_
        rotate_left
        · intro w hSw; (try dsimp only at hSw); go_simp; (try with_reducible rfl)
        simp only [Act.put, List.setIfInBounds_toArray, List.set_cons_zero, List.set_cons_succ]
        refine wpAnyH_take (i := 7) (oi := { dst := some 34, op := Go.Op.extract (Go.Operand.tmp 27) 1, type := 4, pos := "exact.go:1484", after := #[{ on := 5, ground := Go.Ground.data }, { on := 9, ground := Go.Ground.gcOnly Go.Departure.lateStores }], guard := none }) (v := ?_) rfl (by kernel_rfl) (by kernel_rfl) (by kernel_rfl) (fun _ _ _ h => h) (Or.inl ⟨by rfl, ?_⟩) (by assumption) ?_
        rotate_left
        · intro w hSw; (try dsimp only at hSw); go_simp; (try with_reducible rfl)
        simp only [Act.put, List.setIfInBounds_toArray, List.set_cons_zero, List.set_cons_succ]
        refine wpAnyH_ready (rs := [8]) (by kernel_rfl) (by simp) ?_
        refine (AllReadyH.cons (o := { dst := some 6, op := Go.Op.alloc 62, type := 0, pos := "exact.go:1484", after := #[], guard := none }) rfl (fun K hK => ?_) AllReadyH.nil)
        · go_simp
          have hn : (V.alloc (.cells #[.int .i64 0, .int .i64 0, .int .i64 0, .int .i64 0, .int .i64 0, .int .i64 0, .slice none 0 0, .slice none 0 0] 62)).heap[V.heap.size]? = some (.cells #[.int .i64 0, .int .i64 0, .int .i64 0, .int .i64 0, .int .i64 0, .int .i64 0, .slice none 0 0, .slice none 0 0] 62 (0, 0)) := alloc_at rfl
          have hG : wr.heap.size ≤ V.heap.size := hk.size
          have hk := Below.alloc hk hk.size (.cells #[.int .i64 0, .int .i64 0, .int .i64 0, .int .i64 0, .int .i64 0, .int .i64 0, .slice none 0 0, .slice none 0 0] 62)
          have hp := hp.st V (V.alloc (.cells #[.int .i64 0, .int .i64 0, .int .i64 0, .int .i64 0, .int .i64 0, .int .i64 0, .slice none 0 0, .slice none 0 0] 62)) (fun k _ h2 => ((Below.refl V.heap.size V).alloc (Nat.le_refl _) (.cells #[.int .i64 0, .int .i64 0, .int .i64 0, .int .i64 0, .int .i64 0, .int .i64 0, .slice none 0 0, .slice none 0 0] 62)).block k (by omega))
          have hor : V.heap.size < lo ∨ hi ≤ V.heap.size := .inr hhi
          have hhi : hi ≤ (V.alloc (.cells #[.int .i64 0, .int .i64 0, .int .i64 0, .int .i64 0, .int .i64 0, .int .i64 0, .slice none 0 0, .slice none 0 0] 62)).heap.size := by simp; omega
          refine hK.out _ _ ?_ (fun hHeld => ?_)
          · (try dsimp only)
            exact SKP_8 (wr := wr) (d0 := d0) (d1 := d1) H0.out H1.out (by (repeat (first | with_reducible assumption | with_reducible refine Below.drew ?_)))
          clear hK K
          (try simp only [Act.put, List.setIfInBounds_toArray, List.set_cons_zero, List.set_cons_succ])
          generalize V.heap.size = G at hn hG hor ⊢
          generalize (World.alloc _ _ : World) = V at hk hHeld hn hp hhi ⊢
          refine wpAnyH_ready (rs := [9]) (by kernel_rfl) (by simp) ?_
          refine (AllReadyH.cons (o := { dst := none, op := Go.Op.store 62 (Go.Operand.tmp 6) (Go.Operand.tmp 33), type := 0, pos := "exact.go:1484", after := #[{ on := 8, ground := Go.Ground.data }, { on := 6, ground := Go.Ground.data }, { on := 4, ground := Go.Ground.chain }, { on := 0, ground := Go.Ground.phase }, { on := 1, ground := Go.Ground.phase }, { on := 2, ground := Go.Ground.phase }, { on := 3, ground := Go.Ground.phase }, { on := 4, ground := Go.Ground.phase }, { on := 5, ground := Go.Ground.phase }, { on := 6, ground := Go.Ground.phase }, { on := 7, ground := Go.Ground.textOnly Go.Departure.lateStores }, { on := 8, ground := Go.Ground.phase }], guard := none }) rfl (fun K hK => ?_) AllReadyH.nil)
          · skip
            have wo1 := own_one11 hp.1
            have wo2 := own_one11 hp.2.1
            refine wp_store_mid 62 (.tmp 6) (.tmp 33) rfl G 0 #[.int .i64 r0, .int .i64 r1, .int .i64 r2, .int .i64 r3, .int .i64 r4, .int .i64 r5, v1, v2] rfl rfl (row_there12 (cs := #[.int .i64 0, .int .i64 0, .int .i64 0, .int .i64 0, .int .i64 0, .int .i64 0, .slice none 0 0, .slice none 0 0]) hn) (by kernel_rfl) (one8_11 r0 r1 r2 r3 r4 r5 wo1 wo2) ?_
            have hx := row_sets12 (cs' := #[.int .i64 r0, .int .i64 r1, .int .i64 r2, .int .i64 r3, .int .i64 r4, .int .i64 r5, v1, v2]) hn rfl
            have hk := setCells_bel hG (Array.toList #[.int .i64 r0, .int .i64 r1, .int .i64 r2, .int .i64 r3, .int .i64 r4, .int .i64 r5, v1, v2]) 0 _ _ hk
            have hp := hp.st V (V.setCells G 0 (Array.toList #[.int .i64 r0, .int .i64 r1, .int .i64 r2, .int .i64 r3, .int .i64 r4, .int .i64 r5, v1, v2])) (fun k h1 h2 => setCells_heap (show k ≠ G by omega) _ _ _)
            have hhi : hi ≤ (V.setCells G 0 (Array.toList #[.int .i64 r0, .int .i64 r1, .int .i64 r2, .int .i64 r3, .int .i64 r4, .int .i64 r5, v1, v2])).heap.size := by rw [setCells_size11]; exact hhi
            clear hn
            refine hK.out _ _ ?_ (fun hHeld => ?_)
            · (try dsimp only)
              exact SKP_8 (wr := wr) (d0 := d0) (d1 := d1) H0.out H1.out (by (repeat (first | with_reducible assumption | with_reducible refine Below.drew ?_)))
            clear hK K
            (try simp only [Act.put, List.setIfInBounds_toArray, List.set_cons_zero, List.set_cons_succ])
            generalize (World.setCells _ _ _ _ : World) = X at hk hx hHeld hp hhi ⊢
            refine wpAnyH_take (i := 10) (oi := { dst := some 7, op := Go.Op.assign (Go.Operand.tmp 34), type := 4, pos := "exact.go:1484", after := #[{ on := 7, ground := Go.Ground.data }, { on := 9, ground := Go.Ground.chain }, { on := 0, ground := Go.Ground.phase }, { on := 1, ground := Go.Ground.phase }, { on := 2, ground := Go.Ground.phase }, { on := 3, ground := Go.Ground.phase }, { on := 4, ground := Go.Ground.phase }, { on := 5, ground := Go.Ground.phase }, { on := 6, ground := Go.Ground.phase }, { on := 7, ground := Go.Ground.phase }, { on := 8, ground := Go.Ground.phase }, { on := 9, ground := Go.Ground.phase }], guard := none }) (v := ?_) rfl (by kernel_rfl) (by kernel_rfl) (by kernel_rfl) (fun _ _ _ h => h) (Or.inl ⟨by rfl, ?_⟩) (by assumption) ?_
            rotate_left
            · intro w hSw; (try dsimp only at hSw); go_simp; (try with_reducible rfl)
            simp only [Act.put, List.setIfInBounds_toArray, List.set_cons_zero, List.set_cons_succ]
            refine wpAnyH_done (by kernel_rfl) ?_ _
            refine NoPanic.normal (HQ.out lo hi G v1 v2 X _ _ _ _ _ _ _ _ hk hx hp ⟨hG, (Array.getElem?_eq_some_iff.1 hx).1, hlo, hhi, hor⟩)
      · go_simp
        have hn : (V.alloc (.cells #[.int .i64 0, .int .i64 0, .int .i64 0, .int .i64 0, .int .i64 0, .int .i64 0, .slice none 0 0, .slice none 0 0] 62)).heap[V.heap.size]? = some (.cells #[.int .i64 0, .int .i64 0, .int .i64 0, .int .i64 0, .int .i64 0, .int .i64 0, .slice none 0 0, .slice none 0 0] 62 (0, 0)) := alloc_at rfl
        have hG : wr.heap.size ≤ V.heap.size := hk.size
        have hk := Below.alloc hk hk.size (.cells #[.int .i64 0, .int .i64 0, .int .i64 0, .int .i64 0, .int .i64 0, .int .i64 0, .slice none 0 0, .slice none 0 0] 62)
        have R3 := ra_below R3 ((Below.refl V.heap.size V).alloc (Nat.le_refl _) (.cells #[.int .i64 0, .int .i64 0, .int .i64 0, .int .i64 0, .int .i64 0, .int .i64 0, .slice none 0 0, .slice none 0 0] 62)) rfl
        have R4 := ra_below R4 ((Below.refl V.heap.size V).alloc (Nat.le_refl _) (.cells #[.int .i64 0, .int .i64 0, .int .i64 0, .int .i64 0, .int .i64 0, .int .i64 0, .slice none 0 0, .slice none 0 0] 62)) rfl
        have R1 := ra_below R1 ((Below.refl V.heap.size V).alloc (Nat.le_refl _) (.cells #[.int .i64 0, .int .i64 0, .int .i64 0, .int .i64 0, .int .i64 0, .int .i64 0, .slice none 0 0, .slice none 0 0] 62)) rfl
        have R2 := ra_below R2 ((Below.refl V.heap.size V).alloc (Nat.le_refl _) (.cells #[.int .i64 0, .int .i64 0, .int .i64 0, .int .i64 0, .int .i64 0, .int .i64 0, .slice none 0 0, .slice none 0 0] 62)) rfl
        refine hK.out _ _ ?_ (fun hHeld => ?_)
        · (try dsimp only)
          exact SKP_8 (wr := wr) (d0 := d0) (d1 := d1) H0.out H1.out (by (repeat (first | with_reducible assumption | with_reducible refine Below.drew ?_)))
        clear hK K
        (try simp only [Act.put, List.setIfInBounds_toArray, List.set_cons_zero, List.set_cons_succ])
        generalize V.heap.size = G at hn hG ⊢
        generalize (World.alloc _ _ : World) = V at hk hHeld hn R1 R2 R3 R4 ⊢
        refine wpAnyH_ready (rs := [4]) (by kernel_rfl) (by simp) ?_
        refine (AllReadyH.cons (o := { dst := some 32, op := Go.Op.call { callee := Go.Callee.value (Go.Operand.func 46), args := #[Go.Operand.tmp 29, Go.Operand.tmp 31], argTypes := #[62, 62] }, type := 63, pos := "exact.go:1484", after := #[{ on := 1, ground := Go.Ground.data }, { on := 3, ground := Go.Ground.data }, { on := 3, ground := Go.Ground.chain }], guard := none }) rfl (fun K hK => ?_) AllReadyH.nil)
        · go_simp
          have hG2 : G < V.heap.size := (Array.getElem?_eq_some_iff.1 hn).1
          refine (HC.out _ _ _ _ _ _ _ _ _ (Nat.le_refl _) R1 R2 R3 R4).mono ?_
          rintro e w' ⟨v1, v2, rfl, hp, hb'⟩
          clear R1 R2 R3 R4
          have hlo : wr.heap.size ≤ V.heap.size := hk.size
          have hn := rowk hn hb' rfl
          have hk := hk.trans (hb'.mono hk.size)
          obtain ⟨hi, hhi⟩ : ∃ hi, hi = w'.heap.size := ⟨_, rfl⟩
          rw [← hhi] at hp
          have hhi : hi ≤ w'.heap.size := Nat.le_of_eq hhi
          clear hb'
          refine hK.out _ _ ?_ (fun hHeld => ?_)
          · (try dsimp only)
            exact SKP_8 (wr := wr) (d0 := d0) (d1 := d1) H0.out H1.out (by (repeat (first | with_reducible assumption | with_reducible refine Below.drew ?_)))
          clear hK K
          (try simp only [Act.put, List.setIfInBounds_toArray, List.set_cons_zero, List.set_cons_succ])
          obtain ⟨lo, hl⟩ : ∃ lo, lo = V.heap.size := ⟨_, rfl⟩
          rw [← hl] at hp hlo hG2
          clear hl
          have hor : G < lo ∨ hi ≤ G := .inl hG2
          clear hG2
          generalize w' = V at hk hHeld hn hp hhi ⊢
          refine wpAnyH_take (i := 5) (oi := { dst := some 27, op := Go.Op.move (Go.Operand.tmp 32), type := 63, pos := "exact.go:1484", after := #[{ on := 4, ground := Go.Ground.data }], guard := none }) (v := ?_) rfl (by kernel_rfl) (by kernel_rfl) (by kernel_rfl) (fun _ _ _ h => h) (Or.inl ⟨by rfl, ?_⟩) (by assumption) ?_
          rotate_left
          · intro w hSw; (try dsimp only at hSw); go_simp; (try with_reducible rfl)
          simp only [Act.put, List.setIfInBounds_toArray, List.set_cons_zero, List.set_cons_succ]
          refine wpAnyH_take (i := 6) (oi := { dst := some 33, op := Go.Op.extract (Go.Operand.tmp 27) 0, type := 62, pos := "exact.go:1484", after := #[{ on := 5, ground := Go.Ground.data }], guard := none }) (v := ?_) rfl (by kernel_rfl) (by kernel_rfl) (by kernel_rfl) (fun _ _ _ h => h) (Or.inl ⟨by rfl, ?_⟩) (by assumption) ?_
          rotate_left
          · intro w hSw; (try dsimp only at hSw); go_simp; (try with_reducible rfl)
          simp only [Act.put, List.setIfInBounds_toArray, List.set_cons_zero, List.set_cons_succ]
          refine wpAnyH_take (i := 7) (oi := { dst := some 34, op := Go.Op.extract (Go.Operand.tmp 27) 1, type := 4, pos := "exact.go:1484", after := #[{ on := 5, ground := Go.Ground.data }, { on := 9, ground := Go.Ground.gcOnly Go.Departure.lateStores }], guard := none }) (v := ?_) rfl (by kernel_rfl) (by kernel_rfl) (by kernel_rfl) (fun _ _ _ h => h) (Or.inl ⟨by rfl, ?_⟩) (by assumption) ?_
          rotate_left
          · intro w hSw; (try dsimp only at hSw); go_simp; (try with_reducible rfl)
          simp only [Act.put, List.setIfInBounds_toArray, List.set_cons_zero, List.set_cons_succ]
          refine wpAnyH_ready (rs := [9]) (by kernel_rfl) (by simp) ?_
          refine (AllReadyH.cons (o := { dst := none, op := Go.Op.store 62 (Go.Operand.tmp 6) (Go.Operand.tmp 33), type := 0, pos := "exact.go:1484", after := #[{ on := 8, ground := Go.Ground.data }, { on := 6, ground := Go.Ground.data }, { on := 4, ground := Go.Ground.chain }, { on := 0, ground := Go.Ground.phase }, { on := 1, ground := Go.Ground.phase }, { on := 2, ground := Go.Ground.phase }, { on := 3, ground := Go.Ground.phase }, { on := 4, ground := Go.Ground.phase }, { on := 5, ground := Go.Ground.phase }, { on := 6, ground := Go.Ground.phase }, { on := 7, ground := Go.Ground.textOnly Go.Departure.lateStores }, { on := 8, ground := Go.Ground.phase }], guard := none }) rfl (fun K hK => ?_) AllReadyH.nil)
          · skip
            have wo1 := own_one11 hp.1
            have wo2 := own_one11 hp.2.1
            refine wp_store_mid 62 (.tmp 6) (.tmp 33) rfl G 0 #[.int .i64 r0, .int .i64 r1, .int .i64 r2, .int .i64 r3, .int .i64 r4, .int .i64 r5, v1, v2] rfl rfl (row_there12 (cs := #[.int .i64 0, .int .i64 0, .int .i64 0, .int .i64 0, .int .i64 0, .int .i64 0, .slice none 0 0, .slice none 0 0]) hn) (by kernel_rfl) (one8_11 r0 r1 r2 r3 r4 r5 wo1 wo2) ?_
            have hx := row_sets12 (cs' := #[.int .i64 r0, .int .i64 r1, .int .i64 r2, .int .i64 r3, .int .i64 r4, .int .i64 r5, v1, v2]) hn rfl
            have hk := setCells_bel hG (Array.toList #[.int .i64 r0, .int .i64 r1, .int .i64 r2, .int .i64 r3, .int .i64 r4, .int .i64 r5, v1, v2]) 0 _ _ hk
            have hp := hp.st V (V.setCells G 0 (Array.toList #[.int .i64 r0, .int .i64 r1, .int .i64 r2, .int .i64 r3, .int .i64 r4, .int .i64 r5, v1, v2])) (fun k h1 h2 => setCells_heap (show k ≠ G by omega) _ _ _)
            have hhi : hi ≤ (V.setCells G 0 (Array.toList #[.int .i64 r0, .int .i64 r1, .int .i64 r2, .int .i64 r3, .int .i64 r4, .int .i64 r5, v1, v2])).heap.size := by rw [setCells_size11]; exact hhi
            clear hn
            refine hK.out _ _ ?_ (fun hHeld => ?_)
            · (try dsimp only)
              exact SKP_8 (wr := wr) (d0 := d0) (d1 := d1) H0.out H1.out (by (repeat (first | with_reducible assumption | with_reducible refine Below.drew ?_)))
            clear hK K
            (try simp only [Act.put, List.setIfInBounds_toArray, List.set_cons_zero, List.set_cons_succ])
            generalize (World.setCells _ _ _ _ : World) = X at hk hx hHeld hp hhi ⊢
            refine wpAnyH_take (i := 10) (oi := { dst := some 7, op := Go.Op.assign (Go.Operand.tmp 34), type := 4, pos := "exact.go:1484", after := #[{ on := 7, ground := Go.Ground.data }, { on := 9, ground := Go.Ground.chain }, { on := 0, ground := Go.Ground.phase }, { on := 1, ground := Go.Ground.phase }, { on := 2, ground := Go.Ground.phase }, { on := 3, ground := Go.Ground.phase }, { on := 4, ground := Go.Ground.phase }, { on := 5, ground := Go.Ground.phase }, { on := 6, ground := Go.Ground.phase }, { on := 7, ground := Go.Ground.phase }, { on := 8, ground := Go.Ground.phase }, { on := 9, ground := Go.Ground.phase }], guard := none }) (v := ?_) rfl (by kernel_rfl) (by kernel_rfl) (by kernel_rfl) (fun _ _ _ h => h) (Or.inl ⟨by rfl, ?_⟩) (by assumption) ?_
            rotate_left
            · intro w hSw; (try dsimp only at hSw); go_simp; (try with_reducible rfl)
            simp only [Act.put, List.setIfInBounds_toArray, List.set_cons_zero, List.set_cons_succ]
            refine wpAnyH_done (by kernel_rfl) ?_ _
            refine NoPanic.normal (HQ.out lo hi G v1 v2 X _ _ _ _ _ _ _ _ hk hx hp ⟨hG, (Array.getElem?_eq_some_iff.1 hx).1, hlo, hhi, hor⟩)
    · go_simp
      have hn : (V.alloc (.cells #[.int .i64 0, .int .i64 0, .int .i64 0, .int .i64 0, .int .i64 0, .int .i64 0, .slice none 0 0, .slice none 0 0] 62)).heap[V.heap.size]? = some (.cells #[.int .i64 0, .int .i64 0, .int .i64 0, .int .i64 0, .int .i64 0, .int .i64 0, .slice none 0 0, .slice none 0 0] 62 (0, 0)) := alloc_at rfl
      have hG : wr.heap.size ≤ V.heap.size := hk.size
      have hk := Below.alloc hk hk.size (.cells #[.int .i64 0, .int .i64 0, .int .i64 0, .int .i64 0, .int .i64 0, .int .i64 0, .slice none 0 0, .slice none 0 0] 62)
      have R1 := ra_below R1 ((Below.refl V.heap.size V).alloc (Nat.le_refl _) (.cells #[.int .i64 0, .int .i64 0, .int .i64 0, .int .i64 0, .int .i64 0, .int .i64 0, .slice none 0 0, .slice none 0 0] 62)) rfl
      have R2 := ra_below R2 ((Below.refl V.heap.size V).alloc (Nat.le_refl _) (.cells #[.int .i64 0, .int .i64 0, .int .i64 0, .int .i64 0, .int .i64 0, .int .i64 0, .slice none 0 0, .slice none 0 0] 62)) rfl
      refine hK.out _ _ ?_ (fun hHeld => ?_)
      · (try dsimp only)
        exact SKP_8 (wr := wr) (d0 := d0) (d1 := d1) H0.out H1.out (by (repeat (first | with_reducible assumption | with_reducible refine Below.drew ?_)))
      clear hK K
      (try simp only [Act.put, List.setIfInBounds_toArray, List.set_cons_zero, List.set_cons_succ])
      generalize V.heap.size = G at hn hG ⊢
      generalize (World.alloc _ _ : World) = V at hk hHeld hn R1 R2 ⊢
      refine wpAnyH_ready (rs := [3]) (by kernel_rfl) (by simp) ?_
      refine (AllReadyH.cons (o := { dst := some 31, op := Go.Op.call { callee := Go.Callee.value (Go.Operand.func 36), args := #[Go.Operand.tmp 30], argTypes := #[57] }, type := 62, pos := "exact.go:1484", after := #[{ on := 2, ground := Go.Ground.data }, { on := 1, ground := Go.Ground.chain }], guard := none }) rfl (fun K hK => ?_) AllReadyH.nil)
      · go_simp
        refine (HT2.out _ (Is11.below K0.out hk) (Is11.below K1.out hk)).mono ?_
        rintro e w' ⟨p3, p4, rfl, hpp, hb'⟩
        have R1 := ra_below R1 hb' rfl
        have R2 := ra_below R2 hb' rfl
        have R3 := own_range hpp.1
        have R4 := own_range hpp.2.1
        clear hpp
        have hn := rowk hn hb' rfl
        have hk := hk.trans (hb'.mono hk.size)
        clear hb'
        refine hK.out _ _ ?_ (fun hHeld => ?_)
        · (try dsimp only)
          exact SKP_8 (wr := wr) (d0 := d0) (d1 := d1) H0.out H1.out (by (repeat (first | with_reducible assumption | with_reducible refine Below.drew ?_)))
        clear hK K
        (try simp only [Act.put, List.setIfInBounds_toArray, List.set_cons_zero, List.set_cons_succ])
        generalize w' = V at hk hHeld hn R1 R2 R3 R4 ⊢
        refine wpAnyH_ready (rs := [4]) (by kernel_rfl) (by simp) ?_
        refine (AllReadyH.cons (o := { dst := some 32, op := Go.Op.call { callee := Go.Callee.value (Go.Operand.func 46), args := #[Go.Operand.tmp 29, Go.Operand.tmp 31], argTypes := #[62, 62] }, type := 63, pos := "exact.go:1484", after := #[{ on := 1, ground := Go.Ground.data }, { on := 3, ground := Go.Ground.data }, { on := 3, ground := Go.Ground.chain }], guard := none }) rfl (fun K hK => ?_) AllReadyH.nil)
        · go_simp
          have hG2 : G < V.heap.size := (Array.getElem?_eq_some_iff.1 hn).1
          refine (HC.out _ _ _ _ _ _ _ _ _ (Nat.le_refl _) R1 R2 R3 R4).mono ?_
          rintro e w' ⟨v1, v2, rfl, hp, hb'⟩
          clear R1 R2 R3 R4
          have hlo : wr.heap.size ≤ V.heap.size := hk.size
          have hn := rowk hn hb' rfl
          have hk := hk.trans (hb'.mono hk.size)
          obtain ⟨hi, hhi⟩ : ∃ hi, hi = w'.heap.size := ⟨_, rfl⟩
          rw [← hhi] at hp
          have hhi : hi ≤ w'.heap.size := Nat.le_of_eq hhi
          clear hb'
          refine hK.out _ _ ?_ (fun hHeld => ?_)
          · (try dsimp only)
            exact SKP_8 (wr := wr) (d0 := d0) (d1 := d1) H0.out H1.out (by (repeat (first | with_reducible assumption | with_reducible refine Below.drew ?_)))
          clear hK K
          (try simp only [Act.put, List.setIfInBounds_toArray, List.set_cons_zero, List.set_cons_succ])
          obtain ⟨lo, hl⟩ : ∃ lo, lo = V.heap.size := ⟨_, rfl⟩
          rw [← hl] at hp hlo hG2
          clear hl
          have hor : G < lo ∨ hi ≤ G := .inl hG2
          clear hG2
          generalize w' = V at hk hHeld hn hp hhi ⊢
          refine wpAnyH_take (i := 5) (oi := { dst := some 27, op := Go.Op.move (Go.Operand.tmp 32), type := 63, pos := "exact.go:1484", after := #[{ on := 4, ground := Go.Ground.data }], guard := none }) (v := ?_) rfl (by kernel_rfl) (by kernel_rfl) (by kernel_rfl) (fun _ _ _ h => h) (Or.inl ⟨by rfl, ?_⟩) (by assumption) ?_
          rotate_left
          · intro w hSw; (try dsimp only at hSw); go_simp; (try with_reducible rfl)
          simp only [Act.put, List.setIfInBounds_toArray, List.set_cons_zero, List.set_cons_succ]
          refine wpAnyH_take (i := 6) (oi := { dst := some 33, op := Go.Op.extract (Go.Operand.tmp 27) 0, type := 62, pos := "exact.go:1484", after := #[{ on := 5, ground := Go.Ground.data }], guard := none }) (v := ?_) rfl (by kernel_rfl) (by kernel_rfl) (by kernel_rfl) (fun _ _ _ h => h) (Or.inl ⟨by rfl, ?_⟩) (by assumption) ?_
          rotate_left
          · intro w hSw; (try dsimp only at hSw); go_simp; (try with_reducible rfl)
          simp only [Act.put, List.setIfInBounds_toArray, List.set_cons_zero, List.set_cons_succ]
          refine wpAnyH_take (i := 7) (oi := { dst := some 34, op := Go.Op.extract (Go.Operand.tmp 27) 1, type := 4, pos := "exact.go:1484", after := #[{ on := 5, ground := Go.Ground.data }, { on := 9, ground := Go.Ground.gcOnly Go.Departure.lateStores }], guard := none }) (v := ?_) rfl (by kernel_rfl) (by kernel_rfl) (by kernel_rfl) (fun _ _ _ h => h) (Or.inl ⟨by rfl, ?_⟩) (by assumption) ?_
          rotate_left
          · intro w hSw; (try dsimp only at hSw); go_simp; (try with_reducible rfl)
          simp only [Act.put, List.setIfInBounds_toArray, List.set_cons_zero, List.set_cons_succ]
          refine wpAnyH_ready (rs := [9]) (by kernel_rfl) (by simp) ?_
          refine (AllReadyH.cons (o := { dst := none, op := Go.Op.store 62 (Go.Operand.tmp 6) (Go.Operand.tmp 33), type := 0, pos := "exact.go:1484", after := #[{ on := 8, ground := Go.Ground.data }, { on := 6, ground := Go.Ground.data }, { on := 4, ground := Go.Ground.chain }, { on := 0, ground := Go.Ground.phase }, { on := 1, ground := Go.Ground.phase }, { on := 2, ground := Go.Ground.phase }, { on := 3, ground := Go.Ground.phase }, { on := 4, ground := Go.Ground.phase }, { on := 5, ground := Go.Ground.phase }, { on := 6, ground := Go.Ground.phase }, { on := 7, ground := Go.Ground.textOnly Go.Departure.lateStores }, { on := 8, ground := Go.Ground.phase }], guard := none }) rfl (fun K hK => ?_) AllReadyH.nil)
          · skip
            have wo1 := own_one11 hp.1
            have wo2 := own_one11 hp.2.1
            refine wp_store_mid 62 (.tmp 6) (.tmp 33) rfl G 0 #[.int .i64 r0, .int .i64 r1, .int .i64 r2, .int .i64 r3, .int .i64 r4, .int .i64 r5, v1, v2] rfl rfl (row_there12 (cs := #[.int .i64 0, .int .i64 0, .int .i64 0, .int .i64 0, .int .i64 0, .int .i64 0, .slice none 0 0, .slice none 0 0]) hn) (by kernel_rfl) (one8_11 r0 r1 r2 r3 r4 r5 wo1 wo2) ?_
            have hx := row_sets12 (cs' := #[.int .i64 r0, .int .i64 r1, .int .i64 r2, .int .i64 r3, .int .i64 r4, .int .i64 r5, v1, v2]) hn rfl
            have hk := setCells_bel hG (Array.toList #[.int .i64 r0, .int .i64 r1, .int .i64 r2, .int .i64 r3, .int .i64 r4, .int .i64 r5, v1, v2]) 0 _ _ hk
            have hp := hp.st V (V.setCells G 0 (Array.toList #[.int .i64 r0, .int .i64 r1, .int .i64 r2, .int .i64 r3, .int .i64 r4, .int .i64 r5, v1, v2])) (fun k h1 h2 => setCells_heap (show k ≠ G by omega) _ _ _)
            have hhi : hi ≤ (V.setCells G 0 (Array.toList #[.int .i64 r0, .int .i64 r1, .int .i64 r2, .int .i64 r3, .int .i64 r4, .int .i64 r5, v1, v2])).heap.size := by rw [setCells_size11]; exact hhi
            clear hn
            refine hK.out _ _ ?_ (fun hHeld => ?_)
            · (try dsimp only)
              exact SKP_8 (wr := wr) (d0 := d0) (d1 := d1) H0.out H1.out (by (repeat (first | with_reducible assumption | with_reducible refine Below.drew ?_)))
            clear hK K
            (try simp only [Act.put, List.setIfInBounds_toArray, List.set_cons_zero, List.set_cons_succ])
            generalize (World.setCells _ _ _ _ : World) = X at hk hx hHeld hp hhi ⊢
            refine wpAnyH_take (i := 10) (oi := { dst := some 7, op := Go.Op.assign (Go.Operand.tmp 34), type := 4, pos := "exact.go:1484", after := #[{ on := 7, ground := Go.Ground.data }, { on := 9, ground := Go.Ground.chain }, { on := 0, ground := Go.Ground.phase }, { on := 1, ground := Go.Ground.phase }, { on := 2, ground := Go.Ground.phase }, { on := 3, ground := Go.Ground.phase }, { on := 4, ground := Go.Ground.phase }, { on := 5, ground := Go.Ground.phase }, { on := 6, ground := Go.Ground.phase }, { on := 7, ground := Go.Ground.phase }, { on := 8, ground := Go.Ground.phase }, { on := 9, ground := Go.Ground.phase }], guard := none }) (v := ?_) rfl (by kernel_rfl) (by kernel_rfl) (by kernel_rfl) (fun _ _ _ h => h) (Or.inl ⟨by rfl, ?_⟩) (by assumption) ?_
            rotate_left
            · intro w hSw; (try dsimp only at hSw); go_simp; (try with_reducible rfl)
            simp only [Act.put, List.setIfInBounds_toArray, List.set_cons_zero, List.set_cons_succ]
            refine wpAnyH_done (by kernel_rfl) ?_ _
            refine NoPanic.normal (HQ.out lo hi G v1 v2 X _ _ _ _ _ _ _ _ hk hx hp ⟨hG, (Array.getElem?_eq_some_iff.1 hx).1, hlo, hhi, hor⟩)
  · go_simp
    have hn : (V.alloc (.cells #[.int .i64 0, .int .i64 0, .int .i64 0, .int .i64 0, .int .i64 0, .int .i64 0, .slice none 0 0, .slice none 0 0] 62)).heap[V.heap.size]? = some (.cells #[.int .i64 0, .int .i64 0, .int .i64 0, .int .i64 0, .int .i64 0, .int .i64 0, .slice none 0 0, .slice none 0 0] 62 (0, 0)) := alloc_at rfl
    have hG : wr.heap.size ≤ V.heap.size := hk.size
    have hk := Below.alloc hk hk.size (.cells #[.int .i64 0, .int .i64 0, .int .i64 0, .int .i64 0, .int .i64 0, .int .i64 0, .slice none 0 0, .slice none 0 0] 62)
    refine hK.out _ _ ?_ (fun hHeld => ?_)
    · (try dsimp only)
      exact SKP_8 (wr := wr) (d0 := d0) (d1 := d1) H0.out H1.out (by (repeat (first | with_reducible assumption | with_reducible refine Below.drew ?_)))
    clear hK K
    (try simp only [Act.put, List.setIfInBounds_toArray, List.set_cons_zero, List.set_cons_succ])
    generalize V.heap.size = G at hn hG ⊢
    generalize (World.alloc _ _ : World) = V at hk hHeld hn ⊢
    refine wpAnyH_ready (rs := [1]) (by kernel_rfl) (by simp) ?_
    refine (AllReadyH.cons (o := { dst := some 29, op := Go.Op.call { callee := Go.Callee.value (Go.Operand.func 36), args := #[Go.Operand.tmp 28], argTypes := #[57] }, type := 62, pos := "exact.go:1484", after := #[{ on := 0, ground := Go.Ground.data }], guard := none }) rfl (fun K hK => ?_) AllReadyH.nil)
    · go_simp
      refine (HT.out _ (Is11.below J0.out hk) (Is11.below J1.out hk)).mono ?_
      rintro e w' ⟨p1, p2, rfl, hpp, hb'⟩
      have R1 := own_range hpp.1
      have R2 := own_range hpp.2.1
      clear hpp
      have hn := rowk hn hb' rfl
      have hk := hk.trans (hb'.mono hk.size)
      clear hb'
      refine hK.out _ _ ?_ (fun hHeld => ?_)
      · (try dsimp only)
        exact SKP_8 (wr := wr) (d0 := d0) (d1 := d1) H0.out H1.out (by (repeat (first | with_reducible assumption | with_reducible refine Below.drew ?_)))
      clear hK K
      (try simp only [Act.put, List.setIfInBounds_toArray, List.set_cons_zero, List.set_cons_succ])
      generalize w' = V at hk hHeld hn R1 R2 ⊢
      refine wpAnyH_ready (rs := [3]) (by kernel_rfl) (by simp) ?_
      refine (AllReadyH.cons (o := { dst := some 31, op := Go.Op.call { callee := Go.Callee.value (Go.Operand.func 36), args := #[Go.Operand.tmp 30], argTypes := #[57] }, type := 62, pos := "exact.go:1484", after := #[{ on := 2, ground := Go.Ground.data }, { on := 1, ground := Go.Ground.chain }], guard := none }) rfl (fun K hK => ?_) AllReadyH.nil)
      · go_simp
        refine (HT2.out _ (Is11.below K0.out hk) (Is11.below K1.out hk)).mono ?_
        rintro e w' ⟨p3, p4, rfl, hpp, hb'⟩
        have R1 := ra_below R1 hb' rfl
        have R2 := ra_below R2 hb' rfl
        have R3 := own_range hpp.1
        have R4 := own_range hpp.2.1
        clear hpp
        have hn := rowk hn hb' rfl
        have hk := hk.trans (hb'.mono hk.size)
        clear hb'
        refine hK.out _ _ ?_ (fun hHeld => ?_)
        · (try dsimp only)
          exact SKP_8 (wr := wr) (d0 := d0) (d1 := d1) H0.out H1.out (by (repeat (first | with_reducible assumption | with_reducible refine Below.drew ?_)))
        clear hK K
        (try simp only [Act.put, List.setIfInBounds_toArray, List.set_cons_zero, List.set_cons_succ])
        generalize w' = V at hk hHeld hn R1 R2 R3 R4 ⊢
        refine wpAnyH_ready (rs := [4]) (by kernel_rfl) (by simp) ?_
        refine (AllReadyH.cons (o := { dst := some 32, op := Go.Op.call { callee := Go.Callee.value (Go.Operand.func 46), args := #[Go.Operand.tmp 29, Go.Operand.tmp 31], argTypes := #[62, 62] }, type := 63, pos := "exact.go:1484", after := #[{ on := 1, ground := Go.Ground.data }, { on := 3, ground := Go.Ground.data }, { on := 3, ground := Go.Ground.chain }], guard := none }) rfl (fun K hK => ?_) AllReadyH.nil)
        · go_simp
          have hG2 : G < V.heap.size := (Array.getElem?_eq_some_iff.1 hn).1
          refine (HC.out _ _ _ _ _ _ _ _ _ (Nat.le_refl _) R1 R2 R3 R4).mono ?_
          rintro e w' ⟨v1, v2, rfl, hp, hb'⟩
          clear R1 R2 R3 R4
          have hlo : wr.heap.size ≤ V.heap.size := hk.size
          have hn := rowk hn hb' rfl
          have hk := hk.trans (hb'.mono hk.size)
          obtain ⟨hi, hhi⟩ : ∃ hi, hi = w'.heap.size := ⟨_, rfl⟩
          rw [← hhi] at hp
          have hhi : hi ≤ w'.heap.size := Nat.le_of_eq hhi
          clear hb'
          refine hK.out _ _ ?_ (fun hHeld => ?_)
          · (try dsimp only)
            exact SKP_8 (wr := wr) (d0 := d0) (d1 := d1) H0.out H1.out (by (repeat (first | with_reducible assumption | with_reducible refine Below.drew ?_)))
          clear hK K
          (try simp only [Act.put, List.setIfInBounds_toArray, List.set_cons_zero, List.set_cons_succ])
          obtain ⟨lo, hl⟩ : ∃ lo, lo = V.heap.size := ⟨_, rfl⟩
          rw [← hl] at hp hlo hG2
          clear hl
          have hor : G < lo ∨ hi ≤ G := .inl hG2
          clear hG2
          generalize w' = V at hk hHeld hn hp hhi ⊢
          refine wpAnyH_take (i := 5) (oi := { dst := some 27, op := Go.Op.move (Go.Operand.tmp 32), type := 63, pos := "exact.go:1484", after := #[{ on := 4, ground := Go.Ground.data }], guard := none }) (v := ?_) rfl (by kernel_rfl) (by kernel_rfl) (by kernel_rfl) (fun _ _ _ h => h) (Or.inl ⟨by rfl, ?_⟩) (by assumption) ?_
          rotate_left
          · intro w hSw; (try dsimp only at hSw); go_simp; (try with_reducible rfl)
          simp only [Act.put, List.setIfInBounds_toArray, List.set_cons_zero, List.set_cons_succ]
          refine wpAnyH_take (i := 6) (oi := { dst := some 33, op := Go.Op.extract (Go.Operand.tmp 27) 0, type := 62, pos := "exact.go:1484", after := #[{ on := 5, ground := Go.Ground.data }], guard := none }) (v := ?_) rfl (by kernel_rfl) (by kernel_rfl) (by kernel_rfl) (fun _ _ _ h => h) (Or.inl ⟨by rfl, ?_⟩) (by assumption) ?_
          rotate_left
          · intro w hSw; (try dsimp only at hSw); go_simp; (try with_reducible rfl)
          simp only [Act.put, List.setIfInBounds_toArray, List.set_cons_zero, List.set_cons_succ]
          refine wpAnyH_take (i := 7) (oi := { dst := some 34, op := Go.Op.extract (Go.Operand.tmp 27) 1, type := 4, pos := "exact.go:1484", after := #[{ on := 5, ground := Go.Ground.data }, { on := 9, ground := Go.Ground.gcOnly Go.Departure.lateStores }], guard := none }) (v := ?_) rfl (by kernel_rfl) (by kernel_rfl) (by kernel_rfl) (fun _ _ _ h => h) (Or.inl ⟨by rfl, ?_⟩) (by assumption) ?_
          rotate_left
          · intro w hSw; (try dsimp only at hSw); go_simp; (try with_reducible rfl)
          simp only [Act.put, List.setIfInBounds_toArray, List.set_cons_zero, List.set_cons_succ]
          refine wpAnyH_ready (rs := [9]) (by kernel_rfl) (by simp) ?_
          refine (AllReadyH.cons (o := { dst := none, op := Go.Op.store 62 (Go.Operand.tmp 6) (Go.Operand.tmp 33), type := 0, pos := "exact.go:1484", after := #[{ on := 8, ground := Go.Ground.data }, { on := 6, ground := Go.Ground.data }, { on := 4, ground := Go.Ground.chain }, { on := 0, ground := Go.Ground.phase }, { on := 1, ground := Go.Ground.phase }, { on := 2, ground := Go.Ground.phase }, { on := 3, ground := Go.Ground.phase }, { on := 4, ground := Go.Ground.phase }, { on := 5, ground := Go.Ground.phase }, { on := 6, ground := Go.Ground.phase }, { on := 7, ground := Go.Ground.textOnly Go.Departure.lateStores }, { on := 8, ground := Go.Ground.phase }], guard := none }) rfl (fun K hK => ?_) AllReadyH.nil)
          · skip
            have wo1 := own_one11 hp.1
            have wo2 := own_one11 hp.2.1
            refine wp_store_mid 62 (.tmp 6) (.tmp 33) rfl G 0 #[.int .i64 r0, .int .i64 r1, .int .i64 r2, .int .i64 r3, .int .i64 r4, .int .i64 r5, v1, v2] rfl rfl (row_there12 (cs := #[.int .i64 0, .int .i64 0, .int .i64 0, .int .i64 0, .int .i64 0, .int .i64 0, .slice none 0 0, .slice none 0 0]) hn) (by kernel_rfl) (one8_11 r0 r1 r2 r3 r4 r5 wo1 wo2) ?_
            have hx := row_sets12 (cs' := #[.int .i64 r0, .int .i64 r1, .int .i64 r2, .int .i64 r3, .int .i64 r4, .int .i64 r5, v1, v2]) hn rfl
            have hk := setCells_bel hG (Array.toList #[.int .i64 r0, .int .i64 r1, .int .i64 r2, .int .i64 r3, .int .i64 r4, .int .i64 r5, v1, v2]) 0 _ _ hk
            have hp := hp.st V (V.setCells G 0 (Array.toList #[.int .i64 r0, .int .i64 r1, .int .i64 r2, .int .i64 r3, .int .i64 r4, .int .i64 r5, v1, v2])) (fun k h1 h2 => setCells_heap (show k ≠ G by omega) _ _ _)
            have hhi : hi ≤ (V.setCells G 0 (Array.toList #[.int .i64 r0, .int .i64 r1, .int .i64 r2, .int .i64 r3, .int .i64 r4, .int .i64 r5, v1, v2])).heap.size := by rw [setCells_size11]; exact hhi
            clear hn
            refine hK.out _ _ ?_ (fun hHeld => ?_)
            · (try dsimp only)
              exact SKP_8 (wr := wr) (d0 := d0) (d1 := d1) H0.out H1.out (by (repeat (first | with_reducible assumption | with_reducible refine Below.drew ?_)))
            clear hK K
            (try simp only [Act.put, List.setIfInBounds_toArray, List.set_cons_zero, List.set_cons_succ])
            generalize (World.setCells _ _ _ _ : World) = X at hk hx hHeld hp hhi ⊢
            refine wpAnyH_take (i := 10) (oi := { dst := some 7, op := Go.Op.assign (Go.Operand.tmp 34), type := 4, pos := "exact.go:1484", after := #[{ on := 7, ground := Go.Ground.data }, { on := 9, ground := Go.Ground.chain }, { on := 0, ground := Go.Ground.phase }, { on := 1, ground := Go.Ground.phase }, { on := 2, ground := Go.Ground.phase }, { on := 3, ground := Go.Ground.phase }, { on := 4, ground := Go.Ground.phase }, { on := 5, ground := Go.Ground.phase }, { on := 6, ground := Go.Ground.phase }, { on := 7, ground := Go.Ground.phase }, { on := 8, ground := Go.Ground.phase }, { on := 9, ground := Go.Ground.phase }], guard := none }) (v := ?_) rfl (by kernel_rfl) (by kernel_rfl) (by kernel_rfl) (fun _ _ _ h => h) (Or.inl ⟨by rfl, ?_⟩) (by assumption) ?_
            rotate_left
            · intro w hSw; (try dsimp only at hSw); go_simp; (try with_reducible rfl)
            simp only [Act.put, List.setIfInBounds_toArray, List.set_cons_zero, List.set_cons_succ]
            refine wpAnyH_done (by kernel_rfl) ?_ _
            refine NoPanic.normal (HQ.out lo hi G v1 v2 X _ _ _ _ _ _ _ _ hk hx hp ⟨hG, (Array.getElem?_eq_some_iff.1 hx).1, hlo, hhi, hor⟩)
theorem SKP_31 {wr U : World} {d0 d1 : Nat} {m0 m1 m2 m3 m4 m5 n0 n1 n2 n3 n4 n5 : Int} {a1 a2 b1 b2 : Option Addr} {k1 k2 h1 h2 : Nat} {z1 y1 : List H11} {z2 y2 : List S11} (e0 : wr.heap[d0]? = some (Obj.cells #[.int .i64 m0, .int .i64 m1, .int .i64 m2, .int .i64 m3, .int .i64 m4, .int .i64 m5, .slice a1 z1.length k1, .slice a2 z2.length k2] 57 (0, 0))) (e1 : wr.heap[d1]? = some (Obj.cells #[.int .i64 n0, .int .i64 n1, .int .i64 n2, .int .i64 n3, .int .i64 n4, .int .i64 n5, .slice b1 y1.length h1, .slice b2 y2.length h2] 57 (0, 0))) (hb : Below wr.heap.size wr U) : U.cell? ⟨d0, 0, none⟩ = some (.int .i64 m0) ∧ U.cell? ⟨d0, 1, none⟩ = some (.int .i64 m1) ∧ U.cell? ⟨d0, 2, none⟩ = some (.int .i64 m2) ∧ U.cell? ⟨d0, 3, none⟩ = some (.int .i64 m3) ∧ U.cell? ⟨d0, 4, none⟩ = some (.int .i64 m4) ∧ U.cell? ⟨d0, 5, none⟩ = some (.int .i64 m5) ∧ U.cell? ⟨d0, 6, none⟩ = some (.slice a1 z1.length k1) ∧ U.cell? ⟨d0, 7, none⟩ = some (.slice a2 z2.length k2) ∧ U.cell? ⟨d1, 0, none⟩ = some (.int .i64 n0) ∧ U.cell? ⟨d1, 1, none⟩ = some (.int .i64 n1) ∧ U.cell? ⟨d1, 2, none⟩ = some (.int .i64 n2) ∧ U.cell? ⟨d1, 3, none⟩ = some (.int .i64 n3) ∧ U.cell? ⟨d1, 4, none⟩ = some (.int .i64 n4) ∧ U.cell? ⟨d1, 5, none⟩ = some (.int .i64 n5) ∧ U.cell? ⟨d1, 6, none⟩ = some (.slice b1 y1.length h1) ∧ U.cell? ⟨d1, 7, none⟩ = some (.slice b2 y2.length h2) := by
  have q0 := fun j => cell_of_row U d0 j _ _ _ (rowk e0 hb rfl)
  have q1 := fun j => cell_of_row U d1 j _ _ _ (rowk e1 hb rfl)
  exact ⟨q0 0, q0 1, q0 2, q0 3, q0 4, q0 5, q0 6, q0 7, q1 0, q1 1, q1 2, q1 3, q1 4, q1 5, q1 6, q1 7⟩
set_option linter.unusedSimpArgs false in
set_option maxRecDepth 20000 in
set_option maxHeartbeats 8000000 in
theorem rj_31 {Q : Exit → Act → World → Prop} (wr : World) (d0 d1 : Nat) (m0 m1 m2 m3 m4 m5 : Int) (n0 n1 n2 n3 n4 n5 : Int) (a1 a2 b1 b2 : Option Addr) (k1 k2 h1 h2 : Nat) (z1 y1 : List H11) (z2 y2 : List S11) (r0 r1 r2 r3 r4 r5 : Int) (l' : List H11) (st' : List S11) (t : Bool) {x0 x1 x4 x5 x6 x7 x8 x9 x10 x11 x12 x13 x14 x15 x16 x17 x18 x19 x20 x21 x22 x23 x24 x25 x26 x27 x28 x29 x30 x31 x32 x33 x34 x35 x36 x37 x38 x39 x40 x41 x42 x43 x44 x45 x46 x47 x48 x49 x50 x51 x52 x53 x54 x55 x56 x57 x58 x59 x60 x61 x62 x63 x64 x65 x66 x67 x68 x69 x70 x71 x72 x73 x74 x75 x76 x77 x78 x79 x80 x81 x82 x83 x84 x85 x86 x87 x88 x89 x90 x91 x92 x93 x94 x95 x96 x97 x98 x99 x100 x101 x102 x103 x104 x105 x106 x107 x108 x109 x110 x111 x112 x113 x114 x115 x116 x117 x118 : Value} (H0 : Hid (wr.heap[d0]? = some (Obj.cells #[.int .i64 m0, .int .i64 m1, .int .i64 m2, .int .i64 m3, .int .i64 m4, .int .i64 m5, .slice a1 z1.length k1, .slice a2 z2.length k2] 57 (0, 0)))) (H1 : Hid (wr.heap[d1]? = some (Obj.cells #[.int .i64 n0, .int .i64 n1, .int .i64 n2, .int .i64 n3, .int .i64 n4, .int .i64 n5, .slice b1 y1.length h1, .slice b2 y2.length h2] 57 (0, 0)))) (HT : Hid (∀ (W : World), Is11 ch11 6 W a1 z1 → Is11 cs11 4 W a2 z2 → Calls Try.prog 36 #[.agg #[.int .i64 m0, .int .i64 m1, .int .i64 m2, .int .i64 m3, .int .i64 m4, .int .i64 m5, .slice a1 z1.length k1, .slice a2 z2.length k2]] W (PP11 m0 m1 m2 m3 m4 m5 z1 z2 W))) (J0 : Hid (Is11 ch11 6 wr a1 z1)) (J1 : Hid (Is11 cs11 4 wr a2 z2)) (HT2 : Hid (∀ (W : World), Is11 ch11 6 W b1 y1 → Is11 cs11 4 W b2 y2 → Calls Try.prog 36 #[.agg #[.int .i64 n0, .int .i64 n1, .int .i64 n2, .int .i64 n3, .int .i64 n4, .int .i64 n5, .slice b1 y1.length h1, .slice b2 y2.length h2]] W (PP11 n0 n1 n2 n3 n4 n5 y1 y2 W))) (K0 : Hid (Is11 ch11 6 wr b1 y1)) (K1 : Hid (Is11 cs11 4 wr b2 y2)) (HC : Hid (∀ (g1 c1 g2 c2 g3 c3 g4 c4 : Nat) (W : World), z2.length ≤ c2 → W.rangeAt g1 0 (hv11 z1) → W.rangeAt g2 0 (sv11 z2) → W.rangeAt g3 0 (hv11 y1) → W.rangeAt g4 0 (sv11 y2) → Calls Try.prog 47 #[.agg #[.int .i64 m0, .int .i64 m1, .int .i64 m2, .int .i64 m3, .int .i64 m4, .int .i64 m5, .slice (some ⟨g1, 0, none⟩) z1.length c1, .slice (some ⟨g2, 0, none⟩) z2.length c2], .agg #[.int .i64 n0, .int .i64 n1, .int .i64 n2, .int .i64 n3, .int .i64 n4, .int .i64 n5, .slice (some ⟨g3, 0, none⟩) y1.length c3, .slice (some ⟨g4, 0, none⟩) y2.length c4]] W (TP11 r0 r1 r2 r3 r4 r5 l' st' t W)))
    (hQ : ∀ (lo hi bw : Nat) (v1 v2 : Value) (X : World) (y94 y95 y96 y97 y98 y99 y100 y101 : Value), Below wr.heap.size wr X → X.heap[bw]? = some (Obj.cells #[.int .i64 r0, .int .i64 r1, .int .i64 r2, .int .i64 r3, .int .i64 r4, .int .i64 r5, v1, v2] 62 (0, 0)) → Pr11 lo hi v1 v2 l' st' X → (wr.heap.size ≤ bw ∧ bw < X.heap.size ∧ wr.heap.size ≤ lo ∧ hi ≤ X.heap.size ∧ (bw < lo ∨ hi ≤ bw)) → Q .normal { tmps := #[x0, x1, (.pointer (some ⟨d0, 0, none⟩)), (.pointer (some ⟨d1, 0, none⟩)), x4, x5, x6, x7, x8, x9, x10, x11, x12, x13, x14, (.pointer (some ⟨bw, 0, none⟩)), (.bool t), x17, x18, x19, x20, x21, x22, x23, x24, x25, x26, x27, x28, x29, x30, x31, x32, x33, x34, x35, x36, x37, x38, x39, x40, x41, x42, x43, x44, x45, x46, x47, x48, x49, x50, x51, x52, x53, x54, x55, x56, x57, x58, x59, x60, x61, x62, x63, x64, x65, x66, x67, x68, x69, x70, x71, x72, x73, x74, x75, x76, x77, x78, x79, x80, x81, x82, x83, x84, x85, x86, x87, x88, x89, x90, x91, x92, x93, y94, y95, y96, y97, y98, y99, y100, y101, x102, x103, x104, x105, x106, x107, x108, x109, x110, x111, x112, x113, x114, x115, x116, x117, x118], defers := [] } X) :
    (Code.region 31 #[{ dst := some 95, op := Go.Op.load 57 (Go.Operand.tmp 2), type := 57, pos := "exact.go:1513", after := #[], guard := none }, { dst := some 96, op := Go.Op.call { callee := Go.Callee.value (Go.Operand.func 36), args := #[Go.Operand.tmp 95], argTypes := #[57] }, type := 62, pos := "exact.go:1513", after := #[{ on := 0, ground := Go.Ground.data }], guard := none }, { dst := some 97, op := Go.Op.load 57 (Go.Operand.tmp 3), type := 57, pos := "exact.go:1513", after := #[], guard := none }, { dst := some 98, op := Go.Op.call { callee := Go.Callee.value (Go.Operand.func 36), args := #[Go.Operand.tmp 97], argTypes := #[57] }, type := 62, pos := "exact.go:1513", after := #[{ on := 2, ground := Go.Ground.data }, { on := 1, ground := Go.Ground.chain }], guard := none }, { dst := some 99, op := Go.Op.call { callee := Go.Callee.value (Go.Operand.func 47), args := #[Go.Operand.tmp 96, Go.Operand.tmp 98], argTypes := #[62, 62] }, type := 63, pos := "exact.go:1513", after := #[{ on := 1, ground := Go.Ground.data }, { on := 3, ground := Go.Ground.data }, { on := 3, ground := Go.Ground.chain }], guard := none }, { dst := some 94, op := Go.Op.move (Go.Operand.tmp 99), type := 63, pos := "exact.go:1513", after := #[{ on := 4, ground := Go.Ground.data }], guard := none }, { dst := some 100, op := Go.Op.extract (Go.Operand.tmp 94) 0, type := 62, pos := "exact.go:1513", after := #[{ on := 5, ground := Go.Ground.data }], guard := none }, { dst := some 101, op := Go.Op.extract (Go.Operand.tmp 94) 1, type := 4, pos := "exact.go:1513", after := #[{ on := 5, ground := Go.Ground.data }, { on := 9, ground := Go.Ground.gcOnly Go.Departure.lateStores }], guard := none }, { dst := some 15, op := Go.Op.alloc 62, type := 0, pos := "exact.go:1513", after := #[], guard := none }, { dst := none, op := Go.Op.store 62 (Go.Operand.tmp 15) (Go.Operand.tmp 100), type := 0, pos := "exact.go:1513", after := #[{ on := 8, ground := Go.Ground.data }, { on := 6, ground := Go.Ground.data }, { on := 4, ground := Go.Ground.chain }, { on := 0, ground := Go.Ground.phase }, { on := 1, ground := Go.Ground.phase }, { on := 2, ground := Go.Ground.phase }, { on := 3, ground := Go.Ground.phase }, { on := 4, ground := Go.Ground.phase }, { on := 5, ground := Go.Ground.phase }, { on := 6, ground := Go.Ground.phase }, { on := 7, ground := Go.Ground.textOnly Go.Departure.lateStores }, { on := 8, ground := Go.Ground.phase }], guard := none }, { dst := some 16, op := Go.Op.assign (Go.Operand.tmp 101), type := 4, pos := "exact.go:1513", after := #[{ on := 7, ground := Go.Ground.data }, { on := 9, ground := Go.Ground.chain }, { on := 0, ground := Go.Ground.phase }, { on := 1, ground := Go.Ground.phase }, { on := 2, ground := Go.Ground.phase }, { on := 3, ground := Go.Ground.phase }, { on := 4, ground := Go.Ground.phase }, { on := 5, ground := Go.Ground.phase }, { on := 6, ground := Go.Ground.phase }, { on := 7, ground := Go.Ground.phase }, { on := 8, ground := Go.Ground.phase }, { on := 9, ground := Go.Ground.phase }], guard := none }] true).wp Try.prog Q { tmps := #[x0, x1, (.pointer (some ⟨d0, 0, none⟩)), (.pointer (some ⟨d1, 0, none⟩)), x4, x5, x6, x7, x8, x9, x10, x11, x12, x13, x14, x15, x16, x17, x18, x19, x20, x21, x22, x23, x24, x25, x26, x27, x28, x29, x30, x31, x32, x33, x34, x35, x36, x37, x38, x39, x40, x41, x42, x43, x44, x45, x46, x47, x48, x49, x50, x51, x52, x53, x54, x55, x56, x57, x58, x59, x60, x61, x62, x63, x64, x65, x66, x67, x68, x69, x70, x71, x72, x73, x74, x75, x76, x77, x78, x79, x80, x81, x82, x83, x84, x85, x86, x87, x88, x89, x90, x91, x92, x93, x94, x95, x96, x97, x98, x99, x100, x101, x102, x103, x104, x105, x106, x107, x108, x109, x110, x111, x112, x113, x114, x115, x116, x117, x118], defers := [] } wr := by
  have HQ := Lib.hid hQ
  clear hQ
  have hk := Below.refl wr.heap.size wr
  refine wp_region_noPanic ?_
  refine wp_region_held_drew (S := (fun U => U.cell? ⟨d0, 0, none⟩ = some (.int .i64 m0) ∧ U.cell? ⟨d0, 1, none⟩ = some (.int .i64 m1) ∧ U.cell? ⟨d0, 2, none⟩ = some (.int .i64 m2) ∧ U.cell? ⟨d0, 3, none⟩ = some (.int .i64 m3) ∧ U.cell? ⟨d0, 4, none⟩ = some (.int .i64 m4) ∧ U.cell? ⟨d0, 5, none⟩ = some (.int .i64 m5) ∧ U.cell? ⟨d0, 6, none⟩ = some (.slice a1 z1.length k1) ∧ U.cell? ⟨d0, 7, none⟩ = some (.slice a2 z2.length k2) ∧ U.cell? ⟨d1, 0, none⟩ = some (.int .i64 n0) ∧ U.cell? ⟨d1, 1, none⟩ = some (.int .i64 n1) ∧ U.cell? ⟨d1, 2, none⟩ = some (.int .i64 n2) ∧ U.cell? ⟨d1, 3, none⟩ = some (.int .i64 n3) ∧ U.cell? ⟨d1, 4, none⟩ = some (.int .i64 n4) ∧ U.cell? ⟨d1, 5, none⟩ = some (.int .i64 n5) ∧ U.cell? ⟨d1, 6, none⟩ = some (.slice b1 y1.length h1) ∧ U.cell? ⟨d1, 7, none⟩ = some (.slice b2 y2.length h2))) (by kernel_rfl) ?_ (fun hHeld => ?_)
  · (try dsimp only)
    exact SKP_31 (wr := wr) (d0 := d0) (d1 := d1) H0.out H1.out (by (repeat (first | with_reducible assumption | with_reducible refine Below.drew ?_)))
  have hk := hk.drew
  generalize wr.drew = V at hk hHeld ⊢
  refine wpAnyH_take (i := 0) (oi := { dst := some 95, op := Go.Op.load 57 (Go.Operand.tmp 2), type := 57, pos := "exact.go:1513", after := #[], guard := none }) (v := ?_) rfl (by kernel_rfl) (by kernel_rfl) (by kernel_rfl) (fun _ _ _ h => h) (Or.inl ⟨by rfl, ?_⟩) (by assumption) ?_
  rotate_left
  · intro w hSw; (try dsimp only at hSw); go_simp; (try with_reducible rfl)
  simp only [Act.put, List.setIfInBounds_toArray, List.set_cons_zero, List.set_cons_succ]
  refine wpAnyH_take (i := 2) (oi := { dst := some 97, op := Go.Op.load 57 (Go.Operand.tmp 3), type := 57, pos := "exact.go:1513", after := #[], guard := none }) (v := ?_) rfl (by kernel_rfl) (by kernel_rfl) (by kernel_rfl) (fun _ _ _ h => h) (Or.inl ⟨by rfl, ?_⟩) (by assumption) ?_
  rotate_left
  · intro w hSw; (try dsimp only at hSw); go_simp; (try with_reducible rfl)
  simp only [Act.put, List.setIfInBounds_toArray, List.set_cons_zero, List.set_cons_succ]
  refine wpAnyH_ready (rs := [1, 8]) (by kernel_rfl) (by simp) ?_
  refine (AllReadyH.cons (o := { dst := some 96, op := Go.Op.call { callee := Go.Callee.value (Go.Operand.func 36), args := #[Go.Operand.tmp 95], argTypes := #[57] }, type := 62, pos := "exact.go:1513", after := #[{ on := 0, ground := Go.Ground.data }], guard := none }) rfl (fun K hK => ?_) (AllReadyH.cons (o := { dst := some 15, op := Go.Op.alloc 62, type := 0, pos := "exact.go:1513", after := #[], guard := none }) rfl (fun K hK => ?_) AllReadyH.nil))
  · go_simp
    refine (HT.out _ (Is11.below J0.out hk) (Is11.below J1.out hk)).mono ?_
    rintro e w' ⟨p1, p2, rfl, hpp, hb'⟩
    have R1 := own_range hpp.1
    have R2 := own_range hpp.2.1
    clear hpp
    have hk := hk.trans (hb'.mono hk.size)
    clear hb'
    refine hK.out _ _ ?_ (fun hHeld => ?_)
    · (try dsimp only)
      exact SKP_31 (wr := wr) (d0 := d0) (d1 := d1) H0.out H1.out (by (repeat (first | with_reducible assumption | with_reducible refine Below.drew ?_)))
    clear hK K
    (try simp only [Act.put, List.setIfInBounds_toArray, List.set_cons_zero, List.set_cons_succ])
    generalize w' = V at hk hHeld R1 R2 ⊢
    refine wpAnyH_ready (rs := [3, 8]) (by kernel_rfl) (by simp) ?_
    refine (AllReadyH.cons (o := { dst := some 98, op := Go.Op.call { callee := Go.Callee.value (Go.Operand.func 36), args := #[Go.Operand.tmp 97], argTypes := #[57] }, type := 62, pos := "exact.go:1513", after := #[{ on := 2, ground := Go.Ground.data }, { on := 1, ground := Go.Ground.chain }], guard := none }) rfl (fun K hK => ?_) (AllReadyH.cons (o := { dst := some 15, op := Go.Op.alloc 62, type := 0, pos := "exact.go:1513", after := #[], guard := none }) rfl (fun K hK => ?_) AllReadyH.nil))
    · go_simp
      refine (HT2.out _ (Is11.below K0.out hk) (Is11.below K1.out hk)).mono ?_
      rintro e w' ⟨p3, p4, rfl, hpp, hb'⟩
      have R1 := ra_below R1 hb' rfl
      have R2 := ra_below R2 hb' rfl
      have R3 := own_range hpp.1
      have R4 := own_range hpp.2.1
      clear hpp
      have hk := hk.trans (hb'.mono hk.size)
      clear hb'
      refine hK.out _ _ ?_ (fun hHeld => ?_)
      · (try dsimp only)
        exact SKP_31 (wr := wr) (d0 := d0) (d1 := d1) H0.out H1.out (by (repeat (first | with_reducible assumption | with_reducible refine Below.drew ?_)))
      clear hK K
      (try simp only [Act.put, List.setIfInBounds_toArray, List.set_cons_zero, List.set_cons_succ])
      generalize w' = V at hk hHeld R1 R2 R3 R4 ⊢
      refine wpAnyH_ready (rs := [4, 8]) (by kernel_rfl) (by simp) ?_
      refine (AllReadyH.cons (o := { dst := some 99, op := Go.Op.call { callee := Go.Callee.value (Go.Operand.func 47), args := #[Go.Operand.tmp 96, Go.Operand.tmp 98], argTypes := #[62, 62] }, type := 63, pos := "exact.go:1513", after := #[{ on := 1, ground := Go.Ground.data }, { on := 3, ground := Go.Ground.data }, { on := 3, ground := Go.Ground.chain }], guard := none }) rfl (fun K hK => ?_) (AllReadyH.cons (o := { dst := some 15, op := Go.Op.alloc 62, type := 0, pos := "exact.go:1513", after := #[], guard := none }) rfl (fun K hK => ?_) AllReadyH.nil))
      · go_simp
        refine (HC.out _ _ _ _ _ _ _ _ _ (Nat.le_refl _) R1 R2 R3 R4).mono ?_
        rintro e w' ⟨v1, v2, rfl, hp, hb'⟩
        clear R1 R2 R3 R4
        have hlo : wr.heap.size ≤ V.heap.size := hk.size
        have hk := hk.trans (hb'.mono hk.size)
        obtain ⟨hi, hhi⟩ : ∃ hi, hi = w'.heap.size := ⟨_, rfl⟩
        rw [← hhi] at hp
        have hhi : hi ≤ w'.heap.size := Nat.le_of_eq hhi
        clear hb'
        refine hK.out _ _ ?_ (fun hHeld => ?_)
        · (try dsimp only)
          exact SKP_31 (wr := wr) (d0 := d0) (d1 := d1) H0.out H1.out (by (repeat (first | with_reducible assumption | with_reducible refine Below.drew ?_)))
        clear hK K
        (try simp only [Act.put, List.setIfInBounds_toArray, List.set_cons_zero, List.set_cons_succ])
        obtain ⟨lo, hl⟩ : ∃ lo, lo = V.heap.size := ⟨_, rfl⟩
        rw [← hl] at hp hlo 
        clear hl
        generalize w' = V at hk hHeld hp hhi ⊢
        refine wpAnyH_take (i := 5) (oi := { dst := some 94, op := Go.Op.move (Go.Operand.tmp 99), type := 63, pos := "exact.go:1513", after := #[{ on := 4, ground := Go.Ground.data }], guard := none }) (v := ?_) rfl (by kernel_rfl) (by kernel_rfl) (by kernel_rfl) (fun _ _ _ h => h) (Or.inl ⟨by rfl, ?_⟩) (by assumption) ?_
        rotate_left
        · intro w hSw; (try dsimp only at hSw); go_simp; (try with_reducible rfl)
        simp only [Act.put, List.setIfInBounds_toArray, List.set_cons_zero, List.set_cons_succ]
        refine wpAnyH_take (i := 6) (oi := { dst := some 100, op := Go.Op.extract (Go.Operand.tmp 94) 0, type := 62, pos := "exact.go:1513", after := #[{ on := 5, ground := Go.Ground.data }], guard := none }) (v := ?_) rfl (by kernel_rfl) (by kernel_rfl) (by kernel_rfl) (fun _ _ _ h => h) (Or.inl ⟨by rfl, ?_⟩) (by assumption) ?_
        rotate_left
        · intro w hSw; (try dsimp only at hSw); go_simp; (try with_reducible rfl)
        simp only [Act.put, List.setIfInBounds_toArray, List.set_cons_zero, List.set_cons_succ]
        refine wpAnyH_take (i := 7) (oi := { dst := some 101, op := Go.Op.extract (Go.Operand.tmp 94) 1, type := 4, pos := "exact.go:1513", after := #[{ on := 5, ground := Go.Ground.data }, { on := 9, ground := Go.Ground.gcOnly Go.Departure.lateStores }], guard := none }) (v := ?_) rfl (by kernel_rfl) (by kernel_rfl) (by kernel_rfl) (fun _ _ _ h => h) (Or.inl ⟨by rfl, ?_⟩) (by assumption) ?_
        rotate_left
        · intro w hSw; (try dsimp only at hSw); go_simp; (try with_reducible rfl)
        simp only [Act.put, List.setIfInBounds_toArray, List.set_cons_zero, List.set_cons_succ]
        refine wpAnyH_ready (rs := [8]) (by kernel_rfl) (by simp) ?_
        refine (AllReadyH.cons (o := { dst := some 15, op := Go.Op.alloc 62, type := 0, pos := "exact.go:1513", after := #[], guard := none }) rfl (fun K hK => ?_) AllReadyH.nil)
        · go_simp
          have hn : (V.alloc (.cells #[.int .i64 0, .int .i64 0, .int .i64 0, .int .i64 0, .int .i64 0, .int .i64 0, .slice none 0 0, .slice none 0 0] 62)).heap[V.heap.size]? = some (.cells #[.int .i64 0, .int .i64 0, .int .i64 0, .int .i64 0, .int .i64 0, .int .i64 0, .slice none 0 0, .slice none 0 0] 62 (0, 0)) := alloc_at rfl
          have hG : wr.heap.size ≤ V.heap.size := hk.size
          have hk := Below.alloc hk hk.size (.cells #[.int .i64 0, .int .i64 0, .int .i64 0, .int .i64 0, .int .i64 0, .int .i64 0, .slice none 0 0, .slice none 0 0] 62)
          have hp := hp.st V (V.alloc (.cells #[.int .i64 0, .int .i64 0, .int .i64 0, .int .i64 0, .int .i64 0, .int .i64 0, .slice none 0 0, .slice none 0 0] 62)) (fun k _ h2 => ((Below.refl V.heap.size V).alloc (Nat.le_refl _) (.cells #[.int .i64 0, .int .i64 0, .int .i64 0, .int .i64 0, .int .i64 0, .int .i64 0, .slice none 0 0, .slice none 0 0] 62)).block k (by omega))
          have hor : V.heap.size < lo ∨ hi ≤ V.heap.size := .inr hhi
          have hhi : hi ≤ (V.alloc (.cells #[.int .i64 0, .int .i64 0, .int .i64 0, .int .i64 0, .int .i64 0, .int .i64 0, .slice none 0 0, .slice none 0 0] 62)).heap.size := by simp; omega
          refine hK.out _ _ ?_ (fun hHeld => ?_)
          · (try dsimp only)
            exact SKP_31 (wr := wr) (d0 := d0) (d1 := d1) H0.out H1.out (by (repeat (first | with_reducible assumption | with_reducible refine Below.drew ?_)))
          clear hK K
          (try simp only [Act.put, List.setIfInBounds_toArray, List.set_cons_zero, List.set_cons_succ])
          generalize V.heap.size = G at hn hG hor ⊢
          generalize (World.alloc _ _ : World) = V at hk hHeld hn hp hhi ⊢
          refine wpAnyH_ready (rs := [9]) (by kernel_rfl) (by simp) ?_
          refine (AllReadyH.cons (o := { dst := none, op := Go.Op.store 62 (Go.Operand.tmp 15) (Go.Operand.tmp 100), type := 0, pos := "exact.go:1513", after := #[{ on := 8, ground := Go.Ground.data }, { on := 6, ground := Go.Ground.data }, { on := 4, ground := Go.Ground.chain }, { on := 0, ground := Go.Ground.phase }, { on := 1, ground := Go.Ground.phase }, { on := 2, ground := Go.Ground.phase }, { on := 3, ground := Go.Ground.phase }, { on := 4, ground := Go.Ground.phase }, { on := 5, ground := Go.Ground.phase }, { on := 6, ground := Go.Ground.phase }, { on := 7, ground := Go.Ground.textOnly Go.Departure.lateStores }, { on := 8, ground := Go.Ground.phase }], guard := none }) rfl (fun K hK => ?_) AllReadyH.nil)
          · skip
            have wo1 := own_one11 hp.1
            have wo2 := own_one11 hp.2.1
            refine wp_store_mid 62 (.tmp 15) (.tmp 100) rfl G 0 #[.int .i64 r0, .int .i64 r1, .int .i64 r2, .int .i64 r3, .int .i64 r4, .int .i64 r5, v1, v2] rfl rfl (row_there12 (cs := #[.int .i64 0, .int .i64 0, .int .i64 0, .int .i64 0, .int .i64 0, .int .i64 0, .slice none 0 0, .slice none 0 0]) hn) (by kernel_rfl) (one8_11 r0 r1 r2 r3 r4 r5 wo1 wo2) ?_
            have hx := row_sets12 (cs' := #[.int .i64 r0, .int .i64 r1, .int .i64 r2, .int .i64 r3, .int .i64 r4, .int .i64 r5, v1, v2]) hn rfl
            have hk := setCells_bel hG (Array.toList #[.int .i64 r0, .int .i64 r1, .int .i64 r2, .int .i64 r3, .int .i64 r4, .int .i64 r5, v1, v2]) 0 _ _ hk
            have hp := hp.st V (V.setCells G 0 (Array.toList #[.int .i64 r0, .int .i64 r1, .int .i64 r2, .int .i64 r3, .int .i64 r4, .int .i64 r5, v1, v2])) (fun k h1 h2 => setCells_heap (show k ≠ G by omega) _ _ _)
            have hhi : hi ≤ (V.setCells G 0 (Array.toList #[.int .i64 r0, .int .i64 r1, .int .i64 r2, .int .i64 r3, .int .i64 r4, .int .i64 r5, v1, v2])).heap.size := by rw [setCells_size11]; exact hhi
            clear hn
            refine hK.out _ _ ?_ (fun hHeld => ?_)
            · (try dsimp only)
              exact SKP_31 (wr := wr) (d0 := d0) (d1 := d1) H0.out H1.out (by (repeat (first | with_reducible assumption | with_reducible refine Below.drew ?_)))
            clear hK K
            (try simp only [Act.put, List.setIfInBounds_toArray, List.set_cons_zero, List.set_cons_succ])
            generalize (World.setCells _ _ _ _ : World) = X at hk hx hHeld hp hhi ⊢
            refine wpAnyH_take (i := 10) (oi := { dst := some 16, op := Go.Op.assign (Go.Operand.tmp 101), type := 4, pos := "exact.go:1513", after := #[{ on := 7, ground := Go.Ground.data }, { on := 9, ground := Go.Ground.chain }, { on := 0, ground := Go.Ground.phase }, { on := 1, ground := Go.Ground.phase }, { on := 2, ground := Go.Ground.phase }, { on := 3, ground := Go.Ground.phase }, { on := 4, ground := Go.Ground.phase }, { on := 5, ground := Go.Ground.phase }, { on := 6, ground := Go.Ground.phase }, { on := 7, ground := Go.Ground.phase }, { on := 8, ground := Go.Ground.phase }, { on := 9, ground := Go.Ground.phase }], guard := none }) (v := ?_) rfl (by kernel_rfl) (by kernel_rfl) (by kernel_rfl) (fun _ _ _ h => h) (Or.inl ⟨by rfl, ?_⟩) (by assumption) ?_
            rotate_left
            · intro w hSw; (try dsimp only at hSw); go_simp; (try with_reducible rfl)
            simp only [Act.put, List.setIfInBounds_toArray, List.set_cons_zero, List.set_cons_succ]
            refine wpAnyH_done (by kernel_rfl) ?_ _
            refine NoPanic.normal (HQ.out lo hi G v1 v2 X _ _ _ _ _ _ _ _ hk hx hp ⟨hG, (Array.getElem?_eq_some_iff.1 hx).1, hlo, hhi, hor⟩)
      · go_simp
        have hn : (V.alloc (.cells #[.int .i64 0, .int .i64 0, .int .i64 0, .int .i64 0, .int .i64 0, .int .i64 0, .slice none 0 0, .slice none 0 0] 62)).heap[V.heap.size]? = some (.cells #[.int .i64 0, .int .i64 0, .int .i64 0, .int .i64 0, .int .i64 0, .int .i64 0, .slice none 0 0, .slice none 0 0] 62 (0, 0)) := alloc_at rfl
        have hG : wr.heap.size ≤ V.heap.size := hk.size
        have hk := Below.alloc hk hk.size (.cells #[.int .i64 0, .int .i64 0, .int .i64 0, .int .i64 0, .int .i64 0, .int .i64 0, .slice none 0 0, .slice none 0 0] 62)
        have R3 := ra_below R3 ((Below.refl V.heap.size V).alloc (Nat.le_refl _) (.cells #[.int .i64 0, .int .i64 0, .int .i64 0, .int .i64 0, .int .i64 0, .int .i64 0, .slice none 0 0, .slice none 0 0] 62)) rfl
        have R4 := ra_below R4 ((Below.refl V.heap.size V).alloc (Nat.le_refl _) (.cells #[.int .i64 0, .int .i64 0, .int .i64 0, .int .i64 0, .int .i64 0, .int .i64 0, .slice none 0 0, .slice none 0 0] 62)) rfl
        have R1 := ra_below R1 ((Below.refl V.heap.size V).alloc (Nat.le_refl _) (.cells #[.int .i64 0, .int .i64 0, .int .i64 0, .int .i64 0, .int .i64 0, .int .i64 0, .slice none 0 0, .slice none 0 0] 62)) rfl
        have R2 := ra_below R2 ((Below.refl V.heap.size V).alloc (Nat.le_refl _) (.cells #[.int .i64 0, .int .i64 0, .int .i64 0, .int .i64 0, .int .i64 0, .int .i64 0, .slice none 0 0, .slice none 0 0] 62)) rfl
        refine hK.out _ _ ?_ (fun hHeld => ?_)
        · (try dsimp only)
          exact SKP_31 (wr := wr) (d0 := d0) (d1 := d1) H0.out H1.out (by (repeat (first | with_reducible assumption | with_reducible refine Below.drew ?_)))
        clear hK K
        (try simp only [Act.put, List.setIfInBounds_toArray, List.set_cons_zero, List.set_cons_succ])
        generalize V.heap.size = G at hn hG ⊢
        generalize (World.alloc _ _ : World) = V at hk hHeld hn R1 R2 R3 R4 ⊢
        refine wpAnyH_ready (rs := [4]) (by kernel_rfl) (by simp) ?_
        refine (AllReadyH.cons (o := { dst := some 99, op := Go.Op.call { callee := Go.Callee.value (Go.Operand.func 47), args := #[Go.Operand.tmp 96, Go.Operand.tmp 98], argTypes := #[62, 62] }, type := 63, pos := "exact.go:1513", after := #[{ on := 1, ground := Go.Ground.data }, { on := 3, ground := Go.Ground.data }, { on := 3, ground := Go.Ground.chain }], guard := none }) rfl (fun K hK => ?_) AllReadyH.nil)
        · go_simp
          have hG2 : G < V.heap.size := (Array.getElem?_eq_some_iff.1 hn).1
          refine (HC.out _ _ _ _ _ _ _ _ _ (Nat.le_refl _) R1 R2 R3 R4).mono ?_
          rintro e w' ⟨v1, v2, rfl, hp, hb'⟩
          clear R1 R2 R3 R4
          have hlo : wr.heap.size ≤ V.heap.size := hk.size
          have hn := rowk hn hb' rfl
          have hk := hk.trans (hb'.mono hk.size)
          obtain ⟨hi, hhi⟩ : ∃ hi, hi = w'.heap.size := ⟨_, rfl⟩
          rw [← hhi] at hp
          have hhi : hi ≤ w'.heap.size := Nat.le_of_eq hhi
          clear hb'
          refine hK.out _ _ ?_ (fun hHeld => ?_)
          · (try dsimp only)
            exact SKP_31 (wr := wr) (d0 := d0) (d1 := d1) H0.out H1.out (by (repeat (first | with_reducible assumption | with_reducible refine Below.drew ?_)))
          clear hK K
          (try simp only [Act.put, List.setIfInBounds_toArray, List.set_cons_zero, List.set_cons_succ])
          obtain ⟨lo, hl⟩ : ∃ lo, lo = V.heap.size := ⟨_, rfl⟩
          rw [← hl] at hp hlo hG2
          clear hl
          have hor : G < lo ∨ hi ≤ G := .inl hG2
          clear hG2
          generalize w' = V at hk hHeld hn hp hhi ⊢
          refine wpAnyH_take (i := 5) (oi := { dst := some 94, op := Go.Op.move (Go.Operand.tmp 99), type := 63, pos := "exact.go:1513", after := #[{ on := 4, ground := Go.Ground.data }], guard := none }) (v := ?_) rfl (by kernel_rfl) (by kernel_rfl) (by kernel_rfl) (fun _ _ _ h => h) (Or.inl ⟨by rfl, ?_⟩) (by assumption) ?_
          rotate_left
          · intro w hSw; (try dsimp only at hSw); go_simp; (try with_reducible rfl)
          simp only [Act.put, List.setIfInBounds_toArray, List.set_cons_zero, List.set_cons_succ]
          refine wpAnyH_take (i := 6) (oi := { dst := some 100, op := Go.Op.extract (Go.Operand.tmp 94) 0, type := 62, pos := "exact.go:1513", after := #[{ on := 5, ground := Go.Ground.data }], guard := none }) (v := ?_) rfl (by kernel_rfl) (by kernel_rfl) (by kernel_rfl) (fun _ _ _ h => h) (Or.inl ⟨by rfl, ?_⟩) (by assumption) ?_
          rotate_left
          · intro w hSw; (try dsimp only at hSw); go_simp; (try with_reducible rfl)
          simp only [Act.put, List.setIfInBounds_toArray, List.set_cons_zero, List.set_cons_succ]
          refine wpAnyH_take (i := 7) (oi := { dst := some 101, op := Go.Op.extract (Go.Operand.tmp 94) 1, type := 4, pos := "exact.go:1513", after := #[{ on := 5, ground := Go.Ground.data }, { on := 9, ground := Go.Ground.gcOnly Go.Departure.lateStores }], guard := none }) (v := ?_) rfl (by kernel_rfl) (by kernel_rfl) (by kernel_rfl) (fun _ _ _ h => h) (Or.inl ⟨by rfl, ?_⟩) (by assumption) ?_
          rotate_left
          · intro w hSw; (try dsimp only at hSw); go_simp; (try with_reducible rfl)
          simp only [Act.put, List.setIfInBounds_toArray, List.set_cons_zero, List.set_cons_succ]
          refine wpAnyH_ready (rs := [9]) (by kernel_rfl) (by simp) ?_
          refine (AllReadyH.cons (o := { dst := none, op := Go.Op.store 62 (Go.Operand.tmp 15) (Go.Operand.tmp 100), type := 0, pos := "exact.go:1513", after := #[{ on := 8, ground := Go.Ground.data }, { on := 6, ground := Go.Ground.data }, { on := 4, ground := Go.Ground.chain }, { on := 0, ground := Go.Ground.phase }, { on := 1, ground := Go.Ground.phase }, { on := 2, ground := Go.Ground.phase }, { on := 3, ground := Go.Ground.phase }, { on := 4, ground := Go.Ground.phase }, { on := 5, ground := Go.Ground.phase }, { on := 6, ground := Go.Ground.phase }, { on := 7, ground := Go.Ground.textOnly Go.Departure.lateStores }, { on := 8, ground := Go.Ground.phase }], guard := none }) rfl (fun K hK => ?_) AllReadyH.nil)
          · skip
            have wo1 := own_one11 hp.1
            have wo2 := own_one11 hp.2.1
            refine wp_store_mid 62 (.tmp 15) (.tmp 100) rfl G 0 #[.int .i64 r0, .int .i64 r1, .int .i64 r2, .int .i64 r3, .int .i64 r4, .int .i64 r5, v1, v2] rfl rfl (row_there12 (cs := #[.int .i64 0, .int .i64 0, .int .i64 0, .int .i64 0, .int .i64 0, .int .i64 0, .slice none 0 0, .slice none 0 0]) hn) (by kernel_rfl) (one8_11 r0 r1 r2 r3 r4 r5 wo1 wo2) ?_
            have hx := row_sets12 (cs' := #[.int .i64 r0, .int .i64 r1, .int .i64 r2, .int .i64 r3, .int .i64 r4, .int .i64 r5, v1, v2]) hn rfl
            have hk := setCells_bel hG (Array.toList #[.int .i64 r0, .int .i64 r1, .int .i64 r2, .int .i64 r3, .int .i64 r4, .int .i64 r5, v1, v2]) 0 _ _ hk
            have hp := hp.st V (V.setCells G 0 (Array.toList #[.int .i64 r0, .int .i64 r1, .int .i64 r2, .int .i64 r3, .int .i64 r4, .int .i64 r5, v1, v2])) (fun k h1 h2 => setCells_heap (show k ≠ G by omega) _ _ _)
            have hhi : hi ≤ (V.setCells G 0 (Array.toList #[.int .i64 r0, .int .i64 r1, .int .i64 r2, .int .i64 r3, .int .i64 r4, .int .i64 r5, v1, v2])).heap.size := by rw [setCells_size11]; exact hhi
            clear hn
            refine hK.out _ _ ?_ (fun hHeld => ?_)
            · (try dsimp only)
              exact SKP_31 (wr := wr) (d0 := d0) (d1 := d1) H0.out H1.out (by (repeat (first | with_reducible assumption | with_reducible refine Below.drew ?_)))
            clear hK K
            (try simp only [Act.put, List.setIfInBounds_toArray, List.set_cons_zero, List.set_cons_succ])
            generalize (World.setCells _ _ _ _ : World) = X at hk hx hHeld hp hhi ⊢
            refine wpAnyH_take (i := 10) (oi := { dst := some 16, op := Go.Op.assign (Go.Operand.tmp 101), type := 4, pos := "exact.go:1513", after := #[{ on := 7, ground := Go.Ground.data }, { on := 9, ground := Go.Ground.chain }, { on := 0, ground := Go.Ground.phase }, { on := 1, ground := Go.Ground.phase }, { on := 2, ground := Go.Ground.phase }, { on := 3, ground := Go.Ground.phase }, { on := 4, ground := Go.Ground.phase }, { on := 5, ground := Go.Ground.phase }, { on := 6, ground := Go.Ground.phase }, { on := 7, ground := Go.Ground.phase }, { on := 8, ground := Go.Ground.phase }, { on := 9, ground := Go.Ground.phase }], guard := none }) (v := ?_) rfl (by kernel_rfl) (by kernel_rfl) (by kernel_rfl) (fun _ _ _ h => h) (Or.inl ⟨by rfl, ?_⟩) (by assumption) ?_
            rotate_left
            · intro w hSw; (try dsimp only at hSw); go_simp; (try with_reducible rfl)
            simp only [Act.put, List.setIfInBounds_toArray, List.set_cons_zero, List.set_cons_succ]
            refine wpAnyH_done (by kernel_rfl) ?_ _
            refine NoPanic.normal (HQ.out lo hi G v1 v2 X _ _ _ _ _ _ _ _ hk hx hp ⟨hG, (Array.getElem?_eq_some_iff.1 hx).1, hlo, hhi, hor⟩)
    · go_simp
      have hn : (V.alloc (.cells #[.int .i64 0, .int .i64 0, .int .i64 0, .int .i64 0, .int .i64 0, .int .i64 0, .slice none 0 0, .slice none 0 0] 62)).heap[V.heap.size]? = some (.cells #[.int .i64 0, .int .i64 0, .int .i64 0, .int .i64 0, .int .i64 0, .int .i64 0, .slice none 0 0, .slice none 0 0] 62 (0, 0)) := alloc_at rfl
      have hG : wr.heap.size ≤ V.heap.size := hk.size
      have hk := Below.alloc hk hk.size (.cells #[.int .i64 0, .int .i64 0, .int .i64 0, .int .i64 0, .int .i64 0, .int .i64 0, .slice none 0 0, .slice none 0 0] 62)
      have R1 := ra_below R1 ((Below.refl V.heap.size V).alloc (Nat.le_refl _) (.cells #[.int .i64 0, .int .i64 0, .int .i64 0, .int .i64 0, .int .i64 0, .int .i64 0, .slice none 0 0, .slice none 0 0] 62)) rfl
      have R2 := ra_below R2 ((Below.refl V.heap.size V).alloc (Nat.le_refl _) (.cells #[.int .i64 0, .int .i64 0, .int .i64 0, .int .i64 0, .int .i64 0, .int .i64 0, .slice none 0 0, .slice none 0 0] 62)) rfl
      refine hK.out _ _ ?_ (fun hHeld => ?_)
      · (try dsimp only)
        exact SKP_31 (wr := wr) (d0 := d0) (d1 := d1) H0.out H1.out (by (repeat (first | with_reducible assumption | with_reducible refine Below.drew ?_)))
      clear hK K
      (try simp only [Act.put, List.setIfInBounds_toArray, List.set_cons_zero, List.set_cons_succ])
      generalize V.heap.size = G at hn hG ⊢
      generalize (World.alloc _ _ : World) = V at hk hHeld hn R1 R2 ⊢
      refine wpAnyH_ready (rs := [3]) (by kernel_rfl) (by simp) ?_
      refine (AllReadyH.cons (o := { dst := some 98, op := Go.Op.call { callee := Go.Callee.value (Go.Operand.func 36), args := #[Go.Operand.tmp 97], argTypes := #[57] }, type := 62, pos := "exact.go:1513", after := #[{ on := 2, ground := Go.Ground.data }, { on := 1, ground := Go.Ground.chain }], guard := none }) rfl (fun K hK => ?_) AllReadyH.nil)
      · go_simp
        refine (HT2.out _ (Is11.below K0.out hk) (Is11.below K1.out hk)).mono ?_
        rintro e w' ⟨p3, p4, rfl, hpp, hb'⟩
        have R1 := ra_below R1 hb' rfl
        have R2 := ra_below R2 hb' rfl
        have R3 := own_range hpp.1
        have R4 := own_range hpp.2.1
        clear hpp
        have hn := rowk hn hb' rfl
        have hk := hk.trans (hb'.mono hk.size)
        clear hb'
        refine hK.out _ _ ?_ (fun hHeld => ?_)
        · (try dsimp only)
          exact SKP_31 (wr := wr) (d0 := d0) (d1 := d1) H0.out H1.out (by (repeat (first | with_reducible assumption | with_reducible refine Below.drew ?_)))
        clear hK K
        (try simp only [Act.put, List.setIfInBounds_toArray, List.set_cons_zero, List.set_cons_succ])
        generalize w' = V at hk hHeld hn R1 R2 R3 R4 ⊢
        refine wpAnyH_ready (rs := [4]) (by kernel_rfl) (by simp) ?_
        refine (AllReadyH.cons (o := { dst := some 99, op := Go.Op.call { callee := Go.Callee.value (Go.Operand.func 47), args := #[Go.Operand.tmp 96, Go.Operand.tmp 98], argTypes := #[62, 62] }, type := 63, pos := "exact.go:1513", after := #[{ on := 1, ground := Go.Ground.data }, { on := 3, ground := Go.Ground.data }, { on := 3, ground := Go.Ground.chain }], guard := none }) rfl (fun K hK => ?_) AllReadyH.nil)
        · go_simp
          have hG2 : G < V.heap.size := (Array.getElem?_eq_some_iff.1 hn).1
          refine (HC.out _ _ _ _ _ _ _ _ _ (Nat.le_refl _) R1 R2 R3 R4).mono ?_
          rintro e w' ⟨v1, v2, rfl, hp, hb'⟩
          clear R1 R2 R3 R4
          have hlo : wr.heap.size ≤ V.heap.size := hk.size
          have hn := rowk hn hb' rfl
          have hk := hk.trans (hb'.mono hk.size)
          obtain ⟨hi, hhi⟩ : ∃ hi, hi = w'.heap.size := ⟨_, rfl⟩
          rw [← hhi] at hp
          have hhi : hi ≤ w'.heap.size := Nat.le_of_eq hhi
          clear hb'
          refine hK.out _ _ ?_ (fun hHeld => ?_)
          · (try dsimp only)
            exact SKP_31 (wr := wr) (d0 := d0) (d1 := d1) H0.out H1.out (by (repeat (first | with_reducible assumption | with_reducible refine Below.drew ?_)))
          clear hK K
          (try simp only [Act.put, List.setIfInBounds_toArray, List.set_cons_zero, List.set_cons_succ])
          obtain ⟨lo, hl⟩ : ∃ lo, lo = V.heap.size := ⟨_, rfl⟩
          rw [← hl] at hp hlo hG2
          clear hl
          have hor : G < lo ∨ hi ≤ G := .inl hG2
          clear hG2
          generalize w' = V at hk hHeld hn hp hhi ⊢
          refine wpAnyH_take (i := 5) (oi := { dst := some 94, op := Go.Op.move (Go.Operand.tmp 99), type := 63, pos := "exact.go:1513", after := #[{ on := 4, ground := Go.Ground.data }], guard := none }) (v := ?_) rfl (by kernel_rfl) (by kernel_rfl) (by kernel_rfl) (fun _ _ _ h => h) (Or.inl ⟨by rfl, ?_⟩) (by assumption) ?_
          rotate_left
          · intro w hSw; (try dsimp only at hSw); go_simp; (try with_reducible rfl)
          simp only [Act.put, List.setIfInBounds_toArray, List.set_cons_zero, List.set_cons_succ]
          refine wpAnyH_take (i := 6) (oi := { dst := some 100, op := Go.Op.extract (Go.Operand.tmp 94) 0, type := 62, pos := "exact.go:1513", after := #[{ on := 5, ground := Go.Ground.data }], guard := none }) (v := ?_) rfl (by kernel_rfl) (by kernel_rfl) (by kernel_rfl) (fun _ _ _ h => h) (Or.inl ⟨by rfl, ?_⟩) (by assumption) ?_
          rotate_left
          · intro w hSw; (try dsimp only at hSw); go_simp; (try with_reducible rfl)
          simp only [Act.put, List.setIfInBounds_toArray, List.set_cons_zero, List.set_cons_succ]
          refine wpAnyH_take (i := 7) (oi := { dst := some 101, op := Go.Op.extract (Go.Operand.tmp 94) 1, type := 4, pos := "exact.go:1513", after := #[{ on := 5, ground := Go.Ground.data }, { on := 9, ground := Go.Ground.gcOnly Go.Departure.lateStores }], guard := none }) (v := ?_) rfl (by kernel_rfl) (by kernel_rfl) (by kernel_rfl) (fun _ _ _ h => h) (Or.inl ⟨by rfl, ?_⟩) (by assumption) ?_
          rotate_left
          · intro w hSw; (try dsimp only at hSw); go_simp; (try with_reducible rfl)
          simp only [Act.put, List.setIfInBounds_toArray, List.set_cons_zero, List.set_cons_succ]
          refine wpAnyH_ready (rs := [9]) (by kernel_rfl) (by simp) ?_
          refine (AllReadyH.cons (o := { dst := none, op := Go.Op.store 62 (Go.Operand.tmp 15) (Go.Operand.tmp 100), type := 0, pos := "exact.go:1513", after := #[{ on := 8, ground := Go.Ground.data }, { on := 6, ground := Go.Ground.data }, { on := 4, ground := Go.Ground.chain }, { on := 0, ground := Go.Ground.phase }, { on := 1, ground := Go.Ground.phase }, { on := 2, ground := Go.Ground.phase }, { on := 3, ground := Go.Ground.phase }, { on := 4, ground := Go.Ground.phase }, { on := 5, ground := Go.Ground.phase }, { on := 6, ground := Go.Ground.phase }, { on := 7, ground := Go.Ground.textOnly Go.Departure.lateStores }, { on := 8, ground := Go.Ground.phase }], guard := none }) rfl (fun K hK => ?_) AllReadyH.nil)
          · skip
            have wo1 := own_one11 hp.1
            have wo2 := own_one11 hp.2.1
            refine wp_store_mid 62 (.tmp 15) (.tmp 100) rfl G 0 #[.int .i64 r0, .int .i64 r1, .int .i64 r2, .int .i64 r3, .int .i64 r4, .int .i64 r5, v1, v2] rfl rfl (row_there12 (cs := #[.int .i64 0, .int .i64 0, .int .i64 0, .int .i64 0, .int .i64 0, .int .i64 0, .slice none 0 0, .slice none 0 0]) hn) (by kernel_rfl) (one8_11 r0 r1 r2 r3 r4 r5 wo1 wo2) ?_
            have hx := row_sets12 (cs' := #[.int .i64 r0, .int .i64 r1, .int .i64 r2, .int .i64 r3, .int .i64 r4, .int .i64 r5, v1, v2]) hn rfl
            have hk := setCells_bel hG (Array.toList #[.int .i64 r0, .int .i64 r1, .int .i64 r2, .int .i64 r3, .int .i64 r4, .int .i64 r5, v1, v2]) 0 _ _ hk
            have hp := hp.st V (V.setCells G 0 (Array.toList #[.int .i64 r0, .int .i64 r1, .int .i64 r2, .int .i64 r3, .int .i64 r4, .int .i64 r5, v1, v2])) (fun k h1 h2 => setCells_heap (show k ≠ G by omega) _ _ _)
            have hhi : hi ≤ (V.setCells G 0 (Array.toList #[.int .i64 r0, .int .i64 r1, .int .i64 r2, .int .i64 r3, .int .i64 r4, .int .i64 r5, v1, v2])).heap.size := by rw [setCells_size11]; exact hhi
            clear hn
            refine hK.out _ _ ?_ (fun hHeld => ?_)
            · (try dsimp only)
              exact SKP_31 (wr := wr) (d0 := d0) (d1 := d1) H0.out H1.out (by (repeat (first | with_reducible assumption | with_reducible refine Below.drew ?_)))
            clear hK K
            (try simp only [Act.put, List.setIfInBounds_toArray, List.set_cons_zero, List.set_cons_succ])
            generalize (World.setCells _ _ _ _ : World) = X at hk hx hHeld hp hhi ⊢
            refine wpAnyH_take (i := 10) (oi := { dst := some 16, op := Go.Op.assign (Go.Operand.tmp 101), type := 4, pos := "exact.go:1513", after := #[{ on := 7, ground := Go.Ground.data }, { on := 9, ground := Go.Ground.chain }, { on := 0, ground := Go.Ground.phase }, { on := 1, ground := Go.Ground.phase }, { on := 2, ground := Go.Ground.phase }, { on := 3, ground := Go.Ground.phase }, { on := 4, ground := Go.Ground.phase }, { on := 5, ground := Go.Ground.phase }, { on := 6, ground := Go.Ground.phase }, { on := 7, ground := Go.Ground.phase }, { on := 8, ground := Go.Ground.phase }, { on := 9, ground := Go.Ground.phase }], guard := none }) (v := ?_) rfl (by kernel_rfl) (by kernel_rfl) (by kernel_rfl) (fun _ _ _ h => h) (Or.inl ⟨by rfl, ?_⟩) (by assumption) ?_
            rotate_left
            · intro w hSw; (try dsimp only at hSw); go_simp; (try with_reducible rfl)
            simp only [Act.put, List.setIfInBounds_toArray, List.set_cons_zero, List.set_cons_succ]
            refine wpAnyH_done (by kernel_rfl) ?_ _
            refine NoPanic.normal (HQ.out lo hi G v1 v2 X _ _ _ _ _ _ _ _ hk hx hp ⟨hG, (Array.getElem?_eq_some_iff.1 hx).1, hlo, hhi, hor⟩)
  · go_simp
    have hn : (V.alloc (.cells #[.int .i64 0, .int .i64 0, .int .i64 0, .int .i64 0, .int .i64 0, .int .i64 0, .slice none 0 0, .slice none 0 0] 62)).heap[V.heap.size]? = some (.cells #[.int .i64 0, .int .i64 0, .int .i64 0, .int .i64 0, .int .i64 0, .int .i64 0, .slice none 0 0, .slice none 0 0] 62 (0, 0)) := alloc_at rfl
    have hG : wr.heap.size ≤ V.heap.size := hk.size
    have hk := Below.alloc hk hk.size (.cells #[.int .i64 0, .int .i64 0, .int .i64 0, .int .i64 0, .int .i64 0, .int .i64 0, .slice none 0 0, .slice none 0 0] 62)
    refine hK.out _ _ ?_ (fun hHeld => ?_)
    · (try dsimp only)
      exact SKP_31 (wr := wr) (d0 := d0) (d1 := d1) H0.out H1.out (by (repeat (first | with_reducible assumption | with_reducible refine Below.drew ?_)))
    clear hK K
    (try simp only [Act.put, List.setIfInBounds_toArray, List.set_cons_zero, List.set_cons_succ])
    generalize V.heap.size = G at hn hG ⊢
    generalize (World.alloc _ _ : World) = V at hk hHeld hn ⊢
    refine wpAnyH_ready (rs := [1]) (by kernel_rfl) (by simp) ?_
    refine (AllReadyH.cons (o := { dst := some 96, op := Go.Op.call { callee := Go.Callee.value (Go.Operand.func 36), args := #[Go.Operand.tmp 95], argTypes := #[57] }, type := 62, pos := "exact.go:1513", after := #[{ on := 0, ground := Go.Ground.data }], guard := none }) rfl (fun K hK => ?_) AllReadyH.nil)
    · go_simp
      refine (HT.out _ (Is11.below J0.out hk) (Is11.below J1.out hk)).mono ?_
      rintro e w' ⟨p1, p2, rfl, hpp, hb'⟩
      have R1 := own_range hpp.1
      have R2 := own_range hpp.2.1
      clear hpp
      have hn := rowk hn hb' rfl
      have hk := hk.trans (hb'.mono hk.size)
      clear hb'
      refine hK.out _ _ ?_ (fun hHeld => ?_)
      · (try dsimp only)
        exact SKP_31 (wr := wr) (d0 := d0) (d1 := d1) H0.out H1.out (by (repeat (first | with_reducible assumption | with_reducible refine Below.drew ?_)))
      clear hK K
      (try simp only [Act.put, List.setIfInBounds_toArray, List.set_cons_zero, List.set_cons_succ])
      generalize w' = V at hk hHeld hn R1 R2 ⊢
      refine wpAnyH_ready (rs := [3]) (by kernel_rfl) (by simp) ?_
      refine (AllReadyH.cons (o := { dst := some 98, op := Go.Op.call { callee := Go.Callee.value (Go.Operand.func 36), args := #[Go.Operand.tmp 97], argTypes := #[57] }, type := 62, pos := "exact.go:1513", after := #[{ on := 2, ground := Go.Ground.data }, { on := 1, ground := Go.Ground.chain }], guard := none }) rfl (fun K hK => ?_) AllReadyH.nil)
      · go_simp
        refine (HT2.out _ (Is11.below K0.out hk) (Is11.below K1.out hk)).mono ?_
        rintro e w' ⟨p3, p4, rfl, hpp, hb'⟩
        have R1 := ra_below R1 hb' rfl
        have R2 := ra_below R2 hb' rfl
        have R3 := own_range hpp.1
        have R4 := own_range hpp.2.1
        clear hpp
        have hn := rowk hn hb' rfl
        have hk := hk.trans (hb'.mono hk.size)
        clear hb'
        refine hK.out _ _ ?_ (fun hHeld => ?_)
        · (try dsimp only)
          exact SKP_31 (wr := wr) (d0 := d0) (d1 := d1) H0.out H1.out (by (repeat (first | with_reducible assumption | with_reducible refine Below.drew ?_)))
        clear hK K
        (try simp only [Act.put, List.setIfInBounds_toArray, List.set_cons_zero, List.set_cons_succ])
        generalize w' = V at hk hHeld hn R1 R2 R3 R4 ⊢
        refine wpAnyH_ready (rs := [4]) (by kernel_rfl) (by simp) ?_
        refine (AllReadyH.cons (o := { dst := some 99, op := Go.Op.call { callee := Go.Callee.value (Go.Operand.func 47), args := #[Go.Operand.tmp 96, Go.Operand.tmp 98], argTypes := #[62, 62] }, type := 63, pos := "exact.go:1513", after := #[{ on := 1, ground := Go.Ground.data }, { on := 3, ground := Go.Ground.data }, { on := 3, ground := Go.Ground.chain }], guard := none }) rfl (fun K hK => ?_) AllReadyH.nil)
        · go_simp
          have hG2 : G < V.heap.size := (Array.getElem?_eq_some_iff.1 hn).1
          refine (HC.out _ _ _ _ _ _ _ _ _ (Nat.le_refl _) R1 R2 R3 R4).mono ?_
          rintro e w' ⟨v1, v2, rfl, hp, hb'⟩
          clear R1 R2 R3 R4
          have hlo : wr.heap.size ≤ V.heap.size := hk.size
          have hn := rowk hn hb' rfl
          have hk := hk.trans (hb'.mono hk.size)
          obtain ⟨hi, hhi⟩ : ∃ hi, hi = w'.heap.size := ⟨_, rfl⟩
          rw [← hhi] at hp
          have hhi : hi ≤ w'.heap.size := Nat.le_of_eq hhi
          clear hb'
          refine hK.out _ _ ?_ (fun hHeld => ?_)
          · (try dsimp only)
            exact SKP_31 (wr := wr) (d0 := d0) (d1 := d1) H0.out H1.out (by (repeat (first | with_reducible assumption | with_reducible refine Below.drew ?_)))
          clear hK K
          (try simp only [Act.put, List.setIfInBounds_toArray, List.set_cons_zero, List.set_cons_succ])
          obtain ⟨lo, hl⟩ : ∃ lo, lo = V.heap.size := ⟨_, rfl⟩
          rw [← hl] at hp hlo hG2
          clear hl
          have hor : G < lo ∨ hi ≤ G := .inl hG2
          clear hG2
          generalize w' = V at hk hHeld hn hp hhi ⊢
          refine wpAnyH_take (i := 5) (oi := { dst := some 94, op := Go.Op.move (Go.Operand.tmp 99), type := 63, pos := "exact.go:1513", after := #[{ on := 4, ground := Go.Ground.data }], guard := none }) (v := ?_) rfl (by kernel_rfl) (by kernel_rfl) (by kernel_rfl) (fun _ _ _ h => h) (Or.inl ⟨by rfl, ?_⟩) (by assumption) ?_
          rotate_left
          · intro w hSw; (try dsimp only at hSw); go_simp; (try with_reducible rfl)
          simp only [Act.put, List.setIfInBounds_toArray, List.set_cons_zero, List.set_cons_succ]
          refine wpAnyH_take (i := 6) (oi := { dst := some 100, op := Go.Op.extract (Go.Operand.tmp 94) 0, type := 62, pos := "exact.go:1513", after := #[{ on := 5, ground := Go.Ground.data }], guard := none }) (v := ?_) rfl (by kernel_rfl) (by kernel_rfl) (by kernel_rfl) (fun _ _ _ h => h) (Or.inl ⟨by rfl, ?_⟩) (by assumption) ?_
          rotate_left
          · intro w hSw; (try dsimp only at hSw); go_simp; (try with_reducible rfl)
          simp only [Act.put, List.setIfInBounds_toArray, List.set_cons_zero, List.set_cons_succ]
          refine wpAnyH_take (i := 7) (oi := { dst := some 101, op := Go.Op.extract (Go.Operand.tmp 94) 1, type := 4, pos := "exact.go:1513", after := #[{ on := 5, ground := Go.Ground.data }, { on := 9, ground := Go.Ground.gcOnly Go.Departure.lateStores }], guard := none }) (v := ?_) rfl (by kernel_rfl) (by kernel_rfl) (by kernel_rfl) (fun _ _ _ h => h) (Or.inl ⟨by rfl, ?_⟩) (by assumption) ?_
          rotate_left
          · intro w hSw; (try dsimp only at hSw); go_simp; (try with_reducible rfl)
          simp only [Act.put, List.setIfInBounds_toArray, List.set_cons_zero, List.set_cons_succ]
          refine wpAnyH_ready (rs := [9]) (by kernel_rfl) (by simp) ?_
          refine (AllReadyH.cons (o := { dst := none, op := Go.Op.store 62 (Go.Operand.tmp 15) (Go.Operand.tmp 100), type := 0, pos := "exact.go:1513", after := #[{ on := 8, ground := Go.Ground.data }, { on := 6, ground := Go.Ground.data }, { on := 4, ground := Go.Ground.chain }, { on := 0, ground := Go.Ground.phase }, { on := 1, ground := Go.Ground.phase }, { on := 2, ground := Go.Ground.phase }, { on := 3, ground := Go.Ground.phase }, { on := 4, ground := Go.Ground.phase }, { on := 5, ground := Go.Ground.phase }, { on := 6, ground := Go.Ground.phase }, { on := 7, ground := Go.Ground.textOnly Go.Departure.lateStores }, { on := 8, ground := Go.Ground.phase }], guard := none }) rfl (fun K hK => ?_) AllReadyH.nil)
          · skip
            have wo1 := own_one11 hp.1
            have wo2 := own_one11 hp.2.1
            refine wp_store_mid 62 (.tmp 15) (.tmp 100) rfl G 0 #[.int .i64 r0, .int .i64 r1, .int .i64 r2, .int .i64 r3, .int .i64 r4, .int .i64 r5, v1, v2] rfl rfl (row_there12 (cs := #[.int .i64 0, .int .i64 0, .int .i64 0, .int .i64 0, .int .i64 0, .int .i64 0, .slice none 0 0, .slice none 0 0]) hn) (by kernel_rfl) (one8_11 r0 r1 r2 r3 r4 r5 wo1 wo2) ?_
            have hx := row_sets12 (cs' := #[.int .i64 r0, .int .i64 r1, .int .i64 r2, .int .i64 r3, .int .i64 r4, .int .i64 r5, v1, v2]) hn rfl
            have hk := setCells_bel hG (Array.toList #[.int .i64 r0, .int .i64 r1, .int .i64 r2, .int .i64 r3, .int .i64 r4, .int .i64 r5, v1, v2]) 0 _ _ hk
            have hp := hp.st V (V.setCells G 0 (Array.toList #[.int .i64 r0, .int .i64 r1, .int .i64 r2, .int .i64 r3, .int .i64 r4, .int .i64 r5, v1, v2])) (fun k h1 h2 => setCells_heap (show k ≠ G by omega) _ _ _)
            have hhi : hi ≤ (V.setCells G 0 (Array.toList #[.int .i64 r0, .int .i64 r1, .int .i64 r2, .int .i64 r3, .int .i64 r4, .int .i64 r5, v1, v2])).heap.size := by rw [setCells_size11]; exact hhi
            clear hn
            refine hK.out _ _ ?_ (fun hHeld => ?_)
            · (try dsimp only)
              exact SKP_31 (wr := wr) (d0 := d0) (d1 := d1) H0.out H1.out (by (repeat (first | with_reducible assumption | with_reducible refine Below.drew ?_)))
            clear hK K
            (try simp only [Act.put, List.setIfInBounds_toArray, List.set_cons_zero, List.set_cons_succ])
            generalize (World.setCells _ _ _ _ : World) = X at hk hx hHeld hp hhi ⊢
            refine wpAnyH_take (i := 10) (oi := { dst := some 16, op := Go.Op.assign (Go.Operand.tmp 101), type := 4, pos := "exact.go:1513", after := #[{ on := 7, ground := Go.Ground.data }, { on := 9, ground := Go.Ground.chain }, { on := 0, ground := Go.Ground.phase }, { on := 1, ground := Go.Ground.phase }, { on := 2, ground := Go.Ground.phase }, { on := 3, ground := Go.Ground.phase }, { on := 4, ground := Go.Ground.phase }, { on := 5, ground := Go.Ground.phase }, { on := 6, ground := Go.Ground.phase }, { on := 7, ground := Go.Ground.phase }, { on := 8, ground := Go.Ground.phase }, { on := 9, ground := Go.Ground.phase }], guard := none }) (v := ?_) rfl (by kernel_rfl) (by kernel_rfl) (by kernel_rfl) (fun _ _ _ h => h) (Or.inl ⟨by rfl, ?_⟩) (by assumption) ?_
            rotate_left
            · intro w hSw; (try dsimp only at hSw); go_simp; (try with_reducible rfl)
            simp only [Act.put, List.setIfInBounds_toArray, List.set_cons_zero, List.set_cons_succ]
            refine wpAnyH_done (by kernel_rfl) ?_ _
            refine NoPanic.normal (HQ.out lo hi G v1 v2 X _ _ _ _ _ _ _ _ hk hx hp ⟨hG, (Array.getElem?_eq_some_iff.1 hx).1, hlo, hhi, hor⟩)
end Go.Proofs.Ytnkjamdpafpcpaa
