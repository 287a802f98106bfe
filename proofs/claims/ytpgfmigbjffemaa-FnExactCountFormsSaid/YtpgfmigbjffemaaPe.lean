/- THE PAIRS: ToggleAt, InkAt, WipeAt. -/
import Derived.Test.YtpgfmigbjffemaaPh
import Derived.Test.YtpgfmigbjffemaaPr
import Derived.Test.YtpgfmigbjffemaaPs
import Derived.WalkKit
import Derived.ProofKit
import Derived.OpenShut
import Derived.Lib.Hide
import Derived.WalkSpells
import Derived.Below
import Derived.BigQuiet
import Derived.LoopN
namespace Go.Proofs.Ytpgfmigbjffemaa
open Go.ChangeShapes Go.WideShapes Go.ChangeAt Go.RowKit
set_option linter.unusedVariables false
theorem rot_bd {r x : Int} (hr : 0 ≤ r ∧ r ≤ 63) (hx : 0 ≤ x ∧ x ≤ 5) : 0 ≤ rot r x ∧ rot r x ≤ 63 := by
  rw [rot_eq hr hx, and63]; omega
theorem shift_bd (a0 a1 a2 a3 a4 a5 : Int) (dx dy : Int) (hx : (Lit.int .i64 dx).wf = true) (hy : (Lit.int .i64 dy).wf = true) (hv : (ok a0 && ok a1 && ok a2 && ok a3 && ok a4 && ok a5) = true) : ∃ (r0 r1 r2 r3 r4 r5 : Int), ((0 ≤ r0 ∧ r0 ≤ 63) ∧ (0 ≤ r1 ∧ r1 ≤ 63) ∧ (0 ≤ r2 ∧ r2 ≤ 63) ∧ (0 ≤ r3 ∧ r3 ≤ 63) ∧ (0 ≤ r4 ∧ r4 ≤ 63) ∧ (0 ≤ r5 ∧ r5 ≤ 63)) ∧
    (∀ w, Calls Try.prog 131 #[.agg #[.int .i64 a0, .int .i64 a1, .int .i64 a2, .int .i64 a3, .int .i64 a4, .int .i64 a5], .int .i64 dx, .int .i64 dy] w fun e w' => e = .returned (.agg #[.int .i64 r0, .int .i64 r1, .int .i64 r2, .int .i64 r3, .int .i64 r4, .int .i64 r5]) ∧ Below w.heap.size w w') ∧
    (∀ w, Calls Try.prog 130 #[.agg #[.int .i64 a0, .int .i64 a1, .int .i64 a2, .int .i64 a3, .int .i64 a4, .int .i64 a5], .int .i64 dx, .int .i64 dy] w fun e w' => e = .returned (.agg #[.int .i64 r0, .int .i64 r1, .int .i64 r2, .int .i64 r3, .int .i64 r4, .int .i64 r5]) ∧ Below w.heap.size w w') := by
  obtain ⟨h0, h1, h2, h3, h4, h5⟩ := ok_all a0 a1 a2 a3 a4 a5 hv
  obtain ⟨x, ex⟩ : ∃ x, x = dx % 6 := ⟨_, rfl⟩
  obtain ⟨y, ey⟩ : ∃ y, y = dy % 6 := ⟨_, rfl⟩
  have hx' : 0 ≤ x ∧ x ≤ 5 := by omega
  have hy' : 0 ≤ y ∧ y ≤ 5 := by omega
  have HX : ∀ w, Calls Try.prog 155 #[.int .i64 dx] w fun e w' => e = .returned (.int .i64 x) ∧ w' = w := by rw [ex]; exact l2mod_any dx hx
  have HY : ∀ w, Calls Try.prog 155 #[.int .i64 dy] w fun e w' => e = .returned (.int .i64 y) ∧ w' = w := by rw [ey]; exact l2mod_any dy hy
  have HA : ∀ w, Calls Try.prog 170 #[.int .i64 dx, .int .i64 dy] w fun e w' => e = .returned (.agg #[.int .i64 x, .int .i64 y]) ∧ w' = w.alloc (.cells #[.int .i64 x, .int .i64 y] 44) := by rw [ex, ey]; exact around_c dx dy hx hy
  have e0 := rot_eq h0 hx'; have e1 := rot_eq h1 hx'; have e2 := rot_eq h2 hx'; have e3 := rot_eq h3 hx'; have e4 := rot_eq h4 hx'; have e5 := rot_eq h5 hx'
  have d0 := rot_bd h0 hx'; have d1 := rot_bd h1 hx'; have d2 := rot_bd h2 hx'; have d3 := rot_bd h3 hx'; have d4 := rot_bd h4 hx'; have d5 := rot_bd h5 hx'
  clear ex ey
  rcases six hy' with rfl | rfl | rfl | rfl | rfl | rfl
  · refine ⟨_, _, _, _, _, _, ⟨d0, d1, d2, d3, d4, d5⟩, fun w => l2shift_0 a0 a1 a2 a3 a4 a5 dx dy x hx' (Lib.hid HX) (Lib.hid HY) w, fun w => ?_⟩
    have h := shifted_0 a0 a1 a2 a3 a4 a5 dx dy x hx' (Lib.hid HA) w
    rw [← e0, ← e1, ← e2, ← e3, ← e4, ← e5] at h
    exact h
  · refine ⟨_, _, _, _, _, _, ⟨d5, d0, d1, d2, d3, d4⟩, fun w => l2shift_1 a0 a1 a2 a3 a4 a5 dx dy x hx' (Lib.hid HX) (Lib.hid HY) w, fun w => ?_⟩
    have h := shifted_1 a0 a1 a2 a3 a4 a5 dx dy x hx' (Lib.hid HA) w
    rw [← e0, ← e1, ← e2, ← e3, ← e4, ← e5] at h
    exact h
  · refine ⟨_, _, _, _, _, _, ⟨d4, d5, d0, d1, d2, d3⟩, fun w => l2shift_2 a0 a1 a2 a3 a4 a5 dx dy x hx' (Lib.hid HX) (Lib.hid HY) w, fun w => ?_⟩
    have h := shifted_2 a0 a1 a2 a3 a4 a5 dx dy x hx' (Lib.hid HA) w
    rw [← e0, ← e1, ← e2, ← e3, ← e4, ← e5] at h
    exact h
  · refine ⟨_, _, _, _, _, _, ⟨d3, d4, d5, d0, d1, d2⟩, fun w => l2shift_3 a0 a1 a2 a3 a4 a5 dx dy x hx' (Lib.hid HX) (Lib.hid HY) w, fun w => ?_⟩
    have h := shifted_3 a0 a1 a2 a3 a4 a5 dx dy x hx' (Lib.hid HA) w
    rw [← e0, ← e1, ← e2, ← e3, ← e4, ← e5] at h
    exact h
  · refine ⟨_, _, _, _, _, _, ⟨d2, d3, d4, d5, d0, d1⟩, fun w => l2shift_4 a0 a1 a2 a3 a4 a5 dx dy x hx' (Lib.hid HX) (Lib.hid HY) w, fun w => ?_⟩
    have h := shifted_4 a0 a1 a2 a3 a4 a5 dx dy x hx' (Lib.hid HA) w
    rw [← e0, ← e1, ← e2, ← e3, ← e4, ← e5] at h
    exact h
  · refine ⟨_, _, _, _, _, _, ⟨d1, d2, d3, d4, d5, d0⟩, fun w => l2shift_5 a0 a1 a2 a3 a4 a5 dx dy x hx' (Lib.hid HX) (Lib.hid HY) w, fun w => ?_⟩
    have h := shifted_5 a0 a1 a2 a3 a4 a5 dx dy x hx' (Lib.hid HA) w
    rw [← e0, ← e1, ← e2, ← e3, ← e4, ← e5] at h
    exact h
theorem wipe_fin : ∀ a q : Fin 64, bits .and .i64 ((a.val : Nat) : Int) (wrap64 (63 - ((q.val : Nat) : Int))) = bits .andNot .i64 ((a.val : Nat) : Int) ((q.val : Nat) : Int) := by decide +kernel
theorem wipe_eq {a q : Int} (ha : 0 ≤ a ∧ a ≤ 63) (hq : 0 ≤ q ∧ q ≤ 63) : bits .and .i64 a (wrap64 (63 - q)) = bits .andNot .i64 a q := by
  obtain ⟨m, rfl⟩ := Int.eq_ofNat_of_zero_le ha.1
  obtain ⟨n, rfl⟩ := Int.eq_ofNat_of_zero_le hq.1
  exact wipe_fin ⟨m, by omega⟩ ⟨n, by omega⟩
theorem toggle_pair (a0 a1 a2 a3 a4 a5 : Int) (b0 b1 b2 b3 b4 b5 : Int) (x y : Int) (hx : (Lit.int .i64 x).wf = true) (hy : (Lit.int .i64 y).wf = true) : ∃ (r0 r1 r2 r3 r4 r5 : Int) (t : Bool), (∀ w, Calls Try.prog 41 #[.agg #[.int .i64 a0, .int .i64 a1, .int .i64 a2, .int .i64 a3, .int .i64 a4, .int .i64 a5], .agg #[.int .i64 b0, .int .i64 b1, .int .i64 b2, .int .i64 b3, .int .i64 b4, .int .i64 b5], .agg #[.int .i64 x, .int .i64 y]] w fun e w' => e = .returned (.tuple #[.agg #[.int .i64 r0, .int .i64 r1, .int .i64 r2, .int .i64 r3, .int .i64 r4, .int .i64 r5], .bool t]) ∧ Below w.heap.size w w') ∧ (∀ w, Calls Try.prog 40 #[.agg #[.int .i64 a0, .int .i64 a1, .int .i64 a2, .int .i64 a3, .int .i64 a4, .int .i64 a5], .agg #[.int .i64 b0, .int .i64 b1, .int .i64 b2, .int .i64 b3, .int .i64 b4, .int .i64 b5], .agg #[.int .i64 x, .int .i64 y]] w fun e w' => e = .returned (.tuple #[.agg #[.int .i64 r0, .int .i64 r1, .int .i64 r2, .int .i64 r3, .int .i64 r4, .int .i64 r5], .bool t]) ∧ Below w.heap.size w w') := by
  cases hv : (ok a0 && ok a1 && ok a2 && ok a3 && ok a4 && ok a5)
  · exact ⟨0, 0, 0, 0, 0, 0, false, fun w => stoggle_no0 a0 a1 a2 a3 a4 a5 b0 b1 b2 b3 b4 b5 x y (Lib.hid (l2press_0 a0 a1 a2 a3 a4 a5 b0 b1 b2 b3 b4 b5 x y (sh_as a0 a1 a2 a3 a4 a5 hv))) w, fun w => itoggle_any a0 a1 a2 a3 a4 a5 b0 b1 b2 b3 b4 b5 x y 0 0 0 0 0 0 false (Lib.hid (ipress0_no0 a0 a1 a2 a3 a4 a5 b0 b1 b2 b3 b4 b5 x y (sh_ai a0 a1 a2 a3 a4 a5 hv))) w⟩
  · cases hb : (ok b0 && ok b1 && ok b2 && ok b3 && ok b4 && ok b5)
    · exact ⟨0, 0, 0, 0, 0, 0, false, fun w => stoggle_no0 a0 a1 a2 a3 a4 a5 b0 b1 b2 b3 b4 b5 x y (Lib.hid (l2press_1 a0 a1 a2 a3 a4 a5 b0 b1 b2 b3 b4 b5 x y (sh_as a0 a1 a2 a3 a4 a5 hv) (sh_as b0 b1 b2 b3 b4 b5 hb))) w, fun w => itoggle_any a0 a1 a2 a3 a4 a5 b0 b1 b2 b3 b4 b5 x y 0 0 0 0 0 0 false (Lib.hid (ipress0_no1 a0 a1 a2 a3 a4 a5 b0 b1 b2 b3 b4 b5 x y (sh_ai a0 a1 a2 a3 a4 a5 hv) (sh_ai b0 b1 b2 b3 b4 b5 hb))) w⟩
    · cases hc : okc x y
      · exact ⟨0, 0, 0, 0, 0, 0, false, fun w => stoggle_no0 a0 a1 a2 a3 a4 a5 b0 b1 b2 b3 b4 b5 x y (Lib.hid (l2press_2 a0 a1 a2 a3 a4 a5 b0 b1 b2 b3 b4 b5 x y (sh_as a0 a1 a2 a3 a4 a5 hv) (sh_as b0 b1 b2 b3 b4 b5 hb) (ce_s x y hc))) w, fun w => itoggle_any a0 a1 a2 a3 a4 a5 b0 b1 b2 b3 b4 b5 x y 0 0 0 0 0 0 false (Lib.hid (ipress0_no2 a0 a1 a2 a3 a4 a5 b0 b1 b2 b3 b4 b5 x y (sh_ai a0 a1 a2 a3 a4 a5 hv) (sh_ai b0 b1 b2 b3 b4 b5 hb) (ce_i x y hx hy hc))) w⟩
      · obtain ⟨q0, q1, q2, q3, q4, q5, ⟨d0, d1, d2, d3, d4, d5⟩, s1, s2⟩ := shift_bd b0 b1 b2 b3 b4 b5 x y hx hy hb
        obtain ⟨h0, h1, h2, h3, h4, h5⟩ := ok_all a0 a1 a2 a3 a4 a5 hv
        have HL := Lib.hid (l2at_any b0 b1 b2 b3 b4 b5 x y q0 q1 q2 q3 q4 q5 (Lib.hid s1))
        have HP := Lib.hid (l2press_3 a0 a1 a2 a3 a4 a5 b0 b1 b2 b3 b4 b5 x y (sh_as a0 a1 a2 a3 a4 a5 hv) (sh_as b0 b1 b2 b3 b4 b5 hb) (ce_s x y hc))
        exact ⟨_, _, _, _, _, _, true, fun w => stoggle_yes a0 a1 a2 a3 a4 a5 b0 b1 b2 b3 b4 b5 x y q0 q1 q2 q3 q4 q5 _ _ _ _ _ _ HP HL (Lib.hid (l2xor_any a0 a1 a2 a3 a4 a5 q0 q1 q2 q3 q4 q5)) w, fun w => itoggle_any a0 a1 a2 a3 a4 a5 b0 b1 b2 b3 b4 b5 x y _ _ _ _ _ _ true (Lib.hid (ipress0_yes a0 a1 a2 a3 a4 a5 b0 b1 b2 b3 b4 b5 x y q0 q1 q2 q3 q4 q5 _ _ _ _ _ _ (sh_ai a0 a1 a2 a3 a4 a5 hv) (sh_ai b0 b1 b2 b3 b4 b5 hb) (ce_i x y hx hy hc) (Lib.hid s2) (Lib.hid (xor_any a0 a1 a2 a3 a4 a5 q0 q1 q2 q3 q4 q5)))) w⟩
theorem ink_pair (a0 a1 a2 a3 a4 a5 : Int) (b0 b1 b2 b3 b4 b5 : Int) (x y : Int) (hx : (Lit.int .i64 x).wf = true) (hy : (Lit.int .i64 y).wf = true) : ∃ (r0 r1 r2 r3 r4 r5 : Int) (t : Bool), (∀ w, Calls Try.prog 43 #[.agg #[.int .i64 a0, .int .i64 a1, .int .i64 a2, .int .i64 a3, .int .i64 a4, .int .i64 a5], .agg #[.int .i64 b0, .int .i64 b1, .int .i64 b2, .int .i64 b3, .int .i64 b4, .int .i64 b5], .agg #[.int .i64 x, .int .i64 y]] w fun e w' => e = .returned (.tuple #[.agg #[.int .i64 r0, .int .i64 r1, .int .i64 r2, .int .i64 r3, .int .i64 r4, .int .i64 r5], .bool t]) ∧ Below w.heap.size w w') ∧ (∀ w, Calls Try.prog 42 #[.agg #[.int .i64 a0, .int .i64 a1, .int .i64 a2, .int .i64 a3, .int .i64 a4, .int .i64 a5], .agg #[.int .i64 b0, .int .i64 b1, .int .i64 b2, .int .i64 b3, .int .i64 b4, .int .i64 b5], .agg #[.int .i64 x, .int .i64 y]] w fun e w' => e = .returned (.tuple #[.agg #[.int .i64 r0, .int .i64 r1, .int .i64 r2, .int .i64 r3, .int .i64 r4, .int .i64 r5], .bool t]) ∧ Below w.heap.size w w') := by
  cases hv : (ok a0 && ok a1 && ok a2 && ok a3 && ok a4 && ok a5)
  · exact ⟨0, 0, 0, 0, 0, 0, false, fun w => sink_no0 a0 a1 a2 a3 a4 a5 b0 b1 b2 b3 b4 b5 x y (Lib.hid (l2press_0 a0 a1 a2 a3 a4 a5 b0 b1 b2 b3 b4 b5 x y (sh_as a0 a1 a2 a3 a4 a5 hv))) w, fun w => iink_any a0 a1 a2 a3 a4 a5 b0 b1 b2 b3 b4 b5 x y 0 0 0 0 0 0 false (Lib.hid (ipress1_no0 a0 a1 a2 a3 a4 a5 b0 b1 b2 b3 b4 b5 x y (sh_ai a0 a1 a2 a3 a4 a5 hv))) w⟩
  · cases hb : (ok b0 && ok b1 && ok b2 && ok b3 && ok b4 && ok b5)
    · exact ⟨0, 0, 0, 0, 0, 0, false, fun w => sink_no0 a0 a1 a2 a3 a4 a5 b0 b1 b2 b3 b4 b5 x y (Lib.hid (l2press_1 a0 a1 a2 a3 a4 a5 b0 b1 b2 b3 b4 b5 x y (sh_as a0 a1 a2 a3 a4 a5 hv) (sh_as b0 b1 b2 b3 b4 b5 hb))) w, fun w => iink_any a0 a1 a2 a3 a4 a5 b0 b1 b2 b3 b4 b5 x y 0 0 0 0 0 0 false (Lib.hid (ipress1_no1 a0 a1 a2 a3 a4 a5 b0 b1 b2 b3 b4 b5 x y (sh_ai a0 a1 a2 a3 a4 a5 hv) (sh_ai b0 b1 b2 b3 b4 b5 hb))) w⟩
    · cases hc : okc x y
      · exact ⟨0, 0, 0, 0, 0, 0, false, fun w => sink_no0 a0 a1 a2 a3 a4 a5 b0 b1 b2 b3 b4 b5 x y (Lib.hid (l2press_2 a0 a1 a2 a3 a4 a5 b0 b1 b2 b3 b4 b5 x y (sh_as a0 a1 a2 a3 a4 a5 hv) (sh_as b0 b1 b2 b3 b4 b5 hb) (ce_s x y hc))) w, fun w => iink_any a0 a1 a2 a3 a4 a5 b0 b1 b2 b3 b4 b5 x y 0 0 0 0 0 0 false (Lib.hid (ipress1_no2 a0 a1 a2 a3 a4 a5 b0 b1 b2 b3 b4 b5 x y (sh_ai a0 a1 a2 a3 a4 a5 hv) (sh_ai b0 b1 b2 b3 b4 b5 hb) (ce_i x y hx hy hc))) w⟩
      · obtain ⟨q0, q1, q2, q3, q4, q5, ⟨d0, d1, d2, d3, d4, d5⟩, s1, s2⟩ := shift_bd b0 b1 b2 b3 b4 b5 x y hx hy hb
        obtain ⟨h0, h1, h2, h3, h4, h5⟩ := ok_all a0 a1 a2 a3 a4 a5 hv
        have HL := Lib.hid (l2at_any b0 b1 b2 b3 b4 b5 x y q0 q1 q2 q3 q4 q5 (Lib.hid s1))
        have HP := Lib.hid (l2press_3 a0 a1 a2 a3 a4 a5 b0 b1 b2 b3 b4 b5 x y (sh_as a0 a1 a2 a3 a4 a5 hv) (sh_as b0 b1 b2 b3 b4 b5 hb) (ce_s x y hc))
        exact ⟨_, _, _, _, _, _, true, fun w => sink_yes a0 a1 a2 a3 a4 a5 b0 b1 b2 b3 b4 b5 x y q0 q1 q2 q3 q4 q5 _ _ _ _ _ _ HP HL (Lib.hid (l2or_any a0 a1 a2 a3 a4 a5 q0 q1 q2 q3 q4 q5)) w, fun w => iink_any a0 a1 a2 a3 a4 a5 b0 b1 b2 b3 b4 b5 x y _ _ _ _ _ _ true (Lib.hid (ipress1_yes a0 a1 a2 a3 a4 a5 b0 b1 b2 b3 b4 b5 x y q0 q1 q2 q3 q4 q5 _ _ _ _ _ _ (sh_ai a0 a1 a2 a3 a4 a5 hv) (sh_ai b0 b1 b2 b3 b4 b5 hb) (ce_i x y hx hy hc) (Lib.hid s2) (Lib.hid (or_any a0 a1 a2 a3 a4 a5 q0 q1 q2 q3 q4 q5)))) w⟩
theorem wipe_pair (a0 a1 a2 a3 a4 a5 : Int) (b0 b1 b2 b3 b4 b5 : Int) (x y : Int) (hx : (Lit.int .i64 x).wf = true) (hy : (Lit.int .i64 y).wf = true) : ∃ (r0 r1 r2 r3 r4 r5 : Int) (t : Bool), (∀ w, Calls Try.prog 45 #[.agg #[.int .i64 a0, .int .i64 a1, .int .i64 a2, .int .i64 a3, .int .i64 a4, .int .i64 a5], .agg #[.int .i64 b0, .int .i64 b1, .int .i64 b2, .int .i64 b3, .int .i64 b4, .int .i64 b5], .agg #[.int .i64 x, .int .i64 y]] w fun e w' => e = .returned (.tuple #[.agg #[.int .i64 r0, .int .i64 r1, .int .i64 r2, .int .i64 r3, .int .i64 r4, .int .i64 r5], .bool t]) ∧ Below w.heap.size w w') ∧ (∀ w, Calls Try.prog 44 #[.agg #[.int .i64 a0, .int .i64 a1, .int .i64 a2, .int .i64 a3, .int .i64 a4, .int .i64 a5], .agg #[.int .i64 b0, .int .i64 b1, .int .i64 b2, .int .i64 b3, .int .i64 b4, .int .i64 b5], .agg #[.int .i64 x, .int .i64 y]] w fun e w' => e = .returned (.tuple #[.agg #[.int .i64 r0, .int .i64 r1, .int .i64 r2, .int .i64 r3, .int .i64 r4, .int .i64 r5], .bool t]) ∧ Below w.heap.size w w') := by
  cases hv : (ok a0 && ok a1 && ok a2 && ok a3 && ok a4 && ok a5)
  · exact ⟨0, 0, 0, 0, 0, 0, false, fun w => swipe_no0 a0 a1 a2 a3 a4 a5 b0 b1 b2 b3 b4 b5 x y (Lib.hid (l2press_0 a0 a1 a2 a3 a4 a5 b0 b1 b2 b3 b4 b5 x y (sh_as a0 a1 a2 a3 a4 a5 hv))) w, fun w => iwipe_any a0 a1 a2 a3 a4 a5 b0 b1 b2 b3 b4 b5 x y 0 0 0 0 0 0 false (Lib.hid (ipress2_no0 a0 a1 a2 a3 a4 a5 b0 b1 b2 b3 b4 b5 x y (sh_ai a0 a1 a2 a3 a4 a5 hv))) w⟩
  · cases hb : (ok b0 && ok b1 && ok b2 && ok b3 && ok b4 && ok b5)
    · exact ⟨0, 0, 0, 0, 0, 0, false, fun w => swipe_no0 a0 a1 a2 a3 a4 a5 b0 b1 b2 b3 b4 b5 x y (Lib.hid (l2press_1 a0 a1 a2 a3 a4 a5 b0 b1 b2 b3 b4 b5 x y (sh_as a0 a1 a2 a3 a4 a5 hv) (sh_as b0 b1 b2 b3 b4 b5 hb))) w, fun w => iwipe_any a0 a1 a2 a3 a4 a5 b0 b1 b2 b3 b4 b5 x y 0 0 0 0 0 0 false (Lib.hid (ipress2_no1 a0 a1 a2 a3 a4 a5 b0 b1 b2 b3 b4 b5 x y (sh_ai a0 a1 a2 a3 a4 a5 hv) (sh_ai b0 b1 b2 b3 b4 b5 hb))) w⟩
    · cases hc : okc x y
      · exact ⟨0, 0, 0, 0, 0, 0, false, fun w => swipe_no0 a0 a1 a2 a3 a4 a5 b0 b1 b2 b3 b4 b5 x y (Lib.hid (l2press_2 a0 a1 a2 a3 a4 a5 b0 b1 b2 b3 b4 b5 x y (sh_as a0 a1 a2 a3 a4 a5 hv) (sh_as b0 b1 b2 b3 b4 b5 hb) (ce_s x y hc))) w, fun w => iwipe_any a0 a1 a2 a3 a4 a5 b0 b1 b2 b3 b4 b5 x y 0 0 0 0 0 0 false (Lib.hid (ipress2_no2 a0 a1 a2 a3 a4 a5 b0 b1 b2 b3 b4 b5 x y (sh_ai a0 a1 a2 a3 a4 a5 hv) (sh_ai b0 b1 b2 b3 b4 b5 hb) (ce_i x y hx hy hc))) w⟩
      · obtain ⟨q0, q1, q2, q3, q4, q5, ⟨d0, d1, d2, d3, d4, d5⟩, s1, s2⟩ := shift_bd b0 b1 b2 b3 b4 b5 x y hx hy hb
        obtain ⟨h0, h1, h2, h3, h4, h5⟩ := ok_all a0 a1 a2 a3 a4 a5 hv
        have HL := Lib.hid (l2at_any b0 b1 b2 b3 b4 b5 x y q0 q1 q2 q3 q4 q5 (Lib.hid s1))
        have HP := Lib.hid (l2press_3 a0 a1 a2 a3 a4 a5 b0 b1 b2 b3 b4 b5 x y (sh_as a0 a1 a2 a3 a4 a5 hv) (sh_as b0 b1 b2 b3 b4 b5 hb) (ce_s x y hc))
        have hg := Lib.hid (l2and_any a0 a1 a2 a3 a4 a5 (wrap64 (63 - q0)) (wrap64 (63 - q1)) (wrap64 (63 - q2)) (wrap64 (63 - q3)) (wrap64 (63 - q4)) (wrap64 (63 - q5)))
        rw [wipe_eq h0 d0, wipe_eq h1 d1, wipe_eq h2 d2, wipe_eq h3 d3, wipe_eq h4 d4, wipe_eq h5 d5] at hg
        exact ⟨_, _, _, _, _, _, true, fun w => swipe_yes a0 a1 a2 a3 a4 a5 b0 b1 b2 b3 b4 b5 x y q0 q1 q2 q3 q4 q5 _ _ _ _ _ _ _ _ _ _ _ _ HP HL (Lib.hid (l2not_any q0 q1 q2 q3 q4 q5)) hg w, fun w => iwipe_any a0 a1 a2 a3 a4 a5 b0 b1 b2 b3 b4 b5 x y _ _ _ _ _ _ true (Lib.hid (ipress2_yes a0 a1 a2 a3 a4 a5 b0 b1 b2 b3 b4 b5 x y q0 q1 q2 q3 q4 q5 _ _ _ _ _ _ (sh_ai a0 a1 a2 a3 a4 a5 hv) (sh_ai b0 b1 b2 b3 b4 b5 hb) (ce_i x y hx hy hc) (Lib.hid s2) (Lib.hid (without_any a0 a1 a2 a3 a4 a5 q0 q1 q2 q3 q4 q5)))) w⟩
end Go.Proofs.Ytpgfmigbjffemaa
