/- CONTRACTS: KeptBy and CountForms, the model's and the code's; the walks of their laws. -/
import Derived.Test.YtpgfmigbjffemaaKe
import Derived.Test.YtpgfmigbjffemaaCp
import Derived.Test.YtpgfmigbjffemaaSc
import Derived.WalkKit
import Derived.ProofKit
import Derived.OpenShut
import Derived.Lib.Hide
import Derived.WalkSpells
import Derived.Below
import Derived.BigQuiet
import Derived.LoopN
namespace Go.Proofs.Ytpgfmigbjffemaa
open Go.ChangeShapes Go.WideShapes Go.ChangeAt Go.RowKit
set_option linter.unusedVariables false
theorem ikept_no (a0 a1 a2 a3 a4 a5 : Int) (hv : (ok a0 && ok a1 && ok a2 && ok a3 && ok a4 && ok a5) = false) (w : World) : Calls Try.prog 83 #[.agg #[.int .i64 a0, .int .i64 a1, .int .i64 a2, .int .i64 a3, .int .i64 a4, .int .i64 a5]] w (KpPost [] false w) := by
  have HV := sh_ai a0 a1 a2 a3 a4 a5 hv
  go_enter Try.func83, Try.ntmps83
  go_wp2_with fail
  have HO := Lib.hid (World.ownsRow_lit (base := w.heap.size) (e := 67) (size := 3) (w.alloc (.cells #[.int .i64 a0, .int .i64 a1, .int .i64 a2, .int .i64 a3, .int .i64 a4, .int .i64 a5] 28)) #[] 0 (by simp) (by unfold maxLen; omega) rfl)
  have HB := Lib.hid (show Below w.heap.size w ((w.alloc (.cells #[.int .i64 a0, .int .i64 a1, .int .i64 a2, .int .i64 a3, .int .i64 a4, .int .i64 a5] 28)).alloc (.cells #[] 67)) by (repeat (first | exact Below.refl _ _ | assumption | refine Below.setCell ?_ (by first | (simp; done) | (simp; omega)) _ | refine Below.alloc ?_ (by first | (simp; done) | (simp; omega)) _ | refine Below.drew ?_)))
  refine (HV.out _).mono ?_
  rintro e W1 ⟨rfl, hb⟩
  have HO1 := Lib.hid (HO.out.kept (grown_below hb rfl) (.inr (by simp [Value.ownBlock])))
  have HB1 := Lib.hid (below_of HB.out hb HB.out.size)
  clear hb HO HB HV
  go_wp2_with fail
  go_ret2
  have h := HO1.out
  rw [show (w.alloc (.cells #[.int .i64 a0, .int .i64 a1, .int .i64 a2, .int .i64 a3, .int .i64 a4, .int .i64 a5] 28)).heap.size = w.heap.size + 1 by simp] at h
  exact ⟨w.heap.size + 1, 0, rfl, h, HB1.out⟩
theorem skept_f (f : Nat → Nat → Bool) (w : World) : Calls Try.prog 82 #[.agg #[.int .i64 (rowv (f 0)), .int .i64 (rowv (f 1)), .int .i64 (rowv (f 2)), .int .i64 (rowv (f 3)), .int .i64 (rowv (f 4)), .int .i64 (rowv (f 5))]] w (KpPost (ks f (L1 6 8)) true w) := by
  have HV := sh_as _ _ _ _ _ _ (show (ok (rowv (f 0)) && ok (rowv (f 1)) && ok (rowv (f 2)) && ok (rowv (f 3)) && ok (rowv (f 4)) && ok (rowv (f 5))) = true by simp only [rowv_ok, Bool.and_self])
  go_enter Try.func82, Try.ntmps82
  go_wp2_with fail
  have q0 : (w.alloc (.cells #[.int .i64 (rowv (f 0)), .int .i64 (rowv (f 1)), .int .i64 (rowv (f 2)), .int .i64 (rowv (f 3)), .int .i64 (rowv (f 4)), .int .i64 (rowv (f 5))] 28)).heap[w.heap.size]? = some (.cells #[.int .i64 (rowv (f 0)), .int .i64 (rowv (f 1)), .int .i64 (rowv (f 2)), .int .i64 (rowv (f 3)), .int .i64 (rowv (f 4)), .int .i64 (rowv (f 5))] 28 (0, 0)) := alloc_at rfl
  have HB := Lib.hid (show Below w.heap.size w (w.alloc (.cells #[.int .i64 (rowv (f 0)), .int .i64 (rowv (f 1)), .int .i64 (rowv (f 2)), .int .i64 (rowv (f 3)), .int .i64 (rowv (f 4)), .int .i64 (rowv (f 5))] 28)) by (repeat (first | exact Below.refl _ _ | assumption | refine Below.setCell ?_ (by first | (simp; done) | (simp; omega)) _ | refine Below.alloc ?_ (by first | (simp; done) | (simp; omega)) _ | refine Below.drew ?_)))
  refine (HV.out _).mono ?_
  rintro e W1 ⟨rfl, hb⟩
  have q1 := rowk q0 hb rfl
  have HB1 := Lib.hid (below_of HB.out hb HB.out.size)
  clear hb HB HV q0
  have a_c := fun k => cell_of_row W1 _ k _ _ _ q1
  go_wp2_with fail
  refine (lkept_f f W1).mono ?_
  rintro e W2 ⟨g, cap, rfl, ho, hb⟩
  have HO := Lib.hid (own_mono ho HB1.out.size)
  have HB2 := Lib.hid (below_of HB1.out hb HB1.out.size)
  clear hb HB1 ho a_c q1
  go_wp2_with fail
  go_ret2
  exact ⟨g, cap, rfl, HO.out, HB2.out⟩
theorem skept_no (a0 a1 a2 a3 a4 a5 : Int) (hv : (ok a0 && ok a1 && ok a2 && ok a3 && ok a4 && ok a5) = false) (w : World) : Calls Try.prog 82 #[.agg #[.int .i64 a0, .int .i64 a1, .int .i64 a2, .int .i64 a3, .int .i64 a4, .int .i64 a5]] w (KpPost [] false w) := by
  have HV := sh_as a0 a1 a2 a3 a4 a5 hv
  go_enter Try.func82, Try.ntmps82
  go_wp2_with fail
  have HB := Lib.hid (show Below w.heap.size w (w.alloc (.cells #[.int .i64 a0, .int .i64 a1, .int .i64 a2, .int .i64 a3, .int .i64 a4, .int .i64 a5] 28)) by (repeat (first | exact Below.refl _ _ | assumption | refine Below.setCell ?_ (by first | (simp; done) | (simp; omega)) _ | refine Below.alloc ?_ (by first | (simp; done) | (simp; omega)) _ | refine Below.drew ?_)))
  refine (HV.out _).mono ?_
  rintro e W1 ⟨rfl, hb⟩
  have HB1 := Lib.hid (below_of HB.out hb HB.out.size)
  clear hb HB HV
  go_wp2_with fail
  go_ret2
  have h := World.ownsRow_lit (base := w.heap.size) (e := 67) (size := 3) W1 #[] 0 HB1.out.size (by unfold maxLen; omega) rfl
  exact ⟨W1.heap.size, 0, rfl, h, HB1.out.alloc HB1.out.size _⟩
/-- A row of motions that the call owns, in block g. -/
def Om (g c : Nat) (n : Nat) (xs : List Value) (W : World) : Prop := W.ownsRow 0 67 3 (.slice (some ⟨g, 0, none⟩) n c) n xs
theorem Om.below {g c n : Nat} {xs : List Value} {W W' : World} {N : Nat} (h : Om g c n xs W) (hb : Below N W W') (hN : N = W.heap.size) : Om g c n xs W' := h.kept (grown_below hb hN) (.inr (by simp [Value.ownBlock]))
theorem Om.grown {g c n g2 : Nat} {xs : List Value} {W W' : World} (h : Om g c n xs W) (hg : W.grownBy W' (some g2)) (hne : g ≠ g2) : Om g c n xs W' := h.kept hg (.inr (by simp [Value.ownBlock, hne]))
set_option maxHeartbeats 4000000 in
theorem kept_core (a0 a1 a2 a3 a4 a5 : Int) (l : List (Nat × Nat × Nat)) (hl : l.length ≤ 600) (t : Bool) (HS : Hid (∀ w, Calls Try.prog 82 #[.agg #[.int .i64 a0, .int .i64 a1, .int .i64 a2, .int .i64 a3, .int .i64 a4, .int .i64 a5]] w (KpPost l t w))) (HI : Hid (∀ w, Calls Try.prog 83 #[.agg #[.int .i64 a0, .int .i64 a1, .int .i64 a2, .int .i64 a3, .int .i64 a4, .int .i64 a5]] w (KpPost l t w))) (w : World) : Calls Try.prog 19 #[.agg #[.int .i64 a0, .int .i64 a1, .int .i64 a2, .int .i64 a3, .int .i64 a4, .int .i64 a5]] w fun e w' => e = .returned (.bool true) ∧ Below w.heap.size w w' := by
  have HT := Lib.hid (to_sheet a0 a1 a2 a3 a4 a5)
  have hcv := tv_len l
  obtain ⟨M, hM⟩ : ∃ M : Int, M = (l.length : Int) * 3 + 1 := ⟨_, rfl⟩
  have hM1 : 0 ≤ M := by omega
  have HM := Lib.hid hM
  have HC := Lib.hid hcv
  have HL := Lib.hid hl
  clear hM hcv hl
  go_enter Try.func19, Try.ntmps19
  go_wp2_with fail
  have D0 : Hid (Md w (.cells #[.int .i64 a0, .int .i64 a1, .int .i64 a2, .int .i64 a3, .int .i64 a4, .int .i64 a5] 24 (0, 0)) (w.alloc (.cells #[.int .i64 a0, .int .i64 a1, .int .i64 a2, .int .i64 a3, .int .i64 a4, .int .i64 a5] 24))) := Lib.hid ⟨alloc_at rfl, by (repeat (first | exact Below.refl _ _ | assumption | refine Below.setCell ?_ (by first | (simp; done) | (simp; omega)) _ | refine Below.alloc ?_ (by first | (simp; done) | (simp; omega)) _ | refine Below.drew ?_)), by simp⟩
  refine (HT.out _).mono ?_
  rintro e W1 ⟨rfl, hb⟩
  have D1 := Lib.hid (D0.out.below hb rfl)
  clear hb D0
  go_wp2_with fail
  refine (HS.out _).mono ?_
  rintro e W2 ⟨g1, c1, rfl, o, hb⟩
  have D2 := Lib.hid (D1.out.below hb rfl)
  have P2 : Hid (Om g1 c1 l.length (tv l) W2) := Lib.hid (own_mono o (Nat.zero_le _))
  have X1 := Lib.hid ((o.lt _ rfl).2)
  have Y1 := Lib.hid (Nat.lt_of_lt_of_le D1.out.2.2 (o.lt _ rfl).1)
  clear hb o D1
  have a_c := fun j => cell_of_row W2 _ j _ _ _ D2.out.1
  go_wp2_with fail
  refine (HT.out _).mono ?_
  rintro e W3 ⟨rfl, hb⟩
  have D3 := Lib.hid (D2.out.below hb rfl)
  have P3 := Lib.hid (P2.out.below hb rfl)
  have X3 := Lib.hid (Nat.lt_of_lt_of_le X1.out hb.size)
  clear hb D2 P2 X1 a_c
  go_wp2_with fail
  refine (HI.out _).mono ?_
  rintro e W4 ⟨g2, c2, rfl, o, hb⟩
  have D4 := Lib.hid (D3.out.below hb rfl)
  have P4 := Lib.hid (P3.out.below hb rfl)
  have R4 : Hid (Om g2 c2 l.length (tv l) W4) := Lib.hid (own_mono o (Nat.zero_le _))
  have Z1 := Lib.hid (Nat.lt_of_lt_of_le X3.out (o.lt _ rfl).1)
  have Y2 := Lib.hid (Nat.lt_of_lt_of_le D3.out.2.2 (o.lt _ rfl).1)
  clear hb o D3 P3 X3
  go_wp2_with fail
  refine (eqmot_same l (HL.out) 0 0 g2 c2 g1 c1 W4 R4.out P4.out).mono ?_
  rintro e W5 ⟨rfl, hb⟩
  have D5 := Lib.hid (D4.out.below hb rfl)
  have P5 := Lib.hid (P4.out.below hb rfl)
  have R5 := Lib.hid (R4.out.below hb rfl)
  clear hb D4 P4 R4
  go_wp2_with fail
  refine (mark_mots g2 c2 0 l.length (tv l) (HL.out) W5 R5.out).mono ?_
  rintro e W6 ⟨rfl, o, hg⟩
  have D6 := Lib.hid (D5.out.grown hg Y2.out)
  have P6 := Lib.hid (P5.out.grown hg (Nat.ne_of_lt Z1.out))
  have R6 : Hid (Om g2 c2 l.length (mks (tv l) (l.length * 3)) W6) := Lib.hid o
  clear hg o D5 P5 R5
  rw [← HM.out]
  go_wp2_with fail
  have HH := held_mots g2 c2 0 l.length (tv l) (HL.out) W6 HC.out R6.out
  rw [← HM.out] at HH
  refine HH.mono ?_
  rintro e W7 ⟨rfl, rfl⟩
  clear HH
  have a_c := fun j => cell_of_row W7 _ j _ _ _ D6.out.1
  go_wp2_with fail
  refine (HT.out _).mono ?_
  rintro e W8 ⟨rfl, hb⟩
  have D8 := Lib.hid (D6.out.below hb rfl)
  have P8 := Lib.hid (P6.out.below hb rfl)
  have R8 := Lib.hid (R6.out.below hb rfl)
  clear hb D6 P6 R6 a_c
  go_wp2_with fail
  refine (HI.out _).mono ?_
  rintro e W9 ⟨g3, c3, rfl, o, hb⟩
  have D9 := Lib.hid (D8.out.below hb rfl)
  have P9 := Lib.hid (P8.out.below hb rfl)
  have R9 := Lib.hid (R8.out.below hb rfl)
  have U9 : Hid (Om g3 c3 l.length (tv l) W9) := Lib.hid (own_mono o (Nat.zero_le _))
  clear hb o D8 P8 R8
  go_wp2_with fail
  refine (eqmot_same l (HL.out) 0 0 g3 c3 g1 c1 W9 U9.out P9.out).mono ?_
  rintro e W10 ⟨rfl, hb⟩
  have D10 := Lib.hid (D9.out.below hb rfl)
  have R10 := Lib.hid (R9.out.below hb rfl)
  clear hb D9 P9 R9 U9
  go_wp2_with fail
  have HH := held_mots g2 c2 0 l.length (tv l) (HL.out) W10 HC.out R10.out
  rw [← HM.out] at HH
  refine HH.mono ?_
  rintro e W11 ⟨rfl, rfl⟩
  clear HH
  go_wp2_with fail
  go_ret
  exact ⟨rfl, D10.out.2.1⟩
theorem ks600 (f : Nat → Nat → Bool) : (ks f (L1 6 8)).length ≤ 600 := Nat.le_trans (ks_len _ _) (by rw [len68]; decide)
theorem kept_law (a0 a1 a2 a3 a4 a5 : Int) (w : World) : Calls Try.prog 19 #[.agg #[.int .i64 a0, .int .i64 a1, .int .i64 a2, .int .i64 a3, .int .i64 a4, .int .i64 a5]] w fun e w' => e = .returned (.bool true) ∧ Below w.heap.size w w' := by
  cases hv : (ok a0 && ok a1 && ok a2 && ok a3 && ok a4 && ok a5)
  · exact kept_core a0 a1 a2 a3 a4 a5 [] (by simp) false (Lib.hid (fun w => skept_no a0 a1 a2 a3 a4 a5 hv w)) (Lib.hid (fun w => ikept_no a0 a1 a2 a3 a4 a5 hv w)) w
  · obtain ⟨f, rfl, rfl, rfl, rfl, rfl, rfl⟩ := sheet_bits a0 a1 a2 a3 a4 a5 hv
    exact kept_core _ _ _ _ _ _ (ks f (L1 6 8)) (ks600 f) true (Lib.hid (fun w => skept_f f w)) (Lib.hid (fun w => ikept_f f w)) w
end Go.Proofs.Ytpgfmigbjffemaa
