/- THE WALK of FnExactCellsOf. -/
import Derived.Test.YtpgfmigbjffemaaCo
import Derived.Test.YtpgfmigbjffemaaSc
import Derived.WalkKit
import Derived.ProofKit
import Derived.OpenShut
import Derived.Lib.Hide
import Derived.WalkSpells
import Derived.Below
import Derived.BigQuiet
import Derived.LoopN
namespace Go.Proofs.Ytpgfmigbjffemaa
open Go.ChangeShapes Go.WideShapes Go.ChangeAt Go.RowKit
set_option linter.unusedVariables false
def CPost (l : List (Nat × Nat)) (t : Bool) (w : World) (e : Ending) (w' : World) : Prop := ∃ g cap, e = .returned (.tuple #[.slice (some ⟨g, 0, none⟩) l.length cap, .bool t]) ∧ w'.ownsRow w.heap.size 44 2 (.slice (some ⟨g, 0, none⟩) l.length cap) l.length (cv l) ∧ Below w.heap.size w w'
/-- What stands midway: the argument's block, and rows that the call owns. -/
def Md (w : World) (o : Obj) (W : World) : Prop := W.heap[w.heap.size]? = some o ∧ Below w.heap.size w W ∧ w.heap.size < W.heap.size
theorem Md.below {w W W' : World} {o : Obj} {N : Nat} (h : Md w o W) (hb : Below N W W') (hN : N = W.heap.size) : Md w o W' := ⟨rowk h.1 hb hN, below_of h.2.1 hb (by have := h.2.2; omega), Nat.lt_of_lt_of_le h.2.2 hb.size⟩
theorem Md.grown {w W W' : World} {o : Obj} {g : Nat} (h : Md w o W) (hg : W.grownBy W' (some g)) (hgt : w.heap.size < g) : Md w o W' := by
  refine ⟨?_, h.2.1.grown hg (Nat.le_of_lt h.2.2) (fun k hk => by cases hk; omega), Nat.lt_of_lt_of_le h.2.2 hg.size⟩
  rw [hg.block _ h.2.2 (fun e => by cases e; omega)]
  exact h.1
/-- A row of pairs that the call owns, in block g. -/
def Ow (g c : Nat) (n : Nat) (xs : List Value) (W : World) : Prop := W.ownsRow 0 44 2 (.slice (some ⟨g, 0, none⟩) n c) n xs
theorem Ow.below {g c n : Nat} {xs : List Value} {W W' : World} {N : Nat} (h : Ow g c n xs W) (hb : Below N W W') (hN : N = W.heap.size) : Ow g c n xs W' := h.kept (grown_below hb hN) (.inr (by simp [Value.ownBlock]))
theorem Ow.grown {g c n g2 : Nat} {xs : List Value} {W W' : World} (h : Ow g c n xs W) (hg : W.grownBy W' (some g2)) (hne : g ≠ g2) : Ow g c n xs W' := h.kept hg (.inr (by simp [Value.ownBlock, hne]))
set_option maxHeartbeats 4000000 in
theorem cells_core (a0 a1 a2 a3 a4 a5 : Int) (l : List (Nat × Nat)) (hl : l.length ≤ 36) (t : Bool) (HS : Hid (∀ w, Calls Try.prog 23 #[.agg #[.int .i64 a0, .int .i64 a1, .int .i64 a2, .int .i64 a3, .int .i64 a4, .int .i64 a5]] w (CPost l t w))) (HI : Hid (∀ w, Calls Try.prog 25 #[.agg #[.int .i64 a0, .int .i64 a1, .int .i64 a2, .int .i64 a3, .int .i64 a4, .int .i64 a5]] w (CPost l t w))) (w : World) : Calls Try.prog 3 #[.agg #[.int .i64 a0, .int .i64 a1, .int .i64 a2, .int .i64 a3, .int .i64 a4, .int .i64 a5]] w fun e w' => e = .returned (.bool true) ∧ Below w.heap.size w w' := by
  have HT := Lib.hid (to_sheet a0 a1 a2 a3 a4 a5)
  have hcv := cv_len l
  obtain ⟨M, hM⟩ : ∃ M : Int, M = (l.length : Int) * 2 + 1 := ⟨_, rfl⟩
  have hM1 : 0 ≤ M := by omega
  have HM := Lib.hid hM
  have HC := Lib.hid hcv
  have HL := Lib.hid hl
  clear hM hcv hl
  go_enter Try.func3, Try.ntmps3
  go_wp2_with fail
  have D0 : Hid (Md w (.cells #[.int .i64 a0, .int .i64 a1, .int .i64 a2, .int .i64 a3, .int .i64 a4, .int .i64 a5] 24 (0, 0)) (w.alloc (.cells #[.int .i64 a0, .int .i64 a1, .int .i64 a2, .int .i64 a3, .int .i64 a4, .int .i64 a5] 24))) := Lib.hid ⟨alloc_at rfl, by (repeat (first | exact Below.refl _ _ | assumption | refine Below.setCell ?_ (by first | (simp; done) | (simp; omega)) _ | refine Below.alloc ?_ (by first | (simp; done) | (simp; omega)) _ | refine Below.drew ?_)), by simp⟩
  refine (HT.out _).mono ?_
  rintro e W1 ⟨rfl, hb⟩
  have D1 := Lib.hid (D0.out.below hb rfl)
  clear hb D0
  go_wp2_with fail
  refine (HS.out _).mono ?_
  rintro e W2 ⟨g1, c1, rfl, o, hb⟩
  have D2 := Lib.hid (D1.out.below hb rfl)
  have P2 : Hid (Ow g1 c1 l.length (cv l) W2) := Lib.hid (own_mono o (Nat.zero_le _))
  have X1 := Lib.hid ((o.lt _ rfl).2)
  have Y1 := Lib.hid (Nat.lt_of_lt_of_le D1.out.2.2 (o.lt _ rfl).1)
  clear hb o D1
  have a_c := fun j => cell_of_row W2 _ j _ _ _ D2.out.1
  go_wp2_with fail
  refine (HT.out _).mono ?_
  rintro e W3 ⟨rfl, hb⟩
  have D3 := Lib.hid (D2.out.below hb rfl)
  have P3 := Lib.hid (P2.out.below hb rfl)
  have X3 := Lib.hid (Nat.lt_of_lt_of_le X1.out hb.size)
  clear hb D2 P2 X1 a_c
  go_wp2_with fail
  refine (HI.out _).mono ?_
  rintro e W4 ⟨g2, c2, rfl, o, hb⟩
  have D4 := Lib.hid (D3.out.below hb rfl)
  have P4 := Lib.hid (P3.out.below hb rfl)
  have R4 : Hid (Ow g2 c2 l.length (cv l) W4) := Lib.hid (own_mono o (Nat.zero_le _))
  have Z1 := Lib.hid (Nat.lt_of_lt_of_le X3.out (o.lt _ rfl).1)
  have Y2 := Lib.hid (Nat.lt_of_lt_of_le D3.out.2.2 (o.lt _ rfl).1)
  clear hb o D3 P3 X3
  go_wp2_with fail
  refine (eqcells_same l (Nat.le_trans HL.out (by decide)) 0 0 g2 c2 g1 c1 W4 R4.out P4.out).mono ?_
  rintro e W5 ⟨rfl, hb⟩
  have D5 := Lib.hid (D4.out.below hb rfl)
  have P5 := Lib.hid (P4.out.below hb rfl)
  have R5 := Lib.hid (R4.out.below hb rfl)
  clear hb D4 P4 R4
  go_wp2_with fail
  refine (mark_cells g2 c2 0 l.length (cv l) (Nat.le_trans HL.out (by decide)) W5 R5.out).mono ?_
  rintro e W6 ⟨rfl, o, hg⟩
  have D6 := Lib.hid (D5.out.grown hg Y2.out)
  have P6 := Lib.hid (P5.out.grown hg (Nat.ne_of_lt Z1.out))
  have R6 : Hid (Ow g2 c2 l.length (mks (cv l) (l.length * 2)) W6) := Lib.hid o
  clear hg o D5 P5 R5
  rw [← HM.out]
  go_wp2_with fail
  have HH := held_cells g2 c2 0 l.length (cv l) (Nat.le_trans HL.out (by decide)) W6 HC.out R6.out
  rw [← HM.out] at HH
  refine HH.mono ?_
  rintro e W7 ⟨rfl, rfl⟩
  clear HH
  have a_c := fun j => cell_of_row W7 _ j _ _ _ D6.out.1
  go_wp2_with fail
  refine (HT.out _).mono ?_
  rintro e W8 ⟨rfl, hb⟩
  have D8 := Lib.hid (D6.out.below hb rfl)
  have P8 := Lib.hid (P6.out.below hb rfl)
  have R8 := Lib.hid (R6.out.below hb rfl)
  clear hb D6 P6 R6 a_c
  go_wp2_with fail
  refine (HI.out _).mono ?_
  rintro e W9 ⟨g3, c3, rfl, o, hb⟩
  have D9 := Lib.hid (D8.out.below hb rfl)
  have P9 := Lib.hid (P8.out.below hb rfl)
  have R9 := Lib.hid (R8.out.below hb rfl)
  have U9 : Hid (Ow g3 c3 l.length (cv l) W9) := Lib.hid (own_mono o (Nat.zero_le _))
  clear hb o D8 P8 R8
  go_wp2_with fail
  refine (eqcells_same l (Nat.le_trans HL.out (by decide)) 0 0 g3 c3 g1 c1 W9 U9.out P9.out).mono ?_
  rintro e W10 ⟨rfl, hb⟩
  have D10 := Lib.hid (D9.out.below hb rfl)
  have R10 := Lib.hid (R9.out.below hb rfl)
  clear hb D9 P9 R9 U9
  go_wp2_with fail
  have HH := held_cells g2 c2 0 l.length (cv l) (Nat.le_trans HL.out (by decide)) W10 HC.out R10.out
  rw [← HM.out] at HH
  refine HH.mono ?_
  rintro e W11 ⟨rfl, rfl⟩
  clear HH
  go_wp2_with fail
  go_ret
  exact ⟨rfl, D10.out.2.1⟩
theorem bl36 (f : Nat → Nat → Bool) : (bl f 36).length ≤ 36 := bl_len f 36
theorem cells_law (a0 a1 a2 a3 a4 a5 : Int) (w : World) : Calls Try.prog 3 #[.agg #[.int .i64 a0, .int .i64 a1, .int .i64 a2, .int .i64 a3, .int .i64 a4, .int .i64 a5]] w fun e w' => e = .returned (.bool true) ∧ Below w.heap.size w w' := by
  cases hv : (ok a0 && ok a1 && ok a2 && ok a3 && ok a4 && ok a5)
  · exact cells_core a0 a1 a2 a3 a4 a5 [] (by simp) false (Lib.hid (fun w => scells_no a0 a1 a2 a3 a4 a5 hv w)) (Lib.hid (fun w => icells_no a0 a1 a2 a3 a4 a5 hv w)) w
  · obtain ⟨f, rfl, rfl, rfl, rfl, rfl, rfl⟩ := sheet_bits a0 a1 a2 a3 a4 a5 hv
    exact cells_core _ _ _ _ _ _ (bl f 36) (bl36 f) true (Lib.hid (fun w => scells_f f w)) (Lib.hid (fun w => icells_f f w)) w
end Go.Proofs.Ytpgfmigbjffemaa
