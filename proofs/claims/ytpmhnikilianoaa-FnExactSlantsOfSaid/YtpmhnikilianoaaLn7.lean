/- THE WALK of SlantsOf's law. -/
import Derived.Test.YtpmhnikilianoaaEn7
import Derived.WalkKit
import Derived.ProofKit
import Derived.OpenShut
import Derived.Lib.Hide
import Derived.WalkSpells
import Derived.Below
import Derived.BigQuiet
import Derived.LoopN
namespace Go.Proofs.Ytpmhnikilianoaa
open Go.ChangeShapes Go.WideShapes Go.ChangeAt Go.RowKit
set_option linter.unusedVariables false
set_option maxHeartbeats 4000000 in
theorem slants_core (a0 a1 a2 a3 a4 a5 : Int) (l : List Nat) (hl : l.length ≤ 36) (t : Bool) (HS : Hid (∀ w, Calls Try.prog 43 #[.agg #[.int .i64 a0, .int .i64 a1, .int .i64 a2, .int .i64 a3, .int .i64 a4, .int .i64 a5]] w (IPb l t w))) (HI : Hid (∀ w, Calls Try.prog 44 #[.agg #[.int .i64 a0, .int .i64 a1, .int .i64 a2, .int .i64 a3, .int .i64 a4, .int .i64 a5]] w (IPb l t w))) (w : World) : Calls Try.prog 9 #[.agg #[.int .i64 a0, .int .i64 a1, .int .i64 a2, .int .i64 a3, .int .i64 a4, .int .i64 a5]] w fun e w' => e = .returned (.bool true) ∧ Below w.heap.size w w' := by
  have hcv := nvs_len l
  have HT := Lib.hid (to_sheet a0 a1 a2 a3 a4 a5)
  obtain ⟨M, hM⟩ : ∃ M : Int, M = (l.length : Int) + 1 := ⟨_, rfl⟩
  have hM1 : 0 ≤ M := by omega
  have HM := Lib.hid hM
  have HC := Lib.hid hcv
  have HL := Lib.hid (Nat.le_trans hl (show 36 ≤ 100 by decide))
  clear hM hcv hl
  go_enter Try.func9, Try.ntmps9
  go_wp2_with fail
  generalize hW : (World.alloc _ _ : World) = W0
  have D0 : Hid (Oy 1 [(w.heap.size, ol a0 a1 a2 a3 a4 a5)] w [] W0) := Lib.hid ⟨hW ▸ kr1 w _, by simp, List.Pairwise.nil⟩
  clear hW
  have a_c := fun j => cell_of_row W0 _ j _ _ _ (D0.out.1.row (g := w.heap.size) (o := ol a0 a1 a2 a3 a4 a5) (by simp))
  go_wp2_with fail
  refine (HT.out _).mono ?_
  rintro e V1 ⟨rfl, hb⟩
  have D0t := Lib.hid (D0.out.below hb rfl)
  clear hb a_c D0
  go_wp2_with fail
  refine (HS.out _).mono ?_
  intro e W1 hp
  obtain ⟨g1, c1, rfl, ho, hb⟩ := IPb.out hp
  have D1 := Lib.hid (D0t.out.call ho hb rfl)
  clear hb ho hp D0t
  have a_c := fun j => cell_of_row W1 _ j _ _ _ (D1.out.1.row (g := w.heap.size) (o := ol a0 a1 a2 a3 a4 a5) (by simp))
  go_wp2_with fail
  refine (HT.out _).mono ?_
  rintro e V2 ⟨rfl, hb⟩
  have D1t := Lib.hid (D1.out.below hb rfl)
  clear hb a_c D1
  go_wp2_with fail
  refine (HI.out _).mono ?_
  intro e W2 hp
  obtain ⟨g2, c2, rfl, ho, hb⟩ := IPb.out hp
  have D2 := Lib.hid (D1t.out.call ho hb rfl)
  clear hb ho hp D1t
  go_wp2_with fail
  refine (eqints_same l HL.out 0 0 g2 c2 g1 c1 W2 D2.out.hd D2.out.hd2).mono ?_
  rintro e W5 ⟨rfl, hb⟩
  have D5 := Lib.hid (D2.out.below hb rfl)
  clear hb D2
  go_wp2_with fail
  refine (mark_ints g2 c2 0 l.length (nvs l) HL.out W5 D5.out.hd).mono ?_
  rintro e W6 ⟨rfl, o, hg⟩
  have D6 := Lib.hid (D5.out.mark o hg)
  clear hg o D5
  rw [← HM.out]
  go_wp2_with fail
  have HH := held_ints g2 c2 0 l.length (nvs l) HL.out W6 HC.out D6.out.hd
  rw [← HM.out] at HH
  refine HH.mono ?_
  rintro e W7 ⟨rfl, hw7⟩
  subst hw7
  clear HH
  have a_c := fun j => cell_of_row W7 _ j _ _ _ (D6.out.1.row (g := w.heap.size) (o := ol a0 a1 a2 a3 a4 a5) (by simp))
  go_wp2_with fail
  refine (HT.out _).mono ?_
  rintro e V3 ⟨rfl, hb⟩
  have D6t := Lib.hid (D6.out.below hb rfl)
  clear hb a_c D6
  go_wp2_with fail
  refine (HI.out _).mono ?_
  intro e W3 hp
  obtain ⟨g3, c3, rfl, ho, hb⟩ := IPb.out hp
  have D3 := Lib.hid (D6t.out.call ho hb rfl)
  clear hb ho hp D6t
  go_wp2_with fail
  refine (eqints_same l HL.out 0 0 g3 c3 g1 c1 W3 D3.out.hd D3.out.hd3).mono ?_
  rintro e W10 ⟨rfl, hb⟩
  have D10 := Lib.hid (D3.out.below hb rfl)
  clear hb D3
  go_wp2_with fail
  have HH := held_ints g2 c2 0 l.length (nvs l) HL.out W10 HC.out D10.out.hd2
  rw [← HM.out] at HH
  refine HH.mono ?_
  rintro e W11 ⟨rfl, hw11⟩
  subst hw11
  clear HH
  go_wp2_with fail
  go_ret
  exact ⟨rfl, D10.out.below0⟩
end Go.Proofs.Ytpmhnikilianoaa
