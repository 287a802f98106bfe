/- CONTRACTS: SheetText, both; THE PAIR. -/
import Derived.Test.YtjhokdccgachcaaZw
import Derived.Test.YtjhokdccgachcaaPb
import Derived.WalkKit
import Derived.ProofKit
import Derived.OpenShut
import Derived.Lib.Hide
import Derived.WalkSpells
import Derived.Below
import Derived.BigQuiet
import Derived.LoopN
namespace Go.Proofs.Ytjhokdccgachcaa
open Go.ChangeShapes Go.WideShapes Go.ChangeAt Go.RowKit
set_option linter.unusedVariables false
theorem mtext_no (a0 a1 a2 a3 a4 a5 : Int) (H0 : Hid (∀ w, Calls Try.prog 91 #[.agg #[.int .i64 a0, .int .i64 a1, .int .i64 a2, .int .i64 a3, .int .i64 a4, .int .i64 a5]] w fun e w' => e = .returned (.bool false) ∧ Below w.heap.size w w')) (w : World) : Calls Try.prog 67 #[.agg #[.int .i64 a0, .int .i64 a1, .int .i64 a2, .int .i64 a3, .int .i64 a4, .int .i64 a5]] w fun e w' => e = .returned (.tuple #[.string ⟨#[]⟩, .bool false]) ∧ Below w.heap.size w w' := by
  go_enter Try.func67, Try.ntmps67
  go_wp2_with (go_at_call 91; refine (H0.out _).mono ?_; rintro e W1 ⟨rfl, hb⟩)
  go_ret2
  exact ⟨rfl, below_of (by (repeat (first | exact Below.refl _ _ | assumption | refine Below.setCell ?_ (by first | (simp; done) | (simp; omega)) _ | refine Below.alloc ?_ (by first | (simp; done) | (simp; omega)) _ | refine Below.drew ?_))) hb (by simp)⟩
theorem itext_no (a0 a1 a2 a3 a4 a5 : Int) (H0 : Hid (∀ w, Calls Try.prog 104 #[.agg #[.int .i64 a0, .int .i64 a1, .int .i64 a2, .int .i64 a3, .int .i64 a4, .int .i64 a5]] w fun e w' => e = .returned (.bool false) ∧ Below w.heap.size w w')) (w : World) : Calls Try.prog 68 #[.agg #[.int .i64 a0, .int .i64 a1, .int .i64 a2, .int .i64 a3, .int .i64 a4, .int .i64 a5]] w fun e w' => e = .returned (.tuple #[.string ⟨#[]⟩, .bool false]) ∧ Below w.heap.size w w' := by
  go_enter Try.func68, Try.ntmps68
  go_wp2_with (go_at_call 104; refine (H0.out _).mono ?_; rintro e W1 ⟨rfl, hb⟩)
  go_ret2
  exact ⟨rfl, below_of (by (repeat (first | exact Below.refl _ _ | assumption | refine Below.setCell ?_ (by first | (simp; done) | (simp; omega)) _ | refine Below.alloc ?_ (by first | (simp; done) | (simp; omega)) _ | refine Below.drew ?_))) hb (by simp)⟩
theorem mtext_yes (s : F6) (H0 : Hid (∀ w, Calls Try.prog 91 #[.agg #[.int .i64 (rowv (s 0)), .int .i64 (rowv (s 1)), .int .i64 (rowv (s 2)), .int .i64 (rowv (s 3)), .int .i64 (rowv (s 4)), .int .i64 (rowv (s 5))]] w fun e w' => e = .returned (.bool true) ∧ Below w.heap.size w w')) (w : World) : Calls Try.prog 67 #[.agg #[.int .i64 (rowv (s 0)), .int .i64 (rowv (s 1)), .int .i64 (rowv (s 2)), .int .i64 (rowv (s 3)), .int .i64 (rowv (s 4)), .int .i64 (rowv (s 5))]] w fun e w' => e = .returned (.tuple #[.string (sgt s), .bool true]) ∧ Below w.heap.size w w' := by
  obtain ⟨T, hT⟩ : ∃ T, T = sgt s := ⟨_, rfl⟩
  have HL : Hid (∀ w, Calls Try.prog 125 #[.agg #[.int .i64 (rowv (s 0)), .int .i64 (rowv (s 1)), .int .i64 (rowv (s 2)), .int .i64 (rowv (s 3)), .int .i64 (rowv (s 4)), .int .i64 (rowv (s 5))]] w fun e w' => e = .returned (.string T) ∧ Below w.heap.size w w') := Lib.hid (by rw [hT]; exact ltext_f s)
  rw [← hT]
  clear hT
  go_enter Try.func67, Try.ntmps67
  go_wp2_with (go_at_call 91; refine (H0.out _).mono ?_; rintro e W1 ⟨rfl, hb⟩; have k0 : Hid (W1.heap[w.heap.size]? = some (o6 s)) := Lib.hid (rowk (alloc_at rfl) hb rfl); have s_c := fun j => cell_of_row W1 _ j _ _ _ k0.out)
  have B1 : Below w.heap.size w W1 := below_of (by (repeat (first | exact Below.refl _ _ | assumption | refine Below.setCell ?_ (by first | (simp; done) | (simp; omega)) _ | refine Below.alloc ?_ (by first | (simp; done) | (simp; omega)) _ | refine Below.drew ?_))) hb (by simp)
  have hGs := row_lt k0.out
  clear hb
  first
  | (refine (HL.out _).mono ?_; rintro e W2 ⟨rfl, hb⟩)
  | (go_wp2_with (go_at_call 125; refine (HL.out _).mono ?_; rintro e W2 ⟨rfl, hb⟩))
  have B2 := below_of B1 hb (Nat.le_of_lt hGs)
  clear hb
  first | (go_ret2; exact ⟨rfl, B2⟩) | (go_wp2_with fail; go_ret2; exact ⟨rfl, B2⟩)
theorem text_pair (a0 a1 a2 a3 a4 a5 : Int) : ∃ (r : ByteArray) (t : Bool), (∀ w, Calls Try.prog 67 #[.agg #[.int .i64 a0, .int .i64 a1, .int .i64 a2, .int .i64 a3, .int .i64 a4, .int .i64 a5]] w fun e w' => e = .returned (.tuple #[.string r, .bool t]) ∧ Below w.heap.size w w') ∧ (∀ w, Calls Try.prog 68 #[.agg #[.int .i64 a0, .int .i64 a1, .int .i64 a2, .int .i64 a3, .int .i64 a4, .int .i64 a5]] w fun e w' => e = .returned (.tuple #[.string r, .bool t]) ∧ Below w.heap.size w w') := by
  cases hv : (ok a0 && ok a1 && ok a2 && ok a3 && ok a4 && ok a5)
  · exact ⟨⟨#[]⟩, false, fun w => mtext_no a0 a1 a2 a3 a4 a5 (sh_as a0 a1 a2 a3 a4 a5 hv) w, fun w => itext_no a0 a1 a2 a3 a4 a5 (sh_ai a0 a1 a2 a3 a4 a5 hv) w⟩
  · have Hs := sh_as a0 a1 a2 a3 a4 a5 hv
    have Hi := sh_ai a0 a1 a2 a3 a4 a5 hv
    obtain ⟨s, rfl, rfl, rfl, rfl, rfl, rfl⟩ := sheet_bits a0 a1 a2 a3 a4 a5 hv
    exact ⟨sgt s, true, fun w => mtext_yes s Hs w, fun w => stext_yes s Hi w⟩
end Go.Proofs.Ytjhokdccgachcaa
