/- THE LAW's WALK: ParseSheet. -/
import Derived.Test.YtjhokdccgachcaaZe
import Derived.WalkKit
import Derived.ProofKit
import Derived.OpenShut
import Derived.Lib.Hide
import Derived.WalkSpells
import Derived.Below
import Derived.BigQuiet
import Derived.LoopN
namespace Go.Proofs.Ytjhokdccgachcaa
open Go.ChangeShapes Go.WideShapes Go.ChangeAt Go.RowKit
set_option linter.unusedVariables false
theorem sparse_any (t : ByteArray) (r0 r1 r2 r3 r4 r5 : Int) (b : Bool) (HF : Hid (∀ w, Calls Try.prog 128 #[.string t] w fun e w' => e = .returned (.tuple #[.agg #[.int .i64 r0, .int .i64 r1, .int .i64 r2, .int .i64 r3, .int .i64 r4, .int .i64 r5], .bool b]) ∧ Below w.heap.size w w')) (w : World) : Calls Try.prog 69 #[.string t] w fun e w' => e = .returned (.tuple #[.agg #[.int .i64 r0, .int .i64 r1, .int .i64 r2, .int .i64 r3, .int .i64 r4, .int .i64 r5], .bool b]) ∧ Below w.heap.size w w' := by
  go_enter Try.func69, Try.ntmps69
  go_wp2_with fail
  refine (HF.out _).mono ?_
  rintro e W1 ⟨rfl, hb⟩
  have q0 : W1.heap[w.heap.size]? = some (.cells #[.int .i64 0, .int .i64 0, .int .i64 0, .int .i64 0, .int .i64 0, .int .i64 0] 25 (0, 0)) := rowk (alloc_at rfl) hb rfl
  have hB1 : Below w.heap.size w W1 := below_of (by (repeat (first | exact Below.refl _ _ | assumption | refine Below.setCell ?_ (by first | (simp; done) | (simp; omega)) _ | refine Below.alloc ?_ (by first | (simp; done) | (simp; omega)) _ | refine Below.drew ?_))) hb (by simp)
  clear hb
  have z_c := fun j => cell_of_row W1 _ j _ _ _ q0
  have z_f := fun j => frozen_of_row W1 _ j _ _ q0
  go_wp2_with fail
  refine bodyPost_ret (v := .tuple #[.agg #[.int .i64 r0, .int .i64 r1, .int .i64 r2, .int .i64 r3, .int .i64 r4, .int .i64 r5], .bool b]) (by simp [results, Try.results69, go_sem, z_c]) rfl ⟨rfl, ?_⟩
  exact below6 hB1 (by omega)
set_option maxHeartbeats 1000000 in
theorem parse_core (t : ByteArray) (ht : t.size ≤ 1048576) (r0 r1 r2 r3 r4 r5 : Int) (b : Bool) (HS : Hid (∀ w, Calls Try.prog 69 #[.string t] w fun e w' => e = .returned (.tuple #[.agg #[.int .i64 r0, .int .i64 r1, .int .i64 r2, .int .i64 r3, .int .i64 r4, .int .i64 r5], .bool b]) ∧ Below w.heap.size w w')) (HI : Hid (∀ w, Calls Try.prog 70 #[.string t] w fun e w' => e = .returned (.tuple #[.agg #[.int .i64 r0, .int .i64 r1, .int .i64 r2, .int .i64 r3, .int .i64 r4, .int .i64 r5], .bool b]) ∧ Below w.heap.size w w')) (w : World) : Calls Try.prog 21 #[.string t] w fun e w' => e = .returned (.bool true) ∧ Below w.heap.size w w' := by
  have h1 : ¬ ((1048576 : Int) < t.size) := by omega
  go_enter Try.func21, Try.ntmps21
  go_wp2_with fail
  refine (HS.out _).mono ?_
  rintro e W2 ⟨rfl, hb⟩
  have hB2 := Lib.hid hb
  clear hb
  go_wp2_with fail
  have hA : (W2.alloc (.cells #[.int .i64 r0, .int .i64 r1, .int .i64 r2, .int .i64 r3, .int .i64 r4, .int .i64 r5] 25)).heap[W2.heap.size]? = some (.cells #[.int .i64 r0, .int .i64 r1, .int .i64 r2, .int .i64 r3, .int .i64 r4, .int .i64 r5] 25 (0, 0)) := alloc_at rfl
  have hB3 := Lib.hid (hB2.out.alloc hB2.out.size (.cells #[.int .i64 r0, .int .i64 r1, .int .i64 r2, .int .i64 r3, .int .i64 r4, .int .i64 r5] 25))
  clear hB2
  generalize (World.alloc _ _ : World) = X3 at hA hB3 ⊢
  generalize W2.heap.size = G at hA ⊢
  refine (HI.out _).mono ?_
  rintro e W5 ⟨rfl, hb⟩
  have hA5 := rowk hA hb rfl
  have hB5 := Lib.hid (below_of hB3.out hb hB3.out.size)
  clear hb hB3 hA
  have glt := row_lt hA5
  have gne := Nat.ne_of_lt glt
  have a_c := fun j => cell_of_row W5 _ j _ _ _ hA5
  go_wp2_with fail
  have hB6 := Lib.hid (hB5.out.alloc hB5.out.size (.cells #[.int .i64 r0, .int .i64 r1, .int .i64 r2, .int .i64 r3, .int .i64 r4, .int .i64 r5] 25))
  clear hB5 hA5 glt gne a_c
  generalize (World.alloc _ _ : World) = X6 at hB6 ⊢
  refine (eq_same r0 r1 r2 r3 r4 r5 _).mono ?_
  rintro e W7 ⟨rfl, hb⟩
  have hB7 := Lib.hid (below_of hB6.out hb hB6.out.size)
  clear hb hB6
  go_wp2_with fail
  go_ret
  exact ⟨rfl, hB7.out⟩
theorem parse_law (t : ByteArray) (hm : t.size ≤ maxLen) (w : World) : Calls Try.prog 21 #[.string t] w fun e w' => e = .returned (.bool true) ∧ Below w.heap.size w w' := by
  by_cases ht : t.size ≤ 1048576
  · obtain ⟨r0, r1, r2, r3, r4, r5, b, h1, h2⟩ := parse_pair t ht
    exact parse_core t ht r0 r1 r2 r3 r4 r5 b (Lib.hid (sparse_any t r0 r1 r2 r3 r4 r5 b (Lib.hid h1))) (Lib.hid h2) w
  · have h1 : (1048576 : Int) < t.size := by omega
    clear ht
    go_enter Try.func21, Try.ntmps21
    go_wp2_with fail
    go_ret
    exact ⟨rfl, Below.refl _ _⟩
end Go.Proofs.Ytjhokdccgachcaa
