/- CONTRACTS: the numbers of turns; the pair for TurnSheet. -/
import Derived.Test.YtpgfmigbjffemaaTd
import Derived.Test.YtpgfmigbjffemaaWt
import Derived.Test.YtpgfmigbjffemaaPb
import Derived.WalkKit
import Derived.ProofKit
import Derived.OpenShut
import Derived.Lib.Hide
import Derived.WalkSpells
import Derived.Below
import Derived.BigQuiet
import Derived.LoopN
namespace Go.Proofs.Ytpgfmigbjffemaa
open Go.ChangeShapes Go.WideShapes Go.ChangeAt Go.RowKit
set_option linter.unusedVariables false
def okt (k : Int) : Bool := decide (0 ≤ k) && decide (k ≤ 7)
theorem okt_in {k : Int} (h : okt k = true) : ∃ n : Nat, n < 8 ∧ k = n := by
  simp only [okt, Bool.and_eq_true, decide_eq_true_eq] at h
  exact ⟨k.toNat, by omega, by omega⟩
theorem sturns_any (k : Int) (w : World) : Calls Try.prog 138 #[.int .i64 k] w fun e w' => e = .returned (.bool (okt k)) ∧ w' = w := by
  have H := Lib.hid (l1in_any k 0 7)
  go_enter Try.func138, Try.ntmps138
  go_wp2_with fail
  refine (H.out _).mono ?_
  rintro e w' ⟨rfl, rfl⟩
  go_wp2_with fail
  go_ret
  exact ⟨rfl, rfl⟩
theorem iturns_any (k : Int) (w : World) : Calls Try.prog 140 #[.int .i64 k] w fun e w' => e = .returned (.bool (okt k)) ∧ w' = w := by
  have E : okt k = (decide (0 ≤ k) && decide (k < 8)) := by
    rw [okt]; congr 1; exact decide_eq_decide.mpr (by omega)
  rw [E]
  by_cases h0 : 0 ≤ k
  · by_cases h1 : k < 8
    · rw [decide_eq_true h0, decide_eq_true h1]
      go_enter Try.func140, Try.ntmps140
      go_wp2_with fail
      go_ret
      exact ⟨rfl, rfl⟩
    · rw [decide_eq_true h0, decide_eq_false h1]
      go_enter Try.func140, Try.ntmps140
      go_wp2_with fail
      go_ret
      exact ⟨rfl, rfl⟩
  · rw [decide_eq_false h0]
    go_enter Try.func140, Try.ntmps140
    go_wp2_with fail
    go_ret
    exact ⟨rfl, rfl⟩
theorem same_below {w w' : World} (h : w' = w) : Below w.heap.size w w' := h ▸ Below.refl _ _
theorem tk_s (k : Int) {b : Bool} (h : okt k = b) : Hid (∀ w, Calls Try.prog 138 #[.int .i64 k] w fun e w' => e = .returned (.bool b) ∧ Below w.heap.size w w') := Lib.hid (fun w => (sturns_any k w).mono (by rintro e w' ⟨rfl, h2⟩; exact ⟨by rw [h], same_below h2⟩))
theorem tk_i (k : Int) {b : Bool} (h : okt k = b) : Hid (∀ w, Calls Try.prog 140 #[.int .i64 k] w fun e w' => e = .returned (.bool b) ∧ Below w.heap.size w w') := Lib.hid (fun w => (iturns_any k w).mono (by rintro e w' ⟨rfl, h2⟩; exact ⟨by rw [h], same_below h2⟩))
/-- TurnSheet, the model's and the code's: of a sheet and a turn's number the turned sheet, else the white sheet and false. -/
theorem turn_pair (a0 a1 a2 a3 a4 a5 : Int) (k : Int) : ∃ (r0 r1 r2 r3 r4 r5 : Int) (t : Bool), (∀ w, Calls Try.prog 58 #[.agg #[.int .i64 a0, .int .i64 a1, .int .i64 a2, .int .i64 a3, .int .i64 a4, .int .i64 a5], .int .i64 k] w fun e w' => e = .returned (.tuple #[.agg #[.int .i64 r0, .int .i64 r1, .int .i64 r2, .int .i64 r3, .int .i64 r4, .int .i64 r5], .bool t]) ∧ Below w.heap.size w w') ∧ (∀ w, Calls Try.prog 59 #[.agg #[.int .i64 a0, .int .i64 a1, .int .i64 a2, .int .i64 a3, .int .i64 a4, .int .i64 a5], .int .i64 k] w fun e w' => e = .returned (.tuple #[.agg #[.int .i64 r0, .int .i64 r1, .int .i64 r2, .int .i64 r3, .int .i64 r4, .int .i64 r5], .bool t]) ∧ Below w.heap.size w w') := by
  cases hv : (ok a0 && ok a1 && ok a2 && ok a3 && ok a4 && ok a5)
  · exact ⟨0, 0, 0, 0, 0, 0, false, fun w => sturn_no0 a0 a1 a2 a3 a4 a5 k (sh_as a0 a1 a2 a3 a4 a5 hv) w, fun w => iturn_no0 a0 a1 a2 a3 a4 a5 k (sh_ai a0 a1 a2 a3 a4 a5 hv) w⟩
  · cases hk : okt k
    · exact ⟨0, 0, 0, 0, 0, 0, false, fun w => sturn_no1 a0 a1 a2 a3 a4 a5 k (sh_as a0 a1 a2 a3 a4 a5 hv) (tk_s k hk) w, fun w => iturn_no1 a0 a1 a2 a3 a4 a5 k (sh_ai a0 a1 a2 a3 a4 a5 hv) (tk_i k hk) w⟩
    · have hs := sh_as a0 a1 a2 a3 a4 a5 hv
      have hi := sh_ai a0 a1 a2 a3 a4 a5 hv
      have ks := tk_s k hk
      have ki := tk_i k hk
      obtain ⟨n, hn, rfl⟩ := okt_in hk
      obtain ⟨f, rfl, rfl, rfl, rfl, rfl, rfl⟩ := sheet_bits a0 a1 a2 a3 a4 a5 hv
      exact ⟨_, _, _, _, _, _, true, fun w => sturn_yes _ _ _ _ _ _ _ _ _ _ _ _ _ hs ks (Lib.hid (turn_f f hn)) w, fun w => iturn_yes _ _ _ _ _ _ _ _ _ _ _ _ _ hi ki (Lib.hid (turned_f f hn)) w⟩
end Go.Proofs.Ytpgfmigbjffemaa
