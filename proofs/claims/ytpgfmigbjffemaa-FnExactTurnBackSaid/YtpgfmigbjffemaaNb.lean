/- THE WALKS of TurnBehind and TurnBack: the model's and the code's, and the laws'. -/
import Derived.Test.YtpgfmigbjffemaaNu
import Derived.WalkKit
import Derived.ProofKit
import Derived.OpenShut
import Derived.Lib.Hide
import Derived.WalkSpells
import Derived.Below
import Derived.BigQuiet
import Derived.LoopN
namespace Go.Proofs.Ytpgfmigbjffemaa
open Go.ChangeShapes Go.WideShapes Go.ChangeAt Go.RowKit
set_option linter.unusedVariables false
theorem sbehind_no (k m : Int) (h : (okt k && okt m) = false) (w : World) : Calls Try.prog 60 #[.int .i64 k, .int .i64 m] w fun e w' => e = .returned (.tuple #[.int .i64 0, .bool false]) ∧ Below w.heap.size w w' := by
  cases hk : okt k
  · have H := tk_s k hk
    go_enter Try.func60, Try.ntmps60
    go_wp2_with fail
    refine (H.out _).mono ?_
    rintro e w1 ⟨rfl, hb⟩
    have k1 := Lib.hid hb
    clear hb
    go_wp2_with fail
    go_ret2
    exact ⟨rfl, k1.out⟩
  · have hm : okt m = false := by simpa [hk] using h
    have H := tk_s k hk
    have H2 := tk_s m hm
    go_enter Try.func60, Try.ntmps60
    go_wp2_with fail
    refine (H.out _).mono ?_
    rintro e w1 ⟨rfl, hb⟩
    have k1 := Lib.hid hb
    clear hb
    go_wp2_with fail
    refine (H2.out _).mono ?_
    rintro e w2 ⟨rfl, hb⟩
    have k2 := Lib.hid (below_of k1.out hb k1.out.size)
    clear hb k1
    go_wp2_with fail
    go_ret2
    exact ⟨rfl, k2.out⟩
theorem ibehind_no (k m : Int) (h : (okt k && okt m) = false) (w : World) : Calls Try.prog 61 #[.int .i64 k, .int .i64 m] w fun e w' => e = .returned (.tuple #[.int .i64 0, .bool false]) ∧ Below w.heap.size w w' := by
  cases hk : okt k
  · have H := tk_i k hk
    go_enter Try.func61, Try.ntmps61
    go_wp2_with fail
    refine (H.out _).mono ?_
    rintro e w1 ⟨rfl, hb⟩
    have k1 := Lib.hid hb
    clear hb
    go_wp2_with fail
    go_ret2
    exact ⟨rfl, k1.out⟩
  · have hm : okt m = false := by simpa [hk] using h
    have H := tk_i k hk
    have H2 := tk_i m hm
    go_enter Try.func61, Try.ntmps61
    go_wp2_with fail
    refine (H.out _).mono ?_
    rintro e w1 ⟨rfl, hb⟩
    have k1 := Lib.hid hb
    clear hb
    go_wp2_with fail
    refine (H2.out _).mono ?_
    rintro e w2 ⟨rfl, hb⟩
    have k2 := Lib.hid (below_of k1.out hb k1.out.size)
    clear hb k1
    go_wp2_with fail
    go_ret2
    exact ⟨rfl, k2.out⟩
theorem sbehind_yes {k m : Nat} (hk8 : k < 8) (hm8 : m < 8) (w : World) : Calls Try.prog 60 #[.int .i64 (k : Int), .int .i64 (m : Int)] w fun e w' => e = .returned (.tuple #[.int .i64 (tb k m : Int), .bool true]) ∧ Below w.heap.size w w' := by
  have hk : okt (k : Int) = true := by simp [okt]; omega
  have hm : okt (m : Int) = true := by simp [okt]; omega
  have H := tk_s k hk
  have H2 := tk_s m hm
  have HM := Lib.hid marked_any
  have HT := Lib.hid (turn_f mk0 hk8)
  have HU := Lib.hid (turn_f (tf k mk0) hm8)
  obtain ⟨h8, e0, e1, e2, e3, e4, e5⟩ := marks_tb hk8 hm8
  have HN := Lib.hid (number_f h8)
  rw [← e0, ← e1, ← e2, ← e3, ← e4, ← e5] at HN
  clear e0 e1 e2 e3 e4 e5 hk hm
  go_enter Try.func60, Try.ntmps60
  go_wp2_with fail
  refine (H.out _).mono ?_
  rintro e w1 ⟨rfl, hb⟩
  have k1 := Lib.hid (hb)
  clear hb
  go_wp2_with fail
  refine (H2.out _).mono ?_
  rintro e w2 ⟨rfl, hb⟩
  have k2 := Lib.hid (below_of k1.out hb k1.out.size)
  clear hb k1
  go_wp2_with fail
  refine (HM.out _).mono ?_
  rintro e w3 ⟨rfl, hb⟩
  have k3 := Lib.hid (below_of k2.out hb k2.out.size)
  clear hb k2
  go_wp2_with fail
  refine (HT.out _).mono ?_
  rintro e w4 ⟨rfl, hb⟩
  have k4 := Lib.hid (below_of k3.out hb k3.out.size)
  clear hb k3
  go_wp2_with fail
  refine (HU.out _).mono ?_
  rintro e w5 ⟨rfl, hb⟩
  have k5 := Lib.hid (below_of k4.out hb k4.out.size)
  clear hb k4
  go_wp2_with fail
  refine (HN.out _).mono ?_
  rintro e w6 ⟨rfl, hb⟩
  have k6 := Lib.hid (below_of k5.out hb k5.out.size)
  clear hb k5
  go_wp2_with fail
  go_ret2
  exact ⟨rfl, k6.out⟩
theorem ibehind_yes {k m : Nat} (hk8 : k < 8) (hm8 : m < 8) (w : World) : Calls Try.prog 61 #[.int .i64 (k : Int), .int .i64 (m : Int)] w fun e w' => e = .returned (.tuple #[.int .i64 (tb k m : Int), .bool true]) ∧ Below w.heap.size w w' := by
  have hk : okt (k : Int) = true := by simp [okt]; omega
  have hm : okt (m : Int) = true := by simp [okt]; omega
  have H := tk_i k hk
  have H2 := tk_i m hm
  have HC : Hid (∀ w, Calls Try.prog 144 #[.int .i64 (k : Int), .int .i64 (m : Int)] w fun e w' => e = .returned (.int .i64 (tb k m : Int)) ∧ Below w.heap.size w w') := Lib.hid (fun w => (cbehind_f hk8 hm8 w).mono (by rintro e w' ⟨rfl, h2⟩; exact ⟨rfl, same_below h2⟩))
  clear hk hm
  go_enter Try.func61, Try.ntmps61
  go_wp2_with fail
  refine (H.out _).mono ?_
  rintro e w1 ⟨rfl, hb⟩
  have k1 := Lib.hid (hb)
  clear hb
  go_wp2_with fail
  refine (H2.out _).mono ?_
  rintro e w2 ⟨rfl, hb⟩
  have k2 := Lib.hid (below_of k1.out hb k1.out.size)
  clear hb k1
  go_wp2_with fail
  refine (HC.out _).mono ?_
  rintro e w3 ⟨rfl, hb⟩
  have k3 := Lib.hid (below_of k2.out hb k2.out.size)
  clear hb k2
  go_wp2_with fail
  go_ret2
  exact ⟨rfl, k3.out⟩
theorem behind_pair (k m : Int) : ∃ (r : Int) (t : Bool), (∀ w, Calls Try.prog 60 #[.int .i64 k, .int .i64 m] w fun e w' => e = .returned (.tuple #[.int .i64 r, .bool t]) ∧ Below w.heap.size w w') ∧ (∀ w, Calls Try.prog 61 #[.int .i64 k, .int .i64 m] w fun e w' => e = .returned (.tuple #[.int .i64 r, .bool t]) ∧ Below w.heap.size w w') := by
  cases h : (okt k && okt m)
  · exact ⟨0, false, sbehind_no k m h, ibehind_no k m h⟩
  · rw [Bool.and_eq_true] at h
    obtain ⟨k', hk, rfl⟩ := okt_in h.1
    obtain ⟨m', hm, rfl⟩ := okt_in h.2
    exact ⟨_, true, sbehind_yes hk hm, ibehind_yes hk hm⟩
theorem behind_core (k m : Int) (w : World) : Calls Try.prog 9 #[.int .i64 k, .int .i64 m] w fun e w' => e = .returned (.bool true) ∧ Below w.heap.size w w' := by
  obtain ⟨r, t, h1, h2⟩ := behind_pair k m
  have HS := Lib.hid h1
  have HI := Lib.hid h2
  clear h1 h2
  go_enter Try.func9, Try.ntmps9
  go_wp2_with fail
  refine (HS.out _).mono ?_
  rintro e w1 ⟨rfl, hb⟩
  have k1 := Lib.hid (hb)
  clear hb
  go_wp2_with fail
  refine (HI.out _).mono ?_
  rintro e w2 ⟨rfl, hb⟩
  have k2 := Lib.hid (below_of k1.out hb k1.out.size)
  clear hb k1
  go_wp2_with fail
  go_ret
  exact ⟨rfl, k2.out⟩
theorem sback_no (k : Int) (h : okt k = false) (w : World) : Calls Try.prog 62 #[.int .i64 k] w fun e w' => e = .returned (.tuple #[.int .i64 0, .bool false]) ∧ Below w.heap.size w w' := by
  have H := tk_s k h
  go_enter Try.func62, Try.ntmps62
  go_wp2_with fail
  refine (H.out _).mono ?_
  rintro e w1 ⟨rfl, hb⟩
  have k1 := Lib.hid (hb)
  clear hb
  go_wp2_with fail
  go_ret2
  exact ⟨rfl, k1.out⟩
theorem sback_yes {k : Nat} (hk8 : k < 8) (w : World) : Calls Try.prog 62 #[.int .i64 (k : Int)] w fun e w' => e = .returned (.tuple #[.int .i64 (bk k : Int), .bool true]) ∧ Below w.heap.size w w' := by
  have H := tk_s k (show okt (k : Int) = true by simp [okt]; omega)
  have HB : Hid (∀ w, Calls Try.prog 145 #[.int .i64 (k : Int)] w fun e w' => e = .returned (.int .i64 (bk k : Int)) ∧ Below w.heap.size w w') := Lib.hid (lback_f hk8)
  go_enter Try.func62, Try.ntmps62
  go_wp2_with fail
  refine (H.out _).mono ?_
  rintro e w1 ⟨rfl, hb⟩
  have k1 := Lib.hid (hb)
  clear hb
  go_wp2_with fail
  refine (HB.out _).mono ?_
  rintro e w2 ⟨rfl, hb⟩
  have k2 := Lib.hid (below_of k1.out hb k1.out.size)
  clear hb k1
  go_wp2_with fail
  go_ret2
  exact ⟨rfl, k2.out⟩
theorem iback_no (k : Int) (h : okt k = false) (w : World) : Calls Try.prog 63 #[.int .i64 k] w fun e w' => e = .returned (.tuple #[.int .i64 0, .bool false]) ∧ Below w.heap.size w w' := by
  have H := tk_i k h
  go_enter Try.func63, Try.ntmps63
  go_wp2_with fail
  refine (H.out _).mono ?_
  rintro e w1 ⟨rfl, hb⟩
  have k1 := Lib.hid (hb)
  clear hb
  go_wp2_with fail
  go_ret2
  exact ⟨rfl, k1.out⟩
theorem iback_yes {k : Nat} (hk8 : k < 8) (w : World) : Calls Try.prog 63 #[.int .i64 (k : Int)] w fun e w' => e = .returned (.tuple #[.int .i64 (bk k : Int), .bool true]) ∧ Below w.heap.size w w' := by
  have H := tk_i k (show okt (k : Int) = true by simp [okt]; omega)
  have HB : Hid (∀ w, Calls Try.prog 146 #[.int .i64 (k : Int)] w fun e w' => e = .returned (.int .i64 (bk k : Int)) ∧ Below w.heap.size w w') := Lib.hid (fun w => (cback_f hk8 w).mono (by rintro e w' ⟨rfl, h2⟩; exact ⟨rfl, same_below h2⟩))
  go_enter Try.func63, Try.ntmps63
  go_wp2_with fail
  refine (H.out _).mono ?_
  rintro e w1 ⟨rfl, hb⟩
  have k1 := Lib.hid (hb)
  clear hb
  go_wp2_with fail
  refine (HB.out _).mono ?_
  rintro e w2 ⟨rfl, hb⟩
  have k2 := Lib.hid (below_of k1.out hb k1.out.size)
  clear hb k1
  go_wp2_with fail
  go_ret2
  exact ⟨rfl, k2.out⟩
theorem back_pair (k : Int) : ∃ (r : Int) (t : Bool), (∀ w, Calls Try.prog 62 #[.int .i64 k] w fun e w' => e = .returned (.tuple #[.int .i64 r, .bool t]) ∧ Below w.heap.size w w') ∧ (∀ w, Calls Try.prog 63 #[.int .i64 k] w fun e w' => e = .returned (.tuple #[.int .i64 r, .bool t]) ∧ Below w.heap.size w w') := by
  cases h : okt k
  · exact ⟨0, false, sback_no k h, iback_no k h⟩
  · obtain ⟨k', hk, rfl⟩ := okt_in h
    exact ⟨_, true, sback_yes hk, iback_yes hk⟩
theorem back_core (k : Int) (w : World) : Calls Try.prog 10 #[.int .i64 k] w fun e w' => e = .returned (.bool true) ∧ Below w.heap.size w w' := by
  obtain ⟨r, t, h1, h2⟩ := back_pair k
  have HS := Lib.hid h1
  have HI := Lib.hid h2
  clear h1 h2
  go_enter Try.func10, Try.ntmps10
  go_wp2_with fail
  refine (HS.out _).mono ?_
  rintro e w1 ⟨rfl, hb⟩
  have k1 := Lib.hid (hb)
  clear hb
  go_wp2_with fail
  refine (HI.out _).mono ?_
  rintro e w2 ⟨rfl, hb⟩
  have k2 := Lib.hid (below_of k1.out hb k1.out.size)
  clear hb k1
  go_wp2_with fail
  go_ret
  exact ⟨rfl, k2.out⟩
end Go.Proofs.Ytpgfmigbjffemaa
