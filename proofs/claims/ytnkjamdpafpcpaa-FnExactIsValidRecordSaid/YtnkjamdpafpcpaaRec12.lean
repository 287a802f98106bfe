/- CONTRACTS: a record's copy and size, whether it is valid, of the model and of the code; the law's walk. -/
import Derived.Test.YtnkjamdpafpcpaaVr12
import Derived.Test.YtnkjamdpafpcpaaGood12
import Derived.WalkKit
import Derived.ProofKit
import Derived.OpenShut
import Derived.Lib.Hide
import Derived.WalkSpells
import Derived.Below
import Derived.BigQuiet
import Derived.LoopN
namespace Go.Proofs.Ytnkjamdpafpcpaa
open Go.ChangeShapes Go.WideShapes Go.ChangeAt Go.RowKit
set_option linter.unusedVariables false
/-- Whether a record is valid. -/
def okrec (a b : ByteArray) : Bool := decide (0 < (a.size : Int)) && decide ((a.size : Int) ≤ 160) && decide ((b.size : Int) ≤ 250) && (plain12 a && !hasc 35 a) && (plain12 b && !hasc 35 b) && !hasc 64 a
set_option maxHeartbeats 1000000 in
theorem torec_12 (a b : ByteArray) (w : World) : Calls Try.prog 32 #[.agg #[.string a, .string b]] w fun e w' => e = .returned (.agg #[.string a, .string b]) ∧ Below w.heap.size w w' := by
  go_enter Try.func32, Try.ntmps32
  go_wp2_with fail
  exact bodyPost_ret (v := .agg #[.string a, .string b]) (by simp [results, Try.results32, go_sem]) rfl ⟨rfl, by (repeat (first | exact Below.refl _ _ | assumption | refine Below.setCell ?_ (by first | (simp; done) | (simp; omega)) _ | refine Below.alloc ?_ (by first | (simp; done) | (simp; omega)) _ | refine Below.drew ?_))⟩
set_option maxHeartbeats 1000000 in
theorem szrec_12 (a b : ByteArray) (ha : a.size ≤ maxLen) (hb : b.size ≤ maxLen) (w : World) : Calls Try.prog 30 #[.agg #[.string a, .string b], .int .i64 1048576] w fun e w' => e = .returned (.int .i64 (if a.size + b.size ≤ 1048576 then 1048576 - (a.size : Int) - (b.size : Int) else -1)) ∧ Below w.heap.size w w' := by
  have h1 : a.size ≤ 9223372036854775807 := by unfold maxLen at ha; omega
  have h2 : b.size ≤ 9223372036854775807 := by unfold maxLen at hb; omega
  have e1 : wrap64 (1048576 - (a.size : Int)) = 1048576 - (a.size : Int) := by unfold wrap64; omega
  have e1' : IntKind.i64.wrap (1048576 - (a.size : Int)) = 1048576 - (a.size : Int) := by rw [IntKind.wrap_i64]; omega
  clear ha hb
  by_cases k1 : a.size ≤ 1048576
  · have e2 : wrap64 (1048576 - (a.size : Int) - (b.size : Int)) = 1048576 - (a.size : Int) - (b.size : Int) := by unfold wrap64; omega
    have e2' : IntKind.i64.wrap (1048576 - (a.size : Int) - (b.size : Int)) = 1048576 - (a.size : Int) - (b.size : Int) := by rw [IntKind.wrap_i64]; omega
    have g1 : ¬ (1048576 - (a.size : Int) < 0) := by omega
    by_cases k2 : a.size + b.size ≤ 1048576
    · rw [if_pos k2]
      have g2 : ¬ (1048576 - (a.size : Int) - (b.size : Int) < 0) := by omega
      go_enter Try.func30, Try.ntmps30
      go_wp2_with fail
      go_ret
      exact ⟨rfl, by (repeat (first | exact Below.refl _ _ | assumption | refine Below.setCell ?_ (by first | (simp; done) | (simp; omega)) _ | refine Below.alloc ?_ (by first | (simp; done) | (simp; omega)) _ | refine Below.drew ?_))⟩
    · rw [if_neg k2]
      have g2 : 1048576 - (a.size : Int) - (b.size : Int) < 0 := by omega
      go_enter Try.func30, Try.ntmps30
      go_wp2_with fail
      go_ret
      exact ⟨rfl, by (repeat (first | exact Below.refl _ _ | assumption | refine Below.setCell ?_ (by first | (simp; done) | (simp; omega)) _ | refine Below.alloc ?_ (by first | (simp; done) | (simp; omega)) _ | refine Below.drew ?_))⟩
  · rw [if_neg (by omega)]
    have g1 : 1048576 - (a.size : Int) < 0 := by omega
    go_enter Try.func30, Try.ntmps30
    go_wp2_with fail
    go_ret
    exact ⟨rfl, by (repeat (first | exact Below.refl _ _ | assumption | refine Below.setCell ?_ (by first | (simp; done) | (simp; omega)) _ | refine Below.alloc ?_ (by first | (simp; done) | (simp; omega)) _ | refine Below.drew ?_))⟩
theorem str_ne_empty {a : ByteArray} : decide (0 < (a.size : Int)) = !(a.toList == []) := by
  rw [Lib.toList_data]
  cases h : a.data.toList with
  | nil =>
    have : a.size = 0 := by show a.data.size = 0; rw [← Array.length_toList, h]; rfl
    rw [this]; rfl
  | cons x l =>
    have : a.size = l.length + 1 := by show a.data.size = _; rw [← Array.length_toList, h]; rfl
    rw [this]
    simp
set_option maxRecDepth 8000 in
set_option maxHeartbeats 2000000 in
theorem irec_12 (a b : ByteArray) (ha : a.size ≤ maxLen) (hb : b.size ≤ maxLen) (w : World) : Calls Try.prog 33 #[.agg #[.string a, .string b]] w fun e w' => e = .returned (.bool (okrec a b)) ∧ Below w.heap.size w w' := by
  have H1 := Lib.hid (iplain_12 a ha)
  have H2 := Lib.hid (iplain_12 b hb)
  have H3 := Lib.hid (cont_12 a 64)
  obtain ⟨r, hr⟩ : ∃ r, r = okrec a b := ⟨_, rfl⟩
  rw [← hr]
  unfold okrec at hr
  have HR := Lib.hid hr
  clear hr ha hb
  generalize (plain12 a && !hasc 35 a) = t1 at H1 HR
  generalize (plain12 b && !hasc 35 b) = t2 at H2 HR
  generalize hasc 64 a = t3 at H3 HR
  by_cases g1 : 0 < (a.size : Int)
  · by_cases g2 : (a.size : Int) ≤ 160
    · by_cases g3 : (b.size : Int) ≤ 250
      · have HR2 : Hid (r = (t1 && t2 && !t3)) := Lib.hid (by rw [HR.out, decide_eq_true g1, decide_eq_true g2, decide_eq_true g3]; simp)
        clear HR
        go_enter Try.func33, Try.ntmps33
        go_wp2_with fail
        have hB : Below w.heap.size w (w.alloc (.cells #[.string a, .string b] 51)) := by (repeat (first | exact Below.refl _ _ | assumption | refine Below.setCell ?_ (by first | (simp; done) | (simp; omega)) _ | refine Below.alloc ?_ (by first | (simp; done) | (simp; omega)) _ | refine Below.drew ?_))
        have HB := Lib.hid hB
        clear hB
        refine (H1.out _).mono ?_
        rintro e w' ⟨rfl, hw⟩
        obtain rfl := hw.symm
        cases t1
        · go_wp2_with fail
          go_ret
          exact ⟨by rw [HR2.out]; rfl, HB.out⟩
        go_wp2_with fail
        refine (H2.out _).mono ?_
        rintro e w' ⟨rfl, hw⟩
        obtain rfl := hw.symm
        cases t2
        · go_wp2_with fail
          go_ret
          exact ⟨by rw [HR2.out]; rfl, HB.out⟩
        go_wp2_with fail
        refine (H3.out _).mono ?_
        rintro e w' ⟨rfl, hw⟩
        obtain rfl := hw.symm
        cases t3
        all_goals
          go_wp2_with fail
          go_ret
          exact ⟨by rw [HR2.out]; rfl, HB.out⟩
      · have E : Hid (r = false) := Lib.hid (by rw [HR.out]; simp; omega)
        clear HR H1 H2 H3
        go_enter Try.func33, Try.ntmps33
        go_wp2_with fail
        go_ret
        exact ⟨by rw [E.out]; rfl, by (repeat (first | exact Below.refl _ _ | assumption | refine Below.setCell ?_ (by first | (simp; done) | (simp; omega)) _ | refine Below.alloc ?_ (by first | (simp; done) | (simp; omega)) _ | refine Below.drew ?_))⟩
    · have E : Hid (r = false) := Lib.hid (by rw [HR.out]; simp; omega)
      clear HR H1 H2 H3
      go_enter Try.func33, Try.ntmps33
      go_wp2_with fail
      go_ret
      exact ⟨by rw [E.out]; rfl, by (repeat (first | exact Below.refl _ _ | assumption | refine Below.setCell ?_ (by first | (simp; done) | (simp; omega)) _ | refine Below.alloc ?_ (by first | (simp; done) | (simp; omega)) _ | refine Below.drew ?_))⟩
  · have E : Hid (r = false) := Lib.hid (by rw [HR.out]; simp; omega)
    clear HR H1 H2 H3
    go_enter Try.func33, Try.ntmps33
    go_wp2_with fail
    go_ret
    exact ⟨by rw [E.out]; rfl, by (repeat (first | exact Below.refl _ _ | assumption | refine Below.setCell ?_ (by first | (simp; done) | (simp; omega)) _ | refine Below.alloc ?_ (by first | (simp; done) | (simp; omega)) _ | refine Below.drew ?_))⟩
set_option maxRecDepth 8000 in
set_option maxHeartbeats 2000000 in
theorem lrec_12 (a b : ByteArray) (ha : a.size ≤ maxLen) (hb : b.size ≤ maxLen) (w : World) : Calls Try.prog 112 #[.agg #[.string a, .string b]] w fun e w' => e = .returned (.bool (okrec a b)) ∧ Below w.heap.size w w' := by
  have H1 := Lib.hid (lbytes_12 a 160 ha)
  have H2 := Lib.hid (lbytes_12 b 250 hb)
  have H3 := Lib.hid (lstands_12 a 64 ha)
  obtain ⟨r, hr⟩ : ∃ r, r = okrec a b := ⟨_, rfl⟩
  rw [← hr]
  unfold okrec at hr
  rw [str_ne_empty] at hr
  have hr2 : r = (!(a.toList == []) && (plain12 a && !hasc 35 a && decide ((a.size : Int) ≤ 160)) && !hasc 64 a && (plain12 b && !hasc 35 b && decide ((b.size : Int) ≤ 250))) := by
    rw [hr]
    cases (a.toList == []) <;> cases plain12 a <;> cases hasc 35 a <;> cases decide ((a.size : Int) ≤ 160) <;> cases hasc 64 a <;> cases plain12 b <;> cases hasc 35 b <;> cases decide ((b.size : Int) ≤ 250) <;> rfl
  have HR := Lib.hid hr2
  clear hr hr2 ha hb
  generalize (plain12 a && !hasc 35 a && decide ((a.size : Int) ≤ 160)) = t1 at H1 HR
  generalize (plain12 b && !hasc 35 b && decide ((b.size : Int) ≤ 250)) = t2 at H2 HR
  generalize hasc 64 a = t3 at H3 HR
  cases hE : (a.toList == [])
  · have HR2 : Hid (r = (t1 && !t3 && t2)) := Lib.hid (by rw [HR.out, hE]; simp)
    clear HR
    go_enter Try.func112, Try.ntmps112
    go_wp2_with fail
    have hB : Below w.heap.size w (w.alloc (.cells #[.string a, .string b] 51)) := by (repeat (first | exact Below.refl _ _ | assumption | refine Below.setCell ?_ (by first | (simp; done) | (simp; omega)) _ | refine Below.alloc ?_ (by first | (simp; done) | (simp; omega)) _ | refine Below.drew ?_))
    have HB := Lib.hid hB
    clear hB
    refine (H1.out _).mono ?_
    rintro e w' ⟨rfl, hw⟩
    obtain rfl := hw.symm
    cases t1
    · go_wp2_with fail
      go_ret
      exact ⟨by rw [HR2.out]; rfl, HB.out⟩
    go_wp2_with fail
    refine (H3.out _).mono ?_
    rintro e w' ⟨rfl, hw⟩
    obtain rfl := hw.symm
    cases t3
    · go_wp2_with fail
      refine (H2.out _).mono ?_
      rintro e w' ⟨rfl, hw⟩
      obtain rfl := hw.symm
      cases t2
      all_goals
        go_wp2_with fail
        go_ret
        exact ⟨by rw [HR2.out]; rfl, HB.out⟩
    · go_wp2_with fail
      go_ret
      exact ⟨by rw [HR2.out]; rfl, HB.out⟩
  · have E : Hid (r = false) := Lib.hid (by rw [HR.out, hE]; simp)
    clear HR H1 H2 H3
    go_enter Try.func112, Try.ntmps112
    go_wp2_with fail
    go_ret
    exact ⟨by rw [E.out]; rfl, by (repeat (first | exact Below.refl _ _ | assumption | refine Below.setCell ?_ (by first | (simp; done) | (simp; omega)) _ | refine Below.alloc ?_ (by first | (simp; done) | (simp; omega)) _ | refine Below.drew ?_))⟩
set_option maxHeartbeats 1000000 in
theorem srec_12 (a b : ByteArray) (ha : a.size ≤ maxLen) (hb : b.size ≤ maxLen) (w : World) : Calls Try.prog 31 #[.agg #[.string a, .string b]] w fun e w' => e = .returned (.bool (okrec a b)) ∧ Below w.heap.size w w' := by
  have H := Lib.hid (lrec_12 a b ha hb)
  go_enter Try.func31, Try.ntmps31
  go_wp2_with fail
  have K0 := kr12 w (.cells #[.string a, .string b] 51 (0, 0))
  generalize (World.alloc _ _ : World) = W0 at K0 ⊢
  refine (H.out _).mono ?_
  rintro e W1 ⟨rfl, hb⟩
  have hB := (K0.far hb rfl).2.2
  clear hb K0
  go_wp2_with fail
  go_ret
  exact ⟨rfl, hB⟩
set_option maxRecDepth 8000 in
set_option maxHeartbeats 2000000 in
theorem isrec_core (a b : ByteArray) (ha : a.size ≤ maxLen) (hb : b.size ≤ maxLen) (w : World) : Calls Try.prog 7 #[.agg #[.string a, .string b]] w fun e w' => e = .returned (.bool true) ∧ Below w.heap.size w w' := by
  have HZ := Lib.hid (szrec_12 a b ha hb)
  have HT := Lib.hid (torec_12 a b)
  have HS := Lib.hid (srec_12 a b ha hb)
  have HI := Lib.hid (irec_12 a b ha hb)
  generalize okrec a b = r at HS HI
  by_cases k2 : a.size + b.size ≤ 1048576
  · simp only [k2, if_true] at HZ
    obtain ⟨Q, hQ⟩ : ∃ Q : Int, Q = 1048576 - (a.size : Int) - (b.size : Int) := ⟨_, rfl⟩
    have g2 : ¬ (Q < 0) := by omega
    rw [← hQ] at HZ
    clear hQ k2 ha hb
    go_enter Try.func7, Try.ntmps7
    go_wp2_with fail
    have K0 := kr12 w (.cells #[.string a, .string b] 48 (0, 0))
    generalize (World.alloc _ _ : World) = W0 at K0 ⊢
    have AC := Lib.hid (fun (U : World) (h : KR 1 [(w.heap.size, .cells #[.string a, .string b] 48 (0, 0))] w U) j => h.cell (g := w.heap.size) (cs := #[.string a, .string b]) (t := 48) (List.mem_cons_self ..) j)
    refine (HZ.out _).mono ?_
    rintro e W2 ⟨rfl, hb⟩
    have K1 := K0.far hb rfl
    clear hb K0
    have c0 := AC.out _ K1
    go_wp2_with fail
    refine (HT.out _).mono ?_
    rintro e W3 ⟨rfl, hb⟩
    have K2 := K1.far hb rfl
    clear hb K1 c0
    go_wp2_with fail
    refine (HS.out _).mono ?_
    rintro e W4 ⟨rfl, hb⟩
    have K3 := K2.far hb rfl
    clear hb K2
    have c0 := AC.out _ K3
    go_wp2_with fail
    refine (HT.out _).mono ?_
    rintro e W5 ⟨rfl, hb⟩
    have K4 := K3.far hb rfl
    clear hb K3 c0
    go_wp2_with fail
    refine (HI.out _).mono ?_
    rintro e W6 ⟨rfl, hb⟩
    have K5 := K4.far hb rfl
    clear hb K4
    cases r
    all_goals
      go_wp2_with fail
      go_ret
      exact ⟨rfl, K5.2.2⟩
  · simp only [k2, if_false] at HZ
    clear k2 ha hb HT HS HI
    go_enter Try.func7, Try.ntmps7
    go_wp2_with fail
    have K0 := kr12 w (.cells #[.string a, .string b] 48 (0, 0))
    generalize (World.alloc _ _ : World) = W0 at K0 ⊢
    refine (HZ.out _).mono ?_
    rintro e W2 ⟨rfl, hb⟩
    have K1 := K0.far hb rfl
    clear hb K0
    go_wp2_with fail
    go_ret
    exact ⟨rfl, K1.2.2⟩
end Go.Proofs.Ytnkjamdpafpcpaa
