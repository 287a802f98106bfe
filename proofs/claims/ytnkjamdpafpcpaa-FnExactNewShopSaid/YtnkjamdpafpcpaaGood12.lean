/- CONTRACTS: whether a shop is valid, of the model and of the code; equal shops. -/
import Derived.Test.YtnkjamdpafpcpaaSc
import Derived.Test.YtnkjamdpafpcpaaSb
import Derived.Test.YtnkjamdpafpcpaaRk
import Derived.WalkKit
import Derived.ProofKit
import Derived.OpenShut
import Derived.Lib.Hide
import Derived.WalkSpells
import Derived.Below
import Derived.BigQuiet
import Derived.LoopN
namespace Go.Proofs.Ytnkjamdpafpcpaa
open Go.ChangeShapes Go.WideShapes Go.ChangeAt Go.RowKit
set_option linter.unusedVariables false
/-- Whether a shop is valid. -/
def oks (a0 a1 a2 a3 a4 a5 : Int) (b0 b1 b2 b3 b4 b5 : Int) (p c : Int) : Bool := (ok a0 && ok a1 && ok a2 && ok a3 && ok a4 && ok a5) && (ok b0 && ok b1 && ok b2 && ok b3 && ok b4 && ok b5) && (decide (0 ≤ p) && decide (p ≤ 1000)) && (decide (0 ≤ c) && decide (c ≤ 1000))
theorem kr12 (w : World) (o : Obj) : KR 1 [(w.heap.size, o)] w (w.alloc o) := ⟨by intro p hp; simp only [List.mem_cons, List.mem_nil_iff, or_false] at hp; subst hp; exact ⟨by simp, alloc_at rfl⟩, by simp, by (repeat (first | exact Below.refl _ _ | assumption | refine Below.setCell ?_ (by first | (simp; done) | (simp; omega)) _ | refine Below.alloc ?_ (by first | (simp; done) | (simp; omega)) _ | refine Below.drew ?_))⟩
theorem kr12_2 (w : World) (o u : Obj) : KR 2 [(w.heap.size, o), (w.heap.size + 1, u)] w ((w.alloc o).alloc u) := by
  refine ⟨?_, by simp, by (repeat (first | exact Below.refl _ _ | assumption | refine Below.setCell ?_ (by first | (simp; done) | (simp; omega)) _ | refine Below.alloc ?_ (by first | (simp; done) | (simp; omega)) _ | refine Below.drew ?_))⟩
  intro p hp
  simp only [List.mem_cons, List.mem_nil_iff, or_false] at hp
  rcases hp with rfl | rfl
  · exact ⟨by simp, alloc_past (alloc_at rfl)⟩
  · exact ⟨by simp, alloc_at (by simp)⟩
set_option maxRecDepth 8000 in
set_option maxHeartbeats 1000000 in
theorem sgood_any (a0 a1 a2 a3 a4 a5 : Int) (b0 b1 b2 b3 b4 b5 : Int) (p c : Int) (w : World) : Calls Try.prog 105 #[.agg #[.int .i64 a0, .int .i64 a1, .int .i64 a2, .int .i64 a3, .int .i64 a4, .int .i64 a5, .int .i64 b0, .int .i64 b1, .int .i64 b2, .int .i64 b3, .int .i64 b4, .int .i64 b5, .int .i64 p, .int .i64 c]] w fun e w' => e = .returned (.bool (oks a0 a1 a2 a3 a4 a5 b0 b1 b2 b3 b4 b5 p c)) ∧ Below w.heap.size w w' := by
  have H1 := Lib.hid (l2sheet_any a0 a1 a2 a3 a4 a5)
  have H2 := Lib.hid (l2sheet_any b0 b1 b2 b3 b4 b5)
  have H3 := Lib.hid (l1in_any p 0 1000)
  have H4 := Lib.hid (l1in_any c 0 1000)
  obtain ⟨r, hr⟩ : ∃ r, r = oks a0 a1 a2 a3 a4 a5 b0 b1 b2 b3 b4 b5 p c := ⟨_, rfl⟩
  rw [← hr]
  unfold oks at hr
  have HR := Lib.hid hr
  clear hr
  generalize (ok a0 && ok a1 && ok a2 && ok a3 && ok a4 && ok a5) = t1 at H1 HR
  generalize (ok b0 && ok b1 && ok b2 && ok b3 && ok b4 && ok b5) = t2 at H2 HR
  generalize (decide (0 ≤ p) && decide (p ≤ 1000)) = t3 at H3 HR
  generalize (decide (0 ≤ c) && decide (c ≤ 1000)) = t4 at H4 HR
  go_enter Try.func105, Try.ntmps105
  go_wp2_with fail
  have K0 := kr12 w (.cells #[.int .i64 a0, .int .i64 a1, .int .i64 a2, .int .i64 a3, .int .i64 a4, .int .i64 a5, .int .i64 b0, .int .i64 b1, .int .i64 b2, .int .i64 b3, .int .i64 b4, .int .i64 b5, .int .i64 p, .int .i64 c] 30 (0, 0))
  generalize (World.alloc _ _ : World) = W0 at K0 ⊢
  have AC := Lib.hid (fun (U : World) (h : KR 1 [(w.heap.size, .cells #[.int .i64 a0, .int .i64 a1, .int .i64 a2, .int .i64 a3, .int .i64 a4, .int .i64 a5, .int .i64 b0, .int .i64 b1, .int .i64 b2, .int .i64 b3, .int .i64 b4, .int .i64 b5, .int .i64 p, .int .i64 c] 30 (0, 0))] w U) j => cell_of_row U _ j _ _ _ (h.row (g := w.heap.size) (List.mem_cons_self ..)))
  refine (H1.out _).mono ?_
  rintro e W1 ⟨rfl, hb⟩
  have K1 := K0.far hb rfl
  clear hb K0
  cases t1
  · go_wp2_with fail
    go_ret
    exact ⟨by rw [HR.out]; rfl, K1.2.2⟩
  have c0 := AC.out _ K1
  go_wp2_with fail
  refine (H2.out _).mono ?_
  rintro e W2 ⟨rfl, hb⟩
  have K2 := K1.far hb rfl
  clear hb K1 c0
  cases t2
  · go_wp2_with fail
    go_ret
    exact ⟨by rw [HR.out]; rfl, K2.2.2⟩
  have c0 := AC.out _ K2
  go_wp2_with fail
  refine (H3.out _).mono ?_
  rintro e W3 ⟨rfl, hw⟩
  obtain rfl := hw.symm
  cases t3
  · go_wp2_with fail
    go_ret
    exact ⟨by rw [HR.out]; rfl, K2.2.2⟩
  go_wp2_with fail
  refine (H4.out _).mono ?_
  rintro e W4 ⟨rfl, hw⟩
  obtain rfl := hw.symm
  clear c0
  cases t4
  all_goals
    go_wp2_with fail
    go_ret
    exact ⟨by rw [HR.out]; rfl, K2.2.2⟩
set_option maxHeartbeats 1000000 in
theorem sshop_any (a0 a1 a2 a3 a4 a5 : Int) (b0 b1 b2 b3 b4 b5 : Int) (p c : Int) (w : World) : Calls Try.prog 18 #[.agg #[.int .i64 a0, .int .i64 a1, .int .i64 a2, .int .i64 a3, .int .i64 a4, .int .i64 a5, .int .i64 b0, .int .i64 b1, .int .i64 b2, .int .i64 b3, .int .i64 b4, .int .i64 b5, .int .i64 p, .int .i64 c]] w fun e w' => e = .returned (.bool (oks a0 a1 a2 a3 a4 a5 b0 b1 b2 b3 b4 b5 p c)) ∧ Below w.heap.size w w' := by
  have H := Lib.hid (sgood_any a0 a1 a2 a3 a4 a5 b0 b1 b2 b3 b4 b5 p c)
  go_enter Try.func18, Try.ntmps18
  go_wp2_with fail
  have K0 := kr12 w (.cells #[.int .i64 a0, .int .i64 a1, .int .i64 a2, .int .i64 a3, .int .i64 a4, .int .i64 a5, .int .i64 b0, .int .i64 b1, .int .i64 b2, .int .i64 b3, .int .i64 b4, .int .i64 b5, .int .i64 p, .int .i64 c] 30 (0, 0))
  generalize (World.alloc _ _ : World) = W0 at K0 ⊢
  refine (H.out _).mono ?_
  rintro e W1 ⟨rfl, hb⟩
  have hB := (K0.far hb rfl).2.2
  clear hb K0
  go_wp2_with fail
  go_ret
  exact ⟨rfl, hB⟩
set_option maxRecDepth 8000 in
set_option maxHeartbeats 2000000 in
theorem ishop_any (a0 a1 a2 a3 a4 a5 : Int) (b0 b1 b2 b3 b4 b5 : Int) (p c : Int) (w : World) : Calls Try.prog 20 #[.agg #[.int .i64 a0, .int .i64 a1, .int .i64 a2, .int .i64 a3, .int .i64 a4, .int .i64 a5, .int .i64 b0, .int .i64 b1, .int .i64 b2, .int .i64 b3, .int .i64 b4, .int .i64 b5, .int .i64 p, .int .i64 c]] w fun e w' => e = .returned (.bool (oks a0 a1 a2 a3 a4 a5 b0 b1 b2 b3 b4 b5 p c)) ∧ Below w.heap.size w w' := by
  have H1 := Lib.hid (sheet_any a0 a1 a2 a3 a4 a5)
  have H2 := Lib.hid (sheet_any b0 b1 b2 b3 b4 b5)
  obtain ⟨r, hr⟩ : ∃ r, r = oks a0 a1 a2 a3 a4 a5 b0 b1 b2 b3 b4 b5 p c := ⟨_, rfl⟩
  rw [← hr]
  unfold oks at hr
  have HR := Lib.hid hr
  clear hr
  generalize (ok a0 && ok a1 && ok a2 && ok a3 && ok a4 && ok a5) = t1 at H1 HR
  generalize (ok b0 && ok b1 && ok b2 && ok b3 && ok b4 && ok b5) = t2 at H2 HR
  go_enter Try.func20, Try.ntmps20
  go_wp2_with fail
  have K0 := kr12 w (.cells #[.int .i64 a0, .int .i64 a1, .int .i64 a2, .int .i64 a3, .int .i64 a4, .int .i64 a5, .int .i64 b0, .int .i64 b1, .int .i64 b2, .int .i64 b3, .int .i64 b4, .int .i64 b5, .int .i64 p, .int .i64 c] 30 (0, 0))
  generalize (World.alloc _ _ : World) = W0 at K0 ⊢
  have AC := Lib.hid (fun (U : World) (h : KR 1 [(w.heap.size, .cells #[.int .i64 a0, .int .i64 a1, .int .i64 a2, .int .i64 a3, .int .i64 a4, .int .i64 a5, .int .i64 b0, .int .i64 b1, .int .i64 b2, .int .i64 b3, .int .i64 b4, .int .i64 b5, .int .i64 p, .int .i64 c] 30 (0, 0))] w U) j => cell_of_row U _ j _ _ _ (h.row (g := w.heap.size) (List.mem_cons_self ..)))
  refine (H1.out _).mono ?_
  rintro e W1 ⟨rfl, hb⟩
  have K1 := K0.far hb rfl
  clear hb K0
  cases t1
  · go_wp2_with fail
    go_ret
    exact ⟨by rw [HR.out]; rfl, K1.2.2⟩
  have c0 := AC.out _ K1
  go_wp2_with fail
  refine (H2.out _).mono ?_
  rintro e W2 ⟨rfl, hb⟩
  have K2 := K1.far hb rfl
  clear hb K1 c0
  cases t2
  · go_wp2_with fail
    go_ret
    exact ⟨by rw [HR.out]; rfl, K2.2.2⟩
  have c0 := AC.out _ K2
  by_cases g1 : 0 ≤ p
  · by_cases g2 : p ≤ 1000
    · by_cases g3 : 0 ≤ c
      · by_cases g4 : c ≤ 1000
        all_goals
          go_wp2_with fail
          go_ret
          exact ⟨by rw [HR.out]; first | (simp [g1, g2, g3, g4]; done) | (simp; omega), K2.2.2⟩
      · go_wp2_with fail
        go_ret
        exact ⟨by rw [HR.out]; (simp; omega), K2.2.2⟩
    · go_wp2_with fail
      go_ret
      exact ⟨by rw [HR.out]; (simp; omega), K2.2.2⟩
  · go_wp2_with fail
    go_ret
    exact ⟨by rw [HR.out]; (simp; omega), K2.2.2⟩
set_option maxRecDepth 8000 in
set_option maxHeartbeats 2000000 in
theorem eqshop_same (a0 a1 a2 a3 a4 a5 : Int) (b0 b1 b2 b3 b4 b5 : Int) (p c : Int) (w : World) : Calls Try.prog 24 #[.agg #[.int .i64 a0, .int .i64 a1, .int .i64 a2, .int .i64 a3, .int .i64 a4, .int .i64 a5, .int .i64 b0, .int .i64 b1, .int .i64 b2, .int .i64 b3, .int .i64 b4, .int .i64 b5, .int .i64 p, .int .i64 c], .agg #[.int .i64 a0, .int .i64 a1, .int .i64 a2, .int .i64 a3, .int .i64 a4, .int .i64 a5, .int .i64 b0, .int .i64 b1, .int .i64 b2, .int .i64 b3, .int .i64 b4, .int .i64 b5, .int .i64 p, .int .i64 c]] w fun e w' => e = .returned (.bool true) ∧ Below w.heap.size w w' := by
  have H1 := Lib.hid (eq_same a0 a1 a2 a3 a4 a5)
  have H2 := Lib.hid (eq_same b0 b1 b2 b3 b4 b5)
  go_enter Try.func24, Try.ntmps24
  go_wp2_with fail
  have K0 := kr12_2 w (.cells #[.int .i64 a0, .int .i64 a1, .int .i64 a2, .int .i64 a3, .int .i64 a4, .int .i64 a5, .int .i64 b0, .int .i64 b1, .int .i64 b2, .int .i64 b3, .int .i64 b4, .int .i64 b5, .int .i64 p, .int .i64 c] 30 (0, 0)) (.cells #[.int .i64 a0, .int .i64 a1, .int .i64 a2, .int .i64 a3, .int .i64 a4, .int .i64 a5, .int .i64 b0, .int .i64 b1, .int .i64 b2, .int .i64 b3, .int .i64 b4, .int .i64 b5, .int .i64 p, .int .i64 c] 30 (0, 0))
  generalize (World.alloc _ _ : World) = W0 at K0 ⊢
  have AC := Lib.hid (fun (U : World) (h : KR 2 [(w.heap.size, .cells #[.int .i64 a0, .int .i64 a1, .int .i64 a2, .int .i64 a3, .int .i64 a4, .int .i64 a5, .int .i64 b0, .int .i64 b1, .int .i64 b2, .int .i64 b3, .int .i64 b4, .int .i64 b5, .int .i64 p, .int .i64 c] 30 (0, 0)), (w.heap.size + 1, .cells #[.int .i64 a0, .int .i64 a1, .int .i64 a2, .int .i64 a3, .int .i64 a4, .int .i64 a5, .int .i64 b0, .int .i64 b1, .int .i64 b2, .int .i64 b3, .int .i64 b4, .int .i64 b5, .int .i64 p, .int .i64 c] 30 (0, 0))] w U) j => And.intro (h.cell (g := w.heap.size) (cs := #[.int .i64 a0, .int .i64 a1, .int .i64 a2, .int .i64 a3, .int .i64 a4, .int .i64 a5, .int .i64 b0, .int .i64 b1, .int .i64 b2, .int .i64 b3, .int .i64 b4, .int .i64 b5, .int .i64 p, .int .i64 c]) (t := 30) (List.mem_cons_self ..) j) (h.cell (g := w.heap.size + 1) (cs := #[.int .i64 a0, .int .i64 a1, .int .i64 a2, .int .i64 a3, .int .i64 a4, .int .i64 a5, .int .i64 b0, .int .i64 b1, .int .i64 b2, .int .i64 b3, .int .i64 b4, .int .i64 b5, .int .i64 p, .int .i64 c]) (t := 30) (List.mem_cons_of_mem _ (List.mem_cons_self ..)) j))
  refine (H1.out _).mono ?_
  rintro e W1 ⟨rfl, hb⟩
  have K1 := K0.far hb rfl
  clear hb K0
  have c0 := fun j => (AC.out _ K1 j).1
  have c1 := fun j => (AC.out _ K1 j).2
  go_wp2_with fail
  refine (H2.out _).mono ?_
  rintro e W2 ⟨rfl, hb⟩
  have K2 := K1.far hb rfl
  clear hb K1 c0 c1
  have c0 := fun j => (AC.out _ K2 j).1
  have c1 := fun j => (AC.out _ K2 j).2
  go_wp2_with fail
  go_ret
  exact ⟨rfl, K2.2.2⟩
end Go.Proofs.Ytnkjamdpafpcpaa
