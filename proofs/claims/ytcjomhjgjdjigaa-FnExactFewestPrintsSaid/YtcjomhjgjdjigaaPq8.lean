/- CONTRACTS: a print's copy; whether a print is valid, of the model and of the code. -/
import Derived.Test.YtcjomhjgjdjigaaVp8
import Derived.Test.YtcjomhjgjdjigaaSc
import Derived.Test.YtcjomhjgjdjigaaSb
import Derived.Test.YtcjomhjgjdjigaaSd
import Derived.WalkKit
import Derived.ProofKit
import Derived.OpenShut
import Derived.Lib.Hide
import Derived.WalkSpells
import Derived.Below
import Derived.BigQuiet
import Derived.LoopN
namespace Go.Proofs.Ytcjomhjgjdjigaa
open Go.ChangeShapes Go.WideShapes Go.ChangeAt Go.RowKit
set_option linter.unusedVariables false
theorem n9_16 {W : World} {g : Nat} {T : TypeId} {v0 v1 v2 v3 v4 v5 v6 v7 v8 : Value} (u1 u2 u3 u4 u5 u6 : Value) (h : W.heap[g]? = some (.cells #[v0, v1, v2, v3, v4, v5, v6, v7, v8] T (0, 0))) : ((((((W.setCell ⟨g, 1, none⟩ u1).setCell ⟨g, 2, none⟩ u2).setCell ⟨g, 3, none⟩ u3).setCell ⟨g, 4, none⟩ u4).setCell ⟨g, 5, none⟩ u5).setCell ⟨g, 6, none⟩ u6).heap[g]? = some (.cells #[v0, u1, u2, u3, u4, u5, u6, v7, v8] T (0, 0)) := by
  have h1 := heap_setCell_same W g 1 _ _ u1 h
  have h2 := heap_setCell_same _ g 2 _ _ u2 h1
  have h3 := heap_setCell_same _ g 3 _ _ u3 h2
  have h4 := heap_setCell_same _ g 4 _ _ u4 h3
  have h5 := heap_setCell_same _ g 5 _ _ u5 h4
  have h6 := heap_setCell_same _ g 6 _ _ u6 h5
  exact h6
theorem bel6 {B g : Nat} {w W : World} (v1 v2 v3 v4 v5 v6 : Value) (h : Below B w W) (hB : B ≤ g) : Below B w ((((((W.setCell ⟨g, 1, none⟩ v1).setCell ⟨g, 2, none⟩ v2).setCell ⟨g, 3, none⟩ v3).setCell ⟨g, 4, none⟩ v4).setCell ⟨g, 5, none⟩ v5).setCell ⟨g, 6, none⟩ v6) := (((((h.setCell hB _).setCell hB _).setCell hB _).setCell hB _).setCell hB _).setCell hB _
theorem bel11 {B g h : Nat} {w W : World} (u7 u8 v0 v1 v2 v3 v4 v5 v6 v7 v8 : Value) (hb : Below B w W) (hB : B ≤ g) (hC : B ≤ h) : Below B w (((((((((((W.setCell ⟨h, 7, none⟩ u7).setCell ⟨h, 8, none⟩ u8).setCell ⟨g, 0, none⟩ v0).setCell ⟨g, 1, none⟩ v1).setCell ⟨g, 2, none⟩ v2).setCell ⟨g, 3, none⟩ v3).setCell ⟨g, 4, none⟩ v4).setCell ⟨g, 5, none⟩ v5).setCell ⟨g, 6, none⟩ v6).setCell ⟨g, 7, none⟩ v7).setCell ⟨g, 8, none⟩ v8) := ((((((((((hb.setCell hC _).setCell hC _).setCell hB _).setCell hB _).setCell hB _).setCell hB _).setCell hB _).setCell hB _).setCell hB _).setCell hB _).setCell hB _
set_option maxHeartbeats 1000000 in
theorem to_print (k : Int) (a0 a1 a2 a3 a4 a5 : Int) (x y : Int) (w : World) : Calls Try.prog 22 #[.agg #[.int .i64 k, .int .i64 a0, .int .i64 a1, .int .i64 a2, .int .i64 a3, .int .i64 a4, .int .i64 a5, .int .i64 x, .int .i64 y]] w fun e w' => e = .returned (.agg #[.int .i64 k, .int .i64 a0, .int .i64 a1, .int .i64 a2, .int .i64 a3, .int .i64 a4, .int .i64 a5, .int .i64 x, .int .i64 y]) ∧ Below w.heap.size w w' := by
  have HS := Lib.hid (to_sheet a0 a1 a2 a3 a4 a5)
  have HA := Lib.hid (a2_any x y)
  go_enter Try.func22, Try.ntmps22
  go_wp2_with fail
  generalize hW : (World.alloc _ _ : World) = W1
  have r0 : W1.heap[w.heap.size]? = some (.cells #[.int .i64 k, .int .i64 a0, .int .i64 a1, .int .i64 a2, .int .i64 a3, .int .i64 a4, .int .i64 a5, .int .i64 x, .int .i64 y] 34 (0, 0)) := by rw [← hW]; exact alloc_past (alloc_past (alloc_at rfl))
  have r1 : W1.heap[w.heap.size + 1]? = some (.cells #[.int .i64 0, .int .i64 0, .int .i64 0, .int .i64 0, .int .i64 0, .int .i64 0, .int .i64 0, .int .i64 0, .int .i64 0] 38 (0, 0)) := by rw [← hW]; exact alloc_past (alloc_at (by simp))
  have r2 : W1.heap[w.heap.size + 1 + 1]? = some (.cells #[.int .i64 k, .int .i64 0, .int .i64 0, .int .i64 0, .int .i64 0, .int .i64 0, .int .i64 0, .int .i64 0, .int .i64 0] 38 (0, 0)) := by rw [← hW]; exact alloc_at (by simp)
  have hB : Below w.heap.size w W1 := by rw [← hW]; (repeat (first | exact Below.refl _ _ | assumption | refine Below.setCell ?_ (by first | (simp; done) | (simp; omega)) _ | refine Below.alloc ?_ (by first | (simp; done) | (simp; omega)) _ | refine Below.drew ?_))
  have hz : w.heap.size + 1 + 1 < W1.heap.size := by rw [← hW]; simp
  clear hW
  have a_c := fun j => cell_of_row W1 _ j _ _ _ r0
  go_wp2_with fail
  refine (HS.out _).mono ?_
  rintro e W2 ⟨rfl, hb⟩
  have r0 := rowk r0 hb rfl
  have r1 := rowk r1 hb rfl
  have r2 := rowk r2 hb rfl
  have hB := below_of hB hb (by omega)
  have hz : w.heap.size + 1 + 1 < W2.heap.size := Nat.lt_of_lt_of_le hz hb.size
  clear hb a_c
  rename_i r0' r1' r2' hB' hz'
  clear r0' r1' r2' hB' hz'
  have b_c := fun j => cell_of_row W2 _ j _ _ _ r2
  have b_f := fun j => frozen_of_row W2 _ j _ _ r2
  have a_c := fun j => cell_of_row W2 _ j _ _ _ r0
  have R0 := Lib.hid r0
  have R1 := Lib.hid r1
  have R2 := Lib.hid r2
  have HB := Lib.hid hB
  clear r0 r1 r2 hB
  go_wp2_with fail
  clear b_c b_f a_c
  generalize hW : (World.setCell _ _ _ : World) = V
  have r2 : V.heap[w.heap.size + 1 + 1]? = some (.cells #[.int .i64 k, .int .i64 a0, .int .i64 a1, .int .i64 a2, .int .i64 a3, .int .i64 a4, .int .i64 a5, .int .i64 0, .int .i64 0] 38 (0, 0)) := by rw [← hW]; exact n9_16 _ _ _ _ _ _ R2.out
  have r1 : V.heap[w.heap.size + 1]? = some (.cells #[.int .i64 0, .int .i64 0, .int .i64 0, .int .i64 0, .int .i64 0, .int .i64 0, .int .i64 0, .int .i64 0, .int .i64 0] 38 (0, 0)) := by
    have hg : w.heap.size + 1 ≠ w.heap.size + 1 + 1 := by omega
    rw [← hW, Below.heap_setCell _ _ _ _ hg, Below.heap_setCell _ _ _ _ hg, Below.heap_setCell _ _ _ _ hg, Below.heap_setCell _ _ _ _ hg, Below.heap_setCell _ _ _ _ hg, Below.heap_setCell _ _ _ _ hg]
    exact R1.out
  have hB : Below w.heap.size w V := by
    rw [← hW]
    exact bel6 _ _ _ _ _ _ HB.out (by omega)
  have hz : w.heap.size + 1 + 1 < V.heap.size := by rw [← hW]; simpa using hz
  clear hW R0 R1 R2 HB
  refine (HA.out _).mono ?_
  rintro e W3 ⟨rfl, hb⟩
  have r1 := rowk r1 hb rfl
  have r2 := rowk r2 hb rfl
  have hB := below_of hB hb (by omega)
  clear hb
  rename_i r1' r2' hB'
  clear r1' r2' hB'
  have b_c := fun j => cell_of_row W3 _ j _ _ _ r2
  have b_f := fun j => frozen_of_row W3 _ j _ _ r2
  have a_c := fun j => cell_of_row W3 _ j _ _ _ r1
  have a_f := fun j => frozen_of_row W3 _ j _ _ r1
  have HB := Lib.hid hB
  clear r1 r2 hB hz
  go_wp2_with fail
  refine bodyPost_ret (v := .agg #[.int .i64 k, .int .i64 a0, .int .i64 a1, .int .i64 a2, .int .i64 a3, .int .i64 a4, .int .i64 a5, .int .i64 x, .int .i64 y]) (by simp [results, Try.results22, go_sem, a_c]) rfl ⟨rfl, ?_⟩
  exact bel11 _ _ _ _ _ _ _ _ _ _ _ HB.out (by omega) (by omega)
/-- Whether a print is valid. -/
def okr (k : Int) (a0 a1 a2 a3 a4 a5 : Int) (x y : Int) : Bool := (decide (1 ≤ k) && decide (k ≤ 4)) && (ok a0 && ok a1 && ok a2 && ok a3 && ok a4 && ok a5) && okc x y
set_option maxHeartbeats 1000000 in
theorem spri_any (k : Int) (a0 a1 a2 a3 a4 a5 : Int) (x y : Int) (w : World) : Calls Try.prog 67 #[.agg #[.int .i64 k, .int .i64 a0, .int .i64 a1, .int .i64 a2, .int .i64 a3, .int .i64 a4, .int .i64 a5, .int .i64 x, .int .i64 y]] w fun e w' => e = .returned (.bool (okr k a0 a1 a2 a3 a4 a5 x y)) ∧ Below w.heap.size w w' := by
  have H1 := Lib.hid (l1in_any k 1 4)
  have H2 := Lib.hid (l2sheet_any a0 a1 a2 a3 a4 a5)
  have H3 := Lib.hid (l2cell_any x y)
  obtain ⟨r, hr⟩ : ∃ r, r = okr k a0 a1 a2 a3 a4 a5 x y := ⟨_, rfl⟩
  rw [← hr]
  unfold okr at hr
  have HR := Lib.hid hr
  clear hr
  generalize (decide (1 ≤ k) && decide (k ≤ 4)) = b1 at H1 HR
  generalize (ok a0 && ok a1 && ok a2 && ok a3 && ok a4 && ok a5) = b2 at H2 HR
  generalize okc x y = b3 at H3 HR
  go_enter Try.func67, Try.ntmps67
  go_wp2_with fail
  generalize hW : (World.alloc _ _ : World) = W0
  have K0 : KR 1 [(w.heap.size, .cells #[.int .i64 k, .int .i64 a0, .int .i64 a1, .int .i64 a2, .int .i64 a3, .int .i64 a4, .int .i64 a5, .int .i64 x, .int .i64 y] 38 (0, 0))] w W0 := by
    rw [← hW]
    exact ⟨by intro p hp; simp only [List.mem_cons, List.mem_nil_iff, or_false] at hp; subst hp; exact ⟨by simp, alloc_at rfl⟩, by simp, by (repeat (first | exact Below.refl _ _ | assumption | refine Below.setCell ?_ (by first | (simp; done) | (simp; omega)) _ | refine Below.alloc ?_ (by first | (simp; done) | (simp; omega)) _ | refine Below.drew ?_))⟩
  clear hW
  have a_c := fun (U : World) (h : KR 1 [(w.heap.size, .cells #[.int .i64 k, .int .i64 a0, .int .i64 a1, .int .i64 a2, .int .i64 a3, .int .i64 a4, .int .i64 a5, .int .i64 x, .int .i64 y] 38 (0, 0))] w U) j => cell_of_row U _ j _ _ _ (h.row (g := w.heap.size) (List.mem_cons_self ..))
  have c0 := a_c _ K0
  have AC := Lib.hid a_c
  clear a_c
  go_wp2_with fail
  refine (H1.out _).mono ?_
  rintro e W1 ⟨rfl, hw⟩
  subst hw
  cases b1
  · go_wp2_with fail
    go_ret
    exact ⟨by rw [HR.out]; rfl, K0.2.2⟩
  go_wp2_with fail
  refine (H2.out _).mono ?_
  rintro e W2 ⟨rfl, hb⟩
  have K1 := K0.far hb rfl
  clear hb K0 c0
  cases b2
  · go_wp2_with fail
    go_ret
    exact ⟨by rw [HR.out]; rfl, K1.2.2⟩
  have c0 := AC.out _ K1
  go_wp2_with fail
  refine (H3.out _).mono ?_
  rintro e W3 ⟨rfl, hb⟩
  have K2 := K1.far hb rfl
  clear hb K1 c0
  cases b3
  all_goals
    go_wp2_with fail
    go_ret
    exact ⟨by rw [HR.out]; rfl, K2.2.2⟩
set_option maxHeartbeats 1000000 in
theorem spri_is (k : Int) (a0 a1 a2 a3 a4 a5 : Int) (x y : Int) (w : World) : Calls Try.prog 21 #[.agg #[.int .i64 k, .int .i64 a0, .int .i64 a1, .int .i64 a2, .int .i64 a3, .int .i64 a4, .int .i64 a5, .int .i64 x, .int .i64 y]] w fun e w' => e = .returned (.bool (okr k a0 a1 a2 a3 a4 a5 x y)) ∧ Below w.heap.size w w' := by
  have H := Lib.hid (spri_any k a0 a1 a2 a3 a4 a5 x y)
  go_enter Try.func21, Try.ntmps21
  go_wp2_with fail
  refine (H.out _).mono ?_
  rintro e W1 ⟨rfl, hb⟩
  have hB := below_of (B := w.heap.size) (w := w) (by (repeat (first | exact Below.refl _ _ | assumption | refine Below.setCell ?_ (by first | (simp; done) | (simp; omega)) _ | refine Below.alloc ?_ (by first | (simp; done) | (simp; omega)) _ | refine Below.drew ?_))) hb (by simp)
  clear hb
  go_wp2_with fail
  go_ret
  exact ⟨rfl, hB⟩
theorem ink_pr (k : Int) (hk : k ≠ 0) : (decide (0 ≤ k) && decide (k ≤ 4)) = (decide (1 ≤ k) && decide (k ≤ 4)) := by
  have : (0 ≤ k) = (1 ≤ k) := by
    apply propext
    omega
  simp only [this]
set_option maxRecDepth 8000 in
set_option maxHeartbeats 1000000 in
theorem ipri_any (k : Int) (a0 a1 a2 a3 a4 a5 : Int) (x y : Int) (hx : (Lit.int .i64 x).wf = true) (hy : (Lit.int .i64 y).wf = true) (w : World) : Calls Try.prog 23 #[.agg #[.int .i64 k, .int .i64 a0, .int .i64 a1, .int .i64 a2, .int .i64 a3, .int .i64 a4, .int .i64 a5, .int .i64 x, .int .i64 y]] w fun e w' => e = .returned (.bool (okr k a0 a1 a2 a3 a4 a5 x y)) ∧ Below w.heap.size w w' := by
  have H1 := Lib.hid (ink_any k)
  have H2 := Lib.hid (sheet_any a0 a1 a2 a3 a4 a5)
  have H3 := Lib.hid (iscell_any x y hx hy)
  obtain ⟨r, hr⟩ : ∃ r, r = okr k a0 a1 a2 a3 a4 a5 x y := ⟨_, rfl⟩
  rw [← hr]
  unfold okr at hr
  clear hx hy
  by_cases hk : k = 0
  · have hr : r = false := by rw [hr, hk]; simp
    subst hr
    have hk2 : (k != 0) = false := by simp [hk]
    clear hk H1 H2 H3 hr
    go_enter Try.func23, Try.ntmps23
    go_wp2_with fail
    go_ret
    exact ⟨rfl, by (repeat (first | exact Below.refl _ _ | assumption | refine Below.setCell ?_ (by first | (simp; done) | (simp; omega)) _ | refine Below.alloc ?_ (by first | (simp; done) | (simp; omega)) _ | refine Below.drew ?_))⟩
  rw [ink_pr k hk] at H1
  have hk2 : (k != 0) = true := by simpa using hk
  have HR := Lib.hid hr
  clear hr
  generalize (decide (1 ≤ k) && decide (k ≤ 4)) = b1 at H1 HR
  generalize (ok a0 && ok a1 && ok a2 && ok a3 && ok a4 && ok a5) = b2 at H2 HR
  generalize okc x y = b3 at H3 HR
  go_enter Try.func23, Try.ntmps23
  go_wp2_with fail
  generalize hW : (World.alloc _ _ : World) = W0
  have K0 : KR 1 [(w.heap.size, .cells #[.int .i64 k, .int .i64 a0, .int .i64 a1, .int .i64 a2, .int .i64 a3, .int .i64 a4, .int .i64 a5, .int .i64 x, .int .i64 y] 38 (0, 0))] w W0 := by
    rw [← hW]
    exact ⟨by intro p hp; simp only [List.mem_cons, List.mem_nil_iff, or_false] at hp; subst hp; exact ⟨by simp, alloc_at rfl⟩, by simp, by (repeat (first | exact Below.refl _ _ | assumption | refine Below.setCell ?_ (by first | (simp; done) | (simp; omega)) _ | refine Below.alloc ?_ (by first | (simp; done) | (simp; omega)) _ | refine Below.drew ?_))⟩
  clear hW
  have a_c := fun (U : World) (h : KR 1 [(w.heap.size, .cells #[.int .i64 k, .int .i64 a0, .int .i64 a1, .int .i64 a2, .int .i64 a3, .int .i64 a4, .int .i64 a5, .int .i64 x, .int .i64 y] 38 (0, 0))] w U) j => cell_of_row U _ j _ _ _ (h.row (g := w.heap.size) (List.mem_cons_self ..))
  have c0 := a_c _ K0
  have AC := Lib.hid a_c
  clear a_c
  go_wp2_with fail
  refine (H1.out _).mono ?_
  rintro e W1 ⟨rfl, hw⟩
  subst hw
  cases b1
  · go_wp2_with fail
    go_ret
    exact ⟨by rw [HR.out]; rfl, K0.2.2⟩
  go_wp2_with fail
  refine (H2.out _).mono ?_
  rintro e W2 ⟨rfl, hb⟩
  have K1 := K0.far hb rfl
  clear hb K0 c0
  cases b2
  · go_wp2_with fail
    go_ret
    exact ⟨by rw [HR.out]; rfl, K1.2.2⟩
  have c0 := AC.out _ K1
  go_wp2_with fail
  refine (H3.out _).mono ?_
  rintro e W3 ⟨rfl, hb⟩
  have K2 := K1.far hb rfl
  clear hb K1 c0
  cases b3
  all_goals
    go_wp2_with fail
    go_ret
    exact ⟨by rw [HR.out]; rfl, K2.2.2⟩
end Go.Proofs.Ytcjomhjgjdjigaa
