/- CONTRACTS: turned cells and turned sheets in the code. -/
import Derived.Test.YtnkjamdpafpcpaaTr
import Derived.WalkKit
import Derived.ProofKit
import Derived.OpenShut
import Derived.Lib.Hide
import Derived.WalkSpells
import Derived.Below
import Derived.BigQuiet
import Derived.LoopN
namespace Go.Proofs.Ytnkjamdpafpcpaa
open Go.ChangeShapes Go.WideShapes Go.ChangeAt Go.RowKit
set_option linter.unusedVariables false
theorem set2r {k : Nat} {W : World} {v0 v1 : Value} {t : TypeId} (u0 u1 : Value) (h : W.heap[k]? = some (Obj.cells #[v0, v1] t (0, 0))) : ((W.setCell ⟨k, 0, none⟩ u0).setCell ⟨k, 1, none⟩ u1).heap[k]? = some (Obj.cells #[u0, u1] t (0, 0)) := by
  have e0 : (W.setCell ⟨k, 0, none⟩ u0).heap[k]? = some (Obj.cells #[u0, v1] t (0, 0)) := heap_setCell_same W k 0 _ t u0 h
  exact heap_setCell_same _ k 1 _ t u1 e0
theorem set2o {k g : Nat} {W : World} {o : Obj} (u0 u1 : Value) (hne : g ≠ k) (h : W.heap[g]? = some o) : ((W.setCell ⟨k, 0, none⟩ u0).setCell ⟨k, 1, none⟩ u1).heap[g]? = some o := by
  rw [Below.heap_setCell _ _ _ _ hne, Below.heap_setCell _ _ _ _ hne]
  exact h
theorem below2 {B g : Nat} {a w : World} {v0 v1 : Value} (h : Below B a w) (hB : B ≤ g) : Below B a ((w.setCell ⟨g, 0, none⟩ v0).setCell ⟨g, 1, none⟩ v1) := (h.setCell hB _).setCell hB _
/-- A cell u, v in the first block, the answer's block 0, 0. -/
def Tc (w : World) (u v : Int) (W : World) : Prop :=
  Below w.heap.size w W ∧ W.heap[w.heap.size]? = some (.cells #[.int .i64 u, .int .i64 v] 69 (0, 0)) ∧ W.heap[w.heap.size + 1]? = some (.cells #[.int .i64 0, .int .i64 0] 69 (0, 0)) ∧ w.heap.size + 2 ≤ W.heap.size
theorem Tc.start (w : World) (u v : Int) : Tc w u v ((w.alloc (.cells #[.int .i64 u, .int .i64 v] 69)).alloc (.cells #[.int .i64 0, .int .i64 0] 69)) := ⟨by (repeat (first | exact Below.refl _ _ | assumption | refine Below.setCell ?_ (by first | (simp; done) | (simp; omega)) _ | refine Below.alloc ?_ (by first | (simp; done) | (simp; omega)) _ | refine Below.drew ?_)), alloc_past (alloc_at rfl), alloc_at (by simp), by simp⟩
theorem Tc.put {w W : World} {u v : Int} (u2 v2 : Int) (h : Tc w u v W) : Tc w u2 v2 ((W.setCell ⟨w.heap.size, 0, none⟩ (.int .i64 u2)).setCell ⟨w.heap.size, 1, none⟩ (.int .i64 v2)) := by
  obtain ⟨h1, h2, h3, h4⟩ := h
  exact ⟨below2 h1 (Nat.le_refl _), set2r _ _ h2, set2o _ _ (by omega) h3, by simpa using h4⟩
theorem Tc.put0 {w W : World} {u v : Int} (u2 : Int) (h : Tc w u v W) : Tc w u2 v (W.setCell ⟨w.heap.size, 0, none⟩ (.int .i64 u2)) := by
  obtain ⟨h1, h2, h3, h4⟩ := h
  refine ⟨h1.setCell (Nat.le_refl _) _, heap_setCell_same _ _ 0 _ _ _ h2, ?_, by simpa using h4⟩
  rw [Below.heap_setCell _ _ _ _ (show w.heap.size + 1 ≠ w.heap.size by omega)]
  exact h3
/-- Where a turn takes the cell x, y. -/
def dst (k x y : Nat) : Nat × Nat := if k = 0 then (x, y) else if k = 1 then (5 - y, x) else if k = 2 then (5 - x, 5 - y) else if k = 3 then (y, 5 - x) else if k = 4 then (5 - x, y) else if k = 5 then (y, x) else if k = 6 then (x, 5 - y) else (5 - y, 5 - x)
set_option maxHeartbeats 2000000 in
theorem tcell_0 {x y : Int} (hx : 0 ≤ x ∧ x ≤ 5) (hy : 0 ≤ y ∧ y ≤ 5) (w : World) : Calls Try.prog 242 #[.int .i64 0, .agg #[.int .i64 x, .int .i64 y]] w fun e w' => e = .returned (.agg #[.int .i64 (x), .int .i64 (y)]) ∧ Below w.heap.size w w' := by
  go_enter Try.func242, Try.ntmps242
  go_wp2_with fail
  have S0 := Lib.hid (Tc.start w x y)
  generalize (World.alloc _ _ : World) = W0 at S0 ⊢
  refine wp_loop_rounds 1 ?_
  rw [rounds_succ]
  have c_c := fun j => cell_of_row W0 _ j _ _ _ S0.out.2.1
  have c_f := fun j => frozen_of_row W0 _ j _ _ S0.out.2.1
  have d_c := fun j => cell_of_row W0 _ j _ _ _ S0.out.2.2.1
  have d_f := fun j => frozen_of_row W0 _ j _ _ S0.out.2.2.1
  go_wp2_with fail
  refine bodyPost_ret (v := .agg #[.int .i64 (x), .int .i64 (y)]) (by simp [results, Try.results242, go_sem, d_c]) rfl ⟨by rw [show (x : Int) = x by omega, show (y : Int) = y by omega], ?_⟩
  exact below2 (S0.out.1) (by omega)
set_option maxHeartbeats 2000000 in
theorem tcell_1 {x y : Int} (hx : 0 ≤ x ∧ x ≤ 5) (hy : 0 ≤ y ∧ y ≤ 5) (w : World) : Calls Try.prog 242 #[.int .i64 1, .agg #[.int .i64 x, .int .i64 y]] w fun e w' => e = .returned (.agg #[.int .i64 (5 - y), .int .i64 (x)]) ∧ Below w.heap.size w w' := by
  go_enter Try.func242, Try.ntmps242
  go_wp2_with fail
  have S0 := Lib.hid (Tc.start w x y)
  generalize (World.alloc _ _ : World) = W0 at S0 ⊢
  refine wp_loop_rounds 2 ?_
  rw [rounds_succ]
  have c_c := fun j => cell_of_row W0 _ j _ _ _ S0.out.2.1
  have c_f := fun j => frozen_of_row W0 _ j _ _ S0.out.2.1
  have e5 : wrap64 (5 - (y)) = 5 - (y) := by unfold wrap64; omega
  go_wp2_with fail
  have S1 := Lib.hid (S0.out.put (5 - y) (x))
  clear c_c c_f e5 S0
  generalize (World.setCell _ _ _ : World) = W1 at S1 ⊢
  try rw [rounds_succ]
  have c_c := fun j => cell_of_row W1 _ j _ _ _ S1.out.2.1
  have c_f := fun j => frozen_of_row W1 _ j _ _ S1.out.2.1
  have d_c := fun j => cell_of_row W1 _ j _ _ _ S1.out.2.2.1
  have d_f := fun j => frozen_of_row W1 _ j _ _ S1.out.2.2.1
  go_wp2_with fail
  refine bodyPost_ret (v := .agg #[.int .i64 (5 - y), .int .i64 (x)]) (by simp [results, Try.results242, go_sem, d_c]) rfl ⟨by rw [show (5 - y : Int) = 5 - y by omega, show (x : Int) = x by omega], ?_⟩
  exact below2 (S1.out.1) (by omega)
set_option maxHeartbeats 2000000 in
theorem tcell_2 {x y : Int} (hx : 0 ≤ x ∧ x ≤ 5) (hy : 0 ≤ y ∧ y ≤ 5) (w : World) : Calls Try.prog 242 #[.int .i64 2, .agg #[.int .i64 x, .int .i64 y]] w fun e w' => e = .returned (.agg #[.int .i64 (5 - x), .int .i64 (5 - y)]) ∧ Below w.heap.size w w' := by
  go_enter Try.func242, Try.ntmps242
  go_wp2_with fail
  have S0 := Lib.hid (Tc.start w x y)
  generalize (World.alloc _ _ : World) = W0 at S0 ⊢
  refine wp_loop_rounds 3 ?_
  rw [rounds_succ]
  have c_c := fun j => cell_of_row W0 _ j _ _ _ S0.out.2.1
  have c_f := fun j => frozen_of_row W0 _ j _ _ S0.out.2.1
  have e5 : wrap64 (5 - (y)) = 5 - (y) := by unfold wrap64; omega
  go_wp2_with fail
  have S1 := Lib.hid (S0.out.put (5 - y) (x))
  clear c_c c_f e5 S0
  generalize (World.setCell _ _ _ : World) = W1 at S1 ⊢
  try rw [rounds_succ]
  have c_c := fun j => cell_of_row W1 _ j _ _ _ S1.out.2.1
  have c_f := fun j => frozen_of_row W1 _ j _ _ S1.out.2.1
  have e5 : wrap64 (5 - (x)) = 5 - (x) := by unfold wrap64; omega
  go_wp2_with fail
  have S2 := Lib.hid (S1.out.put (5 - x) (5 - y))
  clear c_c c_f e5 S1
  generalize (World.setCell _ _ _ : World) = W2 at S2 ⊢
  try rw [rounds_succ]
  have c_c := fun j => cell_of_row W2 _ j _ _ _ S2.out.2.1
  have c_f := fun j => frozen_of_row W2 _ j _ _ S2.out.2.1
  have d_c := fun j => cell_of_row W2 _ j _ _ _ S2.out.2.2.1
  have d_f := fun j => frozen_of_row W2 _ j _ _ S2.out.2.2.1
  go_wp2_with fail
  refine bodyPost_ret (v := .agg #[.int .i64 (5 - x), .int .i64 (5 - y)]) (by simp [results, Try.results242, go_sem, d_c]) rfl ⟨by rw [show (5 - x : Int) = 5 - x by omega, show (5 - y : Int) = 5 - y by omega], ?_⟩
  exact below2 (S2.out.1) (by omega)
set_option maxHeartbeats 2000000 in
theorem tcell_3 {x y : Int} (hx : 0 ≤ x ∧ x ≤ 5) (hy : 0 ≤ y ∧ y ≤ 5) (w : World) : Calls Try.prog 242 #[.int .i64 3, .agg #[.int .i64 x, .int .i64 y]] w fun e w' => e = .returned (.agg #[.int .i64 (y), .int .i64 (5 - x)]) ∧ Below w.heap.size w w' := by
  go_enter Try.func242, Try.ntmps242
  go_wp2_with fail
  have S0 := Lib.hid (Tc.start w x y)
  generalize (World.alloc _ _ : World) = W0 at S0 ⊢
  refine wp_loop_rounds 4 ?_
  rw [rounds_succ]
  have c_c := fun j => cell_of_row W0 _ j _ _ _ S0.out.2.1
  have c_f := fun j => frozen_of_row W0 _ j _ _ S0.out.2.1
  have e5 : wrap64 (5 - (y)) = 5 - (y) := by unfold wrap64; omega
  go_wp2_with fail
  have S1 := Lib.hid (S0.out.put (5 - y) (x))
  clear c_c c_f e5 S0
  generalize (World.setCell _ _ _ : World) = W1 at S1 ⊢
  try rw [rounds_succ]
  have c_c := fun j => cell_of_row W1 _ j _ _ _ S1.out.2.1
  have c_f := fun j => frozen_of_row W1 _ j _ _ S1.out.2.1
  have e5 : wrap64 (5 - (x)) = 5 - (x) := by unfold wrap64; omega
  go_wp2_with fail
  have S2 := Lib.hid (S1.out.put (5 - x) (5 - y))
  clear c_c c_f e5 S1
  generalize (World.setCell _ _ _ : World) = W2 at S2 ⊢
  try rw [rounds_succ]
  have c_c := fun j => cell_of_row W2 _ j _ _ _ S2.out.2.1
  have c_f := fun j => frozen_of_row W2 _ j _ _ S2.out.2.1
  have e5 : wrap64 (5 - (5 - y)) = 5 - (5 - y) := by unfold wrap64; omega
  go_wp2_with fail
  have S3 := Lib.hid (S2.out.put (5 - (5 - y)) (5 - x))
  clear c_c c_f e5 S2
  generalize (World.setCell _ _ _ : World) = W3 at S3 ⊢
  try rw [rounds_succ]
  have c_c := fun j => cell_of_row W3 _ j _ _ _ S3.out.2.1
  have c_f := fun j => frozen_of_row W3 _ j _ _ S3.out.2.1
  have d_c := fun j => cell_of_row W3 _ j _ _ _ S3.out.2.2.1
  have d_f := fun j => frozen_of_row W3 _ j _ _ S3.out.2.2.1
  go_wp2_with fail
  refine bodyPost_ret (v := .agg #[.int .i64 (5 - (5 - y)), .int .i64 (5 - x)]) (by simp [results, Try.results242, go_sem, d_c]) rfl ⟨by rw [show (5 - (5 - y) : Int) = y by omega, show (5 - x : Int) = 5 - x by omega], ?_⟩
  exact below2 (S3.out.1) (by omega)
set_option maxHeartbeats 2000000 in
theorem tcell_4 {x y : Int} (hx : 0 ≤ x ∧ x ≤ 5) (hy : 0 ≤ y ∧ y ≤ 5) (w : World) : Calls Try.prog 242 #[.int .i64 4, .agg #[.int .i64 x, .int .i64 y]] w fun e w' => e = .returned (.agg #[.int .i64 (5 - x), .int .i64 (y)]) ∧ Below w.heap.size w w' := by
  go_enter Try.func242, Try.ntmps242
  go_wp2_with fail
  have S0 := Lib.hid (Tc.start w x y)
  generalize (World.alloc _ _ : World) = W0 at S0 ⊢
  refine wp_loop_rounds 1 ?_
  rw [rounds_succ]
  have c_c := fun j => cell_of_row W0 _ j _ _ _ S0.out.2.1
  have c_f := fun j => frozen_of_row W0 _ j _ _ S0.out.2.1
  have d_c := fun j => cell_of_row W0 _ j _ _ _ S0.out.2.2.1
  have d_f := fun j => frozen_of_row W0 _ j _ _ S0.out.2.2.1
  have e5 : wrap64 (5 - (x)) = 5 - (x) := by unfold wrap64; omega
  go_wp2_with fail
  have SM := Lib.hid (S0.out.put0 (5 - (x)))
  clear c_c c_f d_c d_f e5 S0
  generalize (World.setCell _ _ _ : World) = WM at SM ⊢
  have c_c := fun j => cell_of_row WM _ j _ _ _ SM.out.2.1
  have d_c := fun j => cell_of_row WM _ j _ _ _ SM.out.2.2.1
  have d_f := fun j => frozen_of_row WM _ j _ _ SM.out.2.2.1
  go_wp2_with fail
  refine bodyPost_ret (v := .agg #[.int .i64 (5 - (x)), .int .i64 (y)]) (by simp [results, Try.results242, go_sem, d_c]) rfl ⟨by rw [show (5 - (x) : Int) = 5 - x by omega, show (y : Int) = y by omega], ?_⟩
  exact below2 (SM.out.1) (by omega)
set_option maxHeartbeats 2000000 in
theorem tcell_5 {x y : Int} (hx : 0 ≤ x ∧ x ≤ 5) (hy : 0 ≤ y ∧ y ≤ 5) (w : World) : Calls Try.prog 242 #[.int .i64 5, .agg #[.int .i64 x, .int .i64 y]] w fun e w' => e = .returned (.agg #[.int .i64 (y), .int .i64 (x)]) ∧ Below w.heap.size w w' := by
  go_enter Try.func242, Try.ntmps242
  go_wp2_with fail
  have S0 := Lib.hid (Tc.start w x y)
  generalize (World.alloc _ _ : World) = W0 at S0 ⊢
  refine wp_loop_rounds 2 ?_
  rw [rounds_succ]
  have c_c := fun j => cell_of_row W0 _ j _ _ _ S0.out.2.1
  have c_f := fun j => frozen_of_row W0 _ j _ _ S0.out.2.1
  have e5 : wrap64 (5 - (y)) = 5 - (y) := by unfold wrap64; omega
  go_wp2_with fail
  have S1 := Lib.hid (S0.out.put (5 - y) (x))
  clear c_c c_f e5 S0
  generalize (World.setCell _ _ _ : World) = W1 at S1 ⊢
  try rw [rounds_succ]
  have c_c := fun j => cell_of_row W1 _ j _ _ _ S1.out.2.1
  have c_f := fun j => frozen_of_row W1 _ j _ _ S1.out.2.1
  have d_c := fun j => cell_of_row W1 _ j _ _ _ S1.out.2.2.1
  have d_f := fun j => frozen_of_row W1 _ j _ _ S1.out.2.2.1
  have e5 : wrap64 (5 - (5 - y)) = 5 - (5 - y) := by unfold wrap64; omega
  go_wp2_with fail
  have SM := Lib.hid (S1.out.put0 (5 - (5 - y)))
  clear c_c c_f d_c d_f e5 S1
  generalize (World.setCell _ _ _ : World) = WM at SM ⊢
  have c_c := fun j => cell_of_row WM _ j _ _ _ SM.out.2.1
  have d_c := fun j => cell_of_row WM _ j _ _ _ SM.out.2.2.1
  have d_f := fun j => frozen_of_row WM _ j _ _ SM.out.2.2.1
  go_wp2_with fail
  refine bodyPost_ret (v := .agg #[.int .i64 (5 - (5 - y)), .int .i64 (x)]) (by simp [results, Try.results242, go_sem, d_c]) rfl ⟨by rw [show (5 - (5 - y) : Int) = y by omega, show (x : Int) = x by omega], ?_⟩
  exact below2 (SM.out.1) (by omega)
set_option maxHeartbeats 2000000 in
theorem tcell_6 {x y : Int} (hx : 0 ≤ x ∧ x ≤ 5) (hy : 0 ≤ y ∧ y ≤ 5) (w : World) : Calls Try.prog 242 #[.int .i64 6, .agg #[.int .i64 x, .int .i64 y]] w fun e w' => e = .returned (.agg #[.int .i64 (x), .int .i64 (5 - y)]) ∧ Below w.heap.size w w' := by
  go_enter Try.func242, Try.ntmps242
  go_wp2_with fail
  have S0 := Lib.hid (Tc.start w x y)
  generalize (World.alloc _ _ : World) = W0 at S0 ⊢
  refine wp_loop_rounds 3 ?_
  rw [rounds_succ]
  have c_c := fun j => cell_of_row W0 _ j _ _ _ S0.out.2.1
  have c_f := fun j => frozen_of_row W0 _ j _ _ S0.out.2.1
  have e5 : wrap64 (5 - (y)) = 5 - (y) := by unfold wrap64; omega
  go_wp2_with fail
  have S1 := Lib.hid (S0.out.put (5 - y) (x))
  clear c_c c_f e5 S0
  generalize (World.setCell _ _ _ : World) = W1 at S1 ⊢
  try rw [rounds_succ]
  have c_c := fun j => cell_of_row W1 _ j _ _ _ S1.out.2.1
  have c_f := fun j => frozen_of_row W1 _ j _ _ S1.out.2.1
  have e5 : wrap64 (5 - (x)) = 5 - (x) := by unfold wrap64; omega
  go_wp2_with fail
  have S2 := Lib.hid (S1.out.put (5 - x) (5 - y))
  clear c_c c_f e5 S1
  generalize (World.setCell _ _ _ : World) = W2 at S2 ⊢
  try rw [rounds_succ]
  have c_c := fun j => cell_of_row W2 _ j _ _ _ S2.out.2.1
  have c_f := fun j => frozen_of_row W2 _ j _ _ S2.out.2.1
  have d_c := fun j => cell_of_row W2 _ j _ _ _ S2.out.2.2.1
  have d_f := fun j => frozen_of_row W2 _ j _ _ S2.out.2.2.1
  have e5 : wrap64 (5 - (5 - x)) = 5 - (5 - x) := by unfold wrap64; omega
  go_wp2_with fail
  have SM := Lib.hid (S2.out.put0 (5 - (5 - x)))
  clear c_c c_f d_c d_f e5 S2
  generalize (World.setCell _ _ _ : World) = WM at SM ⊢
  have c_c := fun j => cell_of_row WM _ j _ _ _ SM.out.2.1
  have d_c := fun j => cell_of_row WM _ j _ _ _ SM.out.2.2.1
  have d_f := fun j => frozen_of_row WM _ j _ _ SM.out.2.2.1
  go_wp2_with fail
  refine bodyPost_ret (v := .agg #[.int .i64 (5 - (5 - x)), .int .i64 (5 - y)]) (by simp [results, Try.results242, go_sem, d_c]) rfl ⟨by rw [show (5 - (5 - x) : Int) = x by omega, show (5 - y : Int) = 5 - y by omega], ?_⟩
  exact below2 (SM.out.1) (by omega)
set_option maxHeartbeats 2000000 in
theorem tcell_7 {x y : Int} (hx : 0 ≤ x ∧ x ≤ 5) (hy : 0 ≤ y ∧ y ≤ 5) (w : World) : Calls Try.prog 242 #[.int .i64 7, .agg #[.int .i64 x, .int .i64 y]] w fun e w' => e = .returned (.agg #[.int .i64 (5 - y), .int .i64 (5 - x)]) ∧ Below w.heap.size w w' := by
  go_enter Try.func242, Try.ntmps242
  go_wp2_with fail
  have S0 := Lib.hid (Tc.start w x y)
  generalize (World.alloc _ _ : World) = W0 at S0 ⊢
  refine wp_loop_rounds 4 ?_
  rw [rounds_succ]
  have c_c := fun j => cell_of_row W0 _ j _ _ _ S0.out.2.1
  have c_f := fun j => frozen_of_row W0 _ j _ _ S0.out.2.1
  have e5 : wrap64 (5 - (y)) = 5 - (y) := by unfold wrap64; omega
  go_wp2_with fail
  have S1 := Lib.hid (S0.out.put (5 - y) (x))
  clear c_c c_f e5 S0
  generalize (World.setCell _ _ _ : World) = W1 at S1 ⊢
  try rw [rounds_succ]
  have c_c := fun j => cell_of_row W1 _ j _ _ _ S1.out.2.1
  have c_f := fun j => frozen_of_row W1 _ j _ _ S1.out.2.1
  have e5 : wrap64 (5 - (x)) = 5 - (x) := by unfold wrap64; omega
  go_wp2_with fail
  have S2 := Lib.hid (S1.out.put (5 - x) (5 - y))
  clear c_c c_f e5 S1
  generalize (World.setCell _ _ _ : World) = W2 at S2 ⊢
  try rw [rounds_succ]
  have c_c := fun j => cell_of_row W2 _ j _ _ _ S2.out.2.1
  have c_f := fun j => frozen_of_row W2 _ j _ _ S2.out.2.1
  have e5 : wrap64 (5 - (5 - y)) = 5 - (5 - y) := by unfold wrap64; omega
  go_wp2_with fail
  have S3 := Lib.hid (S2.out.put (5 - (5 - y)) (5 - x))
  clear c_c c_f e5 S2
  generalize (World.setCell _ _ _ : World) = W3 at S3 ⊢
  try rw [rounds_succ]
  have c_c := fun j => cell_of_row W3 _ j _ _ _ S3.out.2.1
  have c_f := fun j => frozen_of_row W3 _ j _ _ S3.out.2.1
  have d_c := fun j => cell_of_row W3 _ j _ _ _ S3.out.2.2.1
  have d_f := fun j => frozen_of_row W3 _ j _ _ S3.out.2.2.1
  have e5 : wrap64 (5 - (5 - (5 - y))) = 5 - (5 - (5 - y)) := by unfold wrap64; omega
  go_wp2_with fail
  have SM := Lib.hid (S3.out.put0 (5 - (5 - (5 - y))))
  clear c_c c_f d_c d_f e5 S3
  generalize (World.setCell _ _ _ : World) = WM at SM ⊢
  have c_c := fun j => cell_of_row WM _ j _ _ _ SM.out.2.1
  have d_c := fun j => cell_of_row WM _ j _ _ _ SM.out.2.2.1
  have d_f := fun j => frozen_of_row WM _ j _ _ SM.out.2.2.1
  go_wp2_with fail
  refine bodyPost_ret (v := .agg #[.int .i64 (5 - (5 - (5 - y))), .int .i64 (5 - x)]) (by simp [results, Try.results242, go_sem, d_c]) rfl ⟨by rw [show (5 - (5 - (5 - y)) : Int) = 5 - y by omega, show (5 - x : Int) = 5 - x by omega], ?_⟩
  exact below2 (SM.out.1) (by omega)
theorem tcell_f {k x y : Nat} (hk : k < 8) (hx : x < 6) (hy : y < 6) (w : World) : Calls Try.prog 242 #[.int .i64 (k : Int), .agg #[.int .i64 (x : Int), .int .i64 (y : Int)]] w fun e w' => e = .returned (.agg #[.int .i64 ((dst k x y).1 : Int), .int .i64 ((dst k x y).2 : Int)]) ∧ Below w.heap.size w w' := by
  have ex : ((5 - x : Nat) : Int) = 5 - (x : Int) := by omega
  have ey : ((5 - y : Nat) : Int) = 5 - (y : Int) := by omega
  have hx' : 0 ≤ (x : Int) ∧ (x : Int) ≤ 5 := by omega
  have hy' : 0 ≤ (y : Int) ∧ (y : Int) ≤ 5 := by omega
  rcases eight hk with rfl | rfl | rfl | rfl | rfl | rfl | rfl | rfl
  · have h := tcell_0 hx' hy' w
    try rw [← ex] at h
    try rw [← ey] at h
    exact h
  · have h := tcell_1 hx' hy' w
    try rw [← ex] at h
    try rw [← ey] at h
    exact h
  · have h := tcell_2 hx' hy' w
    try rw [← ex] at h
    try rw [← ey] at h
    exact h
  · have h := tcell_3 hx' hy' w
    try rw [← ex] at h
    try rw [← ey] at h
    exact h
  · have h := tcell_4 hx' hy' w
    try rw [← ex] at h
    try rw [← ey] at h
    exact h
  · have h := tcell_5 hx' hy' w
    try rw [← ex] at h
    try rw [← ey] at h
    exact h
  · have h := tcell_6 hx' hy' w
    try rw [← ex] at h
    try rw [← ey] at h
    exact h
  · have h := tcell_7 hx' hy' w
    try rw [← ex] at h
    try rw [← ey] at h
    exact h
/-- Where the cell a, b (row, column) of a turned sheet comes from (row, column). -/
def src (k : Nat) : Nat → Nat → Nat × Nat := fun a b => if k = 0 then (a, b) else if k = 1 then (5 - b, a) else if k = 2 then (5 - a, 5 - b) else if k = 3 then (b, 5 - a) else if k = 4 then (a, 5 - b) else if k = 5 then (b, a) else if k = 6 then (5 - a, b) else (5 - b, 5 - a)
theorem only_src {k y x : Nat} (hk : k < 8) (hy : y < 6) (hx : x < 6) : Only (src k) y x (dst k x y).2 (dst k x y).1 ∧ (dst k x y).1 < 6 ∧ (dst k x y).2 < 6 := by
  rcases eight hk with rfl | rfl | rfl | rfl | rfl | rfl | rfl | rfl
  all_goals
    refine ⟨⟨?_, fun a b ha hb => ⟨?_, fun e => ?_⟩⟩, ?_, ?_⟩
    · simp [src, dst]; try omega
    · simp [src]; try omega
    · simp [src] at e; simp [dst]; omega
    · simp [dst]; try omega
    · simp [dst]; try omega
set_option linter.unusedSimpArgs false in
theorem src_tf (f : Nat → Nat → Bool) {k a b : Nat} (hk : k < 8) (ha : a < 6) (hb : b < 6) : f (src k a b).1 (src k a b).2 = tf k f a b := by
  have e5 : ∀ {c : Nat}, c < 6 → 5 - (5 - c) = c := by intro c h; omega
  rcases eight hk with rfl | rfl | rfl | rfl | rfl | rfl | rfl | rfl
  all_goals simp [src, tf, qf, mf, e5 ha, e5 hb]
theorem src_in {k a b : Nat} (hk : k < 8) (ha : a < 6) (hb : b < 6) : (src k a b).1 < 6 ∧ (src k a b).2 < 6 := by
  rcases eight hk with rfl | rfl | rfl | rfl | rfl | rfl | rfl | rfl
  all_goals simp [src]; omega
end Go.Proofs.Ytnkjamdpafpcpaa
