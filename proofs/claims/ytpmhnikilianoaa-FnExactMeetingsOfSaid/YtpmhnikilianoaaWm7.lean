/- CONTRACTS: MeetingsOf of both, where the sheet is valid and where not; the pair. -/
import Derived.Test.YtpmhnikilianoaaMg7
import Derived.Test.YtpmhnikilianoaaR7
import Derived.Deep.WholeRow
import Derived.WalkKit
import Derived.ProofKit
import Derived.OpenShut
import Derived.Lib.Hide
import Derived.WalkSpells
import Derived.Below
import Derived.BigQuiet
import Derived.LoopN
namespace Go.Proofs.Ytpmhnikilianoaa
open Go.ChangeShapes Go.WideShapes Go.ChangeAt Go.RowKit
set_option linter.unusedVariables false
theorem results_cell2 {fn : Func} {tmps : Array Value} {a b : Nat} {t : TypeId} {x : Addr} {v u : Value} {X : World} (hres : fn.results = #[.cell a t, .tmp b]) (hx : tmps.getD a undef = .pointer (some x)) (hu : tmps.getD b undef = u) (hl : (loadVar t x).run Try.prog X = .ok v X) : (results fn tmps).run Try.prog X = .ok (.tuple #[v, u]) X := by
  have hx' : tmps[a]?.getD undef = .pointer (some x) := by simpa using hx
  have hu' : tmps[b]?.getD undef = u := by simpa using hu
  unfold results
  rw [hres]
  simp [hx', hu', asAddr, hl, Array.mapM_eq_mapM_toList]
theorem there36 {U : World} {g : Nat} {m : Nat → Int} (h : U.heap[g]? = some (o36 m)) : U.there g 0 36 := by
  intro j hj
  refine ⟨?_, frozen_of_row U _ _ _ _ (by unfold o36 at h; exact h)⟩
  rw [Nat.zero_add, o36_at h hj]
  rfl
theorem range36 {U : World} {g : Nat} {m : Nat → Int} (h : U.heap[g]? = some (o36 m)) : U.rangeAt g 0 [.int .i64 (m 0), .int .i64 (m 1), .int .i64 (m 2), .int .i64 (m 3), .int .i64 (m 4), .int .i64 (m 5), .int .i64 (m 6), .int .i64 (m 7), .int .i64 (m 8), .int .i64 (m 9), .int .i64 (m 10), .int .i64 (m 11), .int .i64 (m 12), .int .i64 (m 13), .int .i64 (m 14), .int .i64 (m 15), .int .i64 (m 16), .int .i64 (m 17), .int .i64 (m 18), .int .i64 (m 19), .int .i64 (m 20), .int .i64 (m 21), .int .i64 (m 22), .int .i64 (m 23), .int .i64 (m 24), .int .i64 (m 25), .int .i64 (m 26), .int .i64 (m 27), .int .i64 (m 28), .int .i64 (m 29), .int .i64 (m 30), .int .i64 (m 31), .int .i64 (m 32), .int .i64 (m 33), .int .i64 (m 34), .int .i64 (m 35)] := by
  intro j v hv
  rw [Nat.zero_add, cell_of_row U _ j _ _ _ (by unfold o36 at h; exact h)]
  simpa using hv
set_option maxRecDepth 20000 in
theorem al36 (V : World) (z m : Nat → Int) : (V.alloc (o36 z)).setCells V.heap.size 0 [.int .i64 (m 0), .int .i64 (m 1), .int .i64 (m 2), .int .i64 (m 3), .int .i64 (m 4), .int .i64 (m 5), .int .i64 (m 6), .int .i64 (m 7), .int .i64 (m 8), .int .i64 (m 9), .int .i64 (m 10), .int .i64 (m 11), .int .i64 (m 12), .int .i64 (m 13), .int .i64 (m 14), .int .i64 (m 15), .int .i64 (m 16), .int .i64 (m 17), .int .i64 (m 18), .int .i64 (m 19), .int .i64 (m 20), .int .i64 (m 21), .int .i64 (m 22), .int .i64 (m 23), .int .i64 (m 24), .int .i64 (m 25), .int .i64 (m 26), .int .i64 (m 27), .int .i64 (m 28), .int .i64 (m 29), .int .i64 (m 30), .int .i64 (m 31), .int .i64 (m 32), .int .i64 (m 33), .int .i64 (m 34), .int .i64 (m 35)] = V.alloc (o36 m) := by
  have h1 := run_storeVar_new (P := Try.prog) V 56 #[.int .i64 (z 0), .int .i64 (z 1), .int .i64 (z 2), .int .i64 (z 3), .int .i64 (z 4), .int .i64 (z 5), .int .i64 (z 6), .int .i64 (z 7), .int .i64 (z 8), .int .i64 (z 9), .int .i64 (z 10), .int .i64 (z 11), .int .i64 (z 12), .int .i64 (z 13), .int .i64 (z 14), .int .i64 (z 15), .int .i64 (z 16), .int .i64 (z 17), .int .i64 (z 18), .int .i64 (z 19), .int .i64 (z 20), .int .i64 (z 21), .int .i64 (z 22), .int .i64 (z 23), .int .i64 (z 24), .int .i64 (z 25), .int .i64 (z 26), .int .i64 (z 27), .int .i64 (z 28), .int .i64 (z 29), .int .i64 (z 30), .int .i64 (z 31), .int .i64 (z 32), .int .i64 (z 33), .int .i64 (z 34), .int .i64 (z 35)] #[.int .i64 (m 0), .int .i64 (m 1), .int .i64 (m 2), .int .i64 (m 3), .int .i64 (m 4), .int .i64 (m 5), .int .i64 (m 6), .int .i64 (m 7), .int .i64 (m 8), .int .i64 (m 9), .int .i64 (m 10), .int .i64 (m 11), .int .i64 (m 12), .int .i64 (m 13), .int .i64 (m 14), .int .i64 (m 15), .int .i64 (m 16), .int .i64 (m 17), .int .i64 (m 18), .int .i64 (m 19), .int .i64 (m 20), .int .i64 (m 21), .int .i64 (m 22), .int .i64 (m 23), .int .i64 (m 24), .int .i64 (m 25), .int .i64 (m 26), .int .i64 (m 27), .int .i64 (m 28), .int .i64 (m 29), .int .i64 (m 30), .int .i64 (m 31), .int .i64 (m 32), .int .i64 (m 33), .int .i64 (m 34), .int .i64 (m 35)] (by kernel_rfl) rfl (by kernel_rfl)
  have h2 := run_storeVar_mid (P := Try.prog) (V.alloc (o36 z)) V.heap.size 0 56 #[.int .i64 (m 0), .int .i64 (m 1), .int .i64 (m 2), .int .i64 (m 3), .int .i64 (m 4), .int .i64 (m 5), .int .i64 (m 6), .int .i64 (m 7), .int .i64 (m 8), .int .i64 (m 9), .int .i64 (m 10), .int .i64 (m 11), .int .i64 (m 12), .int .i64 (m 13), .int .i64 (m 14), .int .i64 (m 15), .int .i64 (m 16), .int .i64 (m 17), .int .i64 (m 18), .int .i64 (m 19), .int .i64 (m 20), .int .i64 (m 21), .int .i64 (m 22), .int .i64 (m 23), .int .i64 (m 24), .int .i64 (m 25), .int .i64 (m 26), .int .i64 (m 27), .int .i64 (m 28), .int .i64 (m 29), .int .i64 (m 30), .int .i64 (m 31), .int .i64 (m 32), .int .i64 (m 33), .int .i64 (m 34), .int .i64 (m 35)] (there36 (alloc_at rfl)) (by kernel_rfl) (by kernel_rfl)
  unfold o36 at h2 ⊢
  rw [h1] at h2
  exact (Result.ok.inj h2).2.symm
set_option maxRecDepth 20000 in
set_option maxHeartbeats 2000000 in
theorem smeets_yes (a : Fn6) (m : Nat → Int) (H0 : Hid (∀ w, Calls Try.prog 119 #[.agg #[.int .i64 (rowv (a 0)), .int .i64 (rowv (a 1)), .int .i64 (rowv (a 2)), .int .i64 (rowv (a 3)), .int .i64 (rowv (a 4)), .int .i64 (rowv (a 5))]] w fun e w' => e = .returned (.bool true) ∧ Below w.heap.size w w')) (H1 : Hid (∀ w, Calls Try.prog 136 #[.agg #[.int .i64 (rowv (a 0)), .int .i64 (rowv (a 1)), .int .i64 (rowv (a 2)), .int .i64 (rowv (a 3)), .int .i64 (rowv (a 4)), .int .i64 (rowv (a 5))]] w fun e w' => e = .returned (v36 m) ∧ Below w.heap.size w w')) (w : World) : Calls Try.prog 49 #[.agg #[.int .i64 (rowv (a 0)), .int .i64 (rowv (a 1)), .int .i64 (rowv (a 2)), .int .i64 (rowv (a 3)), .int .i64 (rowv (a 4)), .int .i64 (rowv (a 5))]] w fun e w' => e = .returned (.tuple #[v36 m, .bool true]) ∧ Below w.heap.size w w' := by
  go_enter Try.func49, Try.ntmps49
  go_wp2_with fail
  generalize hW : (World.alloc _ _ : World) = W0
  have K0 : KR 2 [(w.heap.size, o6 a), (w.heap.size + 1, o36 fun _ => 0)] w W0 := by rw [← hW]; exact kr2 w _ _
  clear hW
  have a_c := fun j => cell_of_row W0 _ j _ _ _ (K0.row (g := w.heap.size) (o := o6 a) (List.mem_cons_self ..))
  go_wp2_with fail
  refine (H0.out _).mono ?_
  rintro e W1 ⟨rfl, hb⟩
  have K1 := K0.far hb rfl
  clear hb K0 a_c
  have a_c := fun j => cell_of_row W1 _ j _ _ _ (K1.row (g := w.heap.size) (o := o6 a) (List.mem_cons_self ..))
  go_wp2_with fail
  refine (H1.out _).mono ?_
  rintro e W2 ⟨rfl, hb⟩
  have K2 := K1.far hb rfl
  clear hb K1 a_c
  have hT := Lib.hid (there36 (K2.row (g := w.heap.size + 1) (o := o36 fun _ => 0) (List.mem_cons_of_mem _ (List.mem_cons_self ..))))
  have hB := Lib.hid K2.2.2
  clear K2
  go_wp2_with (refine wpList_store_mid rfl 56 (.tmp 2) (.tmp 9) rfl (w.heap.size + 1) 0 #[.int .i64 (m 0), .int .i64 (m 1), .int .i64 (m 2), .int .i64 (m 3), .int .i64 (m 4), .int .i64 (m 5), .int .i64 (m 6), .int .i64 (m 7), .int .i64 (m 8), .int .i64 (m 9), .int .i64 (m 10), .int .i64 (m 11), .int .i64 (m 12), .int .i64 (m 13), .int .i64 (m 14), .int .i64 (m 15), .int .i64 (m 16), .int .i64 (m 17), .int .i64 (m 18), .int .i64 (m 19), .int .i64 (m 20), .int .i64 (m 21), .int .i64 (m 22), .int .i64 (m 23), .int .i64 (m 24), .int .i64 (m 25), .int .i64 (m 26), .int .i64 (m 27), .int .i64 (m 28), .int .i64 (m 29), .int .i64 (m 30), .int .i64 (m 31), .int .i64 (m 32), .int .i64 (m 33), .int .i64 (m 34), .int .i64 (m 35)] rfl rfl hT.out (by kernel_rfl) (by kernel_rfl) ?_)
  have hB' := below_cells (b := w.heap.size + 1) [.int .i64 (m 0), .int .i64 (m 1), .int .i64 (m 2), .int .i64 (m 3), .int .i64 (m 4), .int .i64 (m 5), .int .i64 (m 6), .int .i64 (m 7), .int .i64 (m 8), .int .i64 (m 9), .int .i64 (m 10), .int .i64 (m 11), .int .i64 (m 12), .int .i64 (m 13), .int .i64 (m 14), .int .i64 (m 15), .int .i64 (m 16), .int .i64 (m 17), .int .i64 (m 18), .int .i64 (m 19), .int .i64 (m 20), .int .i64 (m 21), .int .i64 (m 22), .int .i64 (m 23), .int .i64 (m 24), .int .i64 (m 25), .int .i64 (m 26), .int .i64 (m 27), .int .i64 (m 28), .int .i64 (m 29), .int .i64 (m 30), .int .i64 (m 31), .int .i64 (m 32), .int .i64 (m 33), .int .i64 (m 34), .int .i64 (m 35)] 0 hB.out (by omega)
  have hr := World.rangeAt_setCells_same _ (w.heap.size + 1) 0 [.int .i64 (m 0), .int .i64 (m 1), .int .i64 (m 2), .int .i64 (m 3), .int .i64 (m 4), .int .i64 (m 5), .int .i64 (m 6), .int .i64 (m 7), .int .i64 (m 8), .int .i64 (m 9), .int .i64 (m 10), .int .i64 (m 11), .int .i64 (m 12), .int .i64 (m 13), .int .i64 (m 14), .int .i64 (m 15), .int .i64 (m 16), .int .i64 (m 17), .int .i64 (m 18), .int .i64 (m 19), .int .i64 (m 20), .int .i64 (m 21), .int .i64 (m 22), .int .i64 (m 23), .int .i64 (m 24), .int .i64 (m 25), .int .i64 (m 26), .int .i64 (m 27), .int .i64 (m 28), .int .i64 (m 29), .int .i64 (m 30), .int .i64 (m 31), .int .i64 (m 32), .int .i64 (m 33), .int .i64 (m 34), .int .i64 (m 35)] hT.out
  generalize (World.setCells _ _ _ _ : World) = X at hB' hr ⊢
  have hl := run_loadVar_mid (P := Try.prog) X (w.heap.size + 1) 0 56 [.int .i64 (m 0), .int .i64 (m 1), .int .i64 (m 2), .int .i64 (m 3), .int .i64 (m 4), .int .i64 (m 5), .int .i64 (m 6), .int .i64 (m 7), .int .i64 (m 8), .int .i64 (m 9), .int .i64 (m 10), .int .i64 (m 11), .int .i64 (m 12), .int .i64 (m 13), .int .i64 (m 14), .int .i64 (m 15), .int .i64 (m 16), .int .i64 (m 17), .int .i64 (m 18), .int .i64 (m 19), .int .i64 (m 20), .int .i64 (m 21), .int .i64 (m 22), .int .i64 (m 23), .int .i64 (m 24), .int .i64 (m 25), .int .i64 (m 26), .int .i64 (m 27), .int .i64 (m 28), .int .i64 (m 29), .int .i64 (m 30), .int .i64 (m 31), .int .i64 (m 32), .int .i64 (m 33), .int .i64 (m 34), .int .i64 (m 35)] (.array 6 22) hr (by kernel_rfl) rfl (by kernel_rfl)
  clear hr hT hB
  exact bodyPost_ret (v := .tuple #[v36 m, .bool true]) (results_cell2 (a := 2) (b := 3) (t := 56) rfl rfl rfl hl) rfl ⟨rfl, hB'⟩
set_option maxRecDepth 20000 in
set_option maxHeartbeats 2000000 in
theorem imeets_yes (a : Fn6) (m : Nat → Int) (H0 : Hid (∀ w, Calls Try.prog 122 #[.agg #[.int .i64 (rowv (a 0)), .int .i64 (rowv (a 1)), .int .i64 (rowv (a 2)), .int .i64 (rowv (a 3)), .int .i64 (rowv (a 4)), .int .i64 (rowv (a 5))]] w fun e w' => e = .returned (.bool true) ∧ Below w.heap.size w w')) (H1 : Hid (∀ w, Calls Try.prog 137 #[.agg #[.int .i64 (rowv (a 0)), .int .i64 (rowv (a 1)), .int .i64 (rowv (a 2)), .int .i64 (rowv (a 3)), .int .i64 (rowv (a 4)), .int .i64 (rowv (a 5))]] w fun e w' => e = .returned (v36 m) ∧ Below w.heap.size w w')) (w : World) : Calls Try.prog 50 #[.agg #[.int .i64 (rowv (a 0)), .int .i64 (rowv (a 1)), .int .i64 (rowv (a 2)), .int .i64 (rowv (a 3)), .int .i64 (rowv (a 4)), .int .i64 (rowv (a 5))]] w fun e w' => e = .returned (.tuple #[v36 m, .bool true]) ∧ Below w.heap.size w w' := by
  go_enter Try.func50, Try.ntmps50
  go_wp2_with fail
  generalize hW : (World.alloc _ _ : World) = W0
  have K0 : KR 2 [(w.heap.size, o6 a), (w.heap.size + 1, o36 fun _ => 0)] w W0 := by rw [← hW]; exact kr2 w _ _
  clear hW
  have a_c := fun j => cell_of_row W0 _ j _ _ _ (K0.row (g := w.heap.size) (o := o6 a) (List.mem_cons_self ..))
  go_wp2_with fail
  refine (H0.out _).mono ?_
  rintro e W1 ⟨rfl, hb⟩
  have K1 := K0.far hb rfl
  clear hb K0 a_c
  have a_c := fun j => cell_of_row W1 _ j _ _ _ (K1.row (g := w.heap.size) (o := o6 a) (List.mem_cons_self ..))
  go_wp2_with fail
  refine (H1.out _).mono ?_
  rintro e W2 ⟨rfl, hb⟩
  have K2 := K1.far hb rfl
  clear hb K1 a_c
  have hT := Lib.hid (there36 (K2.row (g := w.heap.size + 1) (o := o36 fun _ => 0) (List.mem_cons_of_mem _ (List.mem_cons_self ..))))
  have hB := Lib.hid K2.2.2
  clear K2
  go_wp2_with (refine wpList_store_mid rfl 56 (.tmp 2) (.tmp 9) rfl (w.heap.size + 1) 0 #[.int .i64 (m 0), .int .i64 (m 1), .int .i64 (m 2), .int .i64 (m 3), .int .i64 (m 4), .int .i64 (m 5), .int .i64 (m 6), .int .i64 (m 7), .int .i64 (m 8), .int .i64 (m 9), .int .i64 (m 10), .int .i64 (m 11), .int .i64 (m 12), .int .i64 (m 13), .int .i64 (m 14), .int .i64 (m 15), .int .i64 (m 16), .int .i64 (m 17), .int .i64 (m 18), .int .i64 (m 19), .int .i64 (m 20), .int .i64 (m 21), .int .i64 (m 22), .int .i64 (m 23), .int .i64 (m 24), .int .i64 (m 25), .int .i64 (m 26), .int .i64 (m 27), .int .i64 (m 28), .int .i64 (m 29), .int .i64 (m 30), .int .i64 (m 31), .int .i64 (m 32), .int .i64 (m 33), .int .i64 (m 34), .int .i64 (m 35)] rfl rfl hT.out (by kernel_rfl) (by kernel_rfl) ?_)
  have hB' := below_cells (b := w.heap.size + 1) [.int .i64 (m 0), .int .i64 (m 1), .int .i64 (m 2), .int .i64 (m 3), .int .i64 (m 4), .int .i64 (m 5), .int .i64 (m 6), .int .i64 (m 7), .int .i64 (m 8), .int .i64 (m 9), .int .i64 (m 10), .int .i64 (m 11), .int .i64 (m 12), .int .i64 (m 13), .int .i64 (m 14), .int .i64 (m 15), .int .i64 (m 16), .int .i64 (m 17), .int .i64 (m 18), .int .i64 (m 19), .int .i64 (m 20), .int .i64 (m 21), .int .i64 (m 22), .int .i64 (m 23), .int .i64 (m 24), .int .i64 (m 25), .int .i64 (m 26), .int .i64 (m 27), .int .i64 (m 28), .int .i64 (m 29), .int .i64 (m 30), .int .i64 (m 31), .int .i64 (m 32), .int .i64 (m 33), .int .i64 (m 34), .int .i64 (m 35)] 0 hB.out (by omega)
  have hr := World.rangeAt_setCells_same _ (w.heap.size + 1) 0 [.int .i64 (m 0), .int .i64 (m 1), .int .i64 (m 2), .int .i64 (m 3), .int .i64 (m 4), .int .i64 (m 5), .int .i64 (m 6), .int .i64 (m 7), .int .i64 (m 8), .int .i64 (m 9), .int .i64 (m 10), .int .i64 (m 11), .int .i64 (m 12), .int .i64 (m 13), .int .i64 (m 14), .int .i64 (m 15), .int .i64 (m 16), .int .i64 (m 17), .int .i64 (m 18), .int .i64 (m 19), .int .i64 (m 20), .int .i64 (m 21), .int .i64 (m 22), .int .i64 (m 23), .int .i64 (m 24), .int .i64 (m 25), .int .i64 (m 26), .int .i64 (m 27), .int .i64 (m 28), .int .i64 (m 29), .int .i64 (m 30), .int .i64 (m 31), .int .i64 (m 32), .int .i64 (m 33), .int .i64 (m 34), .int .i64 (m 35)] hT.out
  generalize (World.setCells _ _ _ _ : World) = X at hB' hr ⊢
  have hl := run_loadVar_mid (P := Try.prog) X (w.heap.size + 1) 0 56 [.int .i64 (m 0), .int .i64 (m 1), .int .i64 (m 2), .int .i64 (m 3), .int .i64 (m 4), .int .i64 (m 5), .int .i64 (m 6), .int .i64 (m 7), .int .i64 (m 8), .int .i64 (m 9), .int .i64 (m 10), .int .i64 (m 11), .int .i64 (m 12), .int .i64 (m 13), .int .i64 (m 14), .int .i64 (m 15), .int .i64 (m 16), .int .i64 (m 17), .int .i64 (m 18), .int .i64 (m 19), .int .i64 (m 20), .int .i64 (m 21), .int .i64 (m 22), .int .i64 (m 23), .int .i64 (m 24), .int .i64 (m 25), .int .i64 (m 26), .int .i64 (m 27), .int .i64 (m 28), .int .i64 (m 29), .int .i64 (m 30), .int .i64 (m 31), .int .i64 (m 32), .int .i64 (m 33), .int .i64 (m 34), .int .i64 (m 35)] (.array 6 22) hr (by kernel_rfl) rfl (by kernel_rfl)
  clear hr hT hB
  exact bodyPost_ret (v := .tuple #[v36 m, .bool true]) (results_cell2 (a := 2) (b := 3) (t := 56) rfl rfl rfl hl) rfl ⟨rfl, hB'⟩
set_option maxRecDepth 20000 in
set_option maxHeartbeats 2000000 in
theorem smeets_no (a0 a1 a2 a3 a4 a5 : Int) (H0 : Hid (∀ w, Calls Try.prog 119 #[.agg #[.int .i64 a0, .int .i64 a1, .int .i64 a2, .int .i64 a3, .int .i64 a4, .int .i64 a5]] w fun e w' => e = .returned (.bool false) ∧ Below w.heap.size w w')) (w : World) : Calls Try.prog 49 #[.agg #[.int .i64 a0, .int .i64 a1, .int .i64 a2, .int .i64 a3, .int .i64 a4, .int .i64 a5]] w fun e w' => e = .returned (.tuple #[v36 (fun _ => 0), .bool false]) ∧ Below w.heap.size w w' := by
  go_enter Try.func49, Try.ntmps49
  go_wp2_with fail
  generalize hW : (World.alloc _ _ : World) = W0
  have K0 : KR 2 [(w.heap.size, o7e a0 a1 a2 a3 a4 a5), (w.heap.size + 1, o36 fun _ => 0)] w W0 := by rw [← hW]; exact kr2 w _ _
  clear hW
  have a_c := fun j => cell_of_row W0 _ j _ _ _ (K0.row (g := w.heap.size) (o := o7e a0 a1 a2 a3 a4 a5) (List.mem_cons_self ..))
  go_wp2_with fail
  refine (H0.out _).mono ?_
  rintro e W1 ⟨rfl, hb⟩
  have K1 := K0.far hb rfl
  clear hb K0 a_c
  have hT := Lib.hid (there36 (K1.row (g := w.heap.size + 1) (o := o36 fun _ => 0) (List.mem_cons_of_mem _ (List.mem_cons_self ..))))
  have hB := Lib.hid K1.2.2
  clear K1
  go_wp2_with (refine wpList_store_mid rfl 56 (.tmp 2) (.tmp 7) rfl (w.heap.size + 1) 0 #[.int .i64 0, .int .i64 0, .int .i64 0, .int .i64 0, .int .i64 0, .int .i64 0, .int .i64 0, .int .i64 0, .int .i64 0, .int .i64 0, .int .i64 0, .int .i64 0, .int .i64 0, .int .i64 0, .int .i64 0, .int .i64 0, .int .i64 0, .int .i64 0, .int .i64 0, .int .i64 0, .int .i64 0, .int .i64 0, .int .i64 0, .int .i64 0, .int .i64 0, .int .i64 0, .int .i64 0, .int .i64 0, .int .i64 0, .int .i64 0, .int .i64 0, .int .i64 0, .int .i64 0, .int .i64 0, .int .i64 0, .int .i64 0] rfl rfl hT.out (by kernel_rfl) (by kernel_rfl) ?_)
  have hB' := below_cells (b := w.heap.size + 1) [.int .i64 0, .int .i64 0, .int .i64 0, .int .i64 0, .int .i64 0, .int .i64 0, .int .i64 0, .int .i64 0, .int .i64 0, .int .i64 0, .int .i64 0, .int .i64 0, .int .i64 0, .int .i64 0, .int .i64 0, .int .i64 0, .int .i64 0, .int .i64 0, .int .i64 0, .int .i64 0, .int .i64 0, .int .i64 0, .int .i64 0, .int .i64 0, .int .i64 0, .int .i64 0, .int .i64 0, .int .i64 0, .int .i64 0, .int .i64 0, .int .i64 0, .int .i64 0, .int .i64 0, .int .i64 0, .int .i64 0, .int .i64 0] 0 hB.out (by omega)
  have hr := World.rangeAt_setCells_same _ (w.heap.size + 1) 0 [.int .i64 0, .int .i64 0, .int .i64 0, .int .i64 0, .int .i64 0, .int .i64 0, .int .i64 0, .int .i64 0, .int .i64 0, .int .i64 0, .int .i64 0, .int .i64 0, .int .i64 0, .int .i64 0, .int .i64 0, .int .i64 0, .int .i64 0, .int .i64 0, .int .i64 0, .int .i64 0, .int .i64 0, .int .i64 0, .int .i64 0, .int .i64 0, .int .i64 0, .int .i64 0, .int .i64 0, .int .i64 0, .int .i64 0, .int .i64 0, .int .i64 0, .int .i64 0, .int .i64 0, .int .i64 0, .int .i64 0, .int .i64 0] hT.out
  generalize (World.setCells _ _ _ _ : World) = X at hB' hr ⊢
  have hl := run_loadVar_mid (P := Try.prog) X (w.heap.size + 1) 0 56 [.int .i64 0, .int .i64 0, .int .i64 0, .int .i64 0, .int .i64 0, .int .i64 0, .int .i64 0, .int .i64 0, .int .i64 0, .int .i64 0, .int .i64 0, .int .i64 0, .int .i64 0, .int .i64 0, .int .i64 0, .int .i64 0, .int .i64 0, .int .i64 0, .int .i64 0, .int .i64 0, .int .i64 0, .int .i64 0, .int .i64 0, .int .i64 0, .int .i64 0, .int .i64 0, .int .i64 0, .int .i64 0, .int .i64 0, .int .i64 0, .int .i64 0, .int .i64 0, .int .i64 0, .int .i64 0, .int .i64 0, .int .i64 0] (.array 6 22) hr (by kernel_rfl) rfl (by kernel_rfl)
  clear hr hT hB
  exact bodyPost_ret (v := .tuple #[v36 (fun _ => 0), .bool false]) (results_cell2 (a := 2) (b := 3) (t := 56) rfl rfl rfl hl) rfl ⟨rfl, hB'⟩
set_option maxRecDepth 20000 in
set_option maxHeartbeats 2000000 in
theorem imeets_no (a0 a1 a2 a3 a4 a5 : Int) (H0 : Hid (∀ w, Calls Try.prog 122 #[.agg #[.int .i64 a0, .int .i64 a1, .int .i64 a2, .int .i64 a3, .int .i64 a4, .int .i64 a5]] w fun e w' => e = .returned (.bool false) ∧ Below w.heap.size w w')) (w : World) : Calls Try.prog 50 #[.agg #[.int .i64 a0, .int .i64 a1, .int .i64 a2, .int .i64 a3, .int .i64 a4, .int .i64 a5]] w fun e w' => e = .returned (.tuple #[v36 (fun _ => 0), .bool false]) ∧ Below w.heap.size w w' := by
  go_enter Try.func50, Try.ntmps50
  go_wp2_with fail
  generalize hW : (World.alloc _ _ : World) = W0
  have K0 : KR 2 [(w.heap.size, o7e a0 a1 a2 a3 a4 a5), (w.heap.size + 1, o36 fun _ => 0)] w W0 := by rw [← hW]; exact kr2 w _ _
  clear hW
  have a_c := fun j => cell_of_row W0 _ j _ _ _ (K0.row (g := w.heap.size) (o := o7e a0 a1 a2 a3 a4 a5) (List.mem_cons_self ..))
  go_wp2_with fail
  refine (H0.out _).mono ?_
  rintro e W1 ⟨rfl, hb⟩
  have K1 := K0.far hb rfl
  clear hb K0 a_c
  have hT := Lib.hid (there36 (K1.row (g := w.heap.size + 1) (o := o36 fun _ => 0) (List.mem_cons_of_mem _ (List.mem_cons_self ..))))
  have hB := Lib.hid K1.2.2
  clear K1
  go_wp2_with (refine wpList_store_mid rfl 56 (.tmp 2) (.tmp 7) rfl (w.heap.size + 1) 0 #[.int .i64 0, .int .i64 0, .int .i64 0, .int .i64 0, .int .i64 0, .int .i64 0, .int .i64 0, .int .i64 0, .int .i64 0, .int .i64 0, .int .i64 0, .int .i64 0, .int .i64 0, .int .i64 0, .int .i64 0, .int .i64 0, .int .i64 0, .int .i64 0, .int .i64 0, .int .i64 0, .int .i64 0, .int .i64 0, .int .i64 0, .int .i64 0, .int .i64 0, .int .i64 0, .int .i64 0, .int .i64 0, .int .i64 0, .int .i64 0, .int .i64 0, .int .i64 0, .int .i64 0, .int .i64 0, .int .i64 0, .int .i64 0] rfl rfl hT.out (by kernel_rfl) (by kernel_rfl) ?_)
  have hB' := below_cells (b := w.heap.size + 1) [.int .i64 0, .int .i64 0, .int .i64 0, .int .i64 0, .int .i64 0, .int .i64 0, .int .i64 0, .int .i64 0, .int .i64 0, .int .i64 0, .int .i64 0, .int .i64 0, .int .i64 0, .int .i64 0, .int .i64 0, .int .i64 0, .int .i64 0, .int .i64 0, .int .i64 0, .int .i64 0, .int .i64 0, .int .i64 0, .int .i64 0, .int .i64 0, .int .i64 0, .int .i64 0, .int .i64 0, .int .i64 0, .int .i64 0, .int .i64 0, .int .i64 0, .int .i64 0, .int .i64 0, .int .i64 0, .int .i64 0, .int .i64 0] 0 hB.out (by omega)
  have hr := World.rangeAt_setCells_same _ (w.heap.size + 1) 0 [.int .i64 0, .int .i64 0, .int .i64 0, .int .i64 0, .int .i64 0, .int .i64 0, .int .i64 0, .int .i64 0, .int .i64 0, .int .i64 0, .int .i64 0, .int .i64 0, .int .i64 0, .int .i64 0, .int .i64 0, .int .i64 0, .int .i64 0, .int .i64 0, .int .i64 0, .int .i64 0, .int .i64 0, .int .i64 0, .int .i64 0, .int .i64 0, .int .i64 0, .int .i64 0, .int .i64 0, .int .i64 0, .int .i64 0, .int .i64 0, .int .i64 0, .int .i64 0, .int .i64 0, .int .i64 0, .int .i64 0, .int .i64 0] hT.out
  generalize (World.setCells _ _ _ _ : World) = X at hB' hr ⊢
  have hl := run_loadVar_mid (P := Try.prog) X (w.heap.size + 1) 0 56 [.int .i64 0, .int .i64 0, .int .i64 0, .int .i64 0, .int .i64 0, .int .i64 0, .int .i64 0, .int .i64 0, .int .i64 0, .int .i64 0, .int .i64 0, .int .i64 0, .int .i64 0, .int .i64 0, .int .i64 0, .int .i64 0, .int .i64 0, .int .i64 0, .int .i64 0, .int .i64 0, .int .i64 0, .int .i64 0, .int .i64 0, .int .i64 0, .int .i64 0, .int .i64 0, .int .i64 0, .int .i64 0, .int .i64 0, .int .i64 0, .int .i64 0, .int .i64 0, .int .i64 0, .int .i64 0, .int .i64 0, .int .i64 0] (.array 6 22) hr (by kernel_rfl) rfl (by kernel_rfl)
  clear hr hT hB
  exact bodyPost_ret (v := .tuple #[v36 (fun _ => 0), .bool false]) (results_cell2 (a := 2) (b := 3) (t := 56) rfl rfl rfl hl) rfl ⟨rfl, hB'⟩
theorem meets_pair (a0 a1 a2 a3 a4 a5 : Int) : ∃ (m : Nat → Int) (t : Bool), (∀ w, Calls Try.prog 49 #[.agg #[.int .i64 a0, .int .i64 a1, .int .i64 a2, .int .i64 a3, .int .i64 a4, .int .i64 a5]] w fun e w' => e = .returned (.tuple #[v36 m, .bool t]) ∧ Below w.heap.size w w') ∧ (∀ w, Calls Try.prog 50 #[.agg #[.int .i64 a0, .int .i64 a1, .int .i64 a2, .int .i64 a3, .int .i64 a4, .int .i64 a5]] w fun e w' => e = .returned (.tuple #[v36 m, .bool t]) ∧ Below w.heap.size w w') := by
  cases hv : (ok a0 && ok a1 && ok a2 && ok a3 && ok a4 && ok a5)
  · exact ⟨fun _ => 0, false, smeets_no a0 a1 a2 a3 a4 a5 (Lib.hid (fun w => hv ▸ l2sheet_any a0 a1 a2 a3 a4 a5 w)), imeets_no a0 a1 a2 a3 a4 a5 (Lib.hid (fun w => hv ▸ sheet_any a0 a1 a2 a3 a4 a5 w))⟩
  · have HS := Lib.hid (fun w => hv ▸ l2sheet_any a0 a1 a2 a3 a4 a5 w)
    have HI := Lib.hid (fun w => hv ▸ sheet_any a0 a1 a2 a3 a4 a5 w)
    obtain ⟨f, rfl, rfl, rfl, rfl, rfl, rfl⟩ := sheet_bits a0 a1 a2 a3 a4 a5 hv
    exact ⟨mt7 f 36, true, smeets_yes f _ HS (Lib.hid (lmeet_f f)), imeets_yes f _ HI (Lib.hid (imeet_f f))⟩
end Go.Proofs.Ytpmhnikilianoaa
