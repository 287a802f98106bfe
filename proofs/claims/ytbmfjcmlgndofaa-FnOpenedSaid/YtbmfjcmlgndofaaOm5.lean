/- CONTRACTS: the model's opening and closing, edges and hits. -/
import Derived.Test.YtbmfjcmlgndofaaSh5
import Derived.Test.YtbmfjcmlgndofaaSl5
import Derived.Test.YtbmfjcmlgndofaaSw5
import Derived.WalkKit
import Derived.ProofKit
import Derived.OpenShut
import Derived.Lib.Hide
import Derived.WalkSpells
import Derived.Below
import Derived.BigQuiet
import Derived.LoopN
namespace Go.Proofs.Ytbmfjcmlgndofaa
open Go.ChangeShapes Go.WideShapes Go.ChangeAt Go.RowKit
set_option linter.unusedVariables false
theorem oz_c {U : World} {g : Nat} (h : U.heap[g]? = some oz) : ∀ j, U.cell? ⟨g, j, none⟩ = (#[.int .i64 0, .int .i64 0, .int .i64 0, .int .i64 0, .int .i64 0, .int .i64 0] : Array Value)[j]? := fun j => cell_of_row U _ j _ _ _ h
theorem oz_f {U : World} {g : Nat} (h : U.heap[g]? = some oz) : ∀ j, U.frozen? ⟨g, j, none⟩ = false := fun j => frozen_of_row U _ j _ _ h
theorem SK1 {w U : World} {s : Fn6} (h : KR 1 [(w.heap.size, o6 s)] w U) : U.cell? ⟨w.heap.size, 0, none⟩ = some (.int .i64 (rowv (s 0))) ∧ U.cell? ⟨w.heap.size, 1, none⟩ = some (.int .i64 (rowv (s 1))) ∧ U.cell? ⟨w.heap.size, 2, none⟩ = some (.int .i64 (rowv (s 2))) ∧ U.cell? ⟨w.heap.size, 3, none⟩ = some (.int .i64 (rowv (s 3))) ∧ U.cell? ⟨w.heap.size, 4, none⟩ = some (.int .i64 (rowv (s 4))) ∧ U.cell? ⟨w.heap.size, 5, none⟩ = some (.int .i64 (rowv (s 5))) ∧ KR 1 [(w.heap.size, o6 s)] w U :=
  have h0 := fun j => cell_of_row U _ j _ _ _ (h.row (g := w.heap.size) (o := o6 s) (List.mem_cons_self ..))
  ⟨h0 0, h0 1, h0 2, h0 3, h0 4, h0 5, h⟩
theorem SK2 {w U : World} {s p : Fn6} (h : KR 2 [(w.heap.size, o6 s), (w.heap.size + 1, o6 p)] w U) : U.cell? ⟨w.heap.size, 0, none⟩ = some (.int .i64 (rowv (s 0))) ∧ U.cell? ⟨w.heap.size, 1, none⟩ = some (.int .i64 (rowv (s 1))) ∧ U.cell? ⟨w.heap.size, 2, none⟩ = some (.int .i64 (rowv (s 2))) ∧ U.cell? ⟨w.heap.size, 3, none⟩ = some (.int .i64 (rowv (s 3))) ∧ U.cell? ⟨w.heap.size, 4, none⟩ = some (.int .i64 (rowv (s 4))) ∧ U.cell? ⟨w.heap.size, 5, none⟩ = some (.int .i64 (rowv (s 5))) ∧ U.cell? ⟨w.heap.size + 1, 0, none⟩ = some (.int .i64 (rowv (p 0))) ∧ U.cell? ⟨w.heap.size + 1, 1, none⟩ = some (.int .i64 (rowv (p 1))) ∧ U.cell? ⟨w.heap.size + 1, 2, none⟩ = some (.int .i64 (rowv (p 2))) ∧ U.cell? ⟨w.heap.size + 1, 3, none⟩ = some (.int .i64 (rowv (p 3))) ∧ U.cell? ⟨w.heap.size + 1, 4, none⟩ = some (.int .i64 (rowv (p 4))) ∧ U.cell? ⟨w.heap.size + 1, 5, none⟩ = some (.int .i64 (rowv (p 5))) ∧ KR 2 [(w.heap.size, o6 s), (w.heap.size + 1, o6 p)] w U :=
  have h0 := fun j => cell_of_row U _ j _ _ _ (h.row (g := w.heap.size) (o := o6 s) (List.mem_cons_self ..))
  have h1 := fun j => cell_of_row U _ j _ _ _ (h.row (g := w.heap.size + 1) (o := o6 p) (List.mem_cons_of_mem _ (List.mem_cons_self ..)))
  ⟨h0 0, h0 1, h0 2, h0 3, h0 4, h0 5, h1 0, h1 1, h1 2, h1 3, h1 4, h1 5, h⟩
theorem SK3 {w U : World} {s p q : Fn6} (h : KR 3 [(w.heap.size, o6 s), (w.heap.size + 1, o6 p), (w.heap.size + 2, o6 q)] w U) : U.cell? ⟨w.heap.size, 0, none⟩ = some (.int .i64 (rowv (s 0))) ∧ U.cell? ⟨w.heap.size, 1, none⟩ = some (.int .i64 (rowv (s 1))) ∧ U.cell? ⟨w.heap.size, 2, none⟩ = some (.int .i64 (rowv (s 2))) ∧ U.cell? ⟨w.heap.size, 3, none⟩ = some (.int .i64 (rowv (s 3))) ∧ U.cell? ⟨w.heap.size, 4, none⟩ = some (.int .i64 (rowv (s 4))) ∧ U.cell? ⟨w.heap.size, 5, none⟩ = some (.int .i64 (rowv (s 5))) ∧ U.cell? ⟨w.heap.size + 1, 0, none⟩ = some (.int .i64 (rowv (p 0))) ∧ U.cell? ⟨w.heap.size + 1, 1, none⟩ = some (.int .i64 (rowv (p 1))) ∧ U.cell? ⟨w.heap.size + 1, 2, none⟩ = some (.int .i64 (rowv (p 2))) ∧ U.cell? ⟨w.heap.size + 1, 3, none⟩ = some (.int .i64 (rowv (p 3))) ∧ U.cell? ⟨w.heap.size + 1, 4, none⟩ = some (.int .i64 (rowv (p 4))) ∧ U.cell? ⟨w.heap.size + 1, 5, none⟩ = some (.int .i64 (rowv (p 5))) ∧ U.cell? ⟨w.heap.size + 2, 0, none⟩ = some (.int .i64 (rowv (q 0))) ∧ U.cell? ⟨w.heap.size + 2, 1, none⟩ = some (.int .i64 (rowv (q 1))) ∧ U.cell? ⟨w.heap.size + 2, 2, none⟩ = some (.int .i64 (rowv (q 2))) ∧ U.cell? ⟨w.heap.size + 2, 3, none⟩ = some (.int .i64 (rowv (q 3))) ∧ U.cell? ⟨w.heap.size + 2, 4, none⟩ = some (.int .i64 (rowv (q 4))) ∧ U.cell? ⟨w.heap.size + 2, 5, none⟩ = some (.int .i64 (rowv (q 5))) ∧ KR 3 [(w.heap.size, o6 s), (w.heap.size + 1, o6 p), (w.heap.size + 2, o6 q)] w U :=
  have h0 := fun j => cell_of_row U _ j _ _ _ (h.row (g := w.heap.size) (o := o6 s) (List.mem_cons_self ..))
  have h1 := fun j => cell_of_row U _ j _ _ _ (h.row (g := w.heap.size + 1) (o := o6 p) (List.mem_cons_of_mem _ (List.mem_cons_self ..)))
  have h2 := fun j => cell_of_row U _ j _ _ _ (h.row (g := w.heap.size + 2) (o := o6 q) (List.mem_cons_of_mem _ (List.mem_cons_of_mem _ (List.mem_cons_self ..))))
  ⟨h0 0, h0 1, h0 2, h0 3, h0 4, h0 5, h1 0, h1 1, h1 2, h1 3, h1 4, h1 5, h2 0, h2 1, h2 2, h2 3, h2 4, h2 5, h⟩
set_option maxHeartbeats 4000000 in
theorem lopen_f (s p : Fn6) (w : World) : Calls Try.prog 171 #[.agg #[.int .i64 (rowv (s 0)), .int .i64 (rowv (s 1)), .int .i64 (rowv (s 2)), .int .i64 (rowv (s 3)), .int .i64 (rowv (s 4)), .int .i64 (rowv (s 5))], .agg #[.int .i64 (rowv (p 0)), .int .i64 (rowv (p 1)), .int .i64 (rowv (p 2)), .int .i64 (rowv (p 3)), .int .i64 (rowv (p 4)), .int .i64 (rowv (p 5))]] w fun e w' => e = .returned (.agg #[.int .i64 (rowv (spd (shr s p) p 0)), .int .i64 (rowv (spd (shr s p) p 1)), .int .i64 (rowv (spd (shr s p) p 2)), .int .i64 (rowv (spd (shr s p) p 3)), .int .i64 (rowv (spd (shr s p) p 4)), .int .i64 (rowv (spd (shr s p) p 5))]) ∧ Below w.heap.size w w' := by
  have H1 := Lib.hid (lshrink_f s p)
  have H2 := Lib.hid (lspread_f (shr s p) p)
  go_enter Try.func171, Try.ntmps171
  go_wp2_with fail
  generalize hW : (World.alloc _ _ : World) = W0
  have hB0 : Below w.heap.size w W0 := by rw [← hW]; (repeat (first | exact Below.refl _ _ | assumption | refine Below.setCell ?_ (by first | (simp; done) | (simp; omega)) _ | refine Below.alloc ?_ (by first | (simp; done) | (simp; omega)) _ | refine Below.drew ?_))
  have q0 : W0.heap[(w.heap.size : Nat)]? = some (o6 s) := by
    rw [← hW]
    repeat (first | (refine alloc_at ?_; first | (simp; done) | (simp; omega)) | refine drew_row ?_ | refine alloc_past ?_ | assumption)
  have q1 : W0.heap[(w.heap.size + 1 : Nat)]? = some (o6 p) := by
    rw [← hW]
    repeat (first | (refine alloc_at ?_; first | (simp; done) | (simp; omega)) | refine drew_row ?_ | refine alloc_past ?_ | assumption)
  have q2 : W0.heap[(w.heap.size + 2 : Nat)]? = some (oz) := by
    rw [← hW]
    repeat (first | (refine alloc_at ?_; first | (simp; done) | (simp; omega)) | refine drew_row ?_ | refine alloc_past ?_ | assumption)
  have hk : KR 2 [(w.heap.size, o6 s), (w.heap.size + 1, o6 p)] w W0 := ⟨by simp [q0, q1], by rw [← hW]; simp, hB0⟩
  have hq := q2
  clear hW hB0 q0 q1 q2
  have hz0 := KR.le hk
  set_option maxRecDepth 8000 in
  go_region_held3 (fun U => U.cell? ⟨w.heap.size, 0, none⟩ = some (.int .i64 (rowv (s 0))) ∧ U.cell? ⟨w.heap.size, 1, none⟩ = some (.int .i64 (rowv (s 1))) ∧ U.cell? ⟨w.heap.size, 2, none⟩ = some (.int .i64 (rowv (s 2))) ∧ U.cell? ⟨w.heap.size, 3, none⟩ = some (.int .i64 (rowv (s 3))) ∧ U.cell? ⟨w.heap.size, 4, none⟩ = some (.int .i64 (rowv (s 4))) ∧ U.cell? ⟨w.heap.size, 5, none⟩ = some (.int .i64 (rowv (s 5))) ∧ U.cell? ⟨w.heap.size + 1, 0, none⟩ = some (.int .i64 (rowv (p 0))) ∧ U.cell? ⟨w.heap.size + 1, 1, none⟩ = some (.int .i64 (rowv (p 1))) ∧ U.cell? ⟨w.heap.size + 1, 2, none⟩ = some (.int .i64 (rowv (p 2))) ∧ U.cell? ⟨w.heap.size + 1, 3, none⟩ = some (.int .i64 (rowv (p 3))) ∧ U.cell? ⟨w.heap.size + 1, 4, none⟩ = some (.int .i64 (rowv (p 4))) ∧ U.cell? ⟨w.heap.size + 1, 5, none⟩ = some (.int .i64 (rowv (p 5))) ∧ KR 2 [(w.heap.size, o6 s), (w.heap.size + 1, o6 p)] w U) (with_reducible refine SK2 ?_; (repeat (first | with_reducible assumption | with_reducible refine KR.al ?_ | with_reducible refine KR.drew ?_ | with_reducible refine KR.set ?_ (by first | omega | (simp; omega))))) (first | (go_at_call 174; with_reducible refine (H1.out _).mono ?_; rintro e w' ⟨rfl, hb'⟩; have hk : KR 2 [(w.heap.size, o6 s), (w.heap.size + 1, o6 p)] w w' := KR.far (by (repeat (first | with_reducible assumption | with_reducible refine KR.al ?_ | with_reducible refine KR.drew ?_ | with_reducible refine KR.set ?_ (by first | omega | (simp; omega))))) hb' rfl; have hq : w'.heap[w.heap.size + 2]? = some oz := rowk (by first | with_reducible assumption | (with_reducible refine drew_row ?_; with_reducible assumption)) hb' rfl) | (go_at_call 178; with_reducible refine (H2.out _).mono ?_; rintro e w' ⟨rfl, hb'⟩; have hk : KR 2 [(w.heap.size, o6 s), (w.heap.size + 1, o6 p)] w w' := KR.far (by (repeat (first | with_reducible assumption | with_reducible refine KR.al ?_ | with_reducible refine KR.drew ?_ | with_reducible refine KR.set ?_ (by first | omega | (simp; omega))))) hb' rfl; have hq : w'.heap[w.heap.size + 2]? = some oz := rowk (by first | with_reducible assumption | (with_reducible refine drew_row ?_; with_reducible assumption)) hb' rfl; have z_c := oz_c hq; have z_f := oz_f hq))
  all_goals
    go_wp2_with fail
    refine bodyPost_ret (v := .agg #[.int .i64 (rowv (spd (shr s p) p 0)), .int .i64 (rowv (spd (shr s p) p 1)), .int .i64 (rowv (spd (shr s p) p 2)), .int .i64 (rowv (spd (shr s p) p 3)), .int .i64 (rowv (spd (shr s p) p 4)), .int .i64 (rowv (spd (shr s p) p 5))]) (by simp [results, Try.results171, go_sem, z_c]) rfl ⟨rfl, ?_⟩
    exact below6 hk.2.2 (by omega)
set_option maxHeartbeats 4000000 in
theorem lclose_f (s p : Fn6) (w : World) : Calls Try.prog 172 #[.agg #[.int .i64 (rowv (s 0)), .int .i64 (rowv (s 1)), .int .i64 (rowv (s 2)), .int .i64 (rowv (s 3)), .int .i64 (rowv (s 4)), .int .i64 (rowv (s 5))], .agg #[.int .i64 (rowv (p 0)), .int .i64 (rowv (p 1)), .int .i64 (rowv (p 2)), .int .i64 (rowv (p 3)), .int .i64 (rowv (p 4)), .int .i64 (rowv (p 5))]] w fun e w' => e = .returned (.agg #[.int .i64 (rowv (shr (spd s p) p 0)), .int .i64 (rowv (shr (spd s p) p 1)), .int .i64 (rowv (shr (spd s p) p 2)), .int .i64 (rowv (shr (spd s p) p 3)), .int .i64 (rowv (shr (spd s p) p 4)), .int .i64 (rowv (shr (spd s p) p 5))]) ∧ Below w.heap.size w w' := by
  have H1 := Lib.hid (lspread_f s p)
  have H2 := Lib.hid (lshrink_f (spd s p) p)
  go_enter Try.func172, Try.ntmps172
  go_wp2_with fail
  generalize hW : (World.alloc _ _ : World) = W0
  have hB0 : Below w.heap.size w W0 := by rw [← hW]; (repeat (first | exact Below.refl _ _ | assumption | refine Below.setCell ?_ (by first | (simp; done) | (simp; omega)) _ | refine Below.alloc ?_ (by first | (simp; done) | (simp; omega)) _ | refine Below.drew ?_))
  have q0 : W0.heap[(w.heap.size : Nat)]? = some (o6 s) := by
    rw [← hW]
    repeat (first | (refine alloc_at ?_; first | (simp; done) | (simp; omega)) | refine drew_row ?_ | refine alloc_past ?_ | assumption)
  have q1 : W0.heap[(w.heap.size + 1 : Nat)]? = some (o6 p) := by
    rw [← hW]
    repeat (first | (refine alloc_at ?_; first | (simp; done) | (simp; omega)) | refine drew_row ?_ | refine alloc_past ?_ | assumption)
  have q2 : W0.heap[(w.heap.size + 2 : Nat)]? = some (oz) := by
    rw [← hW]
    repeat (first | (refine alloc_at ?_; first | (simp; done) | (simp; omega)) | refine drew_row ?_ | refine alloc_past ?_ | assumption)
  have hk : KR 2 [(w.heap.size, o6 s), (w.heap.size + 1, o6 p)] w W0 := ⟨by simp [q0, q1], by rw [← hW]; simp, hB0⟩
  have hq := q2
  clear hW hB0 q0 q1 q2
  have hz0 := KR.le hk
  set_option maxRecDepth 8000 in
  go_region_held3 (fun U => U.cell? ⟨w.heap.size, 0, none⟩ = some (.int .i64 (rowv (s 0))) ∧ U.cell? ⟨w.heap.size, 1, none⟩ = some (.int .i64 (rowv (s 1))) ∧ U.cell? ⟨w.heap.size, 2, none⟩ = some (.int .i64 (rowv (s 2))) ∧ U.cell? ⟨w.heap.size, 3, none⟩ = some (.int .i64 (rowv (s 3))) ∧ U.cell? ⟨w.heap.size, 4, none⟩ = some (.int .i64 (rowv (s 4))) ∧ U.cell? ⟨w.heap.size, 5, none⟩ = some (.int .i64 (rowv (s 5))) ∧ U.cell? ⟨w.heap.size + 1, 0, none⟩ = some (.int .i64 (rowv (p 0))) ∧ U.cell? ⟨w.heap.size + 1, 1, none⟩ = some (.int .i64 (rowv (p 1))) ∧ U.cell? ⟨w.heap.size + 1, 2, none⟩ = some (.int .i64 (rowv (p 2))) ∧ U.cell? ⟨w.heap.size + 1, 3, none⟩ = some (.int .i64 (rowv (p 3))) ∧ U.cell? ⟨w.heap.size + 1, 4, none⟩ = some (.int .i64 (rowv (p 4))) ∧ U.cell? ⟨w.heap.size + 1, 5, none⟩ = some (.int .i64 (rowv (p 5))) ∧ KR 2 [(w.heap.size, o6 s), (w.heap.size + 1, o6 p)] w U) (with_reducible refine SK2 ?_; (repeat (first | with_reducible assumption | with_reducible refine KR.al ?_ | with_reducible refine KR.drew ?_ | with_reducible refine KR.set ?_ (by first | omega | (simp; omega))))) (first | (go_at_call 178; with_reducible refine (H1.out _).mono ?_; rintro e w' ⟨rfl, hb'⟩; have hk : KR 2 [(w.heap.size, o6 s), (w.heap.size + 1, o6 p)] w w' := KR.far (by (repeat (first | with_reducible assumption | with_reducible refine KR.al ?_ | with_reducible refine KR.drew ?_ | with_reducible refine KR.set ?_ (by first | omega | (simp; omega))))) hb' rfl; have hq : w'.heap[w.heap.size + 2]? = some oz := rowk (by first | with_reducible assumption | (with_reducible refine drew_row ?_; with_reducible assumption)) hb' rfl) | (go_at_call 174; with_reducible refine (H2.out _).mono ?_; rintro e w' ⟨rfl, hb'⟩; have hk : KR 2 [(w.heap.size, o6 s), (w.heap.size + 1, o6 p)] w w' := KR.far (by (repeat (first | with_reducible assumption | with_reducible refine KR.al ?_ | with_reducible refine KR.drew ?_ | with_reducible refine KR.set ?_ (by first | omega | (simp; omega))))) hb' rfl; have hq : w'.heap[w.heap.size + 2]? = some oz := rowk (by first | with_reducible assumption | (with_reducible refine drew_row ?_; with_reducible assumption)) hb' rfl; have z_c := oz_c hq; have z_f := oz_f hq))
  all_goals
    go_wp2_with fail
    refine bodyPost_ret (v := .agg #[.int .i64 (rowv (shr (spd s p) p 0)), .int .i64 (rowv (shr (spd s p) p 1)), .int .i64 (rowv (shr (spd s p) p 2)), .int .i64 (rowv (shr (spd s p) p 3)), .int .i64 (rowv (shr (spd s p) p 4)), .int .i64 (rowv (shr (spd s p) p 5))]) (by simp [results, Try.results172, go_sem, z_c]) rfl ⟨rfl, ?_⟩
    exact below6 hk.2.2 (by omega)
theorem lnot_f (s : Fn6) (w : World) : Calls Try.prog 180 #[.agg #[.int .i64 (rowv (s 0)), .int .i64 (rowv (s 1)), .int .i64 (rowv (s 2)), .int .i64 (rowv (s 3)), .int .i64 (rowv (s 4)), .int .i64 (rowv (s 5))]] w fun e w' => e = .returned (.agg #[.int .i64 (rowv (nf s 0)), .int .i64 (rowv (nf s 1)), .int .i64 (rowv (nf s 2)), .int .i64 (rowv (nf s 3)), .int .i64 (rowv (nf s 4)), .int .i64 (rowv (nf s 5))]) ∧ Below w.heap.size w w' := by
  have h := l2not_any (rowv (s 0)) (rowv (s 1)) (rowv (s 2)) (rowv (s 3)) (rowv (s 4)) (rowv (s 5)) w
  simp only [row_nf] at h
  exact h
theorem land_f (s p : Fn6) (w : World) : Calls Try.prog 162 #[.agg #[.int .i64 (rowv (s 0)), .int .i64 (rowv (s 1)), .int .i64 (rowv (s 2)), .int .i64 (rowv (s 3)), .int .i64 (rowv (s 4)), .int .i64 (rowv (s 5))], .agg #[.int .i64 (rowv (p 0)), .int .i64 (rowv (p 1)), .int .i64 (rowv (p 2)), .int .i64 (rowv (p 3)), .int .i64 (rowv (p 4)), .int .i64 (rowv (p 5))]] w fun e w' => e = .returned (.agg #[.int .i64 (rowv (af s p 0)), .int .i64 (rowv (af s p 1)), .int .i64 (rowv (af s p 2)), .int .i64 (rowv (af s p 3)), .int .i64 (rowv (af s p 4)), .int .i64 (rowv (af s p 5))]) ∧ Below w.heap.size w w' := by
  have h := l2and_any (rowv (s 0)) (rowv (s 1)) (rowv (s 2)) (rowv (s 3)) (rowv (s 4)) (rowv (s 5)) (rowv (p 0)) (rowv (p 1)) (rowv (p 2)) (rowv (p 3)) (rowv (p 4)) (rowv (p 5)) w
  simp only [row_af] at h
  exact h
set_option maxHeartbeats 4000000 in
theorem sio_yes (s p : Fn6) (K0 : Hid (∀ w, Calls Try.prog 121 #[.agg #[.int .i64 (rowv (s 0)), .int .i64 (rowv (s 1)), .int .i64 (rowv (s 2)), .int .i64 (rowv (s 3)), .int .i64 (rowv (s 4)), .int .i64 (rowv (s 5))]] w fun e w' => e = .returned (.bool true) ∧ Below w.heap.size w w')) (K1 : Hid (∀ w, Calls Try.prog 121 #[.agg #[.int .i64 (rowv (p 0)), .int .i64 (rowv (p 1)), .int .i64 (rowv (p 2)), .int .i64 (rowv (p 3)), .int .i64 (rowv (p 4)), .int .i64 (rowv (p 5))]] w fun e w' => e = .returned (.bool true) ∧ Below w.heap.size w w')) (w : World) : Calls Try.prog 67 #[.agg #[.int .i64 (rowv (s 0)), .int .i64 (rowv (s 1)), .int .i64 (rowv (s 2)), .int .i64 (rowv (s 3)), .int .i64 (rowv (s 4)), .int .i64 (rowv (s 5))], .agg #[.int .i64 (rowv (p 0)), .int .i64 (rowv (p 1)), .int .i64 (rowv (p 2)), .int .i64 (rowv (p 3)), .int .i64 (rowv (p 4)), .int .i64 (rowv (p 5))]] w fun e w' => e = .returned (.tuple #[.bool (rowv (spd (shr s p) p 0) == rowv (s 0) && rowv (spd (shr s p) p 1) == rowv (s 1) && rowv (spd (shr s p) p 2) == rowv (s 2) && rowv (spd (shr s p) p 3) == rowv (s 3) && rowv (spd (shr s p) p 4) == rowv (s 4) && rowv (spd (shr s p) p 5) == rowv (s 5)), .bool true]) ∧ Below w.heap.size w w' := by
  have H1 := Lib.hid (lopen_f s p)
  have HE := Lib.hid (eq26 (rowv (spd (shr s p) p 0)) (rowv (spd (shr s p) p 1)) (rowv (spd (shr s p) p 2)) (rowv (spd (shr s p) p 3)) (rowv (spd (shr s p) p 4)) (rowv (spd (shr s p) p 5)) (rowv (s 0)) (rowv (s 1)) (rowv (s 2)) (rowv (s 3)) (rowv (s 4)) (rowv (s 5)))
  go_enter Try.func67, Try.ntmps67
  go_wp2_with fail
  generalize hW : (World.alloc _ _ : World) = W0
  have hB0 : Below w.heap.size w W0 := by rw [← hW]; (repeat (first | exact Below.refl _ _ | assumption | refine Below.setCell ?_ (by first | (simp; done) | (simp; omega)) _ | refine Below.alloc ?_ (by first | (simp; done) | (simp; omega)) _ | refine Below.drew ?_))
  have q0 : W0.heap[(w.heap.size : Nat)]? = some (o6 s) := by
    rw [← hW]
    repeat (first | (refine alloc_at ?_; first | (simp; done) | (simp; omega)) | refine drew_row ?_ | refine alloc_past ?_ | assumption)
  have q1 : W0.heap[(w.heap.size + 1 : Nat)]? = some (o6 p) := by
    rw [← hW]
    repeat (first | (refine alloc_at ?_; first | (simp; done) | (simp; omega)) | refine drew_row ?_ | refine alloc_past ?_ | assumption)
  have hk : KR 2 [(w.heap.size, o6 s), (w.heap.size + 1, o6 p)] w W0 := ⟨by simp [q0, q1], by rw [← hW]; simp, hB0⟩
  clear hW hB0 q0 q1
  have b0_c := fun j => cell_of_row _ _ j _ _ _ (hk.row (g := w.heap.size) (o := o6 s) (by simp))
  go_wp2_with fail
  refine (K0.out _).mono ?_
  rintro e V0 ⟨rfl, hb⟩
  have hk := hk.far hb rfl
  clear hb b0_c
  have b1_c := fun j => cell_of_row _ _ j _ _ _ (hk.row (g := w.heap.size + 1) (o := o6 p) (by simp))
  go_wp2_with fail
  refine (K1.out _).mono ?_
  rintro e V1 ⟨rfl, hb⟩
  have hk := hk.far hb rfl
  clear hb b1_c
  go_wp2_with fail
  have he := HE.out
  have hz0 := KR.le hk
  set_option maxRecDepth 8000 in
  go_region_held3 (fun U => U.cell? ⟨w.heap.size, 0, none⟩ = some (.int .i64 (rowv (s 0))) ∧ U.cell? ⟨w.heap.size, 1, none⟩ = some (.int .i64 (rowv (s 1))) ∧ U.cell? ⟨w.heap.size, 2, none⟩ = some (.int .i64 (rowv (s 2))) ∧ U.cell? ⟨w.heap.size, 3, none⟩ = some (.int .i64 (rowv (s 3))) ∧ U.cell? ⟨w.heap.size, 4, none⟩ = some (.int .i64 (rowv (s 4))) ∧ U.cell? ⟨w.heap.size, 5, none⟩ = some (.int .i64 (rowv (s 5))) ∧ U.cell? ⟨w.heap.size + 1, 0, none⟩ = some (.int .i64 (rowv (p 0))) ∧ U.cell? ⟨w.heap.size + 1, 1, none⟩ = some (.int .i64 (rowv (p 1))) ∧ U.cell? ⟨w.heap.size + 1, 2, none⟩ = some (.int .i64 (rowv (p 2))) ∧ U.cell? ⟨w.heap.size + 1, 3, none⟩ = some (.int .i64 (rowv (p 3))) ∧ U.cell? ⟨w.heap.size + 1, 4, none⟩ = some (.int .i64 (rowv (p 4))) ∧ U.cell? ⟨w.heap.size + 1, 5, none⟩ = some (.int .i64 (rowv (p 5))) ∧ KR 2 [(w.heap.size, o6 s), (w.heap.size + 1, o6 p)] w U) (with_reducible refine SK2 ?_; (repeat (first | with_reducible assumption | with_reducible refine KR.al ?_ | with_reducible refine KR.drew ?_ | with_reducible refine KR.set ?_ (by first | omega | (simp; omega))))) (first | (go_at_call 171; with_reducible refine (H1.out _).mono ?_; rintro e w' ⟨rfl, hb'⟩; have hk : KR 2 [(w.heap.size, o6 s), (w.heap.size + 1, o6 p)] w w' := KR.far (by (repeat (first | with_reducible assumption | with_reducible refine KR.al ?_ | with_reducible refine KR.drew ?_ | with_reducible refine KR.set ?_ (by first | omega | (simp; omega))))) hb' rfl))
  all_goals
    go_wp2_with fail
    go_ret2
    exact ⟨rfl, hk.2.2⟩
set_option maxHeartbeats 4000000 in
theorem sic_yes (s p : Fn6) (K0 : Hid (∀ w, Calls Try.prog 121 #[.agg #[.int .i64 (rowv (s 0)), .int .i64 (rowv (s 1)), .int .i64 (rowv (s 2)), .int .i64 (rowv (s 3)), .int .i64 (rowv (s 4)), .int .i64 (rowv (s 5))]] w fun e w' => e = .returned (.bool true) ∧ Below w.heap.size w w')) (K1 : Hid (∀ w, Calls Try.prog 121 #[.agg #[.int .i64 (rowv (p 0)), .int .i64 (rowv (p 1)), .int .i64 (rowv (p 2)), .int .i64 (rowv (p 3)), .int .i64 (rowv (p 4)), .int .i64 (rowv (p 5))]] w fun e w' => e = .returned (.bool true) ∧ Below w.heap.size w w')) (w : World) : Calls Try.prog 71 #[.agg #[.int .i64 (rowv (s 0)), .int .i64 (rowv (s 1)), .int .i64 (rowv (s 2)), .int .i64 (rowv (s 3)), .int .i64 (rowv (s 4)), .int .i64 (rowv (s 5))], .agg #[.int .i64 (rowv (p 0)), .int .i64 (rowv (p 1)), .int .i64 (rowv (p 2)), .int .i64 (rowv (p 3)), .int .i64 (rowv (p 4)), .int .i64 (rowv (p 5))]] w fun e w' => e = .returned (.tuple #[.bool (rowv (shr (spd s p) p 0) == rowv (s 0) && rowv (shr (spd s p) p 1) == rowv (s 1) && rowv (shr (spd s p) p 2) == rowv (s 2) && rowv (shr (spd s p) p 3) == rowv (s 3) && rowv (shr (spd s p) p 4) == rowv (s 4) && rowv (shr (spd s p) p 5) == rowv (s 5)), .bool true]) ∧ Below w.heap.size w w' := by
  have H1 := Lib.hid (lclose_f s p)
  have HE := Lib.hid (eq26 (rowv (shr (spd s p) p 0)) (rowv (shr (spd s p) p 1)) (rowv (shr (spd s p) p 2)) (rowv (shr (spd s p) p 3)) (rowv (shr (spd s p) p 4)) (rowv (shr (spd s p) p 5)) (rowv (s 0)) (rowv (s 1)) (rowv (s 2)) (rowv (s 3)) (rowv (s 4)) (rowv (s 5)))
  go_enter Try.func71, Try.ntmps71
  go_wp2_with fail
  generalize hW : (World.alloc _ _ : World) = W0
  have hB0 : Below w.heap.size w W0 := by rw [← hW]; (repeat (first | exact Below.refl _ _ | assumption | refine Below.setCell ?_ (by first | (simp; done) | (simp; omega)) _ | refine Below.alloc ?_ (by first | (simp; done) | (simp; omega)) _ | refine Below.drew ?_))
  have q0 : W0.heap[(w.heap.size : Nat)]? = some (o6 s) := by
    rw [← hW]
    repeat (first | (refine alloc_at ?_; first | (simp; done) | (simp; omega)) | refine drew_row ?_ | refine alloc_past ?_ | assumption)
  have q1 : W0.heap[(w.heap.size + 1 : Nat)]? = some (o6 p) := by
    rw [← hW]
    repeat (first | (refine alloc_at ?_; first | (simp; done) | (simp; omega)) | refine drew_row ?_ | refine alloc_past ?_ | assumption)
  have hk : KR 2 [(w.heap.size, o6 s), (w.heap.size + 1, o6 p)] w W0 := ⟨by simp [q0, q1], by rw [← hW]; simp, hB0⟩
  clear hW hB0 q0 q1
  have b0_c := fun j => cell_of_row _ _ j _ _ _ (hk.row (g := w.heap.size) (o := o6 s) (by simp))
  go_wp2_with fail
  refine (K0.out _).mono ?_
  rintro e V0 ⟨rfl, hb⟩
  have hk := hk.far hb rfl
  clear hb b0_c
  have b1_c := fun j => cell_of_row _ _ j _ _ _ (hk.row (g := w.heap.size + 1) (o := o6 p) (by simp))
  go_wp2_with fail
  refine (K1.out _).mono ?_
  rintro e V1 ⟨rfl, hb⟩
  have hk := hk.far hb rfl
  clear hb b1_c
  go_wp2_with fail
  have he := HE.out
  have hz0 := KR.le hk
  set_option maxRecDepth 8000 in
  go_region_held3 (fun U => U.cell? ⟨w.heap.size, 0, none⟩ = some (.int .i64 (rowv (s 0))) ∧ U.cell? ⟨w.heap.size, 1, none⟩ = some (.int .i64 (rowv (s 1))) ∧ U.cell? ⟨w.heap.size, 2, none⟩ = some (.int .i64 (rowv (s 2))) ∧ U.cell? ⟨w.heap.size, 3, none⟩ = some (.int .i64 (rowv (s 3))) ∧ U.cell? ⟨w.heap.size, 4, none⟩ = some (.int .i64 (rowv (s 4))) ∧ U.cell? ⟨w.heap.size, 5, none⟩ = some (.int .i64 (rowv (s 5))) ∧ U.cell? ⟨w.heap.size + 1, 0, none⟩ = some (.int .i64 (rowv (p 0))) ∧ U.cell? ⟨w.heap.size + 1, 1, none⟩ = some (.int .i64 (rowv (p 1))) ∧ U.cell? ⟨w.heap.size + 1, 2, none⟩ = some (.int .i64 (rowv (p 2))) ∧ U.cell? ⟨w.heap.size + 1, 3, none⟩ = some (.int .i64 (rowv (p 3))) ∧ U.cell? ⟨w.heap.size + 1, 4, none⟩ = some (.int .i64 (rowv (p 4))) ∧ U.cell? ⟨w.heap.size + 1, 5, none⟩ = some (.int .i64 (rowv (p 5))) ∧ KR 2 [(w.heap.size, o6 s), (w.heap.size + 1, o6 p)] w U) (with_reducible refine SK2 ?_; (repeat (first | with_reducible assumption | with_reducible refine KR.al ?_ | with_reducible refine KR.drew ?_ | with_reducible refine KR.set ?_ (by first | omega | (simp; omega))))) (first | (go_at_call 172; with_reducible refine (H1.out _).mono ?_; rintro e w' ⟨rfl, hb'⟩; have hk : KR 2 [(w.heap.size, o6 s), (w.heap.size + 1, o6 p)] w w' := KR.far (by (repeat (first | with_reducible assumption | with_reducible refine KR.al ?_ | with_reducible refine KR.drew ?_ | with_reducible refine KR.set ?_ (by first | omega | (simp; omega))))) hb' rfl))
  all_goals
    go_wp2_with fail
    go_ret2
    exact ⟨rfl, hk.2.2⟩
end Go.Proofs.Ytbmfjcmlgndofaa
