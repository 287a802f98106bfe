/- CONTRACTS: the model's HitSheet. -/
import Derived.Test.YtjhokdccgachcaaOm5
import Derived.WalkKit
import Derived.ProofKit
import Derived.OpenShut
import Derived.Lib.Hide
import Derived.WalkSpells
import Derived.Below
import Derived.BigQuiet
import Derived.LoopN
namespace Go.Proofs.Ytjhokdccgachcaa
open Go.ChangeShapes Go.WideShapes Go.ChangeAt Go.RowKit
set_option linter.unusedVariables false
set_option maxHeartbeats 4000000 in
theorem shi_yes (s p q : Fn6) (K0 : Hid (∀ w, Calls Try.prog 91 #[.agg #[.int .i64 (rowv (s 0)), .int .i64 (rowv (s 1)), .int .i64 (rowv (s 2)), .int .i64 (rowv (s 3)), .int .i64 (rowv (s 4)), .int .i64 (rowv (s 5))]] w fun e w' => e = .returned (.bool true) ∧ Below w.heap.size w w')) (K1 : Hid (∀ w, Calls Try.prog 91 #[.agg #[.int .i64 (rowv (p 0)), .int .i64 (rowv (p 1)), .int .i64 (rowv (p 2)), .int .i64 (rowv (p 3)), .int .i64 (rowv (p 4)), .int .i64 (rowv (p 5))]] w fun e w' => e = .returned (.bool true) ∧ Below w.heap.size w w')) (K2 : Hid (∀ w, Calls Try.prog 91 #[.agg #[.int .i64 (rowv (q 0)), .int .i64 (rowv (q 1)), .int .i64 (rowv (q 2)), .int .i64 (rowv (q 3)), .int .i64 (rowv (q 4)), .int .i64 (rowv (q 5))]] w fun e w' => e = .returned (.bool true) ∧ Below w.heap.size w w')) (w : World) : Calls Try.prog 39 #[.agg #[.int .i64 (rowv (s 0)), .int .i64 (rowv (s 1)), .int .i64 (rowv (s 2)), .int .i64 (rowv (s 3)), .int .i64 (rowv (s 4)), .int .i64 (rowv (s 5))], .agg #[.int .i64 (rowv (p 0)), .int .i64 (rowv (p 1)), .int .i64 (rowv (p 2)), .int .i64 (rowv (p 3)), .int .i64 (rowv (p 4)), .int .i64 (rowv (p 5))], .agg #[.int .i64 (rowv (q 0)), .int .i64 (rowv (q 1)), .int .i64 (rowv (q 2)), .int .i64 (rowv (q 3)), .int .i64 (rowv (q 4)), .int .i64 (rowv (q 5))]] w fun e w' => e = .returned (.tuple #[.agg #[.int .i64 (rowv (af (shr s p) (shr (nf s) q) 0)), .int .i64 (rowv (af (shr s p) (shr (nf s) q) 1)), .int .i64 (rowv (af (shr s p) (shr (nf s) q) 2)), .int .i64 (rowv (af (shr s p) (shr (nf s) q) 3)), .int .i64 (rowv (af (shr s p) (shr (nf s) q) 4)), .int .i64 (rowv (af (shr s p) (shr (nf s) q) 5))], .bool true]) ∧ Below w.heap.size w w' := by
  have H1 := Lib.hid (lshrink_f s p)
  have H2 := Lib.hid (lnot_f s)
  have H3 := Lib.hid (lshrink_f (nf s) q)
  have H4 := Lib.hid (land_f (shr s p) (shr (nf s) q))
  go_enter Try.func39, Try.ntmps39
  go_wp2_with fail
  generalize hW : (World.alloc _ _ : World) = W0
  have hB0 : Below w.heap.size w W0 := by rw [← hW]; (repeat (first | exact Below.refl _ _ | assumption | refine Below.setCell ?_ (by first | (simp; done) | (simp; omega)) _ | refine Below.alloc ?_ (by first | (simp; done) | (simp; omega)) _ | refine Below.drew ?_))
  have q0 : W0.heap[(w.heap.size : Nat)]? = some (o6 s) := by
    rw [← hW]
    repeat (first | (refine alloc_at ?_; first | (simp; done) | (simp; omega)) | refine drew_row ?_ | refine alloc_past ?_ | assumption)
  have q1 : W0.heap[(w.heap.size + 1 : Nat)]? = some (o6 p) := by
    rw [← hW]
    repeat (first | (refine alloc_at ?_; first | (simp; done) | (simp; omega)) | refine drew_row ?_ | refine alloc_past ?_ | assumption)
  have q2 : W0.heap[(w.heap.size + 2 : Nat)]? = some (o6 q) := by
    rw [← hW]
    repeat (first | (refine alloc_at ?_; first | (simp; done) | (simp; omega)) | refine drew_row ?_ | refine alloc_past ?_ | assumption)
  have q3 : W0.heap[(w.heap.size + 3 : Nat)]? = some (oz) := by
    rw [← hW]
    repeat (first | (refine alloc_at ?_; first | (simp; done) | (simp; omega)) | refine drew_row ?_ | refine alloc_past ?_ | assumption)
  have hk : KR 3 [(w.heap.size, o6 s), (w.heap.size + 1, o6 p), (w.heap.size + 2, o6 q)] w W0 := ⟨by simp [q0, q1, q2], by rw [← hW]; simp, hB0⟩
  have hq := q3
  clear hW hB0 q0 q1 q2 q3
  have b0_c := fun j => cell_of_row _ _ j _ _ _ (hk.row (g := w.heap.size) (o := o6 s) (by simp))
  go_wp2_with fail
  refine (K0.out _).mono ?_
  rintro e V0 ⟨rfl, hb⟩
  have hk := hk.far hb rfl
  have hq := rowk hq hb rfl
  clear hb b0_c
  have b1_c := fun j => cell_of_row _ _ j _ _ _ (hk.row (g := w.heap.size + 1) (o := o6 p) (by simp))
  go_wp2_with fail
  refine (K1.out _).mono ?_
  rintro e V1 ⟨rfl, hb⟩
  have hk := hk.far hb rfl
  have hq := rowk hq hb rfl
  clear hb b1_c
  have b2_c := fun j => cell_of_row _ _ j _ _ _ (hk.row (g := w.heap.size + 2) (o := o6 q) (by simp))
  go_wp2_with fail
  refine (K2.out _).mono ?_
  rintro e V2 ⟨rfl, hb⟩
  have hk := hk.far hb rfl
  have hq := rowk hq hb rfl
  clear hb b2_c
  go_wp2_with fail
  have hz0 := KR.le hk
  set_option maxRecDepth 8000 in
  go_region_held3 (fun U => U.cell? ⟨w.heap.size, 0, none⟩ = some (.int .i64 (rowv (s 0))) ∧ U.cell? ⟨w.heap.size, 1, none⟩ = some (.int .i64 (rowv (s 1))) ∧ U.cell? ⟨w.heap.size, 2, none⟩ = some (.int .i64 (rowv (s 2))) ∧ U.cell? ⟨w.heap.size, 3, none⟩ = some (.int .i64 (rowv (s 3))) ∧ U.cell? ⟨w.heap.size, 4, none⟩ = some (.int .i64 (rowv (s 4))) ∧ U.cell? ⟨w.heap.size, 5, none⟩ = some (.int .i64 (rowv (s 5))) ∧ U.cell? ⟨w.heap.size + 1, 0, none⟩ = some (.int .i64 (rowv (p 0))) ∧ U.cell? ⟨w.heap.size + 1, 1, none⟩ = some (.int .i64 (rowv (p 1))) ∧ U.cell? ⟨w.heap.size + 1, 2, none⟩ = some (.int .i64 (rowv (p 2))) ∧ U.cell? ⟨w.heap.size + 1, 3, none⟩ = some (.int .i64 (rowv (p 3))) ∧ U.cell? ⟨w.heap.size + 1, 4, none⟩ = some (.int .i64 (rowv (p 4))) ∧ U.cell? ⟨w.heap.size + 1, 5, none⟩ = some (.int .i64 (rowv (p 5))) ∧ U.cell? ⟨w.heap.size + 2, 0, none⟩ = some (.int .i64 (rowv (q 0))) ∧ U.cell? ⟨w.heap.size + 2, 1, none⟩ = some (.int .i64 (rowv (q 1))) ∧ U.cell? ⟨w.heap.size + 2, 2, none⟩ = some (.int .i64 (rowv (q 2))) ∧ U.cell? ⟨w.heap.size + 2, 3, none⟩ = some (.int .i64 (rowv (q 3))) ∧ U.cell? ⟨w.heap.size + 2, 4, none⟩ = some (.int .i64 (rowv (q 4))) ∧ U.cell? ⟨w.heap.size + 2, 5, none⟩ = some (.int .i64 (rowv (q 5))) ∧ KR 3 [(w.heap.size, o6 s), (w.heap.size + 1, o6 p), (w.heap.size + 2, o6 q)] w U) (with_reducible refine SK3 ?_; (repeat (first | with_reducible assumption | with_reducible refine KR.al ?_ | with_reducible refine KR.drew ?_ | with_reducible refine KR.set ?_ (by first | omega | (simp; omega))))) (first | (go_at_call 97; with_reducible refine (H1.out _).mono ?_; rintro e w' ⟨rfl, hb'⟩; have hk : KR 3 [(w.heap.size, o6 s), (w.heap.size + 1, o6 p), (w.heap.size + 2, o6 q)] w w' := KR.far (by (repeat (first | with_reducible assumption | with_reducible refine KR.al ?_ | with_reducible refine KR.drew ?_ | with_reducible refine KR.set ?_ (by first | omega | (simp; omega))))) hb' rfl; have hq : w'.heap[w.heap.size + 3]? = some oz := rowk (by first | with_reducible assumption | (with_reducible refine drew_row ?_; with_reducible assumption)) hb' rfl) | (go_at_call 107; with_reducible refine (H2.out _).mono ?_; rintro e w' ⟨rfl, hb'⟩; have hk : KR 3 [(w.heap.size, o6 s), (w.heap.size + 1, o6 p), (w.heap.size + 2, o6 q)] w w' := KR.far (by (repeat (first | with_reducible assumption | with_reducible refine KR.al ?_ | with_reducible refine KR.drew ?_ | with_reducible refine KR.set ?_ (by first | omega | (simp; omega))))) hb' rfl; have hq : w'.heap[w.heap.size + 3]? = some oz := rowk (by first | with_reducible assumption | (with_reducible refine drew_row ?_; with_reducible assumption)) hb' rfl) | (go_at_call 97; with_reducible refine (H3.out _).mono ?_; rintro e w' ⟨rfl, hb'⟩; have hk : KR 3 [(w.heap.size, o6 s), (w.heap.size + 1, o6 p), (w.heap.size + 2, o6 q)] w w' := KR.far (by (repeat (first | with_reducible assumption | with_reducible refine KR.al ?_ | with_reducible refine KR.drew ?_ | with_reducible refine KR.set ?_ (by first | omega | (simp; omega))))) hb' rfl; have hq : w'.heap[w.heap.size + 3]? = some oz := rowk (by first | with_reducible assumption | (with_reducible refine drew_row ?_; with_reducible assumption)) hb' rfl) | (go_at_call 106; with_reducible refine (H4.out _).mono ?_; rintro e w' ⟨rfl, hb'⟩; have hk : KR 3 [(w.heap.size, o6 s), (w.heap.size + 1, o6 p), (w.heap.size + 2, o6 q)] w w' := KR.far (by (repeat (first | with_reducible assumption | with_reducible refine KR.al ?_ | with_reducible refine KR.drew ?_ | with_reducible refine KR.set ?_ (by first | omega | (simp; omega))))) hb' rfl; have hq : w'.heap[w.heap.size + 3]? = some oz := rowk (by first | with_reducible assumption | (with_reducible refine drew_row ?_; with_reducible assumption)) hb' rfl; have z_c := oz_c hq; have z_f := oz_f hq))
  all_goals
    go_wp2_with fail
    refine bodyPost_ret (v := .tuple #[.agg #[.int .i64 (rowv (af (shr s p) (shr (nf s) q) 0)), .int .i64 (rowv (af (shr s p) (shr (nf s) q) 1)), .int .i64 (rowv (af (shr s p) (shr (nf s) q) 2)), .int .i64 (rowv (af (shr s p) (shr (nf s) q) 3)), .int .i64 (rowv (af (shr s p) (shr (nf s) q) 4)), .int .i64 (rowv (af (shr s p) (shr (nf s) q) 5))], .bool true]) (by simp [results, Try.results39, go_sem, z_c]) rfl ⟨rfl, ?_⟩
    exact below6 hk.2.2 (by omega)
end Go.Proofs.Ytjhokdccgachcaa
