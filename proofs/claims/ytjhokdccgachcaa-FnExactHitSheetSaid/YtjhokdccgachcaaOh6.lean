/- CONTRACTS: the code's HitSheet. -/
import Derived.Test.YtjhokdccgachcaaBs5
import Derived.Test.YtjhokdccgachcaaOh5
import Derived.WalkKit
import Derived.ProofKit
import Derived.OpenShut
import Derived.Lib.Hide
import Derived.WalkSpells
import Derived.Below
import Derived.BigQuiet
import Derived.LoopN
namespace Go.Proofs.Ytjhokdccgachcaa
open Go.ChangeShapes Go.WideShapes Go.ChangeAt Go.RowKit
set_option linter.unusedVariables false
theorem rset5 {W : World} {g gb i : Nat} {o : Obj} {v : Value} (hne : gb ≠ g) (h : W.heap[gb]? = some o) : (W.setCell ⟨g, i, none⟩ v).heap[gb]? = some o := by
  rw [Below.heap_setCell _ _ _ _ hne]
  exact h
theorem SG3 {w U : World} {s p q x : Fn6} {gb : Nat} (h : KR 3 [(w.heap.size, o6 s), (w.heap.size + 1, o6 p), (w.heap.size + 2, o6 q)] w U) (hr : U.heap[gb]? = some (o6 x)) : U.cell? ⟨w.heap.size, 0, none⟩ = some (.int .i64 (rowv (s 0))) ∧ U.cell? ⟨w.heap.size, 1, none⟩ = some (.int .i64 (rowv (s 1))) ∧ U.cell? ⟨w.heap.size, 2, none⟩ = some (.int .i64 (rowv (s 2))) ∧ U.cell? ⟨w.heap.size, 3, none⟩ = some (.int .i64 (rowv (s 3))) ∧ U.cell? ⟨w.heap.size, 4, none⟩ = some (.int .i64 (rowv (s 4))) ∧ U.cell? ⟨w.heap.size, 5, none⟩ = some (.int .i64 (rowv (s 5))) ∧ U.cell? ⟨w.heap.size + 1, 0, none⟩ = some (.int .i64 (rowv (p 0))) ∧ U.cell? ⟨w.heap.size + 1, 1, none⟩ = some (.int .i64 (rowv (p 1))) ∧ U.cell? ⟨w.heap.size + 1, 2, none⟩ = some (.int .i64 (rowv (p 2))) ∧ U.cell? ⟨w.heap.size + 1, 3, none⟩ = some (.int .i64 (rowv (p 3))) ∧ U.cell? ⟨w.heap.size + 1, 4, none⟩ = some (.int .i64 (rowv (p 4))) ∧ U.cell? ⟨w.heap.size + 1, 5, none⟩ = some (.int .i64 (rowv (p 5))) ∧ U.cell? ⟨w.heap.size + 2, 0, none⟩ = some (.int .i64 (rowv (q 0))) ∧ U.cell? ⟨w.heap.size + 2, 1, none⟩ = some (.int .i64 (rowv (q 1))) ∧ U.cell? ⟨w.heap.size + 2, 2, none⟩ = some (.int .i64 (rowv (q 2))) ∧ U.cell? ⟨w.heap.size + 2, 3, none⟩ = some (.int .i64 (rowv (q 3))) ∧ U.cell? ⟨w.heap.size + 2, 4, none⟩ = some (.int .i64 (rowv (q 4))) ∧ U.cell? ⟨w.heap.size + 2, 5, none⟩ = some (.int .i64 (rowv (q 5))) ∧ U.cell? ⟨gb, 0, none⟩ = some (.int .i64 (rowv (x 0))) ∧ U.cell? ⟨gb, 1, none⟩ = some (.int .i64 (rowv (x 1))) ∧ U.cell? ⟨gb, 2, none⟩ = some (.int .i64 (rowv (x 2))) ∧ U.cell? ⟨gb, 3, none⟩ = some (.int .i64 (rowv (x 3))) ∧ U.cell? ⟨gb, 4, none⟩ = some (.int .i64 (rowv (x 4))) ∧ U.cell? ⟨gb, 5, none⟩ = some (.int .i64 (rowv (x 5))) ∧ KR 3 [(w.heap.size, o6 s), (w.heap.size + 1, o6 p), (w.heap.size + 2, o6 q)] w U ∧ U.heap[gb]? = some (o6 x) := by
  have h1 := SK3 h
  have h2 := fun j => cell_of_row U _ j _ _ _ hr
  obtain ⟨c0, c1, c2, c3, c4, c5, c6, c7, c8, c9, c10, c11, c12, c13, c14, c15, c16, c17, _⟩ := h1
  exact ⟨c0, c1, c2, c3, c4, c5, c6, c7, c8, c9, c10, c11, c12, c13, c14, c15, c16, c17, h2 0, h2 1, h2 2, h2 3, h2 4, h2 5, h, hr⟩
theorem wfull_f (s : Fn6) (w : World) : Calls Try.prog 108 #[.agg #[.int .i64 63, .int .i64 63, .int .i64 63, .int .i64 63, .int .i64 63, .int .i64 63], .agg #[.int .i64 (rowv (s 0)), .int .i64 (rowv (s 1)), .int .i64 (rowv (s 2)), .int .i64 (rowv (s 3)), .int .i64 (rowv (s 4)), .int .i64 (rowv (s 5))]] w fun e w' => e = .returned (.agg #[.int .i64 (rowv (nf s 0)), .int .i64 (rowv (nf s 1)), .int .i64 (rowv (nf s 2)), .int .i64 (rowv (nf s 3)), .int .i64 (rowv (nf s 4)), .int .i64 (rowv (nf s 5))]) ∧ Below w.heap.size w w' := by
  have h := without_any 63 63 63 63 63 63 (rowv (s 0)) (rowv (s 1)) (rowv (s 2)) (rowv (s 3)) (rowv (s 4)) (rowv (s 5)) w
  simp only [row_no] at h
  exact h
theorem ishared_f (s p : Fn6) (w : World) : Calls Try.prog 110 #[.agg #[.int .i64 (rowv (s 0)), .int .i64 (rowv (s 1)), .int .i64 (rowv (s 2)), .int .i64 (rowv (s 3)), .int .i64 (rowv (s 4)), .int .i64 (rowv (s 5))], .agg #[.int .i64 (rowv (p 0)), .int .i64 (rowv (p 1)), .int .i64 (rowv (p 2)), .int .i64 (rowv (p 3)), .int .i64 (rowv (p 4)), .int .i64 (rowv (p 5))]] w fun e w' => e = .returned (.agg #[.int .i64 (rowv (af s p 0)), .int .i64 (rowv (af s p 1)), .int .i64 (rowv (af s p 2)), .int .i64 (rowv (af s p 3)), .int .i64 (rowv (af s p 4)), .int .i64 (rowv (af s p 5))]) ∧ Below w.heap.size w w' := by
  have h := shared_any (rowv (s 0)) (rowv (s 1)) (rowv (s 2)) (rowv (s 3)) (rowv (s 4)) (rowv (s 5)) (rowv (p 0)) (rowv (p 1)) (rowv (p 2)) (rowv (p 3)) (rowv (p 4)) (rowv (p 5)) w
  simp only [row_af] at h
  exact h
theorem zrow5 {U : World} {g : Nat} (h : U.heap[g]? = some oz) : (∀ j, U.cell? ⟨g, j, none⟩ = (#[.int .i64 0, .int .i64 0, .int .i64 0, .int .i64 0, .int .i64 0, .int .i64 0] : Array Value)[j]?) ∧ ∀ j, U.frozen? ⟨g, j, none⟩ = false := ⟨oz_c h, oz_f h⟩
set_option maxHeartbeats 4000000 in
theorem ihi_yes (s p q : Fn6) (K0 : Hid (∀ w, Calls Try.prog 104 #[.agg #[.int .i64 (rowv (s 0)), .int .i64 (rowv (s 1)), .int .i64 (rowv (s 2)), .int .i64 (rowv (s 3)), .int .i64 (rowv (s 4)), .int .i64 (rowv (s 5))]] w fun e w' => e = .returned (.bool true) ∧ Below w.heap.size w w')) (K1 : Hid (∀ w, Calls Try.prog 104 #[.agg #[.int .i64 (rowv (p 0)), .int .i64 (rowv (p 1)), .int .i64 (rowv (p 2)), .int .i64 (rowv (p 3)), .int .i64 (rowv (p 4)), .int .i64 (rowv (p 5))]] w fun e w' => e = .returned (.bool true) ∧ Below w.heap.size w w')) (K2 : Hid (∀ w, Calls Try.prog 104 #[.agg #[.int .i64 (rowv (q 0)), .int .i64 (rowv (q 1)), .int .i64 (rowv (q 2)), .int .i64 (rowv (q 3)), .int .i64 (rowv (q 4)), .int .i64 (rowv (q 5))]] w fun e w' => e = .returned (.bool true) ∧ Below w.heap.size w w')) (w : World) : Calls Try.prog 40 #[.agg #[.int .i64 (rowv (s 0)), .int .i64 (rowv (s 1)), .int .i64 (rowv (s 2)), .int .i64 (rowv (s 3)), .int .i64 (rowv (s 4)), .int .i64 (rowv (s 5))], .agg #[.int .i64 (rowv (p 0)), .int .i64 (rowv (p 1)), .int .i64 (rowv (p 2)), .int .i64 (rowv (p 3)), .int .i64 (rowv (p 4)), .int .i64 (rowv (p 5))], .agg #[.int .i64 (rowv (q 0)), .int .i64 (rowv (q 1)), .int .i64 (rowv (q 2)), .int .i64 (rowv (q 3)), .int .i64 (rowv (q 4)), .int .i64 (rowv (q 5))]] w fun e w' => e = .returned (.tuple #[.agg #[.int .i64 (rowv (af (shr s p) (shr (nf s) q) 0)), .int .i64 (rowv (af (shr s p) (shr (nf s) q) 1)), .int .i64 (rowv (af (shr s p) (shr (nf s) q) 2)), .int .i64 (rowv (af (shr s p) (shr (nf s) q) 3)), .int .i64 (rowv (af (shr s p) (shr (nf s) q) 4)), .int .i64 (rowv (af (shr s p) (shr (nf s) q) 5))], .bool true]) ∧ Below w.heap.size w w' := by
  have HF := Lib.hid full_any
  have HW := Lib.hid (wfull_f s)
  have HA := Lib.hid (shrinking_f p)
  have HB := Lib.hid (shrinking_f q)
  have HC := Lib.hid (fun (g1 : Nat) w h => shrink_1 s p g1 w h)
  have HD := Lib.hid (fun (g1 : Nat) w h => shrink_1 (nf s) q g1 w h)
  have HE := Lib.hid (ishared_f (shr s p) (shr (nf s) q))
  go_enter Try.func40, Try.ntmps40
  go_wp2_with fail
  generalize hW : (World.alloc _ _ : World) = W0
  have hB0 : Below w.heap.size w W0 := by rw [← hW]; (repeat (first | exact Below.refl _ _ | assumption | refine Below.setCell ?_ (by first | (simp; done) | (simp; omega)) _ | refine Below.alloc ?_ (by first | (simp; done) | (simp; omega)) _ | refine Below.drew ?_))
  have q0 : W0.heap[(w.heap.size : Nat)]? = some (o6 s) := by
    rw [← hW]
    repeat (first | (refine alloc_at ?_; first | (simp; done) | (simp; omega)) | refine drew_row ?_ | refine alloc_past ?_ | assumption)
  have q1 : W0.heap[(w.heap.size + 1 : Nat)]? = some (o6 p) := by
    rw [← hW]
    repeat (first | (refine alloc_at ?_; first | (simp; done) | (simp; omega)) | refine drew_row ?_ | refine alloc_past ?_ | assumption)
  have q2 : W0.heap[(w.heap.size + 2 : Nat)]? = some (o6 q) := by
    rw [← hW]
    repeat (first | (refine alloc_at ?_; first | (simp; done) | (simp; omega)) | refine drew_row ?_ | refine alloc_past ?_ | assumption)
  have q3 : W0.heap[(w.heap.size + 3 : Nat)]? = some (oz) := by
    rw [← hW]
    repeat (first | (refine alloc_at ?_; first | (simp; done) | (simp; omega)) | refine drew_row ?_ | refine alloc_past ?_ | assumption)
  have hk : KR 3 [(w.heap.size, o6 s), (w.heap.size + 1, o6 p), (w.heap.size + 2, o6 q)] w W0 := ⟨by simp [q0, q1, q2], by rw [← hW]; simp, hB0⟩
  have hq := q3
  clear hW hB0 q0 q1 q2 q3
  have b0_c := fun j => cell_of_row _ _ j _ _ _ (hk.row (g := w.heap.size) (o := o6 s) (by simp))
  go_wp2_with fail
  refine (K0.out _).mono ?_
  rintro e V0 ⟨rfl, hb⟩
  have hk := hk.far hb rfl
  have hq := rowk hq hb rfl
  clear hb b0_c
  have b1_c := fun j => cell_of_row _ _ j _ _ _ (hk.row (g := w.heap.size + 1) (o := o6 p) (by simp))
  go_wp2_with fail
  refine (K1.out _).mono ?_
  rintro e V1 ⟨rfl, hb⟩
  have hk := hk.far hb rfl
  have hq := rowk hq hb rfl
  clear hb b1_c
  have b2_c := fun j => cell_of_row _ _ j _ _ _ (hk.row (g := w.heap.size + 2) (o := o6 q) (by simp))
  go_wp2_with fail
  refine (K2.out _).mono ?_
  rintro e V2 ⟨rfl, hb⟩
  have hk := hk.far hb rfl
  have hq := rowk hq hb rfl
  clear hb b2_c
  clear K0 K1 K2
  go_wp2_with fail
  have hz0 := KR.le hk
  have hzq := row_lt hq
  set_option maxRecDepth 8000 in
  go_region_held3 (fun U => U.cell? ⟨w.heap.size, 0, none⟩ = some (.int .i64 (rowv (s 0))) ∧ U.cell? ⟨w.heap.size, 1, none⟩ = some (.int .i64 (rowv (s 1))) ∧ U.cell? ⟨w.heap.size, 2, none⟩ = some (.int .i64 (rowv (s 2))) ∧ U.cell? ⟨w.heap.size, 3, none⟩ = some (.int .i64 (rowv (s 3))) ∧ U.cell? ⟨w.heap.size, 4, none⟩ = some (.int .i64 (rowv (s 4))) ∧ U.cell? ⟨w.heap.size, 5, none⟩ = some (.int .i64 (rowv (s 5))) ∧ U.cell? ⟨w.heap.size + 1, 0, none⟩ = some (.int .i64 (rowv (p 0))) ∧ U.cell? ⟨w.heap.size + 1, 1, none⟩ = some (.int .i64 (rowv (p 1))) ∧ U.cell? ⟨w.heap.size + 1, 2, none⟩ = some (.int .i64 (rowv (p 2))) ∧ U.cell? ⟨w.heap.size + 1, 3, none⟩ = some (.int .i64 (rowv (p 3))) ∧ U.cell? ⟨w.heap.size + 1, 4, none⟩ = some (.int .i64 (rowv (p 4))) ∧ U.cell? ⟨w.heap.size + 1, 5, none⟩ = some (.int .i64 (rowv (p 5))) ∧ U.cell? ⟨w.heap.size + 2, 0, none⟩ = some (.int .i64 (rowv (q 0))) ∧ U.cell? ⟨w.heap.size + 2, 1, none⟩ = some (.int .i64 (rowv (q 1))) ∧ U.cell? ⟨w.heap.size + 2, 2, none⟩ = some (.int .i64 (rowv (q 2))) ∧ U.cell? ⟨w.heap.size + 2, 3, none⟩ = some (.int .i64 (rowv (q 3))) ∧ U.cell? ⟨w.heap.size + 2, 4, none⟩ = some (.int .i64 (rowv (q 4))) ∧ U.cell? ⟨w.heap.size + 2, 5, none⟩ = some (.int .i64 (rowv (q 5))) ∧ KR 3 [(w.heap.size, o6 s), (w.heap.size + 1, o6 p), (w.heap.size + 2, o6 q)] w U) (with_reducible refine SK3 ?_; (repeat (first | with_reducible assumption | with_reducible refine KR.al ?_ | with_reducible refine KR.drew ?_ | with_reducible refine KR.set ?_ (by first | omega | (simp; omega))))) (first | (go_at_call 109; with_reducible refine (HF.out _).mono ?_; rintro e w' ⟨rfl, hb'⟩; have hk : KR 3 [(w.heap.size, o6 s), (w.heap.size + 1, o6 p), (w.heap.size + 2, o6 q)] w w' := KR.far (by (repeat (first | with_reducible assumption | with_reducible refine KR.al ?_ | with_reducible refine KR.drew ?_ | with_reducible refine KR.set ?_ (by first | omega | (simp; omega))))) hb' rfl; have hq : w'.heap[w.heap.size + 3]? = some oz := rowk (by first | with_reducible assumption | (with_reducible refine drew_row ?_; with_reducible assumption) | (with_reducible refine alloc_past ?_; with_reducible assumption) | (with_reducible refine drew_row ?_; with_reducible refine alloc_past ?_; with_reducible assumption)) hb' rfl; have hz := KR.le hk; have hzq := row_lt hq; (first | have hn := rowk hn hb' rfl | have hn := rowk (drew_row (alloc_at rfl)) hb' rfl | have hn := rowk (alloc_at rfl) hb' rfl | skip)) | (go_at_call 108; with_reducible refine (HW.out _).mono ?_; rintro e w' ⟨rfl, hb'⟩; have hk : KR 3 [(w.heap.size, o6 s), (w.heap.size + 1, o6 p), (w.heap.size + 2, o6 q)] w w' := KR.far (by (repeat (first | with_reducible assumption | with_reducible refine KR.al ?_ | with_reducible refine KR.drew ?_ | with_reducible refine KR.set ?_ (by first | omega | (simp; omega))))) hb' rfl; have hq : w'.heap[w.heap.size + 3]? = some oz := rowk (by first | with_reducible assumption | (with_reducible refine drew_row ?_; with_reducible assumption) | (with_reducible refine alloc_past ?_; with_reducible assumption) | (with_reducible refine drew_row ?_; with_reducible refine alloc_past ?_; with_reducible assumption)) hb' rfl; have hz := KR.le hk; have hzq := row_lt hq; (first | have hn := rowk hn hb' rfl | have hn := rowk (drew_row (alloc_at rfl)) hb' rfl | have hn := rowk (alloc_at rfl) hb' rfl | skip); (first | (have hm := zrow5 hn; obtain ⟨m_c, m_f⟩ := hm; have hnl := row_lt hn) | skip)))
  all_goals
    first
    | (have hx : (w'.alloc (.cells #[.int .i64 (rowv (nf s 0)), .int .i64 (rowv (nf s 1)), .int .i64 (rowv (nf s 2)), .int .i64 (rowv (nf s 3)), .int .i64 (rowv (nf s 4)), .int .i64 (rowv (nf s 5))] 25)).heap[w'.heap.size]? = some (o6 (nf s)) := alloc_at rfl
       have hk2 := hk.al (o := .cells #[.int .i64 (rowv (nf s 0)), .int .i64 (rowv (nf s 1)), .int .i64 (rowv (nf s 2)), .int .i64 (rowv (nf s 3)), .int .i64 (rowv (nf s 4)), .int .i64 (rowv (nf s 5))] 25)
       have hq2 : (w'.alloc (.cells #[.int .i64 (rowv (nf s 0)), .int .i64 (rowv (nf s 1)), .int .i64 (rowv (nf s 2)), .int .i64 (rowv (nf s 3)), .int .i64 (rowv (nf s 4)), .int .i64 (rowv (nf s 5))] 25)).heap[w.heap.size + 3]? = some oz := alloc_past hq
       have hne : w'.heap.size ≠ w.heap.size + 3 := Nat.ne_of_gt (row_lt hq)
       obtain ⟨X, hX⟩ : ∃ X, X = w'.alloc (.cells #[.int .i64 (rowv (nf s 0)), .int .i64 (rowv (nf s 1)), .int .i64 (rowv (nf s 2)), .int .i64 (rowv (nf s 3)), .int .i64 (rowv (nf s 4)), .int .i64 (rowv (nf s 5))] 25) := ⟨_, rfl⟩
       rw [← hX] at hx hk2 hq2 ⊢
       clear hX
       generalize w'.heap.size = gb at hx hne ⊢)
    | (have hx := set6a (.int .i64 (rowv (nf s 0))) (.int .i64 (rowv (nf s 1))) (.int .i64 (rowv (nf s 2))) (.int .i64 (rowv (nf s 3))) (.int .i64 (rowv (nf s 4))) (.int .i64 (rowv (nf s 5))) hn
       change _ = some (o6 (nf s)) at hx
       obtain ⟨gb, hG⟩ := gOf hn
       have hge : w.heap.size + 3 ≤ gb := by omega
       have hne : gb ≠ w.heap.size + 3 := by rw [hG]; first | omega | (simp; omega)
       rw [← hG] at hn hx ⊢
       have hk2 := hk.set (v := .int .i64 (rowv (nf s 0))) (i := 0) hge |>.set (v := .int .i64 (rowv (nf s 1))) (i := 1) hge |>.set (v := .int .i64 (rowv (nf s 2))) (i := 2) hge |>.set (v := .int .i64 (rowv (nf s 3))) (i := 3) hge |>.set (v := .int .i64 (rowv (nf s 4))) (i := 4) hge |>.set (v := .int .i64 (rowv (nf s 5))) (i := 5) hge
       have hq2 := set6o (.int .i64 (rowv (nf s 0))) (.int .i64 (rowv (nf s 1))) (.int .i64 (rowv (nf s 2))) (.int .i64 (rowv (nf s 3))) (.int .i64 (rowv (nf s 4))) (.int .i64 (rowv (nf s 5))) (Ne.symm hne) hq
       clear hG
       generalize hX : World.setCell _ _ _ = X at hx hk2 hq2 ⊢
       clear hX)
    clear hk hq
    have hz4 := KR.le hk2
    go_wp2_with fail
    set_option maxRecDepth 8000 in
    go_region_held3 (fun U => U.cell? ⟨w.heap.size, 0, none⟩ = some (.int .i64 (rowv (s 0))) ∧ U.cell? ⟨w.heap.size, 1, none⟩ = some (.int .i64 (rowv (s 1))) ∧ U.cell? ⟨w.heap.size, 2, none⟩ = some (.int .i64 (rowv (s 2))) ∧ U.cell? ⟨w.heap.size, 3, none⟩ = some (.int .i64 (rowv (s 3))) ∧ U.cell? ⟨w.heap.size, 4, none⟩ = some (.int .i64 (rowv (s 4))) ∧ U.cell? ⟨w.heap.size, 5, none⟩ = some (.int .i64 (rowv (s 5))) ∧ U.cell? ⟨w.heap.size + 1, 0, none⟩ = some (.int .i64 (rowv (p 0))) ∧ U.cell? ⟨w.heap.size + 1, 1, none⟩ = some (.int .i64 (rowv (p 1))) ∧ U.cell? ⟨w.heap.size + 1, 2, none⟩ = some (.int .i64 (rowv (p 2))) ∧ U.cell? ⟨w.heap.size + 1, 3, none⟩ = some (.int .i64 (rowv (p 3))) ∧ U.cell? ⟨w.heap.size + 1, 4, none⟩ = some (.int .i64 (rowv (p 4))) ∧ U.cell? ⟨w.heap.size + 1, 5, none⟩ = some (.int .i64 (rowv (p 5))) ∧ U.cell? ⟨w.heap.size + 2, 0, none⟩ = some (.int .i64 (rowv (q 0))) ∧ U.cell? ⟨w.heap.size + 2, 1, none⟩ = some (.int .i64 (rowv (q 1))) ∧ U.cell? ⟨w.heap.size + 2, 2, none⟩ = some (.int .i64 (rowv (q 2))) ∧ U.cell? ⟨w.heap.size + 2, 3, none⟩ = some (.int .i64 (rowv (q 3))) ∧ U.cell? ⟨w.heap.size + 2, 4, none⟩ = some (.int .i64 (rowv (q 4))) ∧ U.cell? ⟨w.heap.size + 2, 5, none⟩ = some (.int .i64 (rowv (q 5))) ∧ U.cell? ⟨gb, 0, none⟩ = some (.int .i64 (rowv (nf s 0))) ∧ U.cell? ⟨gb, 1, none⟩ = some (.int .i64 (rowv (nf s 1))) ∧ U.cell? ⟨gb, 2, none⟩ = some (.int .i64 (rowv (nf s 2))) ∧ U.cell? ⟨gb, 3, none⟩ = some (.int .i64 (rowv (nf s 3))) ∧ U.cell? ⟨gb, 4, none⟩ = some (.int .i64 (rowv (nf s 4))) ∧ U.cell? ⟨gb, 5, none⟩ = some (.int .i64 (rowv (nf s 5))) ∧ KR 3 [(w.heap.size, o6 s), (w.heap.size + 1, o6 p), (w.heap.size + 2, o6 q)] w U ∧ U.heap[gb]? = some (o6 (nf s))) (with_reducible refine SG3 ?_ ?_; (repeat (first | with_reducible assumption | with_reducible refine KR.al ?_ | with_reducible refine KR.drew ?_ | with_reducible refine KR.set ?_ (by first | omega | (simp; omega)) | with_reducible refine drew_row ?_ | with_reducible refine alloc_past ?_ | with_reducible refine rset5 (by first | assumption | omega) ?_))) (first | (go_at_call 98; with_reducible refine (HA.out _).mono ?_; rintro e w' ⟨g1, rfl, hq1, hb'⟩; have hk : KR 3 [(w.heap.size, o6 s), (w.heap.size + 1, o6 p), (w.heap.size + 2, o6 q)] w w' := KR.far (by (repeat (first | with_reducible assumption | with_reducible refine KR.al ?_ | with_reducible refine KR.drew ?_ | with_reducible refine KR.set ?_ (by first | omega | (simp; omega))))) hb' rfl; have hq : w'.heap[w.heap.size + 3]? = some oz := rowk (by first | with_reducible assumption | (with_reducible refine drew_row ?_; with_reducible assumption) | (with_reducible refine alloc_past ?_; with_reducible assumption) | (with_reducible refine drew_row ?_; with_reducible refine alloc_past ?_; with_reducible assumption)) hb' rfl; have hr : w'.heap[gb]? = some (o6 (nf s)) := rowk (by first | with_reducible assumption | (with_reducible refine drew_row ?_; with_reducible assumption)) hb' rfl) | (go_at_call 98; with_reducible refine (HB.out _).mono ?_; rintro e w' ⟨g1, rfl, hq1, hb'⟩; have hk : KR 3 [(w.heap.size, o6 s), (w.heap.size + 1, o6 p), (w.heap.size + 2, o6 q)] w w' := KR.far (by (repeat (first | with_reducible assumption | with_reducible refine KR.al ?_ | with_reducible refine KR.drew ?_ | with_reducible refine KR.set ?_ (by first | omega | (simp; omega))))) hb' rfl; have hq : w'.heap[w.heap.size + 3]? = some oz := rowk (by first | with_reducible assumption | (with_reducible refine drew_row ?_; with_reducible assumption) | (with_reducible refine alloc_past ?_; with_reducible assumption) | (with_reducible refine drew_row ?_; with_reducible refine alloc_past ?_; with_reducible assumption)) hb' rfl; have hr : w'.heap[gb]? = some (o6 (nf s)) := rowk (by first | with_reducible assumption | (with_reducible refine drew_row ?_; with_reducible assumption)) hb' rfl) | (go_at_call 159; with_reducible refine (HC.out g1 _ hq1).mono ?_; rintro e w' ⟨rfl, hb'⟩; have hk : KR 3 [(w.heap.size, o6 s), (w.heap.size + 1, o6 p), (w.heap.size + 2, o6 q)] w w' := KR.far (by (repeat (first | with_reducible assumption | with_reducible refine KR.al ?_ | with_reducible refine KR.drew ?_ | with_reducible refine KR.set ?_ (by first | omega | (simp; omega))))) hb' rfl; have hq : w'.heap[w.heap.size + 3]? = some oz := rowk (by first | with_reducible assumption | (with_reducible refine drew_row ?_; with_reducible assumption) | (with_reducible refine alloc_past ?_; with_reducible assumption) | (with_reducible refine drew_row ?_; with_reducible refine alloc_past ?_; with_reducible assumption)) hb' rfl; have hr : w'.heap[gb]? = some (o6 (nf s)) := rowk (by first | with_reducible assumption | (with_reducible refine drew_row ?_; with_reducible assumption)) hb' rfl) | (go_at_call 159; with_reducible refine (HD.out g1 _ hq1).mono ?_; rintro e w' ⟨rfl, hb'⟩; have hk : KR 3 [(w.heap.size, o6 s), (w.heap.size + 1, o6 p), (w.heap.size + 2, o6 q)] w w' := KR.far (by (repeat (first | with_reducible assumption | with_reducible refine KR.al ?_ | with_reducible refine KR.drew ?_ | with_reducible refine KR.set ?_ (by first | omega | (simp; omega))))) hb' rfl; have hq : w'.heap[w.heap.size + 3]? = some oz := rowk (by first | with_reducible assumption | (with_reducible refine drew_row ?_; with_reducible assumption) | (with_reducible refine alloc_past ?_; with_reducible assumption) | (with_reducible refine drew_row ?_; with_reducible refine alloc_past ?_; with_reducible assumption)) hb' rfl; have hr : w'.heap[gb]? = some (o6 (nf s)) := rowk (by first | with_reducible assumption | (with_reducible refine drew_row ?_; with_reducible assumption)) hb' rfl) | (go_at_call 110; with_reducible refine (HE.out _).mono ?_; rintro e w' ⟨rfl, hb'⟩; have hk : KR 3 [(w.heap.size, o6 s), (w.heap.size + 1, o6 p), (w.heap.size + 2, o6 q)] w w' := KR.far (by (repeat (first | with_reducible assumption | with_reducible refine KR.al ?_ | with_reducible refine KR.drew ?_ | with_reducible refine KR.set ?_ (by first | omega | (simp; omega))))) hb' rfl; have hq : w'.heap[w.heap.size + 3]? = some oz := rowk (by first | with_reducible assumption | (with_reducible refine drew_row ?_; with_reducible assumption) | (with_reducible refine alloc_past ?_; with_reducible assumption) | (with_reducible refine drew_row ?_; with_reducible refine alloc_past ?_; with_reducible assumption)) hb' rfl; have hr : w'.heap[gb]? = some (o6 (nf s)) := rowk (by first | with_reducible assumption | (with_reducible refine drew_row ?_; with_reducible assumption)) hb' rfl; have z_c := oz_c hq; have z_f := oz_f hq))
    all_goals
      go_wp2_with fail
      refine bodyPost_ret (v := .tuple #[.agg #[.int .i64 (rowv (af (shr s p) (shr (nf s) q) 0)), .int .i64 (rowv (af (shr s p) (shr (nf s) q) 1)), .int .i64 (rowv (af (shr s p) (shr (nf s) q) 2)), .int .i64 (rowv (af (shr s p) (shr (nf s) q) 3)), .int .i64 (rowv (af (shr s p) (shr (nf s) q) 4)), .int .i64 (rowv (af (shr s p) (shr (nf s) q) 5))], .bool true]) (by simp [results, Try.results40, go_sem, z_c]) rfl ⟨rfl, ?_⟩
      exact below6 hk.2.2 (by omega)
end Go.Proofs.Ytjhokdccgachcaa
