/- CONTRACTS: the sheet behind a step, of the model. -/
import Derived.Test.YtnkjamdpafpcpaaPe11
import Derived.WalkKit
import Derived.ProofKit
import Derived.OpenShut
import Derived.Lib.Hide
import Derived.WalkSpells
import Derived.Below
import Derived.BigQuiet
import Derived.LoopN
namespace Go.Proofs.Ytnkjamdpafpcpaa
open Go.ChangeShapes Go.WideShapes Go.ChangeAt Go.RowKit
set_option linter.unusedVariables false
theorem alloc_is11 {A X : World} {o : Obj} (h : A.alloc o = X) : X.heap[A.heap.size]? = some o := by rw [← h]; exact alloc_at rfl
theorem Np11.le {n g : Nat} {rows : List (Nat × Obj)} {xs : List Value} {w U : World} (h : Np11 n rows g xs w U) : w.heap.size + n ≤ U.heap.size := h.1.2.1
theorem SKn11 {w U : World} {k : Int} {f : Nat → Nat → Bool} {F : List (Nat → Nat → Bool)} {s x y g1 : Nat} (h : Np11 3 [(w.heap.size, o6_11 f), (w.heap.size + 1, o4_11 k s x y), (w.heap.size + 1 + 1, oz)] g1 (hv11 (F.map t11)) w U) (hs : s < F.length) : U.cell? ⟨w.heap.size + 1, 0, none⟩ = some (.int .i64 k) ∧ U.cell? ⟨w.heap.size + 1, 1, none⟩ = some (.int .i64 (s : Int)) ∧ U.cell? ⟨w.heap.size + 1, 2, none⟩ = some (.int .i64 (x : Int)) ∧ U.cell? ⟨w.heap.size + 1, 3, none⟩ = some (.int .i64 (y : Int)) ∧ U.cell? ⟨g1, s * 6, none⟩ = some (.int .i64 (rowv (F[s] 0))) ∧ U.cell? ⟨g1, s * 6 + 1, none⟩ = some (.int .i64 (rowv (F[s] 1))) ∧ U.cell? ⟨g1, s * 6 + 2, none⟩ = some (.int .i64 (rowv (F[s] 2))) ∧ U.cell? ⟨g1, s * 6 + 3, none⟩ = some (.int .i64 (rowv (F[s] 3))) ∧ U.cell? ⟨g1, s * 6 + 4, none⟩ = some (.int .i64 (rowv (F[s] 4))) ∧ U.cell? ⟨g1, s * 6 + 5, none⟩ = some (.int .i64 (rowv (F[s] 5))) ∧ Np11 3 [(w.heap.size, o6_11 f), (w.heap.size + 1, o4_11 k s x y), (w.heap.size + 1 + 1, oz)] g1 (hv11 (F.map t11)) w U := by
  have h2 := fun j => cell_of_row U _ j _ _ _ (h.1.row (g := w.heap.size + 1) (o := o4_11 k s x y) (List.mem_cons_of_mem _ (List.mem_cons_self ..)))
  have hr := fm_range ch11_len h.2.1 (i := s) (by simpa using hs)
  rw [List.getElem_map] at hr
  exact ⟨h2 0, h2 1, h2 2, h2 3, hr 0 _ rfl, hr 1 _ rfl, hr 2 _ rfl, hr 3 _ rfl, hr 4 _ rfl, hr 5 _ rfl, h⟩
/-- Behind the first assignment: the boxes, and the shifted stamp in a box. -/
def Nq11 (f : Nat → Nat → Bool) (q : Nat → Nat → Bool) (gn : Nat) (w U : World) : Prop := U.heap[w.heap.size]? = some (o6_11 f) ∧ U.heap[w.heap.size + 1 + 1]? = some oz ∧ U.heap[gn]? = some (o6_11 q) ∧ w.heap.size + 3 ≤ gn ∧ w.heap.size + 3 ≤ U.heap.size ∧ Below w.heap.size w U
theorem Nq11.far {f q : Nat → Nat → Bool} {gn M : Nat} {w U V : World} (h : Nq11 f q gn w U) (hb : Below M U V) (hM : M = U.heap.size) : Nq11 f q gn w V := ⟨rowk h.1 hb hM, rowk h.2.1 hb hM, rowk h.2.2.1 hb hM, h.2.2.2.1, Nat.le_trans h.2.2.2.2.1 hb.size, below_of h.2.2.2.2.2 hb (by have := h.2.2.2.2.2.size; omega)⟩
theorem Nq11.drew {f q : Nat → Nat → Bool} {gn : Nat} {w U : World} (h : Nq11 f q gn w U) : Nq11 f q gn w U.drew := h.far (M := U.heap.size) (Below.refl _ _).drew rfl
theorem Nq11.of {k : Int} {f q : Nat → Nat → Bool} {F : List (Nat → Nat → Bool)} {s x y g1 gn : Nat} {w U : World} (h : Np11 3 [(w.heap.size, o6_11 f), (w.heap.size + 1, o4_11 k s x y), (w.heap.size + 1 + 1, oz)] g1 (hv11 (F.map t11)) w U) (hx : U.heap[gn]? = some (o6_11 q)) (hg : w.heap.size + 3 ≤ gn) : Nq11 f q gn w U := ⟨h.1.row (List.mem_cons_self ..), h.1.row (List.mem_cons_of_mem _ (List.mem_cons_of_mem _ (List.mem_cons_self ..))), hx, hg, h.1.2.1, h.1.2.2⟩
/-- The same without the box of the answer. -/
def Nr11 (f : Nat → Nat → Bool) (q : Nat → Nat → Bool) (gn : Nat) (w U : World) : Prop := U.heap[w.heap.size]? = some (o6_11 f) ∧ U.heap[gn]? = some (o6_11 q) ∧ w.heap.size + 3 ≤ gn ∧ Below w.heap.size w U
theorem Nq11.r {f q : Nat → Nat → Bool} {gn : Nat} {w U : World} (h : Nq11 f q gn w U) : Nr11 f q gn w U := ⟨h.1, h.2.2.1, h.2.2.2.1, h.2.2.2.2.2⟩
theorem Nq11.ex {f q : Nat → Nat → Bool} {gn : Nat} {w U : World} (h : Nq11 f q gn w U) : ∃ g, g = gn := ⟨gn, rfl⟩
theorem Nr11.far {f q : Nat → Nat → Bool} {gn M : Nat} {w U V : World} (h : Nr11 f q gn w U) (hb : Below M U V) (hM : M = U.heap.size) : Nr11 f q gn w V := ⟨rowk h.1 hb hM, rowk h.2.1 hb hM, h.2.2.1, below_of h.2.2.2 hb (by have := h.2.2.2.size; omega)⟩
theorem Nr11.drew {f q : Nat → Nat → Bool} {gn : Nat} {w U : World} (h : Nr11 f q gn w U) : Nr11 f q gn w U.drew := h.far (M := U.heap.size) (Below.refl _ _).drew rfl
theorem Nr11.put {f q : Nat → Nat → Bool} {gn i : Nat} {w U : World} {v : Value} (h : Nr11 f q gn w U) : Nr11 f q gn w (U.setCell ⟨w.heap.size + 1 + 1, i, none⟩ v) := by
  obtain ⟨h1, h2, h3, h4⟩ := h
  have n1 : w.heap.size ≠ w.heap.size + 1 + 1 := by omega
  have n2 : gn ≠ w.heap.size + 1 + 1 := by omega
  exact ⟨by rw [Below.heap_setCell _ _ _ _ n1]; exact h1, by rw [Below.heap_setCell _ _ _ _ n2]; exact h2, h3, h4.setCell (by show w.heap.size ≤ w.heap.size + 1 + 1; omega) _⟩
theorem SKq11 {f q : Nat → Nat → Bool} {gn : Nat} {w U : World} (h : Nr11 f q gn w U) : U.cell? ⟨w.heap.size, 0, none⟩ = some (.int .i64 (rowv (f 0))) ∧ U.cell? ⟨w.heap.size, 1, none⟩ = some (.int .i64 (rowv (f 1))) ∧ U.cell? ⟨w.heap.size, 2, none⟩ = some (.int .i64 (rowv (f 2))) ∧ U.cell? ⟨w.heap.size, 3, none⟩ = some (.int .i64 (rowv (f 3))) ∧ U.cell? ⟨w.heap.size, 4, none⟩ = some (.int .i64 (rowv (f 4))) ∧ U.cell? ⟨w.heap.size, 5, none⟩ = some (.int .i64 (rowv (f 5))) ∧ U.cell? ⟨gn, 0, none⟩ = some (.int .i64 (rowv (q 0))) ∧ U.cell? ⟨gn, 1, none⟩ = some (.int .i64 (rowv (q 1))) ∧ U.cell? ⟨gn, 2, none⟩ = some (.int .i64 (rowv (q 2))) ∧ U.cell? ⟨gn, 3, none⟩ = some (.int .i64 (rowv (q 3))) ∧ U.cell? ⟨gn, 4, none⟩ = some (.int .i64 (rowv (q 4))) ∧ U.cell? ⟨gn, 5, none⟩ = some (.int .i64 (rowv (q 5))) ∧ Nr11 f q gn w U := by
  have h0 := fun j => cell_of_row U _ j _ _ _ h.1
  have h2 := fun j => cell_of_row U _ j _ _ _ h.2.1
  exact ⟨h0 0, h0 1, h0 2, h0 3, h0 4, h0 5, h2 0, h2 1, h2 2, h2 3, h2 4, h2 5, h⟩
set_option maxRecDepth 8000 in
set_option maxHeartbeats 4000000 in
theorem lnext_1 (f : Fn11) (F : List Fn11) (s x y g1 c1 : Nat) (hs : s < F.length) (hx : x < 6) (hy : y < 6) (w : World) (hr : w.rangeAt g1 0 (hv11 (F.map t11))) : Calls Try.prog 197 #[.agg #[.int .i64 (rowv (f 0)), .int .i64 (rowv (f 1)), .int .i64 (rowv (f 2)), .int .i64 (rowv (f 3)), .int .i64 (rowv (f 4)), .int .i64 (rowv (f 5))], .slice (some ⟨g1, 0, none⟩) F.length c1, .agg #[.int .i64 1, .int .i64 (s : Int), .int .i64 (x : Int), .int .i64 (y : Int)]] w fun e w' => e = .returned (.agg #[.int .i64 (rowv ((xf f (sf x y F[s])) 0)), .int .i64 (rowv ((xf f (sf x y F[s])) 1)), .int .i64 (rowv ((xf f (sf x y F[s])) 2)), .int .i64 (rowv ((xf f (sf x y F[s])) 3)), .int .i64 (rowv ((xf f (sf x y F[s])) 4)), .int .i64 (rowv ((xf f (sf x y F[s])) 5))]) ∧ Below w.heap.size w w' := by
  have H1 := Lib.hid (l2at_n F[s] hx hy)
  have hs1 : (s : Int) < F.length := by omega
  have hs0 : (0 : Int) ≤ s := by omega
  go_enter Try.func197, Try.ntmps197
  go_wp2_with fail
  generalize hW : (World.alloc _ _ : World) = W0
  have q0 : W0.heap[w.heap.size]? = some (o6_11 f) := by rw [← hW]; exact alloc_past (alloc_past (alloc_at rfl))
  have q1 : W0.heap[w.heap.size + 1]? = some (o4_11 1 s x y) := by rw [← hW]; exact alloc_past (alloc_at (by simp))
  have q2 : W0.heap[w.heap.size + 1 + 1]? = some oz := by rw [← hW]; exact alloc_at (by simp)
  have hB0 : Below w.heap.size w W0 := by rw [← hW]; (repeat (first | exact Below.refl _ _ | assumption | refine Below.setCell ?_ (by first | (simp; done) | (simp; omega)) _ | refine Below.alloc ?_ (by first | (simp; done) | (simp; omega)) _ | refine Below.drew ?_))
  have hk : Np11 3 [(w.heap.size, o6_11 f), (w.heap.size + 1, o4_11 1 s x y), (w.heap.size + 1 + 1, oz)] g1 (hv11 (F.map t11)) w W0 := by
    refine ⟨⟨by simp [q0, q1, q2], by rw [← hW]; simp, hB0⟩, ra_below hr hB0 rfl, ra_lt11 hr hs⟩
  clear hW hB0 q0 q1 q2 hr
  have hz0 := Np11.le hk
  go_region_held3 (fun U => U.cell? ⟨w.heap.size + 1, 0, none⟩ = some (.int .i64 1) ∧ U.cell? ⟨w.heap.size + 1, 1, none⟩ = some (.int .i64 (s : Int)) ∧ U.cell? ⟨w.heap.size + 1, 2, none⟩ = some (.int .i64 (x : Int)) ∧ U.cell? ⟨w.heap.size + 1, 3, none⟩ = some (.int .i64 (y : Int)) ∧ U.cell? ⟨g1, s * 6, none⟩ = some (.int .i64 (rowv (F[s] 0))) ∧ U.cell? ⟨g1, s * 6 + 1, none⟩ = some (.int .i64 (rowv (F[s] 1))) ∧ U.cell? ⟨g1, s * 6 + 2, none⟩ = some (.int .i64 (rowv (F[s] 2))) ∧ U.cell? ⟨g1, s * 6 + 3, none⟩ = some (.int .i64 (rowv (F[s] 3))) ∧ U.cell? ⟨g1, s * 6 + 4, none⟩ = some (.int .i64 (rowv (F[s] 4))) ∧ U.cell? ⟨g1, s * 6 + 5, none⟩ = some (.int .i64 (rowv (F[s] 5))) ∧ Np11 3 [(w.heap.size, o6_11 f), (w.heap.size + 1, o4_11 1 s x y), (w.heap.size + 1 + 1, oz)] g1 (hv11 (F.map t11)) w U) (with_reducible refine SKn11 ?_ hs; (repeat (first | with_reducible assumption | with_reducible refine Np11.al ?_ | with_reducible refine Np11.drew ?_ | with_reducible refine Np11.set ?_ (by first | assumption | omega | (simp; omega))))) (((go_at_call 151; with_reducible refine (H1.out _).mono ?_; rintro e w' ⟨rfl, hb'⟩; have hk : Np11 3 [(w.heap.size, o6_11 f), (w.heap.size + 1, o4_11 1 s x y), (w.heap.size + 1 + 1, oz)] g1 (hv11 (F.map t11)) w w' := Np11.far (by (repeat (first | with_reducible assumption | with_reducible refine Np11.al ?_ | with_reducible refine Np11.drew ?_ | with_reducible refine Np11.set ?_ (by first | assumption | omega | (simp; omega))))) hb' rfl; have hz := Np11.le hk; (first | have hn := rowk hn hb' rfl | have hn := rowk (drew_row (alloc_at rfl)) hb' rfl | have hn := rowk (alloc_at rfl) hb' rfl | skip); (try (have hnz := oz_c11 hn; have hnf := oz_f11 hn)))))
  all_goals
    first
      | (have hx := set6a (.int .i64 (rowv (sf x y F[s] 0))) (.int .i64 (rowv (sf x y F[s] 1))) (.int .i64 (rowv (sf x y F[s] 2))) (.int .i64 (rowv (sf x y F[s] 3))) (.int .i64 (rowv (sf x y F[s] 4))) (.int .i64 (rowv (sf x y F[s] 5))) hn
         generalize hX : (World.setCell _ _ _ : World) = X at hx ⊢)
      | (generalize hX : (World.alloc _ _ : World) = X
         have hx := alloc_is11 hX)
    have hk2 : Np11 3 [(w.heap.size, o6_11 f), (w.heap.size + 1, o4_11 1 s x y), (w.heap.size + 1 + 1, oz)] g1 (hv11 (F.map t11)) w X := by rw [← hX]; (repeat (first | with_reducible assumption | with_reducible refine Np11.al ?_ | with_reducible refine Np11.drew ?_ | with_reducible refine Np11.set ?_ (by first | assumption | omega | (simp; omega))))
    have hq2 := Nq11.of hk2 hx (by first | assumption | omega | (simp; omega))
    have k_c := fun j => cell_of_row X _ j _ _ _ (hk2.1.row (g := w.heap.size + 1) (o := o4_11 1 s x y) (List.mem_cons_of_mem _ (List.mem_cons_self ..)))
    clear hX hk2 hk
    have a_c := fun j => cell_of_row X _ j _ _ _ hq2.1
    have x_c := fun j => cell_of_row X _ j _ _ _ hx
    have HC := Lib.hid (lxor_11 f (sf x y F[s]))
    go_wp2_with fail
    refine (HC.out _).mono ?_
    rintro e W3 ⟨rfl, hb⟩
    have hq3 := hq2.far hb rfl
    have z_c := oz_c11 hq3.2.1
    have z_f := oz_f11 hq3.2.1
    clear hb x_c a_c HC
    go_wp2_with fail
    refine bodyPost_ret (v := .agg #[.int .i64 (rowv ((xf f (sf x y F[s])) 0)), .int .i64 (rowv ((xf f (sf x y F[s])) 1)), .int .i64 (rowv ((xf f (sf x y F[s])) 2)), .int .i64 (rowv ((xf f (sf x y F[s])) 3)), .int .i64 (rowv ((xf f (sf x y F[s])) 4)), .int .i64 (rowv ((xf f (sf x y F[s])) 5))]) (by simp [results, Try.results197, go_sem, z_c]) rfl ⟨rfl, ?_⟩
    exact below6 hq3.2.2.2.2.2 (by omega)
set_option maxRecDepth 8000 in
set_option maxHeartbeats 4000000 in
theorem lnext_2 (f : Fn11) (F : List Fn11) (s x y g1 c1 : Nat) (hs : s < F.length) (hx : x < 6) (hy : y < 6) (w : World) (hr : w.rangeAt g1 0 (hv11 (F.map t11))) : Calls Try.prog 197 #[.agg #[.int .i64 (rowv (f 0)), .int .i64 (rowv (f 1)), .int .i64 (rowv (f 2)), .int .i64 (rowv (f 3)), .int .i64 (rowv (f 4)), .int .i64 (rowv (f 5))], .slice (some ⟨g1, 0, none⟩) F.length c1, .agg #[.int .i64 2, .int .i64 (s : Int), .int .i64 (x : Int), .int .i64 (y : Int)]] w fun e w' => e = .returned (.agg #[.int .i64 (rowv ((jf f (sf x y F[s])) 0)), .int .i64 (rowv ((jf f (sf x y F[s])) 1)), .int .i64 (rowv ((jf f (sf x y F[s])) 2)), .int .i64 (rowv ((jf f (sf x y F[s])) 3)), .int .i64 (rowv ((jf f (sf x y F[s])) 4)), .int .i64 (rowv ((jf f (sf x y F[s])) 5))]) ∧ Below w.heap.size w w' := by
  have H1 := Lib.hid (l2at_n F[s] hx hy)
  have hs1 : (s : Int) < F.length := by omega
  have hs0 : (0 : Int) ≤ s := by omega
  go_enter Try.func197, Try.ntmps197
  go_wp2_with fail
  generalize hW : (World.alloc _ _ : World) = W0
  have q0 : W0.heap[w.heap.size]? = some (o6_11 f) := by rw [← hW]; exact alloc_past (alloc_past (alloc_at rfl))
  have q1 : W0.heap[w.heap.size + 1]? = some (o4_11 2 s x y) := by rw [← hW]; exact alloc_past (alloc_at (by simp))
  have q2 : W0.heap[w.heap.size + 1 + 1]? = some oz := by rw [← hW]; exact alloc_at (by simp)
  have hB0 : Below w.heap.size w W0 := by rw [← hW]; (repeat (first | exact Below.refl _ _ | assumption | refine Below.setCell ?_ (by first | (simp; done) | (simp; omega)) _ | refine Below.alloc ?_ (by first | (simp; done) | (simp; omega)) _ | refine Below.drew ?_))
  have hk : Np11 3 [(w.heap.size, o6_11 f), (w.heap.size + 1, o4_11 2 s x y), (w.heap.size + 1 + 1, oz)] g1 (hv11 (F.map t11)) w W0 := by
    refine ⟨⟨by simp [q0, q1, q2], by rw [← hW]; simp, hB0⟩, ra_below hr hB0 rfl, ra_lt11 hr hs⟩
  clear hW hB0 q0 q1 q2 hr
  have hz0 := Np11.le hk
  go_region_held3 (fun U => U.cell? ⟨w.heap.size + 1, 0, none⟩ = some (.int .i64 2) ∧ U.cell? ⟨w.heap.size + 1, 1, none⟩ = some (.int .i64 (s : Int)) ∧ U.cell? ⟨w.heap.size + 1, 2, none⟩ = some (.int .i64 (x : Int)) ∧ U.cell? ⟨w.heap.size + 1, 3, none⟩ = some (.int .i64 (y : Int)) ∧ U.cell? ⟨g1, s * 6, none⟩ = some (.int .i64 (rowv (F[s] 0))) ∧ U.cell? ⟨g1, s * 6 + 1, none⟩ = some (.int .i64 (rowv (F[s] 1))) ∧ U.cell? ⟨g1, s * 6 + 2, none⟩ = some (.int .i64 (rowv (F[s] 2))) ∧ U.cell? ⟨g1, s * 6 + 3, none⟩ = some (.int .i64 (rowv (F[s] 3))) ∧ U.cell? ⟨g1, s * 6 + 4, none⟩ = some (.int .i64 (rowv (F[s] 4))) ∧ U.cell? ⟨g1, s * 6 + 5, none⟩ = some (.int .i64 (rowv (F[s] 5))) ∧ Np11 3 [(w.heap.size, o6_11 f), (w.heap.size + 1, o4_11 2 s x y), (w.heap.size + 1 + 1, oz)] g1 (hv11 (F.map t11)) w U) (with_reducible refine SKn11 ?_ hs; (repeat (first | with_reducible assumption | with_reducible refine Np11.al ?_ | with_reducible refine Np11.drew ?_ | with_reducible refine Np11.set ?_ (by first | assumption | omega | (simp; omega))))) (((go_at_call 151; with_reducible refine (H1.out _).mono ?_; rintro e w' ⟨rfl, hb'⟩; have hk : Np11 3 [(w.heap.size, o6_11 f), (w.heap.size + 1, o4_11 2 s x y), (w.heap.size + 1 + 1, oz)] g1 (hv11 (F.map t11)) w w' := Np11.far (by (repeat (first | with_reducible assumption | with_reducible refine Np11.al ?_ | with_reducible refine Np11.drew ?_ | with_reducible refine Np11.set ?_ (by first | assumption | omega | (simp; omega))))) hb' rfl; have hz := Np11.le hk; (first | have hn := rowk hn hb' rfl | have hn := rowk (drew_row (alloc_at rfl)) hb' rfl | have hn := rowk (alloc_at rfl) hb' rfl | skip); (try (have hnz := oz_c11 hn; have hnf := oz_f11 hn)))))
  all_goals
    first
      | (have hx := set6a (.int .i64 (rowv (sf x y F[s] 0))) (.int .i64 (rowv (sf x y F[s] 1))) (.int .i64 (rowv (sf x y F[s] 2))) (.int .i64 (rowv (sf x y F[s] 3))) (.int .i64 (rowv (sf x y F[s] 4))) (.int .i64 (rowv (sf x y F[s] 5))) hn
         generalize hX : (World.setCell _ _ _ : World) = X at hx ⊢)
      | (generalize hX : (World.alloc _ _ : World) = X
         have hx := alloc_is11 hX)
    have hk2 : Np11 3 [(w.heap.size, o6_11 f), (w.heap.size + 1, o4_11 2 s x y), (w.heap.size + 1 + 1, oz)] g1 (hv11 (F.map t11)) w X := by rw [← hX]; (repeat (first | with_reducible assumption | with_reducible refine Np11.al ?_ | with_reducible refine Np11.drew ?_ | with_reducible refine Np11.set ?_ (by first | assumption | omega | (simp; omega))))
    have hq2 := Nq11.of hk2 hx (by first | assumption | omega | (simp; omega))
    have k_c := fun j => cell_of_row X _ j _ _ _ (hk2.1.row (g := w.heap.size + 1) (o := o4_11 2 s x y) (List.mem_cons_of_mem _ (List.mem_cons_self ..)))
    clear hX hk2 hk
    have a_c := fun j => cell_of_row X _ j _ _ _ hq2.1
    have x_c := fun j => cell_of_row X _ j _ _ _ hx
    have HC := Lib.hid (lor_11 f (sf x y F[s]))
    go_wp2_with fail
    refine (HC.out _).mono ?_
    rintro e W3 ⟨rfl, hb⟩
    have hq3 := hq2.far hb rfl
    have z_c := oz_c11 hq3.2.1
    have z_f := oz_f11 hq3.2.1
    clear hb x_c a_c HC
    go_wp2_with fail
    refine bodyPost_ret (v := .agg #[.int .i64 (rowv ((jf f (sf x y F[s])) 0)), .int .i64 (rowv ((jf f (sf x y F[s])) 1)), .int .i64 (rowv ((jf f (sf x y F[s])) 2)), .int .i64 (rowv ((jf f (sf x y F[s])) 3)), .int .i64 (rowv ((jf f (sf x y F[s])) 4)), .int .i64 (rowv ((jf f (sf x y F[s])) 5))]) (by simp [results, Try.results197, go_sem, z_c]) rfl ⟨rfl, ?_⟩
    exact below6 hq3.2.2.2.2.2 (by omega)
set_option maxRecDepth 8000 in
set_option maxHeartbeats 4000000 in
theorem lnext_3 (f : Fn11) (F : List Fn11) (s x y g1 c1 : Nat) (hs : s < F.length) (hx : x < 6) (hy : y < 6) (w : World) (hr : w.rangeAt g1 0 (hv11 (F.map t11))) : Calls Try.prog 197 #[.agg #[.int .i64 (rowv (f 0)), .int .i64 (rowv (f 1)), .int .i64 (rowv (f 2)), .int .i64 (rowv (f 3)), .int .i64 (rowv (f 4)), .int .i64 (rowv (f 5))], .slice (some ⟨g1, 0, none⟩) F.length c1, .agg #[.int .i64 3, .int .i64 (s : Int), .int .i64 (x : Int), .int .i64 (y : Int)]] w fun e w' => e = .returned (.agg #[.int .i64 (rowv ((af f (nf (sf x y F[s]))) 0)), .int .i64 (rowv ((af f (nf (sf x y F[s]))) 1)), .int .i64 (rowv ((af f (nf (sf x y F[s]))) 2)), .int .i64 (rowv ((af f (nf (sf x y F[s]))) 3)), .int .i64 (rowv ((af f (nf (sf x y F[s]))) 4)), .int .i64 (rowv ((af f (nf (sf x y F[s]))) 5))]) ∧ Below w.heap.size w w' := by
  have H1 := Lib.hid (l2at_n F[s] hx hy)
  have hs1 : (s : Int) < F.length := by omega
  have hs0 : (0 : Int) ≤ s := by omega
  go_enter Try.func197, Try.ntmps197
  go_wp2_with fail
  generalize hW : (World.alloc _ _ : World) = W0
  have q0 : W0.heap[w.heap.size]? = some (o6_11 f) := by rw [← hW]; exact alloc_past (alloc_past (alloc_at rfl))
  have q1 : W0.heap[w.heap.size + 1]? = some (o4_11 3 s x y) := by rw [← hW]; exact alloc_past (alloc_at (by simp))
  have q2 : W0.heap[w.heap.size + 1 + 1]? = some oz := by rw [← hW]; exact alloc_at (by simp)
  have hB0 : Below w.heap.size w W0 := by rw [← hW]; (repeat (first | exact Below.refl _ _ | assumption | refine Below.setCell ?_ (by first | (simp; done) | (simp; omega)) _ | refine Below.alloc ?_ (by first | (simp; done) | (simp; omega)) _ | refine Below.drew ?_))
  have hk : Np11 3 [(w.heap.size, o6_11 f), (w.heap.size + 1, o4_11 3 s x y), (w.heap.size + 1 + 1, oz)] g1 (hv11 (F.map t11)) w W0 := by
    refine ⟨⟨by simp [q0, q1, q2], by rw [← hW]; simp, hB0⟩, ra_below hr hB0 rfl, ra_lt11 hr hs⟩
  clear hW hB0 q0 q1 q2 hr
  have hz0 := Np11.le hk
  go_region_held3 (fun U => U.cell? ⟨w.heap.size + 1, 0, none⟩ = some (.int .i64 3) ∧ U.cell? ⟨w.heap.size + 1, 1, none⟩ = some (.int .i64 (s : Int)) ∧ U.cell? ⟨w.heap.size + 1, 2, none⟩ = some (.int .i64 (x : Int)) ∧ U.cell? ⟨w.heap.size + 1, 3, none⟩ = some (.int .i64 (y : Int)) ∧ U.cell? ⟨g1, s * 6, none⟩ = some (.int .i64 (rowv (F[s] 0))) ∧ U.cell? ⟨g1, s * 6 + 1, none⟩ = some (.int .i64 (rowv (F[s] 1))) ∧ U.cell? ⟨g1, s * 6 + 2, none⟩ = some (.int .i64 (rowv (F[s] 2))) ∧ U.cell? ⟨g1, s * 6 + 3, none⟩ = some (.int .i64 (rowv (F[s] 3))) ∧ U.cell? ⟨g1, s * 6 + 4, none⟩ = some (.int .i64 (rowv (F[s] 4))) ∧ U.cell? ⟨g1, s * 6 + 5, none⟩ = some (.int .i64 (rowv (F[s] 5))) ∧ Np11 3 [(w.heap.size, o6_11 f), (w.heap.size + 1, o4_11 3 s x y), (w.heap.size + 1 + 1, oz)] g1 (hv11 (F.map t11)) w U) (with_reducible refine SKn11 ?_ hs; (repeat (first | with_reducible assumption | with_reducible refine Np11.al ?_ | with_reducible refine Np11.drew ?_ | with_reducible refine Np11.set ?_ (by first | assumption | omega | (simp; omega))))) (((go_at_call 151; with_reducible refine (H1.out _).mono ?_; rintro e w' ⟨rfl, hb'⟩; have hk : Np11 3 [(w.heap.size, o6_11 f), (w.heap.size + 1, o4_11 3 s x y), (w.heap.size + 1 + 1, oz)] g1 (hv11 (F.map t11)) w w' := Np11.far (by (repeat (first | with_reducible assumption | with_reducible refine Np11.al ?_ | with_reducible refine Np11.drew ?_ | with_reducible refine Np11.set ?_ (by first | assumption | omega | (simp; omega))))) hb' rfl; have hz := Np11.le hk; (first | have hn := rowk hn hb' rfl | have hn := rowk (drew_row (alloc_at rfl)) hb' rfl | have hn := rowk (alloc_at rfl) hb' rfl | skip); (try (have hnz := oz_c11 hn; have hnf := oz_f11 hn)))))
  all_goals
    first
      | (have hx := set6a (.int .i64 (rowv (sf x y F[s] 0))) (.int .i64 (rowv (sf x y F[s] 1))) (.int .i64 (rowv (sf x y F[s] 2))) (.int .i64 (rowv (sf x y F[s] 3))) (.int .i64 (rowv (sf x y F[s] 4))) (.int .i64 (rowv (sf x y F[s] 5))) hn
         generalize hX : (World.setCell _ _ _ : World) = X at hx ⊢)
      | (generalize hX : (World.alloc _ _ : World) = X
         have hx := alloc_is11 hX)
    have hk2 : Np11 3 [(w.heap.size, o6_11 f), (w.heap.size + 1, o4_11 3 s x y), (w.heap.size + 1 + 1, oz)] g1 (hv11 (F.map t11)) w X := by rw [← hX]; (repeat (first | with_reducible assumption | with_reducible refine Np11.al ?_ | with_reducible refine Np11.drew ?_ | with_reducible refine Np11.set ?_ (by first | assumption | omega | (simp; omega))))
    have hq2 := Nq11.of hk2 hx (by first | assumption | omega | (simp; omega))
    have k_c := fun j => cell_of_row X _ j _ _ _ (hk2.1.row (g := w.heap.size + 1) (o := o4_11 3 s x y) (List.mem_cons_of_mem _ (List.mem_cons_self ..)))
    clear hX hk2 hk
    have a_c := fun j => cell_of_row X _ j _ _ _ hq2.1
    have x_c := fun j => cell_of_row X _ j _ _ _ hx
    have HC := Lib.hid (land_11 f (nf (sf x y F[s])))
    have HN := Lib.hid (lnot_11 (sf x y F[s]))
    go_wp2_with fail
    obtain ⟨gn, hgn⟩ := Nq11.ex hq2
    rw [← hgn] at hq2 ⊢
    have hr2 := hq2.r
    have hz6 := hq2.2.1
    have hz7 := hq2.2.2.2.2.1
    clear x_c a_c hx hgn hq2
    go_region_held3 (fun U => U.cell? ⟨w.heap.size, 0, none⟩ = some (.int .i64 (rowv (f 0))) ∧ U.cell? ⟨w.heap.size, 1, none⟩ = some (.int .i64 (rowv (f 1))) ∧ U.cell? ⟨w.heap.size, 2, none⟩ = some (.int .i64 (rowv (f 2))) ∧ U.cell? ⟨w.heap.size, 3, none⟩ = some (.int .i64 (rowv (f 3))) ∧ U.cell? ⟨w.heap.size, 4, none⟩ = some (.int .i64 (rowv (f 4))) ∧ U.cell? ⟨w.heap.size, 5, none⟩ = some (.int .i64 (rowv (f 5))) ∧ U.cell? ⟨gn, 0, none⟩ = some (.int .i64 (rowv (sf x y F[s] 0))) ∧ U.cell? ⟨gn, 1, none⟩ = some (.int .i64 (rowv (sf x y F[s] 1))) ∧ U.cell? ⟨gn, 2, none⟩ = some (.int .i64 (rowv (sf x y F[s] 2))) ∧ U.cell? ⟨gn, 3, none⟩ = some (.int .i64 (rowv (sf x y F[s] 3))) ∧ U.cell? ⟨gn, 4, none⟩ = some (.int .i64 (rowv (sf x y F[s] 4))) ∧ U.cell? ⟨gn, 5, none⟩ = some (.int .i64 (rowv (sf x y F[s] 5))) ∧ Nr11 f (sf x y F[s]) gn w U) (with_reducible refine SKq11 ?_; (repeat (first | with_reducible assumption | with_reducible refine Nr11.drew ?_ | with_reducible refine Nr11.put ?_))) (first | (go_at_call 167; with_reducible refine (HN.out _).mono ?_; rintro e w' ⟨rfl, hb'⟩; have hr2 : Nr11 f (sf x y F[s]) gn w w' := Nr11.far (by (repeat (first | with_reducible assumption | with_reducible refine Nr11.drew ?_ | with_reducible refine Nr11.put ?_))) hb' rfl; have hz6 := rowk (o := oz) (g := w.heap.size + 1 + 1) (by (repeat (first | with_reducible assumption | with_reducible refine drew_row ?_))) hb' rfl) | (go_at_call 109; with_reducible refine (HC.out _).mono ?_; rintro e w' ⟨rfl, hb'⟩; have hr2 : Nr11 f (sf x y F[s]) gn w w' := Nr11.far (by (repeat (first | with_reducible assumption | with_reducible refine Nr11.drew ?_ | with_reducible refine Nr11.put ?_))) hb' rfl; have hz6 := rowk (o := oz) (g := w.heap.size + 1 + 1) (by (repeat (first | with_reducible assumption | with_reducible refine drew_row ?_))) hb' rfl; have z_c := oz_c11 hz6; have z_f := oz_f11 hz6))
    all_goals
      go_wp2_with fail
      refine bodyPost_ret (v := .agg #[.int .i64 (rowv ((af f (nf (sf x y F[s]))) 0)), .int .i64 (rowv ((af f (nf (sf x y F[s]))) 1)), .int .i64 (rowv ((af f (nf (sf x y F[s]))) 2)), .int .i64 (rowv ((af f (nf (sf x y F[s]))) 3)), .int .i64 (rowv ((af f (nf (sf x y F[s]))) 4)), .int .i64 (rowv ((af f (nf (sf x y F[s]))) 5))]) (by simp [results, Try.results197, go_sem, z_c]) rfl ⟨rfl, ?_⟩
      exact below6 hr2.2.2.2 (by omega)
end Go.Proofs.Ytnkjamdpafpcpaa
