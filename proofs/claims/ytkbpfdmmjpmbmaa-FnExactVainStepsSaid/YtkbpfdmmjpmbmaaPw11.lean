/- CONTRACTS: the steps that are vain, of the model. -/
import Derived.Test.YtkbpfdmmjpmbmaaPv11
import Derived.WalkKit
import Derived.ProofKit
import Derived.OpenShut
import Derived.Lib.Hide
import Derived.WalkSpells
import Derived.Below
import Derived.BigQuiet
import Derived.LoopN
namespace Go.Proofs.Ytkbpfdmmjpmbmaa
open Go.ChangeShapes Go.WideShapes Go.ChangeAt Go.RowKit
set_option linter.unusedVariables false
/-- Midway: the plan's box, the sheet's box, the numbers so far in a row of their own. -/
def Rm11 (m0 m1 m2 m3 m4 m5 : Int) (V1 V2 : Value) (gb : Nat) (f : Fn11) (z : List Nat) (v : Value) (w U : World) : Prop := U.heap[w.heap.size]? = some (o8_11 m0 m1 m2 m3 m4 m5 V1 V2) ∧ U.heap[gb]? = some (o6_11 f) ∧ U.ownsRow (w.heap.size + 1) 3 1 v z.length (iv11 z) ∧ v ≠ .slice none 0 0 ∧ v.ownBlock ≠ some gb ∧ w.heap.size + 1 ≤ gb ∧ Below w.heap.size w U
theorem Rm11.far {m0 m1 m2 m3 m4 m5 : Int} {V1 V2 v : Value} {gb M : Nat} {f : Fn11} {z : List Nat} {w U V : World} (h : Rm11 m0 m1 m2 m3 m4 m5 V1 V2 gb f z v w U) (hb : Below M U V) (hM : M = U.heap.size) : Rm11 m0 m1 m2 m3 m4 m5 V1 V2 gb f z v w V := ⟨rowk h.1 hb hM, rowk h.2.1 hb hM, h.2.2.1.kept (grown_below hb hM) (by cases hq : v.ownBlock <;> simp), h.2.2.2.1, h.2.2.2.2.1, h.2.2.2.2.2.1, below_of h.2.2.2.2.2.2 hb (by have := h.2.2.2.2.2.2.size; omega)⟩
theorem Rm11.al {m0 m1 m2 m3 m4 m5 : Int} {V1 V2 v : Value} {gb : Nat} {f : Fn11} {z : List Nat} {w U : World} (h : Rm11 m0 m1 m2 m3 m4 m5 V1 V2 gb f z v w U) (o : Obj) : Rm11 m0 m1 m2 m3 m4 m5 V1 V2 gb f z v w (U.alloc o) := h.far (M := U.heap.size) ((Below.refl _ _).alloc (Nat.le_refl _) o) rfl
theorem Rm11.drew {m0 m1 m2 m3 m4 m5 : Int} {V1 V2 v : Value} {gb : Nat} {f : Fn11} {z : List Nat} {w U : World} (h : Rm11 m0 m1 m2 m3 m4 m5 V1 V2 gb f z v w U) : Rm11 m0 m1 m2 m3 m4 m5 V1 V2 gb f z v w U.drew := h.far (M := U.heap.size) (Below.refl _ _).drew rfl
theorem Rm11.set {m0 m1 m2 m3 m4 m5 : Int} {V1 V2 v : Value} {gb gn i : Nat} {f : Fn11} {z : List Nat} {w U : World} {u : Value} (h : Rm11 m0 m1 m2 m3 m4 m5 V1 V2 gb f z v w U) (h1 : gn ≠ gb) (h2 : v.ownBlock ≠ some gn) (h3 : w.heap.size + 1 ≤ gn) : Rm11 m0 m1 m2 m3 m4 m5 V1 V2 gb f z v w (U.setCell ⟨gn, i, none⟩ u) := by
  have n0 : w.heap.size ≠ gn := by omega
  have n1 : gb ≠ gn := fun e => h1 e.symm
  exact ⟨by rw [Below.heap_setCell _ _ _ _ n0]; exact h.1, by rw [Below.heap_setCell _ _ _ _ n1]; exact h.2.1, h.2.2.1.kept (grow_set _ _ _) (.inr h2), h.2.2.2.1, h.2.2.2.2.1, h.2.2.2.2.2.1, h.2.2.2.2.2.2.setCell (by show w.heap.size ≤ gn; omega) _⟩
theorem Rm11.lt {m0 m1 m2 m3 m4 m5 : Int} {V1 V2 v : Value} {gb : Nat} {f : Fn11} {z : List Nat} {w U : World} (h : Rm11 m0 m1 m2 m3 m4 m5 V1 V2 gb f z v w U) : gb < U.heap.size ∧ ∀ k, v.ownBlock = some k → k < U.heap.size := ⟨(Array.getElem?_eq_some_iff.1 h.2.1).1, fun k hk => (h.2.2.1.lt k hk).2⟩
theorem blk_ex {U : World} {g : Nat} {o : Obj} (h : U.heap[g]? = some o) : ∃ k, k = g := ⟨g, rfl⟩
theorem grown_row {U V : World} {g ga n c : Nat} {o : Obj} (h : U.heap[g]? = some o) (hg : U.grownBy V (Value.slice (some ⟨ga, 0, none⟩) n c).ownBlock) (hne : g ≠ ga) : V.heap[g]? = some o := by
  rw [hg.block _ (Array.getElem?_eq_some_iff.1 h).1 (by simp [Value.ownBlock]; exact hne)]
  exact h
theorem Rm11.put {m0 m1 m2 m3 m4 m5 : Int} {V1 V2 v : Value} {gb : Nat} {f : Fn11} {z : List Nat} {w U : World} (G : Fn11) (h : Rm11 m0 m1 m2 m3 m4 m5 V1 V2 gb f z v w U) : Rm11 m0 m1 m2 m3 m4 m5 V1 V2 gb G z v w ((((((U.setCell ⟨gb, 0, none⟩ (.int .i64 (rowv (G 0)))).setCell ⟨gb, 1, none⟩ (.int .i64 (rowv (G 1)))).setCell ⟨gb, 2, none⟩ (.int .i64 (rowv (G 2)))).setCell ⟨gb, 3, none⟩ (.int .i64 (rowv (G 3)))).setCell ⟨gb, 4, none⟩ (.int .i64 (rowv (G 4)))).setCell ⟨gb, 5, none⟩ (.int .i64 (rowv (G 5)))) := by
  obtain ⟨h1, h2, h3, h4, h5, h6, h7⟩ := h
  have n0 : w.heap.size ≠ gb := by omega
  have gs : ∀ (W : World) (j : Nat) (u : Value), W.ownsRow (w.heap.size + 1) 3 1 v z.length (iv11 z) → (W.setCell ⟨gb, j, none⟩ u).ownsRow (w.heap.size + 1) 3 1 v z.length (iv11 z) := fun W j u ho => ho.kept (grow_set _ _ _) (.inr h5)
  exact ⟨by rw [Below.heap_setCell _ _ _ _ n0, Below.heap_setCell _ _ _ _ n0, Below.heap_setCell _ _ _ _ n0, Below.heap_setCell _ _ _ _ n0, Below.heap_setCell _ _ _ _ n0, Below.heap_setCell _ _ _ _ n0]; exact h1, set6a _ _ _ _ _ _ h2, gs _ _ _ (gs _ _ _ (gs _ _ _ (gs _ _ _ (gs _ _ _ (gs _ _ _ h3))))), h4, h5, h6, below6 h7 (by omega)⟩
theorem Rm11.snoc {m0 m1 m2 m3 m4 m5 : Int} {V1 V2 v v' : Value} {gb n : Nat} {f : Fn11} {z : List Nat} {w U V : World} (h : Rm11 m0 m1 m2 m3 m4 m5 V1 V2 gb f z v w U) (ho : V.ownsRow (w.heap.size + 1) 3 1 v' (z.length + 1) (iv11 z ++ [.int .i64 (n : Int)])) (hg : U.grownBy V v.ownBlock) (hn : v' = .slice none 0 0 ↔ v = .slice none 0 0 ∧ (1 : Nat) = 0) (hat : v'.ownBlock = v.ownBlock ∨ v'.ownBlock = some U.heap.size) : Rm11 m0 m1 m2 m3 m4 m5 V1 V2 gb f (z ++ [n]) v' w V := by
  obtain ⟨h1, h2, h3, h4, h5, h6, h7⟩ := h
  have hl := (Array.getElem?_eq_some_iff.1 h2).1
  refine ⟨?_, ?_, by rw [iv11_snoc, List.length_append]; exact ho, fun e => by have := hn.mp e; omega, ?_, h6, h7.grown hg h7.size (fun k hk => by have := (h3.lt k hk).1; omega)⟩
  · rw [hg.block _ (Array.getElem?_eq_some_iff.1 h1).1 (fun e => by have := (h3.lt _ e.symm).1; omega)]; exact h1
  · rw [hg.block _ hl (fun e => h5 e.symm)]; exact h2
  · rcases hat with e | e
    · rw [e]; exact h5
    · rw [e]; intro e2; cases e2; omega
theorem Rm11.ltb {m0 m1 m2 m3 m4 m5 : Int} {V1 V2 v : Value} {gb : Nat} {f : Fn11} {z : List Nat} {w U : World} (h : Rm11 m0 m1 m2 m3 m4 m5 V1 V2 gb f z v w U) : gb < U.heap.size := (Array.getElem?_eq_some_iff.1 h.2.1).1
theorem Rm11.ltv {m0 m1 m2 m3 m4 m5 : Int} {V1 V2 : Value} {gb ga n c : Nat} {f : Fn11} {z : List Nat} {w U : World} (h : Rm11 m0 m1 m2 m3 m4 m5 V1 V2 gb f z (.slice (some ⟨ga, 0, none⟩) n c) w U) : ga < U.heap.size := (h.2.2.1.lt ga rfl).2
theorem Rm11.ltw {m0 m1 m2 m3 m4 m5 : Int} {V1 V2 v : Value} {gb : Nat} {f : Fn11} {z : List Nat} {w U : World} (h : Rm11 m0 m1 m2 m3 m4 m5 V1 V2 gb f z v w U) : w.heap.size + 1 ≤ U.heap.size := by
  have := (Array.getElem?_eq_some_iff.1 h.1).1
  omega
theorem Rm11.bel {m0 m1 m2 m3 m4 m5 : Int} {V1 V2 v : Value} {gb : Nat} {f : Fn11} {z : List Nat} {w U : World} (h : Rm11 m0 m1 m2 m3 m4 m5 V1 V2 gb f z v w U) : Below w.heap.size w U := h.2.2.2.2.2.2
theorem SKm11 {m0 m1 m2 m3 m4 m5 k : Int} {v : Value} {gb g1 n1 c1 g2 c2 s x y i : Nat} {f : Fn11} {z : List Nat} {st : List S11} {w U : World} (R2 : w.rangeAt g2 0 (sv11 st)) (hi : i < st.length) (he : st[i] = ⟨k, s, x, y⟩) (h : Rm11 m0 m1 m2 m3 m4 m5 (.slice (some ⟨g1, 0, none⟩) n1 c1) (.slice (some ⟨g2, 0, none⟩) st.length c2) gb f z v w U) :
    U.cell? ⟨gb, 0, none⟩ = some (.int .i64 (rowv (f 0))) ∧ U.cell? ⟨gb, 1, none⟩ = some (.int .i64 (rowv (f 1))) ∧ U.cell? ⟨gb, 2, none⟩ = some (.int .i64 (rowv (f 2))) ∧ U.cell? ⟨gb, 3, none⟩ = some (.int .i64 (rowv (f 3))) ∧ U.cell? ⟨gb, 4, none⟩ = some (.int .i64 (rowv (f 4))) ∧ U.cell? ⟨gb, 5, none⟩ = some (.int .i64 (rowv (f 5))) ∧ U.cell? ⟨w.heap.size, 6, none⟩ = some (.slice (some ⟨g1, 0, none⟩) n1 c1) ∧ U.cell? ⟨w.heap.size, 7, none⟩ = some (.slice (some ⟨g2, 0, none⟩) st.length c2) ∧ U.cell? ⟨g2, i * 4, none⟩ = some (.int .i64 k) ∧ U.cell? ⟨g2, i * 4 + 1, none⟩ = some (.int .i64 (s : Int)) ∧ U.cell? ⟨g2, i * 4 + 2, none⟩ = some (.int .i64 (x : Int)) ∧ U.cell? ⟨g2, i * 4 + 3, none⟩ = some (.int .i64 (y : Int)) ∧ Rm11 m0 m1 m2 m3 m4 m5 (.slice (some ⟨g1, 0, none⟩) n1 c1) (.slice (some ⟨g2, 0, none⟩) st.length c2) gb f z v w U := by
  have h0 := fun j => cell_of_row U _ j _ _ _ h.1
  have h2 := fun j => cell_of_row U _ j _ _ _ h.2.1
  have hr := fm_range cs11_len (ra_below R2 h.2.2.2.2.2.2 rfl) hi
  rw [he] at hr
  exact ⟨h2 0, h2 1, h2 2, h2 3, h2 4, h2 5, h0 6, h0 7, hr 0 _ rfl, hr 1 _ rfl, hr 2 _ rfl, hr 3 _ rfl, h⟩
set_option maxRecDepth 20000 in
set_option maxHeartbeats 4000000 in
theorem lvain_11 (f : Fn11) (F : List Fn11) (st : List S11) (g1 c1 g2 c2 : Nat) (hst : st.length ≤ 40) (hF : F.length ≤ 4) (hv : ∀ p ∈ st, okS F.length p = true) (w : World) (h1 : w.rangeAt g1 0 (hv11 (F.map t11))) (h2 : w.rangeAt g2 0 (sv11 st)) : Calls Try.prog 90 #[.agg #[.int .i64 (rowv (f 0)), .int .i64 (rowv (f 1)), .int .i64 (rowv (f 2)), .int .i64 (rowv (f 3)), .int .i64 (rowv (f 4)), .int .i64 (rowv (f 5)), .slice (some ⟨g1, 0, none⟩) F.length c1, .slice (some ⟨g2, 0, none⟩) st.length c2]] w fun e w' => ∃ g cap, e = .returned (.slice (some ⟨g, 0, none⟩) (vn11 F st f st.length).length cap) ∧ w'.ownsRow w.heap.size 3 1 (.slice (some ⟨g, 0, none⟩) (vn11 F st f st.length).length cap) (vn11 F st f st.length).length (iv11 (vn11 F st f st.length)) ∧ Below w.heap.size w w' := by
  have R1 := Lib.hid h1
  have R2 := Lib.hid h2
  have HV := Lib.hid hv
  clear h1 h2 hv
  obtain ⟨i0, hi, hz0, hz1, hz2⟩ := infos_int11
  go_enter Try.func90, Try.ntmps90
  go_wp2_with fail
  generalize hW : (World.alloc _ _ : World) = W0
  have q0 : W0.heap[w.heap.size]? = some (o8_11 (rowv (f 0)) (rowv (f 1)) (rowv (f 2)) (rowv (f 3)) (rowv (f 4)) (rowv (f 5)) (.slice (some ⟨g1, 0, none⟩) F.length c1) (.slice (some ⟨g2, 0, none⟩) st.length c2)) := by rw [← hW]; exact alloc_at rfl
  have hB : Below w.heap.size w W0 := by rw [← hW]; (repeat (first | exact Below.refl _ _ | assumption | refine Below.setCell ?_ (by first | (simp; done) | (simp; omega)) _ | refine Below.alloc ?_ (by first | (simp; done) | (simp; omega)) _ | refine Below.drew ?_))
  have hs0 : W0.heap.size = w.heap.size + 1 := by rw [← hW]; simp
  clear hW
  have a_c := fun j => cell_of_row W0 _ j _ _ _ q0
  have a_d := fun j => cell_of_row W0.drew _ j _ _ _ q0
  go_region
  · generalize hX : (World.drew _ : World) = X
    have S0 : Hid (Rm11 (rowv (f 0)) (rowv (f 1)) (rowv (f 2)) (rowv (f 3)) (rowv (f 4)) (rowv (f 5)) (.slice (some ⟨g1, 0, none⟩) F.length c1) (.slice (some ⟨g2, 0, none⟩) st.length c2) (w.heap.size + 1 + 1) (at11 F st f 0) (vn11 F st f 0) (.slice (some ⟨(w.heap.size + 1), 0, none⟩) 0 0) w X) := Lib.hid (by
      rw [at11_zero, vn11_zero, ← hX]
      exact ⟨drew_row (alloc_past (alloc_past q0)), drew_row (by rw [show w.heap.size + 1 + 1 = (W0.alloc (Obj.cells #[] 3)).heap.size by simp [hs0]]; exact alloc_at rfl), ⟨rfl, .inr ⟨(w.heap.size + 1), 0, #[], rfl, by omega, drew_row (alloc_past (by rw [← hs0]; exact alloc_at rfl)), Nat.le_refl _, by unfold maxLen; omega, rfl, rfl⟩⟩, by simp, by simp [Value.ownBlock], by omega, ((hB.alloc hB.size _).alloc (by have := hB.size; simp; omega) _).drew⟩)
    clear hX q0 hB hs0 a_c a_d
    go_wp2_with fail
    go_loopw [3, 5] (fun a i wr => ∃ k : Nat, k ≤ st.length ∧ i = .int .i64 k ∧ Hid (Rm11 (rowv (f 0)) (rowv (f 1)) (rowv (f 2)) (rowv (f 3)) (rowv (f 4)) (rowv (f 5)) (.slice (some ⟨g1, 0, none⟩) F.length c1) (.slice (some ⟨g2, 0, none⟩) st.length c2) (w.heap.size + 1 + 1) (at11 F st f k) (vn11 F st f k) a w wr)) (fun _ i _ => st.length - (intOf i).toNat)
    case atStart => exact ⟨0, by omega, rfl, S0⟩
    case round =>
      obtain ⟨k, hk, rfl, HB⟩ := hrel
      have a_c := fun j => cell_of_row wr _ j _ _ _ HB.out.1
      by_cases hlt : k < st.length
      · have hlt' : (k : Int) < st.length := by omega
        have hk0 : (0 : Int) ≤ k := by omega
        have HE := Lib.hid (at11_succ F st f hlt)
        have HVS := Lib.hid (vn11_succ F st f k)
        have HL := Lib.hid (vn11_len F st f k)
        have hE := fun W => eq26 (rowv (at11 F st f (k + 1) 0)) (rowv (at11 F st f (k + 1) 1)) (rowv (at11 F st f (k + 1) 2)) (rowv (at11 F st f (k + 1) 3)) (rowv (at11 F st f (k + 1) 4)) (rowv (at11 F st f (k + 1) 5)) (rowv (at11 F st f k 0)) (rowv (at11 F st f k 1)) (rowv (at11 F st f k 2)) (rowv (at11 F st f k 3)) (rowv (at11 F st f k 4)) (rowv (at11 F st f k 5)) W
        have hH : eqH (t11 (at11 F st f (k + 1))) (t11 (at11 F st f k)) = (rowv (at11 F st f (k + 1) 0) == rowv (at11 F st f k 0) && rowv (at11 F st f (k + 1) 1) == rowv (at11 F st f k 1) && rowv (at11 F st f (k + 1) 2) == rowv (at11 F st f k 2) && rowv (at11 F st f (k + 1) 3) == rowv (at11 F st f k 3) && rowv (at11 F st f (k + 1) 4) == rowv (at11 F st f k 4) && rowv (at11 F st f (k + 1) 5) == rowv (at11 F st f k 5)) := rfl
        rw [← hH] at hE
        clear hH
        generalize eqH (t11 (at11 F st f (k + 1))) (t11 (at11 F st f k)) = b at hE HVS
        generalize vn11 F st f k = z at HB HVS HL
        obtain ⟨G2, hG2⟩ : ∃ G2, G2 = at11 F st f (k + 1) := ⟨_, rfl⟩
        rw [← hG2] at HE
        simp only [← hG2] at hE
        have HG2 := Lib.hid hG2
        clear hG2
        generalize at11 F st f k = G at HB HE hE
        obtain ⟨ga, ca, rfl⟩ := own_form11 HB.out.2.2.1 HB.out.2.2.2.1
        obtain ⟨h3, h4, s, x, y, e1, e2, e3, hs, hx, hy⟩ := okS_get (HV.out _ (List.getElem_mem hlt))
        obtain ⟨p, hp⟩ : ∃ p, st[k] = p := ⟨_, rfl⟩
        rw [hp] at HE h3 h4 e1 e2 e3
        obtain ⟨pk, ps, px, py⟩ := p
        dsimp only at h3 h4 e1 e2 e3
        subst e1 e2 e3
        have HQ := Lib.hid hp
        have HN := Lib.hid (fun W h => lnext_11 G F pk h3 h4 s x y g1 c1 hs hx hy W h)
        rw [← HE.out] at HN
        clear h3 h4 hs hx hy hp HE
        have hk9 := HB.out
        have hb0 := Rm11.ltb hk9
        have hv0 := Rm11.ltv hk9
        have hw0 := Rm11.ltw hk9
        have hbn : w.heap.size + 1 ≤ (w.heap.size + 1 + 1) := by omega
        go_wp2_with fail
        clear a_c
        have HBel := Lib.hid (fun (U : World) (h : Rm11 (rowv (f 0)) (rowv (f 1)) (rowv (f 2)) (rowv (f 3)) (rowv (f 4)) (rowv (f 5)) (.slice (some ⟨g1, 0, none⟩) F.length c1) (.slice (some ⟨g2, 0, none⟩) st.length c2) (w.heap.size + 1 + 1) G z (.slice (some ⟨ga, 0, none⟩) z.length ca) w U) => ra_below R1.out h.bel rfl)
        go_region_held3 (fun U => U.cell? ⟨(w.heap.size + 1 + 1), 0, none⟩ = some (.int .i64 (rowv (G 0))) ∧ U.cell? ⟨(w.heap.size + 1 + 1), 1, none⟩ = some (.int .i64 (rowv (G 1))) ∧ U.cell? ⟨(w.heap.size + 1 + 1), 2, none⟩ = some (.int .i64 (rowv (G 2))) ∧ U.cell? ⟨(w.heap.size + 1 + 1), 3, none⟩ = some (.int .i64 (rowv (G 3))) ∧ U.cell? ⟨(w.heap.size + 1 + 1), 4, none⟩ = some (.int .i64 (rowv (G 4))) ∧ U.cell? ⟨(w.heap.size + 1 + 1), 5, none⟩ = some (.int .i64 (rowv (G 5))) ∧ U.cell? ⟨w.heap.size, 6, none⟩ = some (.slice (some ⟨g1, 0, none⟩) F.length c1) ∧ U.cell? ⟨w.heap.size, 7, none⟩ = some (.slice (some ⟨g2, 0, none⟩) st.length c2) ∧ U.cell? ⟨g2, k * 4, none⟩ = some (.int .i64 pk) ∧ U.cell? ⟨g2, k * 4 + 1, none⟩ = some (.int .i64 (s : Int)) ∧ U.cell? ⟨g2, k * 4 + 2, none⟩ = some (.int .i64 (x : Int)) ∧ U.cell? ⟨g2, k * 4 + 3, none⟩ = some (.int .i64 (y : Int)) ∧ Rm11 (rowv (f 0)) (rowv (f 1)) (rowv (f 2)) (rowv (f 3)) (rowv (f 4)) (rowv (f 5)) (.slice (some ⟨g1, 0, none⟩) F.length c1) (.slice (some ⟨g2, 0, none⟩) st.length c2) (w.heap.size + 1 + 1) G z (.slice (some ⟨ga, 0, none⟩) z.length ca) w U) (with_reducible refine SKm11 R2.out hlt HQ.out ?_; (repeat (first | with_reducible assumption | with_reducible refine Rm11.al ?_ _ | with_reducible refine Rm11.drew ?_ | with_reducible refine Rm11.set ?_ (by first | omega | (simp; omega)) (by simp [Value.ownBlock]; omega) (by first | omega | (simp; omega))))) ((go_at_call 129; with_reducible refine (HN.out _ (HBel.out _ (by (repeat (first | with_reducible assumption | with_reducible refine Rm11.al ?_ _ | with_reducible refine Rm11.drew ?_ | with_reducible refine Rm11.set ?_ (by first | omega | (simp; omega)) (by simp [Value.ownBlock]; omega) (by first | omega | (simp; omega))))))).mono ?_; rintro e w' ⟨rfl, hb'⟩; have hk9 : Rm11 (rowv (f 0)) (rowv (f 1)) (rowv (f 2)) (rowv (f 3)) (rowv (f 4)) (rowv (f 5)) (.slice (some ⟨g1, 0, none⟩) F.length c1) (.slice (some ⟨g2, 0, none⟩) st.length c2) (w.heap.size + 1 + 1) G z (.slice (some ⟨ga, 0, none⟩) z.length ca) w w' := Rm11.far (by (repeat (first | with_reducible assumption | with_reducible refine Rm11.al ?_ _ | with_reducible refine Rm11.drew ?_ | with_reducible refine Rm11.set ?_ (by first | omega | (simp; omega)) (by simp [Value.ownBlock]; omega) (by first | omega | (simp; omega))))) hb' rfl; have hb1 := Rm11.ltb hk9; have hv1 := Rm11.ltv hk9; have hw1 := Rm11.ltw hk9; (first | have hn := rowk hn hb' rfl | have hn := rowk (drew_row (alloc_at rfl)) hb' rfl | have hn := rowk (alloc_at rfl) hb' rfl | skip); (try (have hnz := oz_c11 hn; have hnf := oz_f11 hn))))
        all_goals
          first
            | (have hx := set6a (.int .i64 (rowv (G2 0))) (.int .i64 (rowv (G2 1))) (.int .i64 (rowv (G2 2))) (.int .i64 (rowv (G2 3))) (.int .i64 (rowv (G2 4))) (.int .i64 (rowv (G2 5))) hn
               generalize hX : (World.setCell _ _ _ : World) = X at hx ⊢)
            | (generalize hX : (World.alloc _ _ : World) = X
               have hx := alloc_is11 hX)
          have hk2 : Rm11 (rowv (f 0)) (rowv (f 1)) (rowv (f 2)) (rowv (f 3)) (rowv (f 4)) (rowv (f 5)) (.slice (some ⟨g1, 0, none⟩) F.length c1) (.slice (some ⟨g2, 0, none⟩) st.length c2) (w.heap.size + 1 + 1) G z (.slice (some ⟨ga, 0, none⟩) z.length ca) w X := by rw [← hX]; (repeat (first | with_reducible assumption | with_reducible refine Rm11.al ?_ _ | with_reducible refine Rm11.drew ?_ | with_reducible refine Rm11.set ?_ (by first | omega | (simp; omega)) (by simp [Value.ownBlock]; omega) (by first | omega | (simp; omega))))
          obtain ⟨gn, hgn⟩ := blk_ex hx
          have hd1 : gn ≠ (w.heap.size + 1 + 1) := by first | omega | (simp at hgn; omega)
          have hd2 : gn ≠ ga := by first | omega | (simp at hgn; omega)
          rw [← hgn] at hx ⊢
          clear hgn hX hk9 HBel HN
          have n_c := fun j => cell_of_row X _ j _ _ _ hx
          have b_c := fun j => cell_of_row X _ j _ _ _ hk2.2.1
          have HK2 := Lib.hid hk2
          have HX2 := Lib.hid hx
          clear hk2 hx
          cases b
          · have HV2 : Hid (vn11 F st f (k + 1) = z) := Lib.hid (by have := HVS.out; simpa using this)
            have b_f := fun j => frozen_of_row X _ j _ _ HK2.out.2.1
            go_wp2_with fail
            have HP := Lib.hid (HK2.out.put G2)
            clear n_c b_c b_f HK2 HX2
            generalize (World.setCell _ _ _ : World) = Y at HP ⊢
            go_roundw
            case rel => exact ⟨k + 1, by omega, by go_num, by rw [HV2.out, ← HG2.out]; exact HP⟩
            case measure => simp [intOf]; omega
          · have HV2 : Hid (vn11 F st f (k + 1) = z ++ [k]) := Lib.hid (by have := HVS.out; simpa using this)
            have HA := Lib.hid (HK2.out.al (.cells #[.int .i64 (k : Int)] 3))
            have HXA := Lib.hid (alloc_past (o := .cells #[.int .i64 (k : Int)] 3) HX2.out)
            go_wp2_with (at_builtin; refine wpList_append_own_at _ rfl _ _ 54 rfl (w.heap.size + 1) 3 i0 (.int .i64 0) 1 8 Try.underlying54 hi hz0 hz1 hz2 rfl (by decide) _ _ _ rfl HA.out.2.2.1 ⟨X.heap.size, 0, none⟩ 1 1 [.int .i64 (k : Int)] rfl rfl (one_new11 _ _ _) (ints_one11 _) (by have := HL.out; unfold maxLen; omega) (by have := HL.out; omega) HA.out.ltw ?_; intro v' w1 hown hgr hnn hat; have R := Lib.hid (HA.out.snoc hown hgr hnn hat); have hx1 := grown_row HXA.out hgr hd2; have n_d := fun j => cell_of_row w1 _ j _ _ _ hx1; have b_d := fun j => cell_of_row w1 _ j _ _ _ R.out.2.1; have b_f := fun j => frozen_of_row w1 _ j _ _ R.out.2.1; clear hown hgr hnn hat HA HXA hx1 n_c b_c HK2 HX2)
            have HP := Lib.hid (R.out.put G2)
            clear n_d b_d b_f R
            generalize (World.setCell _ _ _ : World) = Y at HP ⊢
            go_roundw
            case rel => exact ⟨k + 1, by omega, by go_num, by rw [HV2.out, ← HG2.out]; exact HP⟩
            case measure => simp [intOf]; omega
      · obtain rfl : k = st.length := by omega
        obtain ⟨ga, ca, rfl⟩ := own_form11 HB.out.2.2.1 HB.out.2.2.2.1
        have HO := Lib.hid (own_mono HB.out.2.2.1 (show w.heap.size ≤ w.heap.size + 1 by omega))
        go_wp2_with fail
        go_ret
        exact ⟨ga, ca, rfl, HO.out, HB.out.2.2.2.2.2.2⟩
  · generalize hX : (World.drew _ : World) = X
    have S0 : Hid (Rm11 (rowv (f 0)) (rowv (f 1)) (rowv (f 2)) (rowv (f 3)) (rowv (f 4)) (rowv (f 5)) (.slice (some ⟨g1, 0, none⟩) F.length c1) (.slice (some ⟨g2, 0, none⟩) st.length c2) (w.heap.size + 1) (at11 F st f 0) (vn11 F st f 0) (.slice (some ⟨(w.heap.size + 1 + 1), 0, none⟩) 0 0) w X) := Lib.hid (by
      rw [at11_zero, vn11_zero, ← hX]
      exact ⟨drew_row (alloc_past (alloc_past q0)), drew_row (alloc_past (by rw [← hs0]; exact alloc_at rfl)), ⟨rfl, .inr ⟨(w.heap.size + 1 + 1), 0, #[], rfl, by omega, drew_row (by rw [show w.heap.size + 1 + 1 = (W0.alloc (o6_11 f)).heap.size by simp [hs0]]; exact alloc_at rfl), Nat.le_refl _, by unfold maxLen; omega, rfl, rfl⟩⟩, by simp, by simp [Value.ownBlock], by omega, ((hB.alloc hB.size _).alloc (by have := hB.size; simp; omega) _).drew⟩)
    clear hX q0 hB hs0 a_c a_d
    go_wp2_with fail
    go_loopw [3, 5] (fun a i wr => ∃ k : Nat, k ≤ st.length ∧ i = .int .i64 k ∧ Hid (Rm11 (rowv (f 0)) (rowv (f 1)) (rowv (f 2)) (rowv (f 3)) (rowv (f 4)) (rowv (f 5)) (.slice (some ⟨g1, 0, none⟩) F.length c1) (.slice (some ⟨g2, 0, none⟩) st.length c2) (w.heap.size + 1) (at11 F st f k) (vn11 F st f k) a w wr)) (fun _ i _ => st.length - (intOf i).toNat)
    case atStart => exact ⟨0, by omega, rfl, S0⟩
    case round =>
      obtain ⟨k, hk, rfl, HB⟩ := hrel
      have a_c := fun j => cell_of_row wr _ j _ _ _ HB.out.1
      by_cases hlt : k < st.length
      · have hlt' : (k : Int) < st.length := by omega
        have hk0 : (0 : Int) ≤ k := by omega
        have HE := Lib.hid (at11_succ F st f hlt)
        have HVS := Lib.hid (vn11_succ F st f k)
        have HL := Lib.hid (vn11_len F st f k)
        have hE := fun W => eq26 (rowv (at11 F st f (k + 1) 0)) (rowv (at11 F st f (k + 1) 1)) (rowv (at11 F st f (k + 1) 2)) (rowv (at11 F st f (k + 1) 3)) (rowv (at11 F st f (k + 1) 4)) (rowv (at11 F st f (k + 1) 5)) (rowv (at11 F st f k 0)) (rowv (at11 F st f k 1)) (rowv (at11 F st f k 2)) (rowv (at11 F st f k 3)) (rowv (at11 F st f k 4)) (rowv (at11 F st f k 5)) W
        have hH : eqH (t11 (at11 F st f (k + 1))) (t11 (at11 F st f k)) = (rowv (at11 F st f (k + 1) 0) == rowv (at11 F st f k 0) && rowv (at11 F st f (k + 1) 1) == rowv (at11 F st f k 1) && rowv (at11 F st f (k + 1) 2) == rowv (at11 F st f k 2) && rowv (at11 F st f (k + 1) 3) == rowv (at11 F st f k 3) && rowv (at11 F st f (k + 1) 4) == rowv (at11 F st f k 4) && rowv (at11 F st f (k + 1) 5) == rowv (at11 F st f k 5)) := rfl
        rw [← hH] at hE
        clear hH
        generalize eqH (t11 (at11 F st f (k + 1))) (t11 (at11 F st f k)) = b at hE HVS
        generalize vn11 F st f k = z at HB HVS HL
        obtain ⟨G2, hG2⟩ : ∃ G2, G2 = at11 F st f (k + 1) := ⟨_, rfl⟩
        rw [← hG2] at HE
        simp only [← hG2] at hE
        have HG2 := Lib.hid hG2
        clear hG2
        generalize at11 F st f k = G at HB HE hE
        obtain ⟨ga, ca, rfl⟩ := own_form11 HB.out.2.2.1 HB.out.2.2.2.1
        obtain ⟨h3, h4, s, x, y, e1, e2, e3, hs, hx, hy⟩ := okS_get (HV.out _ (List.getElem_mem hlt))
        obtain ⟨p, hp⟩ : ∃ p, st[k] = p := ⟨_, rfl⟩
        rw [hp] at HE h3 h4 e1 e2 e3
        obtain ⟨pk, ps, px, py⟩ := p
        dsimp only at h3 h4 e1 e2 e3
        subst e1 e2 e3
        have HQ := Lib.hid hp
        have HN := Lib.hid (fun W h => lnext_11 G F pk h3 h4 s x y g1 c1 hs hx hy W h)
        rw [← HE.out] at HN
        clear h3 h4 hs hx hy hp HE
        have hk9 := HB.out
        have hb0 := Rm11.ltb hk9
        have hv0 := Rm11.ltv hk9
        have hw0 := Rm11.ltw hk9
        have hbn : w.heap.size + 1 ≤ (w.heap.size + 1) := by omega
        go_wp2_with fail
        clear a_c
        have HBel := Lib.hid (fun (U : World) (h : Rm11 (rowv (f 0)) (rowv (f 1)) (rowv (f 2)) (rowv (f 3)) (rowv (f 4)) (rowv (f 5)) (.slice (some ⟨g1, 0, none⟩) F.length c1) (.slice (some ⟨g2, 0, none⟩) st.length c2) (w.heap.size + 1) G z (.slice (some ⟨ga, 0, none⟩) z.length ca) w U) => ra_below R1.out h.bel rfl)
        go_region_held3 (fun U => U.cell? ⟨(w.heap.size + 1), 0, none⟩ = some (.int .i64 (rowv (G 0))) ∧ U.cell? ⟨(w.heap.size + 1), 1, none⟩ = some (.int .i64 (rowv (G 1))) ∧ U.cell? ⟨(w.heap.size + 1), 2, none⟩ = some (.int .i64 (rowv (G 2))) ∧ U.cell? ⟨(w.heap.size + 1), 3, none⟩ = some (.int .i64 (rowv (G 3))) ∧ U.cell? ⟨(w.heap.size + 1), 4, none⟩ = some (.int .i64 (rowv (G 4))) ∧ U.cell? ⟨(w.heap.size + 1), 5, none⟩ = some (.int .i64 (rowv (G 5))) ∧ U.cell? ⟨w.heap.size, 6, none⟩ = some (.slice (some ⟨g1, 0, none⟩) F.length c1) ∧ U.cell? ⟨w.heap.size, 7, none⟩ = some (.slice (some ⟨g2, 0, none⟩) st.length c2) ∧ U.cell? ⟨g2, k * 4, none⟩ = some (.int .i64 pk) ∧ U.cell? ⟨g2, k * 4 + 1, none⟩ = some (.int .i64 (s : Int)) ∧ U.cell? ⟨g2, k * 4 + 2, none⟩ = some (.int .i64 (x : Int)) ∧ U.cell? ⟨g2, k * 4 + 3, none⟩ = some (.int .i64 (y : Int)) ∧ Rm11 (rowv (f 0)) (rowv (f 1)) (rowv (f 2)) (rowv (f 3)) (rowv (f 4)) (rowv (f 5)) (.slice (some ⟨g1, 0, none⟩) F.length c1) (.slice (some ⟨g2, 0, none⟩) st.length c2) (w.heap.size + 1) G z (.slice (some ⟨ga, 0, none⟩) z.length ca) w U) (with_reducible refine SKm11 R2.out hlt HQ.out ?_; (repeat (first | with_reducible assumption | with_reducible refine Rm11.al ?_ _ | with_reducible refine Rm11.drew ?_ | with_reducible refine Rm11.set ?_ (by first | omega | (simp; omega)) (by simp [Value.ownBlock]; omega) (by first | omega | (simp; omega))))) ((go_at_call 129; with_reducible refine (HN.out _ (HBel.out _ (by (repeat (first | with_reducible assumption | with_reducible refine Rm11.al ?_ _ | with_reducible refine Rm11.drew ?_ | with_reducible refine Rm11.set ?_ (by first | omega | (simp; omega)) (by simp [Value.ownBlock]; omega) (by first | omega | (simp; omega))))))).mono ?_; rintro e w' ⟨rfl, hb'⟩; have hk9 : Rm11 (rowv (f 0)) (rowv (f 1)) (rowv (f 2)) (rowv (f 3)) (rowv (f 4)) (rowv (f 5)) (.slice (some ⟨g1, 0, none⟩) F.length c1) (.slice (some ⟨g2, 0, none⟩) st.length c2) (w.heap.size + 1) G z (.slice (some ⟨ga, 0, none⟩) z.length ca) w w' := Rm11.far (by (repeat (first | with_reducible assumption | with_reducible refine Rm11.al ?_ _ | with_reducible refine Rm11.drew ?_ | with_reducible refine Rm11.set ?_ (by first | omega | (simp; omega)) (by simp [Value.ownBlock]; omega) (by first | omega | (simp; omega))))) hb' rfl; have hb1 := Rm11.ltb hk9; have hv1 := Rm11.ltv hk9; have hw1 := Rm11.ltw hk9; (first | have hn := rowk hn hb' rfl | have hn := rowk (drew_row (alloc_at rfl)) hb' rfl | have hn := rowk (alloc_at rfl) hb' rfl | skip); (try (have hnz := oz_c11 hn; have hnf := oz_f11 hn))))
        all_goals
          first
            | (have hx := set6a (.int .i64 (rowv (G2 0))) (.int .i64 (rowv (G2 1))) (.int .i64 (rowv (G2 2))) (.int .i64 (rowv (G2 3))) (.int .i64 (rowv (G2 4))) (.int .i64 (rowv (G2 5))) hn
               generalize hX : (World.setCell _ _ _ : World) = X at hx ⊢)
            | (generalize hX : (World.alloc _ _ : World) = X
               have hx := alloc_is11 hX)
          have hk2 : Rm11 (rowv (f 0)) (rowv (f 1)) (rowv (f 2)) (rowv (f 3)) (rowv (f 4)) (rowv (f 5)) (.slice (some ⟨g1, 0, none⟩) F.length c1) (.slice (some ⟨g2, 0, none⟩) st.length c2) (w.heap.size + 1) G z (.slice (some ⟨ga, 0, none⟩) z.length ca) w X := by rw [← hX]; (repeat (first | with_reducible assumption | with_reducible refine Rm11.al ?_ _ | with_reducible refine Rm11.drew ?_ | with_reducible refine Rm11.set ?_ (by first | omega | (simp; omega)) (by simp [Value.ownBlock]; omega) (by first | omega | (simp; omega))))
          obtain ⟨gn, hgn⟩ := blk_ex hx
          have hd1 : gn ≠ (w.heap.size + 1) := by first | omega | (simp at hgn; omega)
          have hd2 : gn ≠ ga := by first | omega | (simp at hgn; omega)
          rw [← hgn] at hx ⊢
          clear hgn hX hk9 HBel HN
          have n_c := fun j => cell_of_row X _ j _ _ _ hx
          have b_c := fun j => cell_of_row X _ j _ _ _ hk2.2.1
          have HK2 := Lib.hid hk2
          have HX2 := Lib.hid hx
          clear hk2 hx
          cases b
          · have HV2 : Hid (vn11 F st f (k + 1) = z) := Lib.hid (by have := HVS.out; simpa using this)
            have b_f := fun j => frozen_of_row X _ j _ _ HK2.out.2.1
            go_wp2_with fail
            have HP := Lib.hid (HK2.out.put G2)
            clear n_c b_c b_f HK2 HX2
            generalize (World.setCell _ _ _ : World) = Y at HP ⊢
            go_roundw
            case rel => exact ⟨k + 1, by omega, by go_num, by rw [HV2.out, ← HG2.out]; exact HP⟩
            case measure => simp [intOf]; omega
          · have HV2 : Hid (vn11 F st f (k + 1) = z ++ [k]) := Lib.hid (by have := HVS.out; simpa using this)
            have HA := Lib.hid (HK2.out.al (.cells #[.int .i64 (k : Int)] 3))
            have HXA := Lib.hid (alloc_past (o := .cells #[.int .i64 (k : Int)] 3) HX2.out)
            go_wp2_with (at_builtin; refine wpList_append_own_at _ rfl _ _ 54 rfl (w.heap.size + 1) 3 i0 (.int .i64 0) 1 8 Try.underlying54 hi hz0 hz1 hz2 rfl (by decide) _ _ _ rfl HA.out.2.2.1 ⟨X.heap.size, 0, none⟩ 1 1 [.int .i64 (k : Int)] rfl rfl (one_new11 _ _ _) (ints_one11 _) (by have := HL.out; unfold maxLen; omega) (by have := HL.out; omega) HA.out.ltw ?_; intro v' w1 hown hgr hnn hat; have R := Lib.hid (HA.out.snoc hown hgr hnn hat); have hx1 := grown_row HXA.out hgr hd2; have n_d := fun j => cell_of_row w1 _ j _ _ _ hx1; have b_d := fun j => cell_of_row w1 _ j _ _ _ R.out.2.1; have b_f := fun j => frozen_of_row w1 _ j _ _ R.out.2.1; clear hown hgr hnn hat HA HXA hx1 n_c b_c HK2 HX2)
            have HP := Lib.hid (R.out.put G2)
            clear n_d b_d b_f R
            generalize (World.setCell _ _ _ : World) = Y at HP ⊢
            go_roundw
            case rel => exact ⟨k + 1, by omega, by go_num, by rw [HV2.out, ← HG2.out]; exact HP⟩
            case measure => simp [intOf]; omega
      · obtain rfl : k = st.length := by omega
        obtain ⟨ga, ca, rfl⟩ := own_form11 HB.out.2.2.1 HB.out.2.2.2.1
        have HO := Lib.hid (own_mono HB.out.2.2.1 (show w.heap.size ≤ w.heap.size + 1 by omega))
        go_wp2_with fail
        go_ret
        exact ⟨ga, ca, rfl, HO.out, HB.out.2.2.2.2.2.2⟩
end Go.Proofs.Ytkbpfdmmjpmbmaa
