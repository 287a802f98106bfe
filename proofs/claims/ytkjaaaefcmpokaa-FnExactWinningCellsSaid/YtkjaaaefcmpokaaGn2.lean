/- CONTRACTS: the code's nexts of a game. -/
import Derived.Test.YtkjaaaefcmpokaaMa10
import Derived.Test.YtkjaaaefcmpokaaMb10
import Derived.Shelf.SlSortCmp.NoneTotal
import Derived.Test.YtkjaaaefcmpokaaSs10
import Derived.RegionTactic
import Derived.WalkKit
import Derived.ProofKit
import Derived.OpenShut
import Derived.Lib.Hide
import Derived.WalkSpells
import Derived.Below
import Derived.BigQuiet
import Derived.LoopN
namespace Go.Proofs.Ytkjaaaefcmpokaa
open Go.ChangeShapes Go.WideShapes Go.ChangeAt Go.RowKit
set_option linter.unusedVariables false
/-- An answer: a slice of sheets of its own. -/
def LT (l : List T6) (w : World) (e : Ending) (w' : World) : Prop := ∃ g cap, e = .returned (.slice (some ⟨g, 0, none⟩) l.length cap) ∧ w'.ownsRow w.heap.size 28 6 (.slice (some ⟨g, 0, none⟩) l.length cap) l.length (tv6 l) ∧ Below w.heap.size w w'
theorem LT.out {l : List T6} {w w' : World} {e : Ending} (h : LT l w e w') : ∃ g cap, e = .returned (.slice (some ⟨g, 0, none⟩) l.length cap) ∧ w'.ownsRow w.heap.size 28 6 (.slice (some ⟨g, 0, none⟩) l.length cap) l.length (tv6 l) ∧ Below w.heap.size w w' := h
/-- An answer: a slice of sheets of its own, and a flag. -/
def LTb (l : List T6) (t : Bool) (w : World) (e : Ending) (w' : World) : Prop := ∃ g cap, e = .returned (.tuple #[.slice (some ⟨g, 0, none⟩) l.length cap, .bool t]) ∧ w'.ownsRow w.heap.size 28 6 (.slice (some ⟨g, 0, none⟩) l.length cap) l.length (tv6 l) ∧ Below w.heap.size w w'
theorem LTb.out {l : List T6} {t : Bool} {w w' : World} {e : Ending} (h : LTb l t w e w') : ∃ g cap, e = .returned (.tuple #[.slice (some ⟨g, 0, none⟩) l.length cap, .bool t]) ∧ w'.ownsRow w.heap.size 28 6 (.slice (some ⟨g, 0, none⟩) l.length cap) l.length (tv6 l) ∧ Below w.heap.size w w' := h
/-- The sheets behind the first i presses, white ones behind them. -/
def fl6 (f p : Fn6) (l : List (Nat × Nat)) (i : Nat) : List T6 := (l.take i).map (nx1 f p) ++ List.replicate (l.length - i) (t6 zf)
theorem fl6_len (f p : Fn6) (l : List (Nat × Nat)) {i : Nat} (h : i ≤ l.length) : (fl6 f p l i).length = l.length := by simp [fl6]; omega
theorem fl6_end (f p : Fn6) (l : List (Nat × Nat)) : fl6 f p l l.length = l.map (nx1 f p) := by simp [fl6]
theorem fl6_set (f p : Fn6) (l : List (Nat × Nat)) {i : Nat} (h : i < l.length) : (fl6 f p l i).set i (nx1 f p l[i]) = fl6 f p l (i + 1) := by
  unfold fl6
  rw [List.set_append_right _ _ (by simp; omega), List.take_add_one, List.getElem?_eq_getElem h]
  simp only [List.length_map, List.length_take, Option.toList_some, List.map_append, List.map_cons, List.map_nil, List.append_assoc]
  rw [show i - min i l.length = 0 by omega, show l.length - i = (l.length - (i + 1)) + 1 by omega, List.replicate_succ]
  rfl
theorem tv6_white (n : Nat) : tv6 (List.replicate n (t6 zf)) = List.replicate (n * 6) (Value.int .i64 0) := by
  induction n with
  | zero => rfl
  | succ n ih =>
    rw [List.replicate_succ, show tv6 (t6 zf :: List.replicate n (t6 zf)) = e6 (t6 zf) ++ tv6 (List.replicate n (t6 zf)) from rfl, ih, show (n + 1) * 6 = 6 + n * 6 by omega, ← List.replicate_append_replicate]
    rfl
/-- Midway: the boxes, the cells, and the row of sheets in the block gs. -/
def Rn (w : World) (f p : Fn6) (l : List (Nat × Nat)) (g cap gs i : Nat) (W : World) : Prop :=
  KR 2 [(w.heap.size, o6 f), (w.heap.size + 1, o6 p)] w W ∧ W.ownsRow 0 47 2 (.slice (some ⟨g, 0, none⟩) l.length cap) l.length (cv l) ∧ W.ownsRow w.heap.size 28 6 (.slice (some ⟨gs, 0, none⟩) l.length l.length) l.length (tv6 (fl6 f p l i)) ∧ w.heap.size + 2 ≤ gs ∧ g ≠ gs ∧ i ≤ l.length
theorem Rn.below {w W W' : World} {f p : Fn6} {l : List (Nat × Nat)} {g cap gs i M : Nat} (h : Rn w f p l g cap gs i W) (hb : Below M W W') (hM : M = W.heap.size) : Rn w f p l g cap gs i W' := by
  obtain ⟨h1, h2, h3, h4⟩ := h
  exact ⟨h1.far hb hM, h2.kept (grown_below hb hM) (.inr (by simp [Value.ownBlock])), h3.kept (grown_below hb hM) (.inr (by simp [Value.ownBlock])), h4⟩
theorem Rn.put {w W : World} {f p : Fn6} {l : List (Nat × Nat)} {g cap gs i : Nat} (h : Rn w f p l g cap gs i W) (hi : i < l.length) {x y : Nat} (hc : l[i] = (x, y)) : Rn w f p l g cap gs (i + 1) ((((((W.setCell ⟨gs, i * 6, none⟩ (.int .i64 (rowv (jf f (sf x y p) 0)))).setCell ⟨gs, i * 6 + 1, none⟩ (.int .i64 (rowv (jf f (sf x y p) 1)))).setCell ⟨gs, i * 6 + 2, none⟩ (.int .i64 (rowv (jf f (sf x y p) 2)))).setCell ⟨gs, i * 6 + 3, none⟩ (.int .i64 (rowv (jf f (sf x y p) 3)))).setCell ⟨gs, i * 6 + 4, none⟩ (.int .i64 (rowv (jf f (sf x y p) 4)))).setCell ⟨gs, i * 6 + 5, none⟩ (.int .i64 (rowv (jf f (sf x y p) 5)))) := by
  obtain ⟨h1, h2, h3, h4, h5, h6⟩ := h
  have hk : ∀ (U : World) (j : Nat) (u : Value), U.ownsRow 0 47 2 (.slice (some ⟨g, 0, none⟩) l.length cap) l.length (cv l) → (U.setCell ⟨gs, j, none⟩ u).ownsRow 0 47 2 (.slice (some ⟨g, 0, none⟩) l.length cap) l.length (cv l) := fun U j u h => h.kept (grow_set U ⟨gs, j, none⟩ u) (.inr (by simp [Value.ownBlock, h5]))
  have e := own_put6 (nx1 f p l[i]) h3 (by rw [fl6_len f p l h6]; exact hi)
  rw [fl6_set f p l hi, hc] at e
  exact ⟨h1.set h4 |>.set h4 |>.set h4 |>.set h4 |>.set h4 |>.set h4, hk _ _ _ (hk _ _ _ (hk _ _ _ (hk _ _ _ (hk _ _ _ (hk _ _ _ h2))))), e, h4, h5, hi⟩
theorem Rn.cells {w W : World} {f p : Fn6} {l : List (Nat × Nat)} {g cap gs i : Nat} (h : Rn w f p l g cap gs i W) (hi : i < l.length) : (∃ t : T6, W.cell? ⟨gs, i * 6, none⟩ = some (.int .i64 t.1) ∧ W.cell? ⟨gs, i * 6 + 1, none⟩ = some (.int .i64 t.2.1) ∧ W.cell? ⟨gs, i * 6 + 2, none⟩ = some (.int .i64 t.2.2.1) ∧ W.cell? ⟨gs, i * 6 + 3, none⟩ = some (.int .i64 t.2.2.2.1) ∧ W.cell? ⟨gs, i * 6 + 4, none⟩ = some (.int .i64 t.2.2.2.2.1) ∧ W.cell? ⟨gs, i * 6 + 5, none⟩ = some (.int .i64 t.2.2.2.2.2)) ∧ ∀ j, W.frozen? ⟨gs, j, none⟩ = false := by
  obtain ⟨h1, h2, h3, h4, h5, h6⟩ := h
  have hl : i < (fl6 f p l i).length := by rw [fl6_len f p l h6]; exact hi
  obtain ⟨c0, c1, c2, c3, c4, c5⟩ := tv6_at (fl6 f p l i) i hl
  exact ⟨⟨(fl6 f p l i)[i], own_at h3 c0, own_at h3 c1, own_at h3 c2, own_at h3 c3, own_at h3 c4, own_at h3 c5⟩, fun j => h3.frozenAt j⟩
/-- With the cell that is pressed at. -/
def Bn (w : World) (f p : Fn6) (l : List (Nat × Nat)) (g cap gs i gc x y : Nat) (U : World) : Prop := Rn w f p l g cap gs i U ∧ U.heap[gc]? = some (oc x y) ∧ gs ≠ gc
theorem Bn.below {w U U' : World} {f p : Fn6} {l : List (Nat × Nat)} {g cap gs i gc x y M : Nat} (h : Bn w f p l g cap gs i gc x y U) (hb : Below M U U') (hM : M = U.heap.size) : Bn w f p l g cap gs i gc x y U' := ⟨h.1.below hb hM, rowk h.2.1 hb hM, h.2.2⟩
theorem Bn.rn {w U : World} {f p : Fn6} {l : List (Nat × Nat)} {g cap gs i gc x y : Nat} (h : Bn w f p l g cap gs i gc x y U) : Rn w f p l g cap gs i U := h.1
theorem Bn.drew {w U : World} {f p : Fn6} {l : List (Nat × Nat)} {g cap gs i gc x y : Nat} (h : Bn w f p l g cap gs i gc x y U) : Bn w f p l g cap gs i gc x y U.drew := h.below (M := U.heap.size) (Below.refl _ _).drew rfl
theorem SKn {w U : World} {f p : Fn6} {l : List (Nat × Nat)} {g cap gs i gc x y : Nat} (h : Bn w f p l g cap gs i gc x y U) : U.cell? ⟨w.heap.size, 0, none⟩ = some (.int .i64 (rowv (f 0))) ∧ U.cell? ⟨w.heap.size, 1, none⟩ = some (.int .i64 (rowv (f 1))) ∧ U.cell? ⟨w.heap.size, 2, none⟩ = some (.int .i64 (rowv (f 2))) ∧ U.cell? ⟨w.heap.size, 3, none⟩ = some (.int .i64 (rowv (f 3))) ∧ U.cell? ⟨w.heap.size, 4, none⟩ = some (.int .i64 (rowv (f 4))) ∧ U.cell? ⟨w.heap.size, 5, none⟩ = some (.int .i64 (rowv (f 5))) ∧ U.cell? ⟨w.heap.size + 1, 0, none⟩ = some (.int .i64 (rowv (p 0))) ∧ U.cell? ⟨w.heap.size + 1, 1, none⟩ = some (.int .i64 (rowv (p 1))) ∧ U.cell? ⟨w.heap.size + 1, 2, none⟩ = some (.int .i64 (rowv (p 2))) ∧ U.cell? ⟨w.heap.size + 1, 3, none⟩ = some (.int .i64 (rowv (p 3))) ∧ U.cell? ⟨w.heap.size + 1, 4, none⟩ = some (.int .i64 (rowv (p 4))) ∧ U.cell? ⟨w.heap.size + 1, 5, none⟩ = some (.int .i64 (rowv (p 5))) ∧ U.cell? ⟨gc, 0, none⟩ = some (.int .i64 (x : Int)) ∧ U.cell? ⟨gc, 1, none⟩ = some (.int .i64 (y : Int)) :=
  have h0 := fun j => cell_of_row U _ j _ _ _ (h.1.1.row (g := w.heap.size) (o := o6 f) (List.mem_cons_self ..))
  have h1 := fun j => cell_of_row U _ j _ _ _ (h.1.1.row (g := w.heap.size + 1) (o := o6 p) (List.mem_cons_of_mem _ (List.mem_cons_self ..)))
  have h2 := fun j => cell_of_row U _ j _ _ _ h.2.1
  ⟨h0 0, h0 1, h0 2, h0 3, h0 4, h0 5, h1 0, h1 1, h1 2, h1 3, h1 4, h1 5, h2 0, h2 1⟩
theorem SKn2 {w V : World} {f p : Fn6} {l : List (Nat × Nat)} {g cap gs i gc x y : Nat} {i0 i1 i2 i3 i4 i5 : Nat} {v0 v1 v2 v3 v4 v5 : Value} (h : Bn w f p l g cap gs i gc x y V) : (fun U => U.cell? ⟨w.heap.size, 0, none⟩ = some (.int .i64 (rowv (f 0))) ∧ U.cell? ⟨w.heap.size, 1, none⟩ = some (.int .i64 (rowv (f 1))) ∧ U.cell? ⟨w.heap.size, 2, none⟩ = some (.int .i64 (rowv (f 2))) ∧ U.cell? ⟨w.heap.size, 3, none⟩ = some (.int .i64 (rowv (f 3))) ∧ U.cell? ⟨w.heap.size, 4, none⟩ = some (.int .i64 (rowv (f 4))) ∧ U.cell? ⟨w.heap.size, 5, none⟩ = some (.int .i64 (rowv (f 5))) ∧ U.cell? ⟨w.heap.size + 1, 0, none⟩ = some (.int .i64 (rowv (p 0))) ∧ U.cell? ⟨w.heap.size + 1, 1, none⟩ = some (.int .i64 (rowv (p 1))) ∧ U.cell? ⟨w.heap.size + 1, 2, none⟩ = some (.int .i64 (rowv (p 2))) ∧ U.cell? ⟨w.heap.size + 1, 3, none⟩ = some (.int .i64 (rowv (p 3))) ∧ U.cell? ⟨w.heap.size + 1, 4, none⟩ = some (.int .i64 (rowv (p 4))) ∧ U.cell? ⟨w.heap.size + 1, 5, none⟩ = some (.int .i64 (rowv (p 5))) ∧ U.cell? ⟨gc, 0, none⟩ = some (.int .i64 (x : Int)) ∧ U.cell? ⟨gc, 1, none⟩ = some (.int .i64 (y : Int))) ((((((V.setCell ⟨gs, i0, none⟩ v0).setCell ⟨gs, i1, none⟩ v1).setCell ⟨gs, i2, none⟩ v2).setCell ⟨gs, i3, none⟩ v3).setCell ⟨gs, i4, none⟩ v4).setCell ⟨gs, i5, none⟩ v5) := by
  have hge := h.1.2.2.2.1
  have hk := h.1.1.set (v := v0) (i := i0) hge |>.set (v := v1) (i := i1) hge |>.set (v := v2) (i := i2) hge |>.set (v := v3) (i := i3) hge |>.set (v := v4) (i := i4) hge |>.set (v := v5) (i := i5) hge
  have hr : ((((((V.setCell ⟨gs, i0, none⟩ v0).setCell ⟨gs, i1, none⟩ v1).setCell ⟨gs, i2, none⟩ v2).setCell ⟨gs, i3, none⟩ v3).setCell ⟨gs, i4, none⟩ v4).setCell ⟨gs, i5, none⟩ v5).heap[gc]? = some (oc x y) := by
    have hne : gc ≠ gs := fun e => h.2.2 e.symm
    rw [Below.heap_setCell _ _ _ _ hne, Below.heap_setCell _ _ _ _ hne, Below.heap_setCell _ _ _ _ hne, Below.heap_setCell _ _ _ _ hne, Below.heap_setCell _ _ _ _ hne, Below.heap_setCell _ _ _ _ hne]
    exact h.2.1
  generalize ((((((V.setCell ⟨gs, i0, none⟩ v0).setCell ⟨gs, i1, none⟩ v1).setCell ⟨gs, i2, none⟩ v2).setCell ⟨gs, i3, none⟩ v3).setCell ⟨gs, i4, none⟩ v4).setCell ⟨gs, i5, none⟩ v5) = U at hk hr ⊢
  have h0 := fun j => cell_of_row U _ j _ _ _ (hk.row (g := w.heap.size) (o := o6 f) (List.mem_cons_self ..))
  have h1 := fun j => cell_of_row U _ j _ _ _ (hk.row (g := w.heap.size + 1) (o := o6 p) (List.mem_cons_of_mem _ (List.mem_cons_self ..)))
  have h2 := fun j => cell_of_row U _ j _ _ _ hr
  exact ⟨h0 0, h0 1, h0 2, h0 3, h0 4, h0 5, h1 0, h1 1, h1 2, h1 3, h1 4, h1 5, h2 0, h2 1⟩
theorem flat_tv6 (l : List T6) : (Go.Sort.flatK e6 6 l.toArray).toList = tv6 l := by
  refine List.ext_getElem (by rw [Array.length_toList, Go.Sort.size_flatK, tv6_len]; simp) (fun t h1 h2 => ?_)
  have ht : t < l.length * 6 := by rw [tv6_len] at h2; exact h2
  have hk : t / 6 < l.length := by omega
  obtain ⟨p0, p1, p2, p3, p4, p5⟩ := tv6_at l (t / 6) hk
  have hg := Go.Sort.get_flatK e6 6 l.toArray t (by simpa using ht)
  rw [getElem!_pos _ t (by rw [Go.Sort.size_flatK]; simpa using ht)] at hg
  rw [Array.getElem_toList, hg]
  have e1 : l.toArray[t / 6]! = l[t / 6] := by rw [getElem!_pos _ _ (by simpa using hk)]; simp
  rw [e1]
  have e2 : ∀ i, t % 6 = i → (tv6 l)[t / 6 * 6 + i]? = some ((tv6 l)[t]) := fun i hi => by
    rw [show t / 6 * 6 + i = t by omega, List.getElem?_eq_getElem h2]
  have h6 : t % 6 < 6 := Nat.mod_lt _ (by decide)
  rcases six_n h6 with h | h | h | h | h | h
  · have := e2 0 h; rw [Nat.add_zero, p0] at this; rw [h]; exact Option.some.inj this
  · have := e2 1 h; rw [p1] at this; rw [h]; exact Option.some.inj this
  · have := e2 2 h; rw [p2] at this; rw [h]; exact Option.some.inj this
  · have := e2 3 h; rw [p3] at this; rw [h]; exact Option.some.inj this
  · have := e2 4 h; rw [p4] at this; rw [h]; exact Option.some.inj this
  · have := e2 5 h; rw [p5] at this; rw [h]; exact Option.some.inj this
theorem holds_own {w : World} {B g n cap : Nat} {e : TypeId} {l : List T6} (h : w.ownsRow B e 6 (.slice (some ⟨g, 0, none⟩) n cap) n (tv6 l)) (hl : l.length = n) : Go.Sort.HoldsK e6 6 w g 0 l.toArray := by
  intro j hj
  rw [Go.Sort.size_flatK] at hj
  have hj2 : j < n * 6 := by simpa [hl] using hj
  rw [Nat.zero_add]
  refine ⟨?_, h.frozenAt j⟩
  rw [h.cellAt j hj2, ← flat_tv6, Array.getElem?_toList, getElem!_pos _ j (by rw [Go.Sort.size_flatK]; exact hj), Array.getElem?_eq_getElem (by rw [Go.Sort.size_flatK]; exact hj)]
  rfl
theorem own_sorted {w : World} {B g n cap : Nat} {e : TypeId} {l m : List T6} (h : w.ownsRow B e 6 (.slice (some ⟨g, 0, none⟩) n cap) n (tv6 l)) (hm : m.length = n) (N : Nat) (os : Array Obj) : (Go.Proofs.sortWorldK e6 6 w g 0 N m.toArray os).ownsRow B e 6 (.slice (some ⟨g, 0, none⟩) n cap) n (tv6 m) ∧ w.grownBy (Go.Proofs.sortWorldK e6 6 w g 0 N m.toArray os) (some g) := by
  have hg := (h.lt g rfl).2
  rcases h.2 with ⟨e1, _⟩ | ⟨g2, cap2, cur, e1, hb, hh, h1, h2, h3, ht⟩
  · exact absurd e1 (by simp)
  · simp only [Value.slice.injEq, Option.some.injEq, Addr.mk.injEq, and_true, true_and] at e1
    obtain ⟨rfl, rfl⟩ := e1
    have hblk : ∀ k, k < w.heap.size → (Go.Proofs.sortWorldK e6 6 w g 0 N m.toArray os).heap[k]? = (Go.Sort.putRowK e6 6 (Go.Sort.ahead w N) g 0 m.toArray).heap[k]? := fun k hk => Go.Sort.heap_grow_old _ _ (by unfold Go.Sort.putRowK; rw [Go.Sort.size_putRow]; exact hk)
    have hF : (Go.Sort.flatK e6 6 m.toArray).size = n * 6 := by rw [Go.Sort.size_flatK]; simp [hm]
    refine ⟨⟨by rw [tv6_len, hm], .inr ⟨g, cap, Go.Sort.putCells id 0 (Go.Sort.flatK e6 6 m.toArray) cur, rfl, hb, ?_, h1, h2, by rw [Go.Sort.putCells, Array.size_mapIdx, h3], ?_⟩⟩, ?_⟩
    · rw [hblk g hg]
      show ((Go.Sort.ahead w N).heap.modify g _)[g]? = _
      rw [Array.getElem?_modify, if_pos rfl, show (Go.Sort.ahead w N).heap[g]? = w.heap[g]? from rfl, hh]
      rfl
    · rw [← flat_tv6]
      refine List.ext_getElem (by simp [Go.Sort.putCells, hF, h3]; omega) (fun t a b => ?_)
      have htn : t < n * 6 := by rw [Array.length_toList, hF] at b; exact b
      rw [List.getElem_take, Array.getElem_toList, Array.getElem_toList]
      unfold Go.Sort.putCells
      rw [Array.getElem_mapIdx, if_pos ⟨Nat.zero_le _, by rw [Nat.zero_add, hF]; exact htn⟩, Nat.sub_zero, getElem!_pos _ t (by rw [hF]; exact htn)]
      rfl
    · refine ⟨rfl, rfl, rfl, ?_, fun k hk hne => ?_⟩
      · unfold Go.Proofs.sortWorldK
        rw [Go.Sort.size_grow, Go.Sort.putRowK, Go.Sort.size_putRow]
        exact Nat.le_add_right _ _
      · rw [hblk k hk]
        show ((Go.Sort.ahead w N).heap.modify g _)[k]? = _
        rw [Array.getElem?_modify, if_neg (fun e => hne (by rw [e]))]
        rfl
theorem swo6 : Go.Sort.SWO lt6 := ⟨lt6_irr, lt6_tr, fun x y z h1 h2 => by
  cases h : lt6 x z
  · rfl
  · cases h3 : lt6 y x
    · have := lt6_tri x y h1 h3
      subst this
      rw [h] at h2; exact h2
    · rw [lt6_tr y x z h3 h] at h2; exact h2⟩
theorem sort_f (d : List T6) (hd : d.length ≤ 36) (B g cap : Nat) (w : World) (hO : w.ownsRow B 28 6 (.slice (some ⟨g, 0, none⟩) d.length cap) d.length (tv6 d)) : Calls Try.prog 257 #[.slice (some ⟨g, 0, none⟩) d.length cap, .func (.func 258) #[] #[]] w fun e w' => e = .returned (.tuple #[]) ∧ w'.ownsRow B 28 6 (.slice (some ⟨g, 0, none⟩) d.length cap) d.length (tv6 (d.mergeSort (fun x y => !lt6 y x))) ∧ w.grownBy w' (some g) := by
  obtain ⟨cf, hcf⟩ : ∃ cf : T6 → T6 → Int, ∀ x y, decide (cf x y < 0) = lt6 x y ∧ ∀ w, Calls Try.prog 258 #[.agg #[.int .i64 x.1, .int .i64 x.2.1, .int .i64 x.2.2.1, .int .i64 x.2.2.2.1, .int .i64 x.2.2.2.2.1, .int .i64 x.2.2.2.2.2], .agg #[.int .i64 y.1, .int .i64 y.2.1, .int .i64 y.2.2.1, .int .i64 y.2.2.2.1, .int .i64 y.2.2.2.2.1, .int .i64 y.2.2.2.2.2]] w fun e w' => e = .returned (.int .i64 (cf x y)) ∧ Gw w w' := ⟨fun x y => Classical.choose (cmg_lx x.1 x.2.1 x.2.2.1 x.2.2.2.1 x.2.2.2.2.1 x.2.2.2.2.2 y.1 y.2.1 y.2.2.1 y.2.2.2.1 y.2.2.2.2.1 y.2.2.2.2.2), fun x y => Classical.choose_spec (cmg_lx x.1 x.2.1 x.2.2.1 x.2.2.2.1 x.2.2.2.2.1 x.2.2.2.2.2 y.1 y.2.1 y.2.2.1 y.2.2.2.1 y.2.2.2.2.1 y.2.2.2.2.2)⟩
  have elt : Go.Proofs.ltOf cf = lt6 := funext fun x => funext fun y => (hcf x y).1
  have eg : ∀ args w, (callFunc 258 args).run Try.prog w = .ok (.enter 258 args) w := enters_of Try.func258 (by kernel_rfl) rfl
  have hcon := AnyQ.slices_SortFunc_total sortSh 6 Try.isAgg28 Try.sizeOf28 e6 (fun _ => rfl) (fun x v hv => by
    simp only [e6, List.mem_cons, List.not_mem_nil, or_false] at hv
    rcases hv with rfl | rfl | rfl | rfl | rfl | rfl <;> rfl) cf (by rw [elt]; exact swo6) 258 #[] g 0 cap d.toArray w eg (fun m os dk _ x y => (hcf x y).2 _) (holds_own hO rfl) (hO.lt g rfl).2 (by simp; omega) (fun x y h1 h2 => by rw [elt] at h1 h2; exact lt6_tri x y h1 h2)
  change Calls Try.prog 257 _ _ _ at hcon
  rw [elt] at hcon
  have hs : d.toArray.size = d.length := by simp
  rw [hs] at hcon
  refine hcon.mono ?_
  rintro e w' ⟨rfl, N, os, rfl⟩
  obtain ⟨h1, h2⟩ := own_sorted (m := d.mergeSort (fun x y => !lt6 y x)) hO (List.length_mergeSort _) N os
  exact ⟨rfl, h1, h2⟩
theorem info28s : ∃ i0, Try.prog.info? 28 = some i0 ∧ i0.zero = some (.agg #[.int .i64 0, .int .i64 0, .int .i64 0, .int .i64 0, .int .i64 0, .int .i64 0]) ∧ i0.size = 6 ∧ i0.bytes = 48 := by
  have h := info25
  cases hh : Try.prog.info? 28 with
  | none => rw [hh] at h; simp at h
  | some i0 =>
    rw [hh] at h
    have hz : (i0.zero, i0.size, i0.bytes) = (some (.agg #[.int .i64 0, .int .i64 0, .int .i64 0, .int .i64 0, .int .i64 0, .int .i64 0]), 6, 48) := by simpa using h
    simp only [Prod.mk.injEq] at hz
    exact ⟨i0, rfl, hz.1, hz.2.1, hz.2.2⟩
theorem grown_below2 {w W W2 : World} {g : Nat} (hB : Below w.heap.size w W) (hg : W.grownBy W2 (some g)) (h : w.heap.size ≤ g) : Below w.heap.size w W2 := hB.grown hg hB.size (fun k hk => by cases hk; exact h)
set_option maxHeartbeats 4000000 in
theorem inexts_f (f p : Fn6) (HS : Hid (∀ w, Calls Try.prog 141 #[.agg #[.int .i64 (rowv (p 0)), .int .i64 (rowv (p 1)), .int .i64 (rowv (p 2)), .int .i64 (rowv (p 3)), .int .i64 (rowv (p 4)), .int .i64 (rowv (p 5))]] w fun e w' => e = .returned (.bool true) ∧ Below w.heap.size w w')) (w : World) : Calls Try.prog 145 #[.agg #[.int .i64 (rowv (f 0)), .int .i64 (rowv (f 1)), .int .i64 (rowv (f 2)), .int .i64 (rowv (f 3)), .int .i64 (rowv (f 4)), .int .i64 (rowv (f 5))], .agg #[.int .i64 (rowv (p 0)), .int .i64 (rowv (p 1)), .int .i64 (rowv (p 2)), .int .i64 (rowv (p 3)), .int .i64 (rowv (p 4)), .int .i64 (rowv (p 5))]] w (LT (nxf f p) w) := by
  obtain ⟨i0, hi, hz0, hz1, hz2⟩ := info28s
  have HF := Lib.hid (ifree_yes f p HS)
  have HE : Hid (dpl (((bl (frf f p) 36).map (nx1 f p)).mergeSort (fun x y => !lt6 y x)) (((bl (frf f p) 36).map (nx1 f p)).mergeSort (fun x y => !lt6 y x)).length = nxf f p) := Lib.hid (sort_insl so6 _)
  have HLm := Lib.hid (bl_lt (frf f p) 36 (Nat.le_refl _))
  have hl36 := bl_len (frf f p) 36
  generalize bl (frf f p) 36 = l at HF HE HLm hl36
  go_enter Try.func145, Try.ntmps145
  go_wp2_with fail
  generalize hW : (World.alloc _ _ : World) = W0
  have K0 : KR 2 [(w.heap.size, o6 f), (w.heap.size + 1, o6 p)] w W0 := by
    rw [← hW]
    exact two_b w _ _ (by (repeat (first | exact Below.refl _ _ | assumption | refine Below.setCell ?_ (by first | (simp; done) | (simp; omega)) _ | refine Below.alloc ?_ (by first | (simp; done) | (simp; omega)) _ | refine Below.drew ?_))) (alloc_past (alloc_at rfl)) (alloc_at (by simp)) (by simp)
  clear hW
  have a_c := fun j => cell_of_row W0 _ j _ _ _ (K0.row (g := w.heap.size) (o := o6 f) (by simp))
  have b_c := fun j => cell_of_row W0 _ j _ _ _ (K0.row (g := w.heap.size + 1) (o := o6 p) (by simp))
  go_wp2_with fail
  refine (HF.out _).mono ?_
  rintro e W1 ⟨g, cap, rfl, ho, hb⟩
  have K1 := K0.far hb rfl
  have hg := (ho.lt g rfl).2
  have ho0 := own_mono ho (Nat.zero_le _)
  clear hb K0 ho a_c b_c
  go_wp2_with (refine wpList_make_full _ rfl _ _ 33 rfl w.heap.size 28 i0 (.agg #[.int .i64 0, .int .i64 0, .int .i64 0, .int .i64 0, .int .i64 0, .int .i64 0]) 6 Try.underlying33 hi hz0 hz1 .i64 .i64 _ _ l.length rfl rfl rfl rfl (by rw [hz2]; omega) (by unfold maxLen; omega) (by have := K1.le; omega) ?_)
  intro W2 hown hgr
  have S0 : Hid (Rn w f p l g cap W1.heap.size 0 W2) := Lib.hid ⟨K1.far ((Below.refl W1.heap.size W1).grown hgr (Nat.le_refl _) (by simp)) rfl, ho0.kept hgr (.inr (by simp [Value.ownBlock])), by
    have e : (madeCells #[.int .i64 0, .int .i64 0, .int .i64 0, .int .i64 0, .int .i64 0, .int .i64 0] (l.length * 6)).toList = tv6 (fl6 f p l 0) := by
      rw [made_zero]
      exact (tv6_white l.length).symm
    rw [← e]
    exact hown, K1.le, by omega, Nat.zero_le _⟩
  have hgsz := K1.2.2.size
  clear hown hgr K1 ho0 hi hz0 hz1 hz2
  generalize W1.heap.size = gs at S0 hgsz ⊢
  clear hg W1 HF HS
  go_wp2_with fail
  go_loopw [21] (fun c wr => ∃ i : Nat, i ≤ l.length ∧ c = .int .i64 i ∧ Hid (Rn w f p l g cap gs i wr)) (fun c _ => l.length - (intOf c).toNat)
  case atStart => exact ⟨0, by omega, rfl, S0⟩
  case round =>
    obtain ⟨i, hi, rfl, HS⟩ := hrel
    clear S0
    by_cases hlt : i < l.length
    · have hlt' : (i : Int) < l.length := by omega
      have hi0 : (0 : Int) ≤ i := by omega
      have hi2 : i ≤ 36 := by omega
      obtain ⟨p1, p2⟩ := cv_at l i hlt
      have a1 := own_at HS.out.2.1 p1
      have a2 := own_at HS.out.2.1 p2
      clear p1 p2
      obtain ⟨m1, m2⟩ := HLm.out _ (List.getElem_mem hlt)
      have HPut := Lib.hid (fun (W : World) (x y : Nat) (h : Rn w f p l g cap gs i W) (hc : l[i] = (x, y)) => h.put hlt hc)
      have HCell := Lib.hid (fun (W : World) (h : Rn w f p l g cap gs i W) => h.cells hlt)
      generalize hc : l[i] = c at a1 a2 HPut m1 m2
      obtain ⟨x, y⟩ := c
      dsimp only at a1 a2 m1 m2
      have HA := Lib.hid (shby_f p m1 m2)
      have HJ := Lib.hid (ijoin_f f (sf x y p))
      clear hc
      go_wp2_with fail
      have hgc : w.heap.size + 2 ≤ wr.heap.size := HS.out.1.le
      have hgsw := (HS.out.2.2.1.lt gs rfl).2
      have hq : Bn w f p l g cap gs i wr.heap.size x y (wr.alloc (.cells #[.int .i64 (x : Int), .int .i64 (y : Int)] 47)) := ⟨HS.out.below (M := wr.heap.size) ((Below.refl _ _).alloc (Nat.le_refl _) _) rfl, alloc_at rfl, by omega⟩
      generalize hX : (World.alloc _ _ : World) = V at hq ⊢
      clear hX
      generalize wr.heap.size = gc at hq hgc hgsw ⊢
      clear a1 a2 HS
      set_option maxRecDepth 8000 in
      go_region_held3 (fun U => U.cell? ⟨w.heap.size, 0, none⟩ = some (.int .i64 (rowv (f 0))) ∧ U.cell? ⟨w.heap.size, 1, none⟩ = some (.int .i64 (rowv (f 1))) ∧ U.cell? ⟨w.heap.size, 2, none⟩ = some (.int .i64 (rowv (f 2))) ∧ U.cell? ⟨w.heap.size, 3, none⟩ = some (.int .i64 (rowv (f 3))) ∧ U.cell? ⟨w.heap.size, 4, none⟩ = some (.int .i64 (rowv (f 4))) ∧ U.cell? ⟨w.heap.size, 5, none⟩ = some (.int .i64 (rowv (f 5))) ∧ U.cell? ⟨w.heap.size + 1, 0, none⟩ = some (.int .i64 (rowv (p 0))) ∧ U.cell? ⟨w.heap.size + 1, 1, none⟩ = some (.int .i64 (rowv (p 1))) ∧ U.cell? ⟨w.heap.size + 1, 2, none⟩ = some (.int .i64 (rowv (p 2))) ∧ U.cell? ⟨w.heap.size + 1, 3, none⟩ = some (.int .i64 (rowv (p 3))) ∧ U.cell? ⟨w.heap.size + 1, 4, none⟩ = some (.int .i64 (rowv (p 4))) ∧ U.cell? ⟨w.heap.size + 1, 5, none⟩ = some (.int .i64 (rowv (p 5))) ∧ U.cell? ⟨gc, 0, none⟩ = some (.int .i64 (x : Int)) ∧ U.cell? ⟨gc, 1, none⟩ = some (.int .i64 (y : Int))) (first | (with_reducible refine SKn (l := l) (g := g) (cap := cap) (gs := gs) (i := i) ?_; (first | with_reducible assumption | (with_reducible refine Bn.drew ?_; with_reducible assumption))) | (with_reducible refine SKn2 (l := l) (g := g) (cap := cap) (i := i) ?_; with_reducible assumption)) (first | (go_at_call 157; with_reducible refine (HA.out _).mono ?_; rintro e w' ⟨rfl, hb'⟩; have hk : Bn w f p l g cap gs i gc x y w' := Bn.below (by (first | with_reducible assumption | (with_reducible refine Bn.drew ?_; with_reducible assumption))) hb' rfl) | (go_at_call 156; with_reducible refine (HJ.out _).mono ?_; rintro e w' ⟨rfl, hb'⟩; have hk : Bn w f p l g cap gs i gc x y w' := Bn.below (by (first | with_reducible assumption | (with_reducible refine Bn.drew ?_; with_reducible assumption))) hb' rfl; obtain ⟨⟨t, c0, c1, c2, c3, c4, c5⟩, c_f⟩ := HCell.out _ (Bn.rn hk)))
      all_goals
        have HD := Lib.hid (HPut.out _ x y (Bn.rn hk) rfl)
        rename_i hHeld
        clear hHeld hk hq c0 c1 c2 c3 c4 c5 c_f
        generalize (World.setCell _ _ _ : World) = W9 at HD ⊢
        go_wp2_with fail
        go_roundw
        case rel => exact ⟨i + 1, by omega, by go_num, HD⟩
        case measure => simp [intOf]; omega
    · obtain rfl : i = l.length := by omega
      obtain ⟨h1, h2, h3, h4, h5, h6⟩ := HS.out
      have hfl := fl6_end f p l
      have h3 : wr.ownsRow w.heap.size 28 6 (.slice (some ⟨gs, 0, none⟩) l.length l.length) l.length (tv6 (l.map (nx1 f p))) := by rw [← hfl]; exact h3
      have hB := h1.2.2
      clear h1 h2 h5 h6 HS hfl hgsz
      obtain ⟨d, hd⟩ : ∃ d, d = l.map (nx1 f p) := ⟨_, rfl⟩
      have hdl : d.length = l.length := by rw [hd, List.length_map]
      rw [← hd] at h3 HE
      rw [← hdl] at h3 ⊢
      have HDl := Lib.hid hdl
      clear hd hdl
      have HSo := Lib.hid (sort_f d (by have := HDl.out; omega) w.heap.size gs d.length wr h3)
      clear h3
      go_wp2_with fail
      with_reducible refine HSo.out.mono ?_
      rintro e W3 ⟨rfl, ho, hg⟩
      have hml : (d.mergeSort (fun x y => !lt6 y x)).length = d.length := List.length_mergeSort _
      have HB := Lib.hid (grown_below2 hB hg (by omega))
      generalize d.mergeSort (fun x y => !lt6 y x) = m at ho HE hml
      rw [← hml] at ho ⊢
      have HMl := Lib.hid hml
      clear hml
      have HC := Lib.hid (compact_f m (by have := HDl.out; have := HMl.out; omega) w.heap.size gs m.length W3 ho)
      clear HSo ho hg
      go_wp2_with fail
      with_reducible refine HC.out.mono ?_
      rintro e W4 ⟨rfl, ho, hg⟩
      have HB2 := Lib.hid (grown_below2 HB.out hg (by omega))
      have HO := Lib.hid ho
      clear ho hg
      go_wp2_with fail
      go_ret
      rw [← HE.out]
      exact ⟨gs, _, rfl, HO.out, HB2.out⟩
end Go.Proofs.Ytkjaaaefcmpokaa
