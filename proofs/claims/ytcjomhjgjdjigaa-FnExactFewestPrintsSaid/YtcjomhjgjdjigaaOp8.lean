/- PLAIN LEMMAS: a parameter that is a picture, a print or a slice of prints, opened. -/
import Derived.Test.YtcjomhjgjdjigaaShp
import Derived.Test.YtcjomhjgjdjigaaPv8
import Derived.Deep.Slices
import Derived.DataReads
import Derived.WalkKit
import Derived.ProofKit
import Derived.OpenShut
import Derived.Lib.Hide
import Derived.WalkSpells
import Derived.Below
import Derived.BigQuiet
import Derived.LoopN
namespace Go.Proofs.Ytcjomhjgjdjigaa
open Go.ChangeShapes Go.WideShapes Go.ChangeAt Go.RowKit
set_option linter.unusedVariables false
section
variable {H : Type} {enc : TypeId × Value → H} {P : Program} {w : World} {base : Nat} {spare : Nat → Bool} {held : Bool}
theorem arr2_cells {n c : Nat} {t e i : TypeId} {fuel : Nat} {cs : List Value} {x : DataW H × List MemPlace} {k : IntKind} (hc : 0 < c) (ht : P.underlying t = some (.array n e)) (he : P.underlying e = some (.array c i)) (hi : P.underlying i = some (.int k)) (hci : P.cellsOf i = 1) (hce : P.cellsOf e = c) (hn : cs.length = n * c)
    (h : DataW.trod enc P w base spare held fuel t cs = some x) : ∃ zs : List Int, zs.length = n * c ∧ cs = zs.map (Value.int k) ∧ ∀ z ∈ zs, (Lit.int k z).wf = true := by
  obtain ⟨xs, m, _, _, _, hxl, hx⟩ := DataW.trod_array ht h
  have hone : ∀ j (hj : j < cs.length), ∃ z : Int, cs[j] = .int k z ∧ (Lit.int k z).wf = true := fun j hj => by
    have hr : j / c < n := by rw [Nat.div_lt_iff_lt_mul hc]; omega
    have h1 := hx (j / c) hr
    rw [hce, List.getElem?_eq_getElem (by omega)] at h1
    have hm := Nat.mod_lt j hc
    have hj2 : j / c * c + j % c = j := by have := Nat.div_add_mod j c; rw [Nat.mul_comm] at this; exact this
    have hle : j / c * c + c ≤ n * c := by
      have := Nat.mul_le_mul_right c (show j / c + 1 ≤ n by omega)
      rw [Nat.add_mul, Nat.one_mul] at this
      exact this
    have hl : ((cs.drop (j / c * c)).take c).length = c := by rw [List.length_take, List.length_drop]; omega
    obtain ⟨zs, hzl, hzc, hw⟩ := arr_cells he hi hci hl h1
    have h2 : ((cs.drop (j / c * c)).take c)[j % c]? = some cs[j] := by
      rw [List.getElem?_take, if_pos hm, List.getElem?_drop, hj2, List.getElem?_eq_getElem hj]
    rw [hzc, List.getElem?_map, List.getElem?_eq_getElem (by omega)] at h2
    exact ⟨zs[j % c]'(by omega), by simpa using h2.symm, hw _ (List.getElem_mem _)⟩
  obtain ⟨zs, hl, hc', hw⟩ := cells_list cs hone
  exact ⟨zs, hl.trans hn, hc', hw⟩
/-- A struct of one array of arrays of ints as a parameter. -/
theorem open_box2 {r : Reach} {b0 : Nat} {n c : Nat} {t e i : TypeId} {f0 : Field} {k : IntKind} {v : Value} {d : DataW H} {p : List MemPlace} (hc : 0 < c) (hs : P.underlying t = some (.struct #[f0])) (ho : f0.offset = 0) (ht : P.underlying f0.type = some (.array n e)) (he : P.underlying e = some (.array c i)) (hi : P.underlying i = some (.int k)) (hci : P.cellsOf i = 1) (hce : P.cellsOf e = c) (hct : P.cellsOf f0.type = n * c) (hcs : P.cellsOf t = n * c)
    (hv : Value.okWide P w r b0 t v) (h : DataW.Trod enc P w base spare held t v d p) : ∃ zs : List Int, zs.length = n * c ∧ v = .agg (zs.map (Value.int k)).toArray ∧ ∀ z ∈ zs, (Lit.int k z).wf = true := by
  obtain ⟨cs, rfl, hsz⟩ := okWide_struct hs hv
  obtain ⟨fuel, hf⟩ := h
  obtain ⟨y0, m, _, _, h0⟩ := trod_struct1 hs hf
  have hl : cs.toList.length = n * c := by rw [Array.length_toList]; omega
  have h1 : DataW.trod enc P w base spare held m f0.type cs.toList = some y0 := by
    rw [ho, hct, List.drop_zero, List.take_of_length_le (by show cs.toList.length ≤ n * c; omega)] at h0
    exact h0
  obtain ⟨zs, hl, hc', hw⟩ := arr2_cells (cs := cs.toList) hc ht he hi hci hce hl h1
  exact ⟨zs, hl, by rw [← hc'], hw⟩
/-- The numbers of a print. -/
structure Pn where
  (k a b c d e f x y : Int)
/-- Its cells. -/
def Pn.cells (p : Pn) : List Value := [.int .i64 p.k, .int .i64 p.a, .int .i64 p.b, .int .i64 p.c, .int .i64 p.d, .int .i64 p.e, .int .i64 p.f, .int .i64 p.x, .int .i64 p.y]
theorem trod_struct3 {t : TypeId} {f0 f1 f2 : Field} {fuel : Nat} {cs : List Value} {x : DataW H × List MemPlace} (ht : P.underlying t = some (.struct #[f0, f1, f2])) (h : DataW.trod enc P w base spare held fuel t cs = some x) :
    ∃ y0 y1 y2 n, cs.length = P.cellsOf t ∧ DataW.trod enc P w base spare held n f0.type ((cs.drop f0.offset).take (P.cellsOf f0.type)) = some y0 ∧
      DataW.trod enc P w base spare held n f1.type ((cs.drop f1.offset).take (P.cellsOf f1.type)) = some y1 ∧ DataW.trod enc P w base spare held n f2.type ((cs.drop f2.offset).take (P.cellsOf f2.type)) = some y2 := by
  obtain ⟨xs, n, _, rfl, hl, hlen, hf⟩ := DataW.trod_struct ht h
  match xs, hlen with
  | [y0, y1, y2], _ => exact ⟨y0, y1, y2, n, hl, by simpa using hf 0 f0 rfl, by simpa using hf 1 f1 rfl, by simpa using hf 2 f2 rfl⟩
theorem print_cells {t i : TypeId} {f0 f1 f2 g0 : Field} {fuel : Nat} {cs : List Value} {x : DataW H × List MemPlace} (ht : P.underlying t = some (.struct #[f0, f1, f2])) (hc : P.cellsOf t = 9)
    (o0 : f0.offset = 0) (o1 : f1.offset = 1) (o2 : f2.offset = 7) (u0 : P.underlying f0.type = some (.int .i64)) (c0 : P.cellsOf f0.type = 1) (u1 : P.underlying f1.type = some (.struct #[g0])) (c1 : P.cellsOf f1.type = 6) (og : g0.offset = 0) (ug : P.underlying g0.type = some (.array 6 i)) (cg : P.cellsOf g0.type = 6) (u2 : P.underlying f2.type = some (.array 2 i)) (c2 : P.cellsOf f2.type = 2) (ui : P.underlying i = some (.int .i64)) (ci : P.cellsOf i = 1)
    (h : DataW.trod enc P w base spare held fuel t cs = some x) : ∃ p : Pn, cs = p.cells ∧ (Lit.int .i64 p.x).wf = true ∧ (Lit.int .i64 p.y).wf = true := by
  obtain ⟨y0, y1, y2, n, hl, h0, h1, h2⟩ := trod_struct3 ht h
  rw [o0, c0] at h0
  rw [o1, c1] at h1
  rw [o2, c2] at h2
  rw [hc] at hl
  match cs, hl with
  | [v0, v1, v2, v3, v4, v5, v6, v7, v8], _ =>
    obtain ⟨z, hz, _, _⟩ := DataW.trod_int u0 h0
    obtain ⟨y3, m, _, _, h3⟩ := trod_struct1 u1 h1
    rw [og, cg] at h3
    obtain ⟨zs, hzl, hzc, _⟩ := arr_cells ug ui ci (by rfl) h3
    obtain ⟨a, b, c, d, e, f, rfl⟩ := list6 hzl
    obtain ⟨zt, htl, htc, hw⟩ := arr_cells u2 ui ci (by rfl) h2
    obtain ⟨p, q, rfl⟩ := list2 htl
    refine ⟨⟨z, a, b, c, d, e, f, p, q⟩, ?_, hw p (by simp), hw q (by simp)⟩
    simp only [List.drop, List.take, List.map_cons, List.map_nil, List.cons.injEq, and_true] at hz hzc htc
    obtain ⟨rfl, rfl, rfl, rfl, rfl, rfl⟩ := hzc
    obtain ⟨rfl, rfl⟩ := htc
    rw [hz]
    rfl
/-- A print as a parameter. -/
theorem open_print {r : Reach} {b0 : Nat} {t i : TypeId} {f0 f1 f2 g0 : Field} {v : Value} {dd : DataW H} {pl : List MemPlace} (ht : P.underlying t = some (.struct #[f0, f1, f2])) (hc : P.cellsOf t = 9)
    (o0 : f0.offset = 0) (o1 : f1.offset = 1) (o2 : f2.offset = 7) (u0 : P.underlying f0.type = some (.int .i64)) (c0 : P.cellsOf f0.type = 1) (u1 : P.underlying f1.type = some (.struct #[g0])) (c1 : P.cellsOf f1.type = 6) (og : g0.offset = 0) (ug : P.underlying g0.type = some (.array 6 i)) (cg : P.cellsOf g0.type = 6) (u2 : P.underlying f2.type = some (.array 2 i)) (c2 : P.cellsOf f2.type = 2) (ui : P.underlying i = some (.int .i64)) (ci : P.cellsOf i = 1)
    (hv : Value.okWide P w r b0 t v) (h : DataW.Trod enc P w base spare held t v dd pl) : ∃ p : Pn, v = .agg p.cells.toArray ∧ (Lit.int .i64 p.x).wf = true ∧ (Lit.int .i64 p.y).wf = true := by
  obtain ⟨cs, rfl, hsz⟩ := okWide_struct ht hv
  obtain ⟨fuel, hf⟩ := h
  obtain ⟨p, hp, hx, hy⟩ := print_cells (cs := cs.toList) ht hc o0 o1 o2 u0 c0 u1 c1 og ug cg u2 c2 ui ci hf
  exact ⟨p, by rw [← hp], hx, hy⟩
end
theorem pic_of {zs : List Int} (h : zs.length = 36) : (Value.agg (zs.map (Value.int .i64)).toArray) = pv fun j => zs.getD j 0 := by
  unfold pv
  congr 2
  apply List.ext_getElem?
  intro j
  rw [cs36_at]
  by_cases hj : j < 36
  · rw [if_pos hj, List.getElem?_map, List.getElem?_eq_getElem (by omega)]
    simp [List.getD, List.getElem?_eq_getElem (show j < zs.length by omega)]
  · rw [if_neg hj]
    exact List.getElem?_eq_none (by simp; omega)
end Go.Proofs.Ytcjomhjgjdjigaa
