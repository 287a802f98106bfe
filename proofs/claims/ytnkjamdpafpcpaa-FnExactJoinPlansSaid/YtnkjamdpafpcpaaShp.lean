/- PLAIN LEMMAS (any program): a parameter that is an array of ints, or a struct of one such array, opened. -/
import Derived.WalkKit
import Derived.ProofKit
import Derived.OpenShut
import Derived.ChangeSame
namespace Go.Proofs.Ytnkjamdpafpcpaa
open Go.ChangeShapes Go.WideShapes Go.ChangeAt Go.RowKit
set_option linter.unusedVariables false
variable {H : Type} {enc : TypeId × Value → H} {P : Program} {w : World} {base : Nat} {spare : Nat → Bool} {held : Bool}
theorem cells_list {k : IntKind} : ∀ (cs : List Value), (∀ i (hi : i < cs.length), ∃ z : Int, cs[i] = .int k z ∧ (Lit.int k z).wf = true) → ∃ zs : List Int, zs.length = cs.length ∧ cs = zs.map (Value.int k) ∧ ∀ z ∈ zs, (Lit.int k z).wf = true
  | [], _ => ⟨[], rfl, rfl, fun z hz => by simp at hz⟩
  | c :: r, hone => by
    obtain ⟨z, hz, hw⟩ := hone 0 (by simp)
    obtain ⟨zs, hl, he, hws⟩ := cells_list r (fun i hi => hone (i + 1) (by simpa using hi))
    refine ⟨z :: zs, by simp [hl], by rw [List.map_cons, ← he]; simpa using hz, fun y hy => ?_⟩
    rcases List.mem_cons.1 hy with rfl | hy
    · exact hw
    · exact hws y hy
theorem arr_cells {n : Nat} {t e : TypeId} {fuel : Nat} {cs : List Value} {x : DataW H × List MemPlace} {k : IntKind} (ht : P.underlying t = some (.array n e)) (he : P.underlying e = some (.int k)) (hce : P.cellsOf e = 1) (hn : cs.length = n)
    (h : DataW.trod enc P w base spare held fuel t cs = some x) : ∃ zs : List Int, zs.length = n ∧ cs = zs.map (Value.int k) ∧ ∀ z ∈ zs, (Lit.int k z).wf = true := by
  obtain ⟨xs, m, _, _, _, hxl, hx⟩ := DataW.trod_array ht h
  have hone : ∀ i (hi : i < cs.length), ∃ z : Int, cs[i] = .int k z ∧ (Lit.int k z).wf = true := fun i hi => by
    have h1 := hx i (by omega)
    rw [hce, Nat.mul_one, List.getElem?_eq_getElem (by omega)] at h1
    obtain ⟨z, hz, _, hw⟩ := DataW.trod_int he h1
    have h2 : (cs.drop i).take 1 = [cs[i]] := by rw [List.drop_eq_getElem_cons hi]; rfl
    rw [h2] at hz
    exact ⟨z, by simpa using hz, hw⟩
  obtain ⟨zs, hl, hc, hw⟩ := cells_list cs hone
  exact ⟨zs, hl.trans hn, hc, hw⟩
theorem list2 {zs : List Int} (h : zs.length = 2) : ∃ a b, zs = [a, b] := by
  match zs, h with
  | [a, b], _ => exact ⟨a, b, rfl⟩
theorem list3 {zs : List Int} (h : zs.length = 3) : ∃ a b c, zs = [a, b, c] := by
  match zs, h with
  | [a, b, c], _ => exact ⟨a, b, c, rfl⟩
theorem list6 {zs : List Int} (h : zs.length = 6) : ∃ a b c d e f, zs = [a, b, c, d, e, f] := by
  match zs, h with
  | [a, b, c, d, e, f], _ => exact ⟨a, b, c, d, e, f, rfl⟩
/-- An array of ints as a parameter. -/
theorem open_arr {r : Reach} {b0 : Nat} {n : Nat} {t e : TypeId} {k : IntKind} {v : Value} {d : DataW H} {p : List MemPlace} (ht : P.underlying t = some (.array n e)) (he : P.underlying e = some (.int k)) (hce : P.cellsOf e = 1) (hct : P.cellsOf t = n)
    (hv : Value.okWide P w r b0 t v) (h : DataW.Trod enc P w base spare held t v d p) : ∃ zs : List Int, zs.length = n ∧ v = .agg (zs.map (Value.int k)).toArray ∧ ∀ z ∈ zs, (Lit.int k z).wf = true := by
  simp only [Value.okWide, ht] at hv
  obtain ⟨cs, rfl, hsz, _⟩ := hv
  obtain ⟨fuel, hf⟩ := h
  obtain ⟨zs, hl, hc, hw⟩ := arr_cells (cs := cs.toList) ht he hce (by rw [Array.length_toList]; omega) hf
  exact ⟨zs, hl, by rw [← hc], hw⟩
/-- A struct of one array of ints as a parameter. -/
theorem open_box {r : Reach} {b0 : Nat} {n : Nat} {t e : TypeId} {f0 : Field} {k : IntKind} {v : Value} {d : DataW H} {p : List MemPlace} (hs : P.underlying t = some (.struct #[f0])) (ho : f0.offset = 0) (ht : P.underlying f0.type = some (.array n e)) (he : P.underlying e = some (.int k)) (hce : P.cellsOf e = 1) (hct : P.cellsOf f0.type = n) (hcs : P.cellsOf t = n)
    (hv : Value.okWide P w r b0 t v) (h : DataW.Trod enc P w base spare held t v d p) : ∃ zs : List Int, zs.length = n ∧ v = .agg (zs.map (Value.int k)).toArray ∧ ∀ z ∈ zs, (Lit.int k z).wf = true := by
  obtain ⟨cs, rfl, hsz⟩ := okWide_struct hs hv
  obtain ⟨fuel, hf⟩ := h
  obtain ⟨y0, m, _, _, h0⟩ := trod_struct1 hs hf
  have hl : cs.toList.length = n := by rw [Array.length_toList]; omega
  have h1 : DataW.trod enc P w base spare held m f0.type cs.toList = some y0 := by
    rw [ho, hct, List.drop_zero, List.take_of_length_le (by show cs.toList.length ≤ n; omega)] at h0
    exact h0
  obtain ⟨zs, hl, hc, hw⟩ := arr_cells (cs := cs.toList) ht he hce hl h1
  exact ⟨zs, hl, by rw [← hc], hw⟩
end Go.Proofs.Ytnkjamdpafpcpaa
