/- PLAIN LEMMAS: a parameter that is a shop, opened. -/
import Derived.Test.YtnkjamdpafpcpaaShp
import Derived.Deep.Slices
import Derived.DataReads
import Derived.WalkKit
import Derived.ProofKit
import Derived.OpenShut
import Derived.Lib.Hide
import Derived.WalkSpells
import Derived.Below
import Derived.BigQuiet
import Derived.LoopN
namespace Go.Proofs.Ytnkjamdpafpcpaa
open Go.ChangeShapes Go.WideShapes Go.ChangeAt Go.RowKit
set_option linter.unusedVariables false
section
variable {H : Type} {enc : TypeId × Value → H} {P : Program} {w : World} {base : Nat} {spare : Nat → Bool} {held : Bool}
theorem struct4_12 {t : TypeId} {f0 f1 f2 f3 : Field} {fuel : Nat} {cs : List Value} {x : DataW H × List MemPlace} (ht : P.underlying t = some (.struct #[f0, f1, f2, f3])) (h : DataW.trod enc P w base spare held fuel t cs = some x) :
    ∃ y0 y1 y2 y3 n, cs.length = P.cellsOf t ∧ DataW.trod enc P w base spare held n f0.type ((cs.drop f0.offset).take (P.cellsOf f0.type)) = some y0 ∧
      DataW.trod enc P w base spare held n f1.type ((cs.drop f1.offset).take (P.cellsOf f1.type)) = some y1 ∧ DataW.trod enc P w base spare held n f2.type ((cs.drop f2.offset).take (P.cellsOf f2.type)) = some y2 ∧ DataW.trod enc P w base spare held n f3.type ((cs.drop f3.offset).take (P.cellsOf f3.type)) = some y3 := by
  obtain ⟨xs, n, _, rfl, hl, hlen, hf⟩ := DataW.trod_struct ht h
  match xs, hlen with
  | [y0, y1, y2, y3], _ => exact ⟨y0, y1, y2, y3, n, hl, by simpa using hf 0 f0 rfl, by simpa using hf 1 f1 rfl, by simpa using hf 2 f2 rfl, by simpa using hf 3 f3 rfl⟩
theorem sheet_cells12 {t i : TypeId} {g0 : Field} {fuel : Nat} {cs : List Value} {x : DataW H × List MemPlace} (ht : P.underlying t = some (.struct #[g0])) (og : g0.offset = 0) (ug : P.underlying g0.type = some (.array 6 i)) (cg : P.cellsOf g0.type = 6) (ui : P.underlying i = some (.int .i64)) (ci : P.cellsOf i = 1) (hl : cs.length = 6)
    (h : DataW.trod enc P w base spare held fuel t cs = some x) : ∃ (q0 q1 q2 q3 q4 q5 : Int), cs = [.int .i64 q0, .int .i64 q1, .int .i64 q2, .int .i64 q3, .int .i64 q4, .int .i64 q5] := by
  obtain ⟨y0, m, _, _, h0⟩ := trod_struct1 ht h
  rw [og, cg, List.drop_zero, List.take_of_length_le (by omega)] at h0
  obtain ⟨zs, hzl, hzc, _⟩ := arr_cells ug ui ci hl h0
  obtain ⟨a, b, c, d, e, f, rfl⟩ := list6 hzl
  exact ⟨a, b, c, d, e, f, hzc⟩
/-- A shop as a parameter. -/
theorem open_shop12 {r : Reach} {b0 : Nat} {t i : TypeId} {f0 f1 f2 f3 g0 : Field} {v : Value} {dd : DataW H} {pl : List MemPlace} (ht : P.underlying t = some (.struct #[f0, f1, f2, f3])) (hc : P.cellsOf t = 14)
    (o0 : f0.offset = 0) (o1 : f1.offset = 6) (o2 : f2.offset = 12) (o3 : f3.offset = 13) (c0 : P.cellsOf f0.type = 6) (c1 : P.cellsOf f1.type = 6) (c2 : P.cellsOf f2.type = 1) (c3 : P.cellsOf f3.type = 1)
    (u0 : P.underlying f0.type = some (.struct #[g0])) (u1 : P.underlying f1.type = some (.struct #[g0])) (og : g0.offset = 0) (ug : P.underlying g0.type = some (.array 6 i)) (cg : P.cellsOf g0.type = 6) (ui : P.underlying i = some (.int .i64)) (ci : P.cellsOf i = 1)
    (u2 : P.underlying f2.type = some (.int .i64)) (u3 : P.underlying f3.type = some (.int .i64))
    (hv : Value.okWide P w r b0 t v) (h : DataW.Trod enc P w base spare held t v dd pl) : ∃ (a0 a1 a2 a3 a4 a5 b0 b1 b2 b3 b4 b5 p c : Int), v = .agg #[.int .i64 a0, .int .i64 a1, .int .i64 a2, .int .i64 a3, .int .i64 a4, .int .i64 a5, .int .i64 b0, .int .i64 b1, .int .i64 b2, .int .i64 b3, .int .i64 b4, .int .i64 b5, .int .i64 p, .int .i64 c] ∧ (Lit.int .i64 p).wf = true ∧ (Lit.int .i64 c).wf = true := by
  obtain ⟨cs, rfl, hsz⟩ := okWide_struct ht hv
  obtain ⟨fuel, hf⟩ := h
  obtain ⟨y0, y1, y2, y3, n, hl, h0, h1, h2, h3⟩ := struct4_12 (cs := cs.toList) ht hf
  rw [o0, c0] at h0
  rw [o1, c1] at h1
  rw [o2, c2] at h2
  rw [o3, c3] at h3
  rw [hc] at hl
  obtain ⟨L, hL⟩ : ∃ L, L = cs.toList := ⟨_, rfl⟩
  rw [← hL] at h0 h1 h2 h3 hl
  match L, hl with
  | [v0, v1, v2, v3, v4, v5, v6, v7, v8, v9, v10, v11, v12, v13], _ =>
    obtain ⟨q0, q1, q2, q3, q4, q5, hq⟩ := sheet_cells12 u0 og ug cg ui ci (by rfl) h0
    obtain ⟨s0, s1, s2, s3, s4, s5, hs⟩ := sheet_cells12 u1 og ug cg ui ci (by rfl) h1
    obtain ⟨z, hz, _, hzw⟩ := DataW.trod_int u2 h2
    obtain ⟨z1, hz1, _, hzw1⟩ := DataW.trod_int u3 h3
    refine ⟨q0, q1, q2, q3, q4, q5, s0, s1, s2, s3, s4, s5, z, z1, ?_, ?_, ?_⟩
    · simp only [List.drop, List.take, List.cons.injEq, and_true] at hq hs hz hz1
      obtain ⟨rfl, rfl, rfl, rfl, rfl, rfl⟩ := hq
      obtain ⟨rfl, rfl, rfl, rfl, rfl, rfl⟩ := hs
      rw [hz, hz1] at hL
      congr 1
      apply Array.toList_inj.mp
      rw [← hL]
    · assumption
    · assumption
end
end Go.Proofs.Ytnkjamdpafpcpaa
