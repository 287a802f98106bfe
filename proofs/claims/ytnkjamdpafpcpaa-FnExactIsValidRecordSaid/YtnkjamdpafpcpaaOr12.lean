/- PLAIN LEMMAS: a parameter that is a record of two strings, opened. -/
import Derived.Test.YtnkjamdpafpcpaaShp
import Derived.ShutString
import Derived.DataReads
import Derived.WalkKit
import Derived.ProofKit
import Derived.OpenShut
import Derived.Lib.Hide
import Derived.WalkSpells
import Derived.Below
import Derived.BigQuiet
import Derived.LoopN
namespace Go.Proofs.Ytnkjamdpafpcpaa
open Go.ChangeShapes Go.WideShapes Go.ChangeAt Go.RowKit
set_option linter.unusedVariables false
section
variable {H : Type} {enc : TypeId × Value → H} {P : Program} {w : World} {base : Nat} {spare : Nat → Bool} {held : Bool}
theorem struct2_12 {t : TypeId} {f0 f1 : Field} {fuel : Nat} {cs : List Value} {x : DataW H × List MemPlace} (ht : P.underlying t = some (.struct #[f0, f1])) (h : DataW.trod enc P w base spare held fuel t cs = some x) :
    ∃ y0 y1 n, cs.length = P.cellsOf t ∧ DataW.trod enc P w base spare held n f0.type ((cs.drop f0.offset).take (P.cellsOf f0.type)) = some y0 ∧
      DataW.trod enc P w base spare held n f1.type ((cs.drop f1.offset).take (P.cellsOf f1.type)) = some y1 := by
  obtain ⟨xs, n, _, rfl, hl, hlen, hf⟩ := DataW.trod_struct ht h
  match xs, hlen with
  | [y0, y1], _ => exact ⟨y0, y1, n, hl, by simpa using hf 0 f0 rfl, by simpa using hf 1 f1 rfl⟩
/-- A record as a parameter. -/
theorem open_record12 {r : Reach} {b0 : Nat} {t : TypeId} {f0 f1 : Field} {v : Value} {dd : DataW H} {pl : List MemPlace} (ht : P.underlying t = some (.struct #[f0, f1])) (hc : P.cellsOf t = 2)
    (o0 : f0.offset = 0) (o1 : f1.offset = 1) (c0 : P.cellsOf f0.type = 1) (c1 : P.cellsOf f1.type = 1) (u0 : P.underlying f0.type = some .string) (u1 : P.underlying f1.type = some .string)
    (hv : Value.okWide P w r b0 t v) (h : DataW.Trod enc P w base spare held t v dd pl) : ∃ (a b : ByteArray), v = .agg #[.string a, .string b] ∧ a.size ≤ maxLen ∧ b.size ≤ maxLen := by
  obtain ⟨cs, rfl, hsz⟩ := okWide_struct ht hv
  obtain ⟨fuel, hf⟩ := h
  obtain ⟨y0, y1, n, hl, h0, h1⟩ := struct2_12 (cs := cs.toList) ht hf
  rw [o0, c0] at h0
  rw [o1, c1] at h1
  rw [hc] at hl
  obtain ⟨L, hL⟩ : ∃ L, L = cs.toList := ⟨_, rfl⟩
  rw [← hL] at h0 h1 hl
  match L, hl with
  | [v0, v1], _ =>
    obtain ⟨a, ha, _, hwa⟩ := DataW.trod_string u0 h0
    obtain ⟨b, hb, _, hwb⟩ := DataW.trod_string u1 h1
    refine ⟨a, b, ?_, ?_, ?_⟩
    · simp only [List.drop, List.take, List.cons.injEq, and_true] at ha hb
      rw [ha, hb] at hL
      congr 1
      apply Array.toList_inj.mp
      rw [← hL]
    · assumption
    · assumption
end
end Go.Proofs.Ytnkjamdpafpcpaa
