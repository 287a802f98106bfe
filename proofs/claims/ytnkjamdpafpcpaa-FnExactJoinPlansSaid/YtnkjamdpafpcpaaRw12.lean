/- PLAIN LEMMAS: blocks written and read whole. -/
import Derived.Test.YtnkjamdpafpcpaaPv8
import Derived.WalkKit
import Derived.ProofKit
import Derived.OpenShut
import Derived.Lib.Hide
import Derived.WalkSpells
import Derived.Below
import Derived.BigQuiet
import Derived.LoopN
namespace Go.Proofs.Ytnkjamdpafpcpaa
open Go.ChangeShapes Go.WideShapes Go.ChangeAt Go.RowKit
set_option linter.unusedVariables false
theorem row_there12 {W : World} {g : Nat} {cs : Array Value} {T : TypeId} (h : W.heap[g]? = some (.cells cs T (0, 0))) : W.there g 0 cs.size := by
  intro j hj
  refine ⟨?_, frozen_of_row W g _ _ _ h⟩
  rw [Nat.zero_add, cell_of_row W g j _ _ _ h]
  simp [hj]
theorem row_range12 {W : World} {g : Nat} {cs : Array Value} {T : TypeId} (h : W.heap[g]? = some (.cells cs T (0, 0))) : W.rangeAt g 0 cs.toList := by
  intro j v hv
  rw [Nat.zero_add, cell_of_row W g j _ _ _ h, ← hv]
  simp
theorem row_sets12 {W : World} {g : Nat} {cs cs' : Array Value} {T : TypeId} (h : W.heap[g]? = some (.cells cs T (0, 0))) (hs : cs'.size = cs.size) : (W.setCells g 0 cs'.toList).heap[g]? = some (.cells cs' T (0, 0)) := by
  have h' : W.heap[g]? = some (.cells cs.toList.toArray T (0, 0)) := by rw [Array.toArray_toList]; exact h
  have := setCells_row cs'.toList 0 W cs.toList h' (by simp [hs])
  rw [this, List.take_zero, List.nil_append, List.drop_of_length_le (by simp [hs]), List.append_nil, Array.toArray_toList]
theorem run_row12 {P : Program} {X : World} {g : Nat} {T : TypeId} {cs : Array Value} (hW : X.heap[g]? = some (.cells cs T (0, 0))) (ty : TypeId) (d : TypeDesc) (hu : P.underlying ty = some d) (hd : d.isRow = true) (hi : (P.info? ty).map (·.size) = some cs.size) : (loadVar ty ⟨g, 0, none⟩).run P X = .ok (.agg cs) X := by
  have := run_loadVar_mid X g 0 ty cs.toList d (row_range12 hW) hu hd (by rw [hi]; simp)
  rwa [Array.toArray_toList] at this
section
variable {P : Program} {ops : Array Oper} {rest : List Oper} {a : Act} {w : World} {Q : Exit → Act → World → Prop} {dst : Option Tmp} {type : TypeId} {pos : String} {after : Array Edge} {x y : Operand} {ty : TypeId}
/-- A block is written whole. -/
theorem wpRow12 (g : Nat) (cs' : Array Value) {cs : Array Value} {T : TypeId} (hR : w.heap[g]? = some (.cells cs T (0, 0))) (hs : cs'.size = cs.size) (h1 : cs'.all (·.oneCell') = true) (hx : a.eval x = .pointer (some ⟨g, 0, none⟩)) (hy : a.eval y = .agg cs') (hi : (P.info? ty).map (·.size) = some cs'.size) (h : wpList P ops Q rest (a.put dst undef) (w.setCells g 0 cs'.toList)) : wpList P ops Q (⟨dst, .store ty x y, type, pos, after, none⟩ :: rest) a w :=
  wpSm g 0 cs' (by rw [hs]; exact row_there12 hR) hx hy hi h1 h
/-- A block is read whole. -/
theorem wpGet12 (g : Nat) {cs : Array Value} {T : TypeId} (hR : w.heap[g]? = some (.cells cs T (0, 0))) (d : TypeDesc) (hu : P.underlying ty = some d) (hx : a.eval x = .pointer (some ⟨g, 0, none⟩)) (hd : d.isRow = true) (hi : (P.info? ty).map (·.size) = some cs.size) (h : wpList P ops Q rest (a.put dst (.agg cs)) w) : wpList P ops Q (⟨dst, .load ty x, type, pos, after, none⟩ :: rest) a w :=
  wpLm g 0 cs.toList (row_range12 hR) d hu hx hd (by rw [hi]; simp) (by rw [Array.toArray_toList]; exact h)
end
end Go.Proofs.Ytnkjamdpafpcpaa
