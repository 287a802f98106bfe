/- PLAIN LEMMAS: cells that a store into a map leaves as they are. -/
import Derived.Test.YtkobgklpcpoglaaKr
import Derived.WalkKit
import Derived.ProofKit
import Derived.OpenShut
import Derived.Lib.Hide
import Derived.WalkSpells
import Derived.Below
import Derived.BigQuiet
import Derived.LoopN
namespace Go.Proofs.Ytkobgklpcpoglaa
open Go.ChangeShapes Go.WideShapes Go.ChangeAt Go.RowKit
set_option linter.unusedVariables false
theorem keepgg9 {B g : Nat} {g0 o0 g1 o1 g2 o2 g3 o3 g4 o4 g5 o5 g6 o6 g7 o7 g8 o8 : Nat} {v0 v1 v2 v3 v4 v5 v6 v7 v8 : Value} {w W W' : World} (h : W.cell? ⟨g0, o0, none⟩ = some v0 ∧ W.cell? ⟨g1, o1, none⟩ = some v1 ∧ W.cell? ⟨g2, o2, none⟩ = some v2 ∧ W.cell? ⟨g3, o3, none⟩ = some v3 ∧ W.cell? ⟨g4, o4, none⟩ = some v4 ∧ W.cell? ⟨g5, o5, none⟩ = some v5 ∧ W.cell? ⟨g6, o6, none⟩ = some v6 ∧ W.cell? ⟨g7, o7, none⟩ = some v7 ∧ W.cell? ⟨g8, o8, none⟩ = some v8 ∧ Below B w W) (hg : W.grownBy W' (some g)) (hm : g0 ≠ g ∧ g1 ≠ g ∧ g2 ≠ g ∧ g3 ≠ g ∧ g4 ≠ g ∧ g5 ≠ g ∧ g6 ≠ g ∧ g7 ≠ g ∧ g8 ≠ g) (hB : B ≤ g) (hBW : B ≤ W.heap.size) : W'.cell? ⟨g0, o0, none⟩ = some v0 ∧ W'.cell? ⟨g1, o1, none⟩ = some v1 ∧ W'.cell? ⟨g2, o2, none⟩ = some v2 ∧ W'.cell? ⟨g3, o3, none⟩ = some v3 ∧ W'.cell? ⟨g4, o4, none⟩ = some v4 ∧ W'.cell? ⟨g5, o5, none⟩ = some v5 ∧ W'.cell? ⟨g6, o6, none⟩ = some v6 ∧ W'.cell? ⟨g7, o7, none⟩ = some v7 ∧ W'.cell? ⟨g8, o8, none⟩ = some v8 ∧ Below B w W' := by
  obtain ⟨h0, h1, h2, h3, h4, h5, h6, h7, h8, hh⟩ := h
  obtain ⟨l0, l1, l2, l3, l4, l5, l6, l7, l8⟩ := hm
  exact ⟨hg.cell h0 (by simpa using l0), hg.cell h1 (by simpa using l1), hg.cell h2 (by simpa using l2), hg.cell h3 (by simpa using l3), hg.cell h4 (by simpa using l4), hg.cell h5 (by simpa using l5), hg.cell h6 (by simpa using l6), hg.cell h7 (by simpa using l7), hg.cell h8 (by simpa using l8), hh.grown hg hBW (fun k hk => by cases hk; exact hB)⟩
end Go.Proofs.Ytkobgklpcpoglaa
