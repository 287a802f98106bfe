/- PLAIN LEMMAS: midway in a loop over a row of sheets that the walk owns. -/
import Derived.Test.YtkjaaaefcmpokaaCs5
import Derived.WalkKit
import Derived.ProofKit
import Derived.OpenShut
import Derived.Lib.Hide
import Derived.WalkSpells
import Derived.Below
import Derived.BigQuiet
import Derived.LoopN
namespace Go.Proofs.Ytkjaaaefcmpokaa
open Go.ChangeShapes Go.WideShapes Go.ChangeAt Go.RowKit
set_option linter.unusedVariables false
/-- A fold over the first sheets of a list. -/
def fo5 (J : Fn6 → Fn6 → Fn6) (L : List Fn6) (i : Nat) (o : Fn6) : Fn6 := (L.take i).foldl J o
theorem fo5_succ (J : Fn6 → Fn6 → Fn6) (L : List Fn6) (o : Fn6) {i : Nat} (h : i < L.length) : fo5 J L (i + 1) o = J (fo5 J L i o) L[i] := by
  unfold fo5
  rw [List.take_add_one, List.getElem?_eq_getElem h, List.foldl_append]
  rfl
theorem fo5_end (J : Fn6 → Fn6 → Fn6) (L : List Fn6) (o : Fn6) : fo5 J L L.length o = L.foldl J o := by
  unfold fo5
  rw [List.take_length]
theorem fo5_spo (s : Fn6) (l : List (Nat × Nat)) (o : Fn6) : (l.map (fun c => sf c.1 c.2 s)).foldl jf o = spo s l o := by
  rw [List.foldl_map]; rfl
theorem fo5_sho (s : Fn6) (l : List (Nat × Nat)) (o : Fn6) : (l.map (fun c => sf c.1 c.2 s)).foldl af o = sho s l o := by
  rw [List.foldl_map]; rfl
/-- Midway: what is made so far lies in the block gb; the sheets in a row of their own. -/
def Rw5 (w : World) (n : Nat) (rows : List (Nat × Obj)) (L : List Fn6) (g cap gb : Nat) (F : Fn6) (W : World) : Prop :=
  KR n rows w W ∧ W.ownsRow 0 28 6 (.slice (some ⟨g, 0, none⟩) L.length cap) L.length (sv L) ∧ W.heap[gb]? = some (o6 F) ∧ w.heap.size + n ≤ gb ∧ gb < W.heap.size ∧ g ≠ gb
theorem Rw5.below {w W W' : World} {n : Nat} {rows : List (Nat × Obj)} {L : List Fn6} {g cap gb M : Nat} {F : Fn6} (h : Rw5 w n rows L g cap gb F W) (hb : Below M W W') (hM : M = W.heap.size) : Rw5 w n rows L g cap gb F W' := by
  obtain ⟨h1, h2, h3, h4, h5, h6⟩ := h
  exact ⟨h1.far hb hM, h2.kept (grown_below hb hM) (.inr (by simp [Value.ownBlock])), rowk h3 hb hM, h4, Nat.lt_of_lt_of_le h5 hb.size, h6⟩
theorem Rw5.put {w W : World} {n : Nat} {rows : List (Nat × Obj)} {L : List Fn6} {g cap gb : Nat} {F : Fn6} (G : Fn6) (h : Rw5 w n rows L g cap gb F W) : Rw5 w n rows L g cap gb G ((((((W.setCell ⟨gb, 0, none⟩ (.int .i64 (rowv (G 0)))).setCell ⟨gb, 1, none⟩ (.int .i64 (rowv (G 1)))).setCell ⟨gb, 2, none⟩ (.int .i64 (rowv (G 2)))).setCell ⟨gb, 3, none⟩ (.int .i64 (rowv (G 3)))).setCell ⟨gb, 4, none⟩ (.int .i64 (rowv (G 4)))).setCell ⟨gb, 5, none⟩ (.int .i64 (rowv (G 5)))) := by
  obtain ⟨h1, h2, h3, h4, h5, h6⟩ := h
  exact ⟨h1.set h4 |>.set h4 |>.set h4 |>.set h4 |>.set h4 |>.set h4, own_set6 _ _ _ _ _ _ h2 h6, set6a _ _ _ _ _ _ h3, h4, by simpa using h5, h6⟩
theorem Rw5_c {w U : World} {n : Nat} {rows : List (Nat × Obj)} {L : List Fn6} {g cap gb : Nat} {F : Fn6} (h : Rw5 w n rows L g cap gb F U) : ∀ j, U.cell? ⟨gb, j, none⟩ = (#[.int .i64 (rowv (F 0)), .int .i64 (rowv (F 1)), .int .i64 (rowv (F 2)), .int .i64 (rowv (F 3)), .int .i64 (rowv (F 4)), .int .i64 (rowv (F 5))] : Array Value)[j]? := fun j => cell_of_row U _ j _ _ _ h.2.2.1
theorem Rw5_f {w U : World} {n : Nat} {rows : List (Nat × Obj)} {L : List Fn6} {g cap gb : Nat} {F : Fn6} (h : Rw5 w n rows L g cap gb F U) : ∀ j, U.frozen? ⟨gb, j, none⟩ = false := fun j => frozen_of_row U _ j _ _ h.2.2.1
theorem Rw5_s {w U : World} {n : Nat} {rows : List (Nat × Obj)} {L : List Fn6} {g cap gb : Nat} {F : Fn6} (h : Rw5 w n rows L g cap gb F U) {i : Nat} (hi : i < L.length) : U.cell? ⟨g, i * 6, none⟩ = some (.int .i64 (rowv (L[i] 0))) ∧ U.cell? ⟨g, i * 6 + 1, none⟩ = some (.int .i64 (rowv (L[i] 1))) ∧ U.cell? ⟨g, i * 6 + 2, none⟩ = some (.int .i64 (rowv (L[i] 2))) ∧ U.cell? ⟨g, i * 6 + 3, none⟩ = some (.int .i64 (rowv (L[i] 3))) ∧ U.cell? ⟨g, i * 6 + 4, none⟩ = some (.int .i64 (rowv (L[i] 4))) ∧ U.cell? ⟨g, i * 6 + 5, none⟩ = some (.int .i64 (rowv (L[i] 5))) := by
  obtain ⟨p0, p1, p2, p3, p4, p5⟩ := sv_at L i hi
  exact ⟨own_at h.2.1 p0, own_at h.2.1 p1, own_at h.2.1 p2, own_at h.2.1 p3, own_at h.2.1 p4, own_at h.2.1 p5⟩
/-- Reflected by two quarters and a shift. -/
theorem rf_move (p : Fn6) {j : Nat} (hj : j < 6) : rowv (sf 1 1 (tf 2 p) j) = rowv (rf p j) := rowv_congr fun i hi => by
  have e1 : 5 - (j + 6 - 1) % 6 = (6 - j) % 6 := by omega
  have e2 : 5 - (i + 6 - 1) % 6 = (6 - i) % 6 := by omega
  show p (5 - (j + 6 - 1) % 6) (5 - (i + 6 - 1) % 6) = p ((6 - j) % 6) ((6 - i) % 6)
  rw [e1, e2]
end Go.Proofs.Ytkjaaaefcmpokaa
