/- PLAIN LEMMAS: the cells of a slice of sheets. -/
import Derived.Test.YtkjaaaefcmpokaaPx
import Derived.Test.YtkjaaaefcmpokaaCm
import Derived.WalkKit
import Derived.ProofKit
import Derived.OpenShut
import Derived.Lib.Hide
import Derived.WalkSpells
import Derived.Below
import Derived.BigQuiet
import Derived.LoopN
namespace Go.Proofs.Ytkjaaaefcmpokaa
open Go.ChangeShapes Go.WideShapes Go.ChangeAt Go.RowKit
set_option linter.unusedVariables false
abbrev Fn6 := Nat → Nat → Bool
/-- The cells of a slice of sheets. -/
def sv (l : List Fn6) : List Value := l.flatMap fun f => [.int .i64 (rowv (f 0)), .int .i64 (rowv (f 1)), .int .i64 (rowv (f 2)), .int .i64 (rowv (f 3)), .int .i64 (rowv (f 4)), .int .i64 (rowv (f 5))]
theorem sv_len (l : List Fn6) : (sv l).length = l.length * 6 := by
  induction l with
  | nil => rfl
  | cons a l ih =>
    have e : sv (a :: l) = [.int .i64 (rowv (a 0)), .int .i64 (rowv (a 1)), .int .i64 (rowv (a 2)), .int .i64 (rowv (a 3)), .int .i64 (rowv (a 4)), .int .i64 (rowv (a 5))] ++ sv l := rfl
    rw [e, List.length_append, ih]
    simp
    omega
theorem sv_at (l : List Fn6) : ∀ (k : Nat) (h : k < l.length), (sv l)[k * 6]? = some (.int .i64 (rowv (l[k] 0))) ∧ (sv l)[k * 6 + 1]? = some (.int .i64 (rowv (l[k] 1))) ∧ (sv l)[k * 6 + 2]? = some (.int .i64 (rowv (l[k] 2))) ∧ (sv l)[k * 6 + 3]? = some (.int .i64 (rowv (l[k] 3))) ∧ (sv l)[k * 6 + 4]? = some (.int .i64 (rowv (l[k] 4))) ∧ (sv l)[k * 6 + 5]? = some (.int .i64 (rowv (l[k] 5))) := by
  induction l with
  | nil => intro k h; simp at h
  | cons a l ih =>
    intro k h
    have e : sv (a :: l) = .int .i64 (rowv (a 0)) :: .int .i64 (rowv (a 1)) :: .int .i64 (rowv (a 2)) :: .int .i64 (rowv (a 3)) :: .int .i64 (rowv (a 4)) :: .int .i64 (rowv (a 5)) :: sv l := rfl
    rcases k with _ | k
    · rw [e]; exact ⟨rfl, rfl, rfl, rfl, rfl, rfl⟩
    · have := ih k (by simpa using h)
      rw [e, show (k + 1) * 6 = k * 6 + 1 + 1 + 1 + 1 + 1 + 1 by omega]
      simp only [List.getElem?_cons_succ, List.getElem_cons_succ]
      exact this
theorem sv_set (f : Fn6) : ∀ (L : List Fn6) (i : Nat), i < L.length → ((((((sv L).set (i * 6) (.int .i64 (rowv (f 0)))).set (i * 6 + 1) (.int .i64 (rowv (f 1)))).set (i * 6 + 2) (.int .i64 (rowv (f 2)))).set (i * 6 + 3) (.int .i64 (rowv (f 3)))).set (i * 6 + 4) (.int .i64 (rowv (f 4)))).set (i * 6 + 5) (.int .i64 (rowv (f 5))) = sv (L.set i f)
  | [], _, h => by simp at h
  | a :: L, 0, _ => rfl
  | a :: L, i + 1, h => by
    have ih := sv_set f L i (by simpa using h)
    have e : ∀ k, (i + 1) * 6 + k = (i * 6 + k) + 6 := fun k => by omega
    have e0 : (i + 1) * 6 = i * 6 + 6 := by omega
    rw [e 1, e 2, e 3, e 4, e 5, e0]
    show Value.int .i64 (rowv (a 0)) :: .int .i64 (rowv (a 1)) :: .int .i64 (rowv (a 2)) :: .int .i64 (rowv (a 3)) :: .int .i64 (rowv (a 4)) :: .int .i64 (rowv (a 5)) :: _ = .int .i64 (rowv (a 0)) :: .int .i64 (rowv (a 1)) :: .int .i64 (rowv (a 2)) :: .int .i64 (rowv (a 3)) :: .int .i64 (rowv (a 4)) :: .int .i64 (rowv (a 5)) :: sv (L.set i f)
    rw [← ih]
    rfl
/-- The shifts by the first i cells; the others are white yet. -/
def shl5 (s : Fn6) (l : List (Nat × Nat)) (i : Nat) : List Fn6 := (l.take i).map (fun c => sf c.1 c.2 s) ++ List.replicate (l.length - i) zf
theorem shl5_len (s : Fn6) (l : List (Nat × Nat)) {i : Nat} (h : i ≤ l.length) : (shl5 s l i).length = l.length := by
  simp only [shl5, List.length_append, List.length_map, List.length_take, List.length_replicate]
  omega
theorem shl5_end (s : Fn6) (l : List (Nat × Nat)) : shl5 s l l.length = l.map (fun c => sf c.1 c.2 s) := by simp [shl5]
theorem shl5_set (s : Fn6) (l : List (Nat × Nat)) {i : Nat} (h : i < l.length) : (shl5 s l i).set i (sf (l[i]).1 (l[i]).2 s) = shl5 s l (i + 1) := by
  unfold shl5
  have e1 : ((l.take i).map (fun c => sf c.1 c.2 s)).length = i := by simp; omega
  have e2 : l.length - i = (l.length - (i + 1)) + 1 := by omega
  rw [List.set_append_right _ _ (by omega), e1, Nat.sub_self, e2, List.replicate_succ, List.set_cons_zero, List.take_add_one, List.getElem?_eq_getElem h, List.map_append, List.append_assoc]
  rfl
end Go.Proofs.Ytkjaaaefcmpokaa
