/- PLAIN LEMMAS: all blocks of a long walk in one list. -/
import Derived.Test.YtbmfjcmlgndofaaSc
import Derived.Test.YtbmfjcmlgndofaaKp
import Derived.Test.YtbmfjcmlgndofaaEq
import Derived.WalkKit
import Derived.ProofKit
import Derived.OpenShut
import Derived.Lib.Hide
import Derived.WalkSpells
import Derived.Below
import Derived.BigQuiet
import Derived.LoopN
namespace Go.Proofs.Ytbmfjcmlgndofaa
open Go.ChangeShapes Go.WideShapes Go.ChangeAt Go.RowKit
set_option linter.unusedVariables false
/-- World W comes of w by what lies above w, and holds the blocks of L. -/
def Rws (w : World) (L : List (Nat × Obj)) (W : World) : Prop := Below w.heap.size w W ∧ ∀ p ∈ L, W.heap[p.1]? = some p.2
theorem Rws.nil (w : World) : Rws w [] w := ⟨Below.refl _ _, fun _ h => by cases h⟩
theorem Rws.below {w W W' : World} {L : List (Nat × Obj)} {N : Nat} (h : Rws w L W) (hb : Below N W W') (hN : N = W.heap.size) : Rws w L W' := by
  subst hN
  exact ⟨below_of h.1 hb h.1.size, fun p hp => rowk (h.2 p hp) hb rfl⟩
theorem Rws.put {w W : World} {L : List (Nat × Obj)} (h : Rws w L W) (g : Nat) (hg : g = W.heap.size) (o : Obj) : Rws w ((g, o) :: L) (W.alloc o) := by
  refine ⟨h.1.alloc h.1.size _, fun p hp => ?_⟩
  rcases List.mem_cons.mp hp with rfl | hp
  · exact alloc_at hg
  · exact alloc_past (h.2 p hp)
theorem Rws.get {w W : World} {L : List (Nat × Obj)} (h : Rws w L W) (i : Nat) {g : Nat} {o : Obj} (hi : L[i]? = some (g, o)) : W.heap[g]? = some o := h.2 _ (List.mem_of_getElem? hi)
theorem neq_same (a0 a1 a2 a3 a4 a5 : Int) (w : World) : (binOp .neq 28 (.agg #[.int .i64 a0, .int .i64 a1, .int .i64 a2, .int .i64 a3, .int .i64 a4, .int .i64 a5]) (.agg #[.int .i64 a0, .int .i64 a1, .int .i64 a2, .int .i64 a3, .int .i64 a4, .int .i64 a5])).run Try.prog w = .ok (.bool false) w := by
  have h := eq26 a0 a1 a2 a3 a4 a5 a0 a1 a2 a3 a4 a5 w
  rw [run_eql_struct] at h
  rw [run_neq_struct]
  simp only [beq_self_eq_true, Bool.and_self] at h
  generalize (Op.equalIn 10000 28 (.agg #[.int .i64 a0, .int .i64 a1, .int .i64 a2, .int .i64 a3, .int .i64 a4, .int .i64 a5]) (.agg #[.int .i64 a0, .int .i64 a1, .int .i64 a2, .int .i64 a3, .int .i64 a4, .int .i64 a5])).run Try.prog w = x at h ⊢
  cases x with
  | ok v w' =>
    simp only [Result.andThen_ok, Result.ok.injEq, Value.bool.injEq] at h ⊢
    exact ⟨by rw [h.1]; rfl, h.2⟩
  | halt e w' => cases h
theorem eql_same (a0 a1 a2 a3 a4 a5 : Int) (w : World) : (binOp .eql 28 (.agg #[.int .i64 a0, .int .i64 a1, .int .i64 a2, .int .i64 a3, .int .i64 a4, .int .i64 a5]) (.agg #[.int .i64 a0, .int .i64 a1, .int .i64 a2, .int .i64 a3, .int .i64 a4, .int .i64 a5])).run Try.prog w = .ok (.bool true) w := by
  rw [eq26]
  simp only [beq_self_eq_true, Bool.and_self]
end Go.Proofs.Ytbmfjcmlgndofaa
