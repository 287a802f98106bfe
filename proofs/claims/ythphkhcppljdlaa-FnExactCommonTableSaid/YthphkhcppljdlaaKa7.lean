/- PLAIN LEMMAS: one block known. -/
import Derived.Test.YthphkhcppljdlaaRk
import Derived.WalkKit
import Derived.ProofKit
import Derived.OpenShut
import Derived.Lib.Hide
import Derived.WalkSpells
import Derived.Below
import Derived.BigQuiet
import Derived.LoopN
namespace Go.Proofs.Ythphkhcppljdlaa
open Go.ChangeShapes Go.WideShapes Go.ChangeAt Go.RowKit
set_option linter.unusedVariables false
theorem kr1 (w : World) (o : Obj) : KR 1 [(w.heap.size, o)] w (w.alloc o) := by
  refine ⟨?_, by simp, by (repeat (first | exact Below.refl _ _ | assumption | refine Below.setCell ?_ (by first | (simp; done) | (simp; omega)) _ | refine Below.alloc ?_ (by first | (simp; done) | (simp; omega)) _ | refine Below.drew ?_))⟩
  intro p hp
  simp only [List.mem_singleton] at hp
  subst hp
  exact ⟨by simp, alloc_at rfl⟩
end Go.Proofs.Ythphkhcppljdlaa
