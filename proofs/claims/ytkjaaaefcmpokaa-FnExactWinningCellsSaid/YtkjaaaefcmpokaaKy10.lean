/- PLAIN LEMMAS: a map whose keys are sheets. -/
import Derived.Test.YtkjaaaefcmpokaaMb10
import Derived.Maps.Own
import Derived.Maps.OwnSet
import Derived.Maps.Views
import Derived.DeepKeys4
import Derived.MapKept
import Derived.WalkKit
import Derived.ProofKit
import Derived.OpenShut
import Derived.Lib.Hide
import Derived.WalkSpells
import Derived.Below
import Derived.BigQuiet
import Derived.LoopN
namespace Go.Proofs.Ytkjaaaefcmpokaa
open Go.ChangeShapes Go.WideShapes Go.ChangeAt Go.RowKit
set_option linter.unusedVariables false
open Go.Maps
theorem keyed28 : Keyed Try.prog 28 := Keyed.of_law (deep_law_laid (m := 3) (by kernel_rfl) (by decide) (by decide +kernel) (by kernel_rfl) (by kernel_rfl))
theorem leaf7 (d : Nat) {a : Int} (h : (Lit.int .i64 a).wf = true) : Try.prog.keyLits (d + 1) 3 [.int .i64 a] = some [.int .i64 a] := by
  have hu : Try.prog.underlying 3 = some (.int .i64) := by kernel_rfl
  unfold Program.keyLits
  simp only [hu]
  rw [if_pos ⟨trivial, h⟩]
theorem arr7 (d : Nat) {a0 a1 a2 a3 a4 a5 : Int} (h0 : (Lit.int .i64 a0).wf = true) (h1 : (Lit.int .i64 a1).wf = true) (h2 : (Lit.int .i64 a2).wf = true) (h3 : (Lit.int .i64 a3).wf = true) (h4 : (Lit.int .i64 a4).wf = true) (h5 : (Lit.int .i64 a5).wf = true) : Try.prog.keyLits (d + 2) 22 [.int .i64 a0, .int .i64 a1, .int .i64 a2, .int .i64 a3, .int .i64 a4, .int .i64 a5] = some [.int .i64 a0, .int .i64 a1, .int .i64 a2, .int .i64 a3, .int .i64 a4, .int .i64 a5] := by
  have hu : Try.prog.underlying 22 = some (.array 6 3) := by kernel_rfl
  have hc : Try.prog.cellsOf 22 = 6 := by kernel_rfl
  have hc1 : Try.prog.cellsOf 3 = 1 := by kernel_rfl
  unfold Program.keyLits
  simp only [hu, hc, hc1]
  rw [if_pos (show [Value.int .i64 a0, Value.int .i64 a1, Value.int .i64 a2, Value.int .i64 a3, Value.int .i64 a4, Value.int .i64 a5].length = 6 from rfl), show List.range 6 = [0, 1, 2, 3, 4, 5] from rfl]
  simp only [List.mapM_cons, List.mapM_nil]
  simp [leaf7 d h0, leaf7 d h1, leaf7 d h2, leaf7 d h3, leaf7 d h4, leaf7 d h5]
/-- A sheet's key. -/
def ks7 (a0 a1 a2 a3 a4 a5 : Int) : Lit := .string (keyBytes [.int .i64 a0, .int .i64 a1, .int .i64 a2, .int .i64 a3, .int .i64 a4, .int .i64 a5])
theorem key7 {a0 a1 a2 a3 a4 a5 : Int} (h0 : (Lit.int .i64 a0).wf = true) (h1 : (Lit.int .i64 a1).wf = true) (h2 : (Lit.int .i64 a2).wf = true) (h3 : (Lit.int .i64 a3).wf = true) (h4 : (Lit.int .i64 a4).wf = true) (h5 : (Lit.int .i64 a5).wf = true) : keyOf Try.prog 28 (.agg #[.int .i64 a0, .int .i64 a1, .int .i64 a2, .int .i64 a3, .int .i64 a4, .int .i64 a5]) = some (ks7 a0 a1 a2 a3 a4 a5) := by
  have hk : Try.prog.keyType 28 = true := by kernel_rfl
  have hf : (.agg #[.int .i64 a0, .int .i64 a1, .int .i64 a2, .int .i64 a3, .int .i64 a4, .int .i64 a5] : Value).formed Try.prog 28 = true := by kernel_rfl
  obtain ⟨m, hm⟩ : ∃ m, Try.prog.types.size = m + 2 := ⟨Try.prog.types.size - 2, by decide +kernel⟩
  have hu : Try.prog.underlying 28 = some (.struct (Try.prog.fieldsOf 28)) := by kernel_rfl
  have hl : (Try.prog.fieldsOf 28).toList = [(Try.prog.fieldsOf 28)[0]!] := by kernel_rfl
  have ht : ((Try.prog.fieldsOf 28)[0]!).type = 22 := by kernel_rfl
  have ho : ((Try.prog.fieldsOf 28)[0]!).offset = 0 := by kernel_rfl
  have hn : (Try.prog.fieldsOf 28).all (·.name != "_") = true := by kernel_rfl
  have hc : Try.prog.cellsOf 28 = 6 := by kernel_rfl
  have hc2 : Try.prog.cellsOf 22 = 6 := by kernel_rfl
  have hA := arr7 m h0 h1 h2 h3 h4 h5
  unfold keyOf
  simp only [hu]
  rw [if_pos (by rw [hk, hf]; rfl), hm]
  unfold Program.keyLits
  simp only [hu, Value.cells]
  rw [if_pos ⟨by rw [hc]; rfl, hn⟩, hl]
  simp only [List.mapM_cons, List.mapM_nil, ht, ho, hc2]
  simp [hA, ks7]
end Go.Proofs.Ytkjaaaefcmpokaa
