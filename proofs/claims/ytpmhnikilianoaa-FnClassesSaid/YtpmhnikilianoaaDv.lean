/- CONTRACTS: the drawn arguments of ShiftSheet. -/
import Derived.Test.YtpmhnikilianoaaDu
import Derived.WalkKit
import Derived.ProofKit
import Derived.OpenShut
import Derived.Lib.Hide
import Derived.WalkSpells
import Derived.Below
import Derived.BigQuiet
import Derived.LoopN
namespace Go.Proofs.Ytpmhnikilianoaa
open Go.ChangeShapes Go.WideShapes Go.ChangeAt Go.RowKit
set_option linter.unusedVariables false
def CodeIn (W : World) (B : Nat) (A : Option Addr) (len : Nat) (zs : List Int) : Prop := ∀ k, k < len → ∃ b o, A = some ⟨b, o, none⟩ ∧ b < B ∧ W.cell? ⟨b, o + k, none⟩ = some (.int .u8 (zs.getD k 0)) ∧ 0 ≤ zs.getD k 0 ∧ zs.getD k 0 ≤ 255
theorem CodeIn.below {W W' : World} {B N : Nat} {A : Option Addr} {len : Nat} {zs : List Int} (h : CodeIn W B A len zs) (hb : Below N W W') (hB : B ≤ N) : CodeIn W' B A len zs := fun k hk => by
  obtain ⟨b, o, h1, h2, h3, h4, h5⟩ := h k hk
  exact ⟨b, o, h1, h2, (hb.cell (p := ⟨b, o + k, none⟩) (Nat.lt_of_lt_of_le h2 hB)).trans h3, h4, h5⟩
theorem cu_new {W : World} {B : Nat} {A : Option Addr} {len cap : Nat} {zs : List Int} (h : CodeIn W B A len zs) (hB : B ≤ W.heap.size) (hl : len ≤ 65536) : Cu (W.alloc (.cells #[.slice A len cap, .int .i64 0, .int .u64 0] 134)) B W.heap.size A len cap zs 0 := by
  refine ⟨fun k hk => ?_, hB, hl, 0, 0, by omega, by omega, by omega, alloc_at rfl⟩
  obtain ⟨b, o, h1, h2, h3, h4, h5⟩ := h k hk
  exact ⟨b, o, h1, h2, by rw [World.cell?_alloc_lt _ _ _ (blk_lt h3)]; exact h3, h4, h5⟩
theorem below_to {w W W' : World} {g : Nat} (h : Below w.heap.size w W) (hg : W.grownBy W' (some g)) (hk : w.heap.size ≤ g) : Below w.heap.size w W' :=
  h.grown hg h.size (fun k e => by cases e; exact hk)
def DsPost (w : World) (e : Ending) (w' : World) : Prop := ∃ (r0 r1 r2 r3 r4 r5 x y : Int), Wf6 r0 r1 r2 r3 r4 r5 ∧ (Lit.int .i64 x).wf = true ∧ (Lit.int .i64 y).wf = true ∧ e = .returned (.tuple #[.agg #[.int .i64 r0, .int .i64 r1, .int .i64 r2, .int .i64 r3, .int .i64 r4, .int .i64 r5], .int .i64 x, .int .i64 y]) ∧ Below w.heap.size w w'
end Go.Proofs.Ytpmhnikilianoaa
