/- PLAIN: the shelf's structure of slices.Reverse at a slice of steps, laid at this seat's program. -/
import Derived.Shelf.SlicesQ.Reverse
import Derived.Test.YtnkjamdpafpcpaaProg
namespace Go.Proofs.Ytnkjamdpafpcpaa
open Go.Shelf
def revSteps_ren : Go.Shelf.Ren := ⟨fun | 35 => 136 | n => n, fun | 22 => 60 | 23 => 73 | 3 => 3 | 4 => 4 | 0 => 0 | n => n, fun | n => n⟩
theorem revSteps : Go.Proofs.SlLaysE0.n35 Try.prog revSteps_ren := {
  mixed := by kernel_rfl
  f35 := ⟨Try.f136.name, by decide, Try.func136.trans (congrArg some (by kernel_rfl))⟩
  t0 := Try.underlying0
  a0 := Try.isAgg0
  z0 := Try.sizeOf0
  v0 := Try.zeroValue0
  t3 := Try.underlying3
  a3 := Try.isAgg3
  z3 := Try.sizeOf3
  v3 := Try.zeroValue3
  t4 := Try.underlying4
  a4 := Try.isAgg4
  z4 := Try.sizeOf4
  v4 := Try.zeroValue4
  t22 := Try.underlying60
  a22 := Try.isAgg60
  z22 := Try.sizeOf60
  v22 := Try.zeroValue60 }
end Go.Proofs.Ytnkjamdpafpcpaa
