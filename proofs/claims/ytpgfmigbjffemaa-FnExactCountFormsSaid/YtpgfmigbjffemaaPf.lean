/- THE PAIR: FlipCell. -/
import Derived.Test.YtpgfmigbjffemaaPb
import Derived.Test.YtpgfmigbjffemaaSi
import Derived.WalkKit
import Derived.ProofKit
import Derived.OpenShut
import Derived.Lib.Hide
import Derived.WalkSpells
import Derived.Below
import Derived.BigQuiet
import Derived.LoopN
namespace Go.Proofs.Ytpgfmigbjffemaa
open Go.ChangeShapes Go.WideShapes Go.ChangeAt Go.RowKit
set_option linter.unusedVariables false
theorem flip_pair (a0 a1 a2 a3 a4 a5 : Int) (x y : Int) (hx : (Lit.int .i64 x).wf = true) (hy : (Lit.int .i64 y).wf = true) : ∃ (r0 r1 r2 r3 r4 r5 : Int) (t : Bool), (∀ w, Calls Try.prog 52 #[.agg #[.int .i64 a0, .int .i64 a1, .int .i64 a2, .int .i64 a3, .int .i64 a4, .int .i64 a5], .agg #[.int .i64 x, .int .i64 y]] w fun e w' => e = .returned (.tuple #[.agg #[.int .i64 r0, .int .i64 r1, .int .i64 r2, .int .i64 r3, .int .i64 r4, .int .i64 r5], .bool t]) ∧ Below w.heap.size w w') ∧ (∀ w, Calls Try.prog 51 #[.agg #[.int .i64 a0, .int .i64 a1, .int .i64 a2, .int .i64 a3, .int .i64 a4, .int .i64 a5], .agg #[.int .i64 x, .int .i64 y]] w fun e w' => e = .returned (.tuple #[.agg #[.int .i64 r0, .int .i64 r1, .int .i64 r2, .int .i64 r3, .int .i64 r4, .int .i64 r5], .bool t]) ∧ Below w.heap.size w w') := by
  cases hv : (ok a0 && ok a1 && ok a2 && ok a3 && ok a4 && ok a5)
  · exact ⟨0, 0, 0, 0, 0, 0, false, fun w => sflip_no0 a0 a1 a2 a3 a4 a5 x y (sh_as a0 a1 a2 a3 a4 a5 hv) w, fun w => iflip_no0 a0 a1 a2 a3 a4 a5 x y (sh_ai a0 a1 a2 a3 a4 a5 hv) w⟩
  · cases hc : okc x y
    · exact ⟨0, 0, 0, 0, 0, 0, false, fun w => sflip_no1 a0 a1 a2 a3 a4 a5 x y (sh_as a0 a1 a2 a3 a4 a5 hv) (ce_s x y hc) w, fun w => iflip_no1 a0 a1 a2 a3 a4 a5 x y (sh_ai a0 a1 a2 a3 a4 a5 hv) (ce_i x y hx hy hc) w⟩
    · obtain ⟨h1, h2⟩ := okc_in hc
      have H1 := ce_s x y hc
      have H2 := ce_i x y hx hy hc
      clear hc hx hy
      rcases six h2 with rfl | rfl | rfl | rfl | rfl | rfl
      · exact ⟨_, _, _, _, _, _, true, fun w => sflip_yes a0 a1 a2 a3 a4 a5 x 0 _ _ _ _ _ _ (sh_as a0 a1 a2 a3 a4 a5 hv) H1 (Lib.hid (l2flip_any a0 a1 a2 a3 a4 a5 x 0 h1 h2)) w, fun w => iflip_yes0 a0 a1 a2 a3 a4 a5 x h1 (sh_ai a0 a1 a2 a3 a4 a5 hv) H2 w⟩
      · exact ⟨_, _, _, _, _, _, true, fun w => sflip_yes a0 a1 a2 a3 a4 a5 x 1 _ _ _ _ _ _ (sh_as a0 a1 a2 a3 a4 a5 hv) H1 (Lib.hid (l2flip_any a0 a1 a2 a3 a4 a5 x 1 h1 h2)) w, fun w => iflip_yes1 a0 a1 a2 a3 a4 a5 x h1 (sh_ai a0 a1 a2 a3 a4 a5 hv) H2 w⟩
      · exact ⟨_, _, _, _, _, _, true, fun w => sflip_yes a0 a1 a2 a3 a4 a5 x 2 _ _ _ _ _ _ (sh_as a0 a1 a2 a3 a4 a5 hv) H1 (Lib.hid (l2flip_any a0 a1 a2 a3 a4 a5 x 2 h1 h2)) w, fun w => iflip_yes2 a0 a1 a2 a3 a4 a5 x h1 (sh_ai a0 a1 a2 a3 a4 a5 hv) H2 w⟩
      · exact ⟨_, _, _, _, _, _, true, fun w => sflip_yes a0 a1 a2 a3 a4 a5 x 3 _ _ _ _ _ _ (sh_as a0 a1 a2 a3 a4 a5 hv) H1 (Lib.hid (l2flip_any a0 a1 a2 a3 a4 a5 x 3 h1 h2)) w, fun w => iflip_yes3 a0 a1 a2 a3 a4 a5 x h1 (sh_ai a0 a1 a2 a3 a4 a5 hv) H2 w⟩
      · exact ⟨_, _, _, _, _, _, true, fun w => sflip_yes a0 a1 a2 a3 a4 a5 x 4 _ _ _ _ _ _ (sh_as a0 a1 a2 a3 a4 a5 hv) H1 (Lib.hid (l2flip_any a0 a1 a2 a3 a4 a5 x 4 h1 h2)) w, fun w => iflip_yes4 a0 a1 a2 a3 a4 a5 x h1 (sh_ai a0 a1 a2 a3 a4 a5 hv) H2 w⟩
      · exact ⟨_, _, _, _, _, _, true, fun w => sflip_yes a0 a1 a2 a3 a4 a5 x 5 _ _ _ _ _ _ (sh_as a0 a1 a2 a3 a4 a5 hv) H1 (Lib.hid (l2flip_any a0 a1 a2 a3 a4 a5 x 5 h1 h2)) w, fun w => iflip_yes5 a0 a1 a2 a3 a4 a5 x h1 (sh_ai a0 a1 a2 a3 a4 a5 hv) H2 w⟩
end Go.Proofs.Ytpgfmigbjffemaa
