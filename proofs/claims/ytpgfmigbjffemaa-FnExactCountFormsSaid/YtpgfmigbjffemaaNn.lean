/- CONTRACTS: the laws' copies and comparisons of three numbers; the pair for MoveSheet. -/
import Derived.Test.YtpgfmigbjffemaaNm
import Derived.Test.YtpgfmigbjffemaaWm
import Derived.WalkKit
import Derived.ProofKit
import Derived.OpenShut
import Derived.Lib.Hide
import Derived.WalkSpells
import Derived.Below
import Derived.BigQuiet
import Derived.LoopN
namespace Go.Proofs.Ytpgfmigbjffemaa
open Go.ChangeShapes Go.WideShapes Go.ChangeAt Go.RowKit
set_option linter.unusedVariables false
theorem a3_any (x y z : Int) (w : World) : Calls Try.prog 65 #[.agg #[.int .i64 x, .int .i64 y, .int .i64 z]] w fun e w' => e = .returned (.agg #[.int .i64 x, .int .i64 y, .int .i64 z]) ∧ Below w.heap.size w w' := by
  go_enter Try.func65, Try.ntmps65
  go_wp2_with fail
  refine wp_loop_rounds 4 ?_
  iterate 4
    rw [rounds_succ]
    go_wp2_with fail
  refine bodyPost_ret (v := .agg #[.int .i64 x, .int .i64 y, .int .i64 z]) (by simp [results, Try.results65, go_sem]) rfl ⟨rfl, ?_⟩
  (repeat (first | exact Below.refl _ _ | assumption | refine Below.setCell ?_ (by first | (simp; done) | (simp; omega)) _ | refine Below.alloc ?_ (by first | (simp; done) | (simp; omega)) _ | refine Below.drew ?_))
theorem eq3_same (x y z : Int) (w : World) : Calls Try.prog 71 #[.agg #[.int .i64 x, .int .i64 y, .int .i64 z], .agg #[.int .i64 x, .int .i64 y, .int .i64 z]] w fun e w' => e = .returned (.bool true) ∧ Below w.heap.size w w' := by
  go_enter Try.func71, Try.ntmps71
  go_wp2_with fail
  refine wp_loop_rounds 4 ?_
  iterate 3
    rw [rounds_succ]
    go_wp2_with fail
    go_region
    go_wp2_with fail
  rw [rounds_succ]
  go_wp2_with fail
  go_ret
  exact ⟨rfl, by (repeat (first | exact Below.refl _ _ | assumption | refine Below.setCell ?_ (by first | (simp; done) | (simp; omega)) _ | refine Below.alloc ?_ (by first | (simp; done) | (simp; omega)) _ | refine Below.drew ?_))⟩
theorem move_pair (a0 a1 a2 a3 a4 a5 : Int) (m0 m1 m2 : Int) (h0 : (Lit.int .i64 m0).wf = true) (h1 : (Lit.int .i64 m1).wf = true) (h2 : (Lit.int .i64 m2).wf = true) : ∃ (r0 r1 r2 r3 r4 r5 : Int) (t : Bool), (∀ w, Calls Try.prog 64 #[.agg #[.int .i64 a0, .int .i64 a1, .int .i64 a2, .int .i64 a3, .int .i64 a4, .int .i64 a5], .agg #[.int .i64 m0, .int .i64 m1, .int .i64 m2]] w fun e w' => e = .returned (.tuple #[.agg #[.int .i64 r0, .int .i64 r1, .int .i64 r2, .int .i64 r3, .int .i64 r4, .int .i64 r5], .bool t]) ∧ Below w.heap.size w w') ∧ (∀ w, Calls Try.prog 66 #[.agg #[.int .i64 a0, .int .i64 a1, .int .i64 a2, .int .i64 a3, .int .i64 a4, .int .i64 a5], .agg #[.int .i64 m0, .int .i64 m1, .int .i64 m2]] w fun e w' => e = .returned (.tuple #[.agg #[.int .i64 r0, .int .i64 r1, .int .i64 r2, .int .i64 r3, .int .i64 r4, .int .i64 r5], .bool t]) ∧ Below w.heap.size w w') := by
  cases hv : (ok a0 && ok a1 && ok a2 && ok a3 && ok a4 && ok a5)
  · exact ⟨0, 0, 0, 0, 0, 0, false, fun w => smove_no0 a0 a1 a2 a3 a4 a5 m0 m1 m2 (sh_as a0 a1 a2 a3 a4 a5 hv) w, fun w => imove_no0 a0 a1 a2 a3 a4 a5 m0 m1 m2 (sh_ai a0 a1 a2 a3 a4 a5 hv) w⟩
  · cases hk : okm m0 m1 m2
    · exact ⟨0, 0, 0, 0, 0, 0, false, fun w => smove_no1 a0 a1 a2 a3 a4 a5 m0 m1 m2 (sh_as a0 a1 a2 a3 a4 a5 hv) (mo_s m0 m1 m2 hk) w, fun w => imove_no1 a0 a1 a2 a3 a4 a5 m0 m1 m2 (sh_ai a0 a1 a2 a3 a4 a5 hv) (mo_i m0 m1 m2 h1 h2 hk) w⟩
    · have hs := sh_as a0 a1 a2 a3 a4 a5 hv
      have hi := sh_ai a0 a1 a2 a3 a4 a5 hv
      have ks := mo_s m0 m1 m2 hk
      have ki := mo_i m0 m1 m2 h1 h2 hk
      obtain ⟨k, x, y, hk8, hx, hy, rfl, rfl, rfl⟩ := okm_in hk
      obtain ⟨f, rfl, rfl, rfl, rfl, rfl, rfl⟩ := sheet_bits a0 a1 a2 a3 a4 a5 hv
      exact ⟨_, _, _, _, _, _, true, fun w => smove_yes _ _ _ _ _ _ _ _ _ _ _ _ _ _ _ hs ks (Lib.hid (lmove_f f hk8 hx hy)) w, fun w => imove_yes _ _ _ _ _ _ _ _ _ _ _ _ _ _ _ hi ki (Lib.hid (moved_f f hk8 hx hy)) w⟩
end Go.Proofs.Ytpgfmigbjffemaa
