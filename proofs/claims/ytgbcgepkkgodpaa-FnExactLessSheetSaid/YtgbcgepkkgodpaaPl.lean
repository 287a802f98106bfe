/- THE PAIR: LessSheet. -/
import Derived.Test.YtgbcgepkkgodpaaPb
import Derived.Test.YtgbcgepkkgodpaaSm
import Derived.WalkKit
import Derived.ProofKit
import Derived.OpenShut
import Derived.Lib.Hide
import Derived.WalkSpells
import Derived.Below
import Derived.BigQuiet
import Derived.LoopN
namespace Go.Proofs.Ytgbcgepkkgodpaa
open Go.ChangeShapes Go.WideShapes Go.ChangeAt Go.RowKit
set_option linter.unusedVariables false
theorem tri (a b : Int) : a < b ∨ b < a ∨ a = b := by omega
theorem less_pair (a0 a1 a2 a3 a4 a5 : Int) (b0 b1 b2 b3 b4 b5 : Int) : ∃ (r t : Bool), (∀ w, Calls Try.prog 60 #[.agg #[.int .i64 a0, .int .i64 a1, .int .i64 a2, .int .i64 a3, .int .i64 a4, .int .i64 a5], .agg #[.int .i64 b0, .int .i64 b1, .int .i64 b2, .int .i64 b3, .int .i64 b4, .int .i64 b5]] w fun e w' => e = .returned (.tuple #[.bool r, .bool t]) ∧ Below w.heap.size w w') ∧ (∀ w, Calls Try.prog 61 #[.agg #[.int .i64 a0, .int .i64 a1, .int .i64 a2, .int .i64 a3, .int .i64 a4, .int .i64 a5], .agg #[.int .i64 b0, .int .i64 b1, .int .i64 b2, .int .i64 b3, .int .i64 b4, .int .i64 b5]] w fun e w' => e = .returned (.tuple #[.bool r, .bool t]) ∧ Below w.heap.size w w') := by
  cases hv : (ok a0 && ok a1 && ok a2 && ok a3 && ok a4 && ok a5)
  · exact ⟨false, false, fun w => sless_no0 a0 a1 a2 a3 a4 a5 b0 b1 b2 b3 b4 b5 (sh_as a0 a1 a2 a3 a4 a5 hv) w, fun w => iless_no0 a0 a1 a2 a3 a4 a5 b0 b1 b2 b3 b4 b5 (sh_ai a0 a1 a2 a3 a4 a5 hv) w⟩
  · cases hc : (ok b0 && ok b1 && ok b2 && ok b3 && ok b4 && ok b5)
    · exact ⟨false, false, fun w => sless_no1 a0 a1 a2 a3 a4 a5 b0 b1 b2 b3 b4 b5 (sh_as a0 a1 a2 a3 a4 a5 hv) (sh_as b0 b1 b2 b3 b4 b5 hc) w, fun w => iless_no1 a0 a1 a2 a3 a4 a5 b0 b1 b2 b3 b4 b5 (sh_ai a0 a1 a2 a3 a4 a5 hv) (sh_ai b0 b1 b2 b3 b4 b5 hc) w⟩
    · have Hs := sh_as a0 a1 a2 a3 a4 a5 hv
      have Hs' := sh_as b0 b1 b2 b3 b4 b5 hc
      have Hi := sh_ai a0 a1 a2 a3 a4 a5 hv
      have Hi' := sh_ai b0 b1 b2 b3 b4 b5 hc
      clear hv hc
      rcases tri a0 b0 with h | h | h
      · exact ⟨true, true, fun w => sless_yes a0 a1 a2 a3 a4 a5 b0 b1 b2 b3 b4 b5 true Hs Hs' (Lib.hid (before_0lt a0 a1 a2 a3 a4 a5 b0 b1 b2 b3 b4 b5 h)) w, fun w => iless_yes a0 a1 a2 a3 a4 a5 b0 b1 b2 b3 b4 b5 (-1) Hi Hi' w (Lib.hid (fun U c => compare_0lt a0 a1 a2 a3 a4 a5 b0 b1 b2 b3 b4 b5 h w.heap.size (w.heap.size + 1) U ⟨c.1, c.2.1, c.2.2.1, c.2.2.2.1, c.2.2.2.2.1, c.2.2.2.2.2.1⟩ ⟨c.2.2.2.2.2.2.1, c.2.2.2.2.2.2.2.1, c.2.2.2.2.2.2.2.2.1, c.2.2.2.2.2.2.2.2.2.1, c.2.2.2.2.2.2.2.2.2.2.1, c.2.2.2.2.2.2.2.2.2.2.2.1⟩))⟩
      · exact ⟨false, true, fun w => sless_yes a0 a1 a2 a3 a4 a5 b0 b1 b2 b3 b4 b5 false Hs Hs' (Lib.hid (before_0gt a0 a1 a2 a3 a4 a5 b0 b1 b2 b3 b4 b5 h)) w, fun w => iless_yes a0 a1 a2 a3 a4 a5 b0 b1 b2 b3 b4 b5 (1) Hi Hi' w (Lib.hid (fun U c => compare_0gt a0 a1 a2 a3 a4 a5 b0 b1 b2 b3 b4 b5 h w.heap.size (w.heap.size + 1) U ⟨c.1, c.2.1, c.2.2.1, c.2.2.2.1, c.2.2.2.2.1, c.2.2.2.2.2.1⟩ ⟨c.2.2.2.2.2.2.1, c.2.2.2.2.2.2.2.1, c.2.2.2.2.2.2.2.2.1, c.2.2.2.2.2.2.2.2.2.1, c.2.2.2.2.2.2.2.2.2.2.1, c.2.2.2.2.2.2.2.2.2.2.2.1⟩))⟩
      subst h
      rcases tri a1 b1 with h | h | h
      · exact ⟨true, true, fun w => sless_yes a0 a1 a2 a3 a4 a5 a0 b1 b2 b3 b4 b5 true Hs Hs' (Lib.hid (before_1lt a0 a1 a2 a3 a4 a5 b1 b2 b3 b4 b5 h)) w, fun w => iless_yes a0 a1 a2 a3 a4 a5 a0 b1 b2 b3 b4 b5 (-1) Hi Hi' w (Lib.hid (fun U c => compare_1lt a0 a1 a2 a3 a4 a5 b1 b2 b3 b4 b5 h w.heap.size (w.heap.size + 1) U ⟨c.1, c.2.1, c.2.2.1, c.2.2.2.1, c.2.2.2.2.1, c.2.2.2.2.2.1⟩ ⟨c.2.2.2.2.2.2.1, c.2.2.2.2.2.2.2.1, c.2.2.2.2.2.2.2.2.1, c.2.2.2.2.2.2.2.2.2.1, c.2.2.2.2.2.2.2.2.2.2.1, c.2.2.2.2.2.2.2.2.2.2.2.1⟩))⟩
      · exact ⟨false, true, fun w => sless_yes a0 a1 a2 a3 a4 a5 a0 b1 b2 b3 b4 b5 false Hs Hs' (Lib.hid (before_1gt a0 a1 a2 a3 a4 a5 b1 b2 b3 b4 b5 h)) w, fun w => iless_yes a0 a1 a2 a3 a4 a5 a0 b1 b2 b3 b4 b5 (1) Hi Hi' w (Lib.hid (fun U c => compare_1gt a0 a1 a2 a3 a4 a5 b1 b2 b3 b4 b5 h w.heap.size (w.heap.size + 1) U ⟨c.1, c.2.1, c.2.2.1, c.2.2.2.1, c.2.2.2.2.1, c.2.2.2.2.2.1⟩ ⟨c.2.2.2.2.2.2.1, c.2.2.2.2.2.2.2.1, c.2.2.2.2.2.2.2.2.1, c.2.2.2.2.2.2.2.2.2.1, c.2.2.2.2.2.2.2.2.2.2.1, c.2.2.2.2.2.2.2.2.2.2.2.1⟩))⟩
      subst h
      rcases tri a2 b2 with h | h | h
      · exact ⟨true, true, fun w => sless_yes a0 a1 a2 a3 a4 a5 a0 a1 b2 b3 b4 b5 true Hs Hs' (Lib.hid (before_2lt a0 a1 a2 a3 a4 a5 b2 b3 b4 b5 h)) w, fun w => iless_yes a0 a1 a2 a3 a4 a5 a0 a1 b2 b3 b4 b5 (-1) Hi Hi' w (Lib.hid (fun U c => compare_2lt a0 a1 a2 a3 a4 a5 b2 b3 b4 b5 h w.heap.size (w.heap.size + 1) U ⟨c.1, c.2.1, c.2.2.1, c.2.2.2.1, c.2.2.2.2.1, c.2.2.2.2.2.1⟩ ⟨c.2.2.2.2.2.2.1, c.2.2.2.2.2.2.2.1, c.2.2.2.2.2.2.2.2.1, c.2.2.2.2.2.2.2.2.2.1, c.2.2.2.2.2.2.2.2.2.2.1, c.2.2.2.2.2.2.2.2.2.2.2.1⟩))⟩
      · exact ⟨false, true, fun w => sless_yes a0 a1 a2 a3 a4 a5 a0 a1 b2 b3 b4 b5 false Hs Hs' (Lib.hid (before_2gt a0 a1 a2 a3 a4 a5 b2 b3 b4 b5 h)) w, fun w => iless_yes a0 a1 a2 a3 a4 a5 a0 a1 b2 b3 b4 b5 (1) Hi Hi' w (Lib.hid (fun U c => compare_2gt a0 a1 a2 a3 a4 a5 b2 b3 b4 b5 h w.heap.size (w.heap.size + 1) U ⟨c.1, c.2.1, c.2.2.1, c.2.2.2.1, c.2.2.2.2.1, c.2.2.2.2.2.1⟩ ⟨c.2.2.2.2.2.2.1, c.2.2.2.2.2.2.2.1, c.2.2.2.2.2.2.2.2.1, c.2.2.2.2.2.2.2.2.2.1, c.2.2.2.2.2.2.2.2.2.2.1, c.2.2.2.2.2.2.2.2.2.2.2.1⟩))⟩
      subst h
      rcases tri a3 b3 with h | h | h
      · exact ⟨true, true, fun w => sless_yes a0 a1 a2 a3 a4 a5 a0 a1 a2 b3 b4 b5 true Hs Hs' (Lib.hid (before_3lt a0 a1 a2 a3 a4 a5 b3 b4 b5 h)) w, fun w => iless_yes a0 a1 a2 a3 a4 a5 a0 a1 a2 b3 b4 b5 (-1) Hi Hi' w (Lib.hid (fun U c => compare_3lt a0 a1 a2 a3 a4 a5 b3 b4 b5 h w.heap.size (w.heap.size + 1) U ⟨c.1, c.2.1, c.2.2.1, c.2.2.2.1, c.2.2.2.2.1, c.2.2.2.2.2.1⟩ ⟨c.2.2.2.2.2.2.1, c.2.2.2.2.2.2.2.1, c.2.2.2.2.2.2.2.2.1, c.2.2.2.2.2.2.2.2.2.1, c.2.2.2.2.2.2.2.2.2.2.1, c.2.2.2.2.2.2.2.2.2.2.2.1⟩))⟩
      · exact ⟨false, true, fun w => sless_yes a0 a1 a2 a3 a4 a5 a0 a1 a2 b3 b4 b5 false Hs Hs' (Lib.hid (before_3gt a0 a1 a2 a3 a4 a5 b3 b4 b5 h)) w, fun w => iless_yes a0 a1 a2 a3 a4 a5 a0 a1 a2 b3 b4 b5 (1) Hi Hi' w (Lib.hid (fun U c => compare_3gt a0 a1 a2 a3 a4 a5 b3 b4 b5 h w.heap.size (w.heap.size + 1) U ⟨c.1, c.2.1, c.2.2.1, c.2.2.2.1, c.2.2.2.2.1, c.2.2.2.2.2.1⟩ ⟨c.2.2.2.2.2.2.1, c.2.2.2.2.2.2.2.1, c.2.2.2.2.2.2.2.2.1, c.2.2.2.2.2.2.2.2.2.1, c.2.2.2.2.2.2.2.2.2.2.1, c.2.2.2.2.2.2.2.2.2.2.2.1⟩))⟩
      subst h
      rcases tri a4 b4 with h | h | h
      · exact ⟨true, true, fun w => sless_yes a0 a1 a2 a3 a4 a5 a0 a1 a2 a3 b4 b5 true Hs Hs' (Lib.hid (before_4lt a0 a1 a2 a3 a4 a5 b4 b5 h)) w, fun w => iless_yes a0 a1 a2 a3 a4 a5 a0 a1 a2 a3 b4 b5 (-1) Hi Hi' w (Lib.hid (fun U c => compare_4lt a0 a1 a2 a3 a4 a5 b4 b5 h w.heap.size (w.heap.size + 1) U ⟨c.1, c.2.1, c.2.2.1, c.2.2.2.1, c.2.2.2.2.1, c.2.2.2.2.2.1⟩ ⟨c.2.2.2.2.2.2.1, c.2.2.2.2.2.2.2.1, c.2.2.2.2.2.2.2.2.1, c.2.2.2.2.2.2.2.2.2.1, c.2.2.2.2.2.2.2.2.2.2.1, c.2.2.2.2.2.2.2.2.2.2.2.1⟩))⟩
      · exact ⟨false, true, fun w => sless_yes a0 a1 a2 a3 a4 a5 a0 a1 a2 a3 b4 b5 false Hs Hs' (Lib.hid (before_4gt a0 a1 a2 a3 a4 a5 b4 b5 h)) w, fun w => iless_yes a0 a1 a2 a3 a4 a5 a0 a1 a2 a3 b4 b5 (1) Hi Hi' w (Lib.hid (fun U c => compare_4gt a0 a1 a2 a3 a4 a5 b4 b5 h w.heap.size (w.heap.size + 1) U ⟨c.1, c.2.1, c.2.2.1, c.2.2.2.1, c.2.2.2.2.1, c.2.2.2.2.2.1⟩ ⟨c.2.2.2.2.2.2.1, c.2.2.2.2.2.2.2.1, c.2.2.2.2.2.2.2.2.1, c.2.2.2.2.2.2.2.2.2.1, c.2.2.2.2.2.2.2.2.2.2.1, c.2.2.2.2.2.2.2.2.2.2.2.1⟩))⟩
      subst h
      rcases tri a5 b5 with h | h | h
      · exact ⟨true, true, fun w => sless_yes a0 a1 a2 a3 a4 a5 a0 a1 a2 a3 a4 b5 true Hs Hs' (Lib.hid (before_5lt a0 a1 a2 a3 a4 a5 b5 h)) w, fun w => iless_yes a0 a1 a2 a3 a4 a5 a0 a1 a2 a3 a4 b5 (-1) Hi Hi' w (Lib.hid (fun U c => compare_5lt a0 a1 a2 a3 a4 a5 b5 h w.heap.size (w.heap.size + 1) U ⟨c.1, c.2.1, c.2.2.1, c.2.2.2.1, c.2.2.2.2.1, c.2.2.2.2.2.1⟩ ⟨c.2.2.2.2.2.2.1, c.2.2.2.2.2.2.2.1, c.2.2.2.2.2.2.2.2.1, c.2.2.2.2.2.2.2.2.2.1, c.2.2.2.2.2.2.2.2.2.2.1, c.2.2.2.2.2.2.2.2.2.2.2.1⟩))⟩
      · exact ⟨false, true, fun w => sless_yes a0 a1 a2 a3 a4 a5 a0 a1 a2 a3 a4 b5 false Hs Hs' (Lib.hid (before_5gt a0 a1 a2 a3 a4 a5 b5 h)) w, fun w => iless_yes a0 a1 a2 a3 a4 a5 a0 a1 a2 a3 a4 b5 (1) Hi Hi' w (Lib.hid (fun U c => compare_5gt a0 a1 a2 a3 a4 a5 b5 h w.heap.size (w.heap.size + 1) U ⟨c.1, c.2.1, c.2.2.1, c.2.2.2.1, c.2.2.2.2.1, c.2.2.2.2.2.1⟩ ⟨c.2.2.2.2.2.2.1, c.2.2.2.2.2.2.2.1, c.2.2.2.2.2.2.2.2.1, c.2.2.2.2.2.2.2.2.2.1, c.2.2.2.2.2.2.2.2.2.2.1, c.2.2.2.2.2.2.2.2.2.2.2.1⟩))⟩
      subst h
      exact ⟨false, true, fun w => sless_yes a0 a1 a2 a3 a4 a5 a0 a1 a2 a3 a4 a5 false Hs Hs' (Lib.hid (before_6eq a0 a1 a2 a3 a4 a5)) w, fun w => iless_yes a0 a1 a2 a3 a4 a5 a0 a1 a2 a3 a4 a5 0 Hi Hi' w (Lib.hid (fun U c => compare_6eq a0 a1 a2 a3 a4 a5 w.heap.size (w.heap.size + 1) U ⟨c.1, c.2.1, c.2.2.1, c.2.2.2.1, c.2.2.2.2.1, c.2.2.2.2.2.1⟩ ⟨c.2.2.2.2.2.2.1, c.2.2.2.2.2.2.2.1, c.2.2.2.2.2.2.2.2.1, c.2.2.2.2.2.2.2.2.2.1, c.2.2.2.2.2.2.2.2.2.2.1, c.2.2.2.2.2.2.2.2.2.2.2.1⟩))⟩
end Go.Proofs.Ytgbcgepkkgodpaa
