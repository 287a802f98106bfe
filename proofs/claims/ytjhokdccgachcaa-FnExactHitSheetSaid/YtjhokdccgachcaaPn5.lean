/- THE PAIRS: TimesToFill, ShrinkLeft, HitSheet. -/
import Derived.Test.YtjhokdccgachcaaTm5
import Derived.Test.YtjhokdccgachcaaLi5
import Derived.Test.YtjhokdccgachcaaOh6
import Derived.Test.YtjhokdccgachcaaWn5
import Derived.WalkKit
import Derived.ProofKit
import Derived.OpenShut
import Derived.Lib.Hide
import Derived.WalkSpells
import Derived.Below
import Derived.BigQuiet
import Derived.LoopN
namespace Go.Proofs.Ytjhokdccgachcaa
open Go.ChangeShapes Go.WideShapes Go.ChangeAt Go.RowKit
set_option linter.unusedVariables false
theorem fill_pair (a0 a1 a2 a3 a4 a5 : Int) (b0 b1 b2 b3 b4 b5 : Int) : ∃ (r : Int) (t : Bool), (∀ w, Calls Try.prog 43 #[.agg #[.int .i64 a0, .int .i64 a1, .int .i64 a2, .int .i64 a3, .int .i64 a4, .int .i64 a5], .agg #[.int .i64 b0, .int .i64 b1, .int .i64 b2, .int .i64 b3, .int .i64 b4, .int .i64 b5]] w fun e w' => e = .returned (.tuple #[.int .i64 r, .bool t]) ∧ Below w.heap.size w w') ∧ (∀ w, Calls Try.prog 44 #[.agg #[.int .i64 a0, .int .i64 a1, .int .i64 a2, .int .i64 a3, .int .i64 a4, .int .i64 a5], .agg #[.int .i64 b0, .int .i64 b1, .int .i64 b2, .int .i64 b3, .int .i64 b4, .int .i64 b5]] w fun e w' => e = .returned (.tuple #[.int .i64 r, .bool t]) ∧ Below w.heap.size w w') := by
  cases hv : (ok a0 && ok a1 && ok a2 && ok a3 && ok a4 && ok a5)
  · exact ⟨0, false, fun w => stf_no0 a0 a1 a2 a3 a4 a5 b0 b1 b2 b3 b4 b5 (sh_as a0 a1 a2 a3 a4 a5 hv) w, fun w => itf_no0 a0 a1 a2 a3 a4 a5 b0 b1 b2 b3 b4 b5 (sh_ai a0 a1 a2 a3 a4 a5 hv) w⟩
  · cases hc : (ok b0 && ok b1 && ok b2 && ok b3 && ok b4 && ok b5)
    · exact ⟨0, false, fun w => stf_no1 a0 a1 a2 a3 a4 a5 b0 b1 b2 b3 b4 b5 (sh_as a0 a1 a2 a3 a4 a5 hv) (sh_as b0 b1 b2 b3 b4 b5 hc) w, fun w => itf_no1 a0 a1 a2 a3 a4 a5 b0 b1 b2 b3 b4 b5 (sh_ai a0 a1 a2 a3 a4 a5 hv) (sh_ai b0 b1 b2 b3 b4 b5 hc) w⟩
    · skip
      have Hs0 := sh_as a0 a1 a2 a3 a4 a5 hv
      have Hi0 := sh_ai a0 a1 a2 a3 a4 a5 hv
      have Hs1 := sh_as b0 b1 b2 b3 b4 b5 hc
      have Hi1 := sh_ai b0 b1 b2 b3 b4 b5 hc
      obtain ⟨s, rfl, rfl, rfl, rfl, rfl, rfl⟩ := sheet_bits a0 a1 a2 a3 a4 a5 hv
      obtain ⟨p, rfl, rfl, rfl, rfl, rfl, rfl⟩ := sheet_bits b0 b1 b2 b3 b4 b5 hc
      obtain ⟨N, h1, h2, h3⟩ := first13 (fun n => fl5 (spn5 s p n))
      exact ⟨_, _, fun w => stf_yes s p N h1 h2 h3 Hs0 Hs1 w, fun w => itf_yes s p N h1 h2 h3 Hi0 Hi1 w⟩
theorem left_pair (a0 a1 a2 a3 a4 a5 : Int) (b0 b1 b2 b3 b4 b5 : Int) : ∃ (n r0 r1 r2 r3 r4 r5 : Int) (t : Bool), (∀ w, Calls Try.prog 45 #[.agg #[.int .i64 a0, .int .i64 a1, .int .i64 a2, .int .i64 a3, .int .i64 a4, .int .i64 a5], .agg #[.int .i64 b0, .int .i64 b1, .int .i64 b2, .int .i64 b3, .int .i64 b4, .int .i64 b5]] w fun e w' => e = .returned (.tuple #[.int .i64 n, .agg #[.int .i64 r0, .int .i64 r1, .int .i64 r2, .int .i64 r3, .int .i64 r4, .int .i64 r5], .bool t]) ∧ Below w.heap.size w w') ∧ (∀ w, Calls Try.prog 46 #[.agg #[.int .i64 a0, .int .i64 a1, .int .i64 a2, .int .i64 a3, .int .i64 a4, .int .i64 a5], .agg #[.int .i64 b0, .int .i64 b1, .int .i64 b2, .int .i64 b3, .int .i64 b4, .int .i64 b5]] w fun e w' => e = .returned (.tuple #[.int .i64 n, .agg #[.int .i64 r0, .int .i64 r1, .int .i64 r2, .int .i64 r3, .int .i64 r4, .int .i64 r5], .bool t]) ∧ Below w.heap.size w w') := by
  cases hv : (ok a0 && ok a1 && ok a2 && ok a3 && ok a4 && ok a5)
  · exact ⟨0, 0, 0, 0, 0, 0, 0, false, fun w => ssl_no0 a0 a1 a2 a3 a4 a5 b0 b1 b2 b3 b4 b5 (sh_as a0 a1 a2 a3 a4 a5 hv) w, fun w => isl_no0 a0 a1 a2 a3 a4 a5 b0 b1 b2 b3 b4 b5 (sh_ai a0 a1 a2 a3 a4 a5 hv) w⟩
  · cases hc : (ok b0 && ok b1 && ok b2 && ok b3 && ok b4 && ok b5)
    · exact ⟨0, 0, 0, 0, 0, 0, 0, false, fun w => ssl_no1 a0 a1 a2 a3 a4 a5 b0 b1 b2 b3 b4 b5 (sh_as a0 a1 a2 a3 a4 a5 hv) (sh_as b0 b1 b2 b3 b4 b5 hc) w, fun w => isl_no1 a0 a1 a2 a3 a4 a5 b0 b1 b2 b3 b4 b5 (sh_ai a0 a1 a2 a3 a4 a5 hv) (sh_ai b0 b1 b2 b3 b4 b5 hc) w⟩
    · skip
      have Hs0 := sh_as a0 a1 a2 a3 a4 a5 hv
      have Hi0 := sh_ai a0 a1 a2 a3 a4 a5 hv
      have Hs1 := sh_as b0 b1 b2 b3 b4 b5 hc
      have Hi1 := sh_ai b0 b1 b2 b3 b4 b5 hc
      obtain ⟨s, rfl, rfl, rfl, rfl, rfl, rfl⟩ := sheet_bits a0 a1 a2 a3 a4 a5 hv
      obtain ⟨p, rfl, rfl, rfl, rfl, rfl, rfl⟩ := sheet_bits b0 b1 b2 b3 b4 b5 hc
      obtain ⟨N, hN⟩ := lft5_ex s p
      exact ⟨_, _, _, _, _, _, _, true, fun w => ssl_yes s p N hN Hs0 Hs1 w, fun w => isl_yes s p N hN Hi0 Hi1 w⟩
theorem hit_pair (a0 a1 a2 a3 a4 a5 : Int) (b0 b1 b2 b3 b4 b5 : Int) (d0 d1 d2 d3 d4 d5 : Int) : ∃ (r0 r1 r2 r3 r4 r5 : Int) (t : Bool), (∀ w, Calls Try.prog 39 #[.agg #[.int .i64 a0, .int .i64 a1, .int .i64 a2, .int .i64 a3, .int .i64 a4, .int .i64 a5], .agg #[.int .i64 b0, .int .i64 b1, .int .i64 b2, .int .i64 b3, .int .i64 b4, .int .i64 b5], .agg #[.int .i64 d0, .int .i64 d1, .int .i64 d2, .int .i64 d3, .int .i64 d4, .int .i64 d5]] w fun e w' => e = .returned (.tuple #[.agg #[.int .i64 r0, .int .i64 r1, .int .i64 r2, .int .i64 r3, .int .i64 r4, .int .i64 r5], .bool t]) ∧ Below w.heap.size w w') ∧ (∀ w, Calls Try.prog 40 #[.agg #[.int .i64 a0, .int .i64 a1, .int .i64 a2, .int .i64 a3, .int .i64 a4, .int .i64 a5], .agg #[.int .i64 b0, .int .i64 b1, .int .i64 b2, .int .i64 b3, .int .i64 b4, .int .i64 b5], .agg #[.int .i64 d0, .int .i64 d1, .int .i64 d2, .int .i64 d3, .int .i64 d4, .int .i64 d5]] w fun e w' => e = .returned (.tuple #[.agg #[.int .i64 r0, .int .i64 r1, .int .i64 r2, .int .i64 r3, .int .i64 r4, .int .i64 r5], .bool t]) ∧ Below w.heap.size w w') := by
  cases hv : (ok a0 && ok a1 && ok a2 && ok a3 && ok a4 && ok a5)
  · exact ⟨0, 0, 0, 0, 0, 0, false, fun w => shi_no0 a0 a1 a2 a3 a4 a5 b0 b1 b2 b3 b4 b5 d0 d1 d2 d3 d4 d5 (sh_as a0 a1 a2 a3 a4 a5 hv) w, fun w => ihi_no0 a0 a1 a2 a3 a4 a5 b0 b1 b2 b3 b4 b5 d0 d1 d2 d3 d4 d5 (sh_ai a0 a1 a2 a3 a4 a5 hv) w⟩
  · cases hc : (ok b0 && ok b1 && ok b2 && ok b3 && ok b4 && ok b5)
    · exact ⟨0, 0, 0, 0, 0, 0, false, fun w => shi_no1 a0 a1 a2 a3 a4 a5 b0 b1 b2 b3 b4 b5 d0 d1 d2 d3 d4 d5 (sh_as a0 a1 a2 a3 a4 a5 hv) (sh_as b0 b1 b2 b3 b4 b5 hc) w, fun w => ihi_no1 a0 a1 a2 a3 a4 a5 b0 b1 b2 b3 b4 b5 d0 d1 d2 d3 d4 d5 (sh_ai a0 a1 a2 a3 a4 a5 hv) (sh_ai b0 b1 b2 b3 b4 b5 hc) w⟩
    · cases hd : (ok d0 && ok d1 && ok d2 && ok d3 && ok d4 && ok d5)
      · exact ⟨0, 0, 0, 0, 0, 0, false, fun w => shi_no2 a0 a1 a2 a3 a4 a5 b0 b1 b2 b3 b4 b5 d0 d1 d2 d3 d4 d5 (sh_as a0 a1 a2 a3 a4 a5 hv) (sh_as b0 b1 b2 b3 b4 b5 hc) (sh_as d0 d1 d2 d3 d4 d5 hd) w, fun w => ihi_no2 a0 a1 a2 a3 a4 a5 b0 b1 b2 b3 b4 b5 d0 d1 d2 d3 d4 d5 (sh_ai a0 a1 a2 a3 a4 a5 hv) (sh_ai b0 b1 b2 b3 b4 b5 hc) (sh_ai d0 d1 d2 d3 d4 d5 hd) w⟩
      · skip
        have Hs0 := sh_as a0 a1 a2 a3 a4 a5 hv
        have Hi0 := sh_ai a0 a1 a2 a3 a4 a5 hv
        have Hs1 := sh_as b0 b1 b2 b3 b4 b5 hc
        have Hi1 := sh_ai b0 b1 b2 b3 b4 b5 hc
        have Hs2 := sh_as d0 d1 d2 d3 d4 d5 hd
        have Hi2 := sh_ai d0 d1 d2 d3 d4 d5 hd
        obtain ⟨s, rfl, rfl, rfl, rfl, rfl, rfl⟩ := sheet_bits a0 a1 a2 a3 a4 a5 hv
        obtain ⟨p, rfl, rfl, rfl, rfl, rfl, rfl⟩ := sheet_bits b0 b1 b2 b3 b4 b5 hc
        obtain ⟨q, rfl, rfl, rfl, rfl, rfl, rfl⟩ := sheet_bits d0 d1 d2 d3 d4 d5 hd
        exact ⟨_, _, _, _, _, _, true, fun w => shi_yes s p q Hs0 Hs1 Hs2 w, fun w => ihi_yes s p q Hi0 Hi1 Hi2 w⟩
end Go.Proofs.Ytjhokdccgachcaa
