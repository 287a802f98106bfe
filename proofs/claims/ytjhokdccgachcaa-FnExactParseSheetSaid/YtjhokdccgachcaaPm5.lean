/- THE PAIRS: SpreadSheet, ShrinkSheet, OpenSheet, CloseSheet, SumStamp, the edges, IsOpened, IsClosed. -/
import Derived.Test.YtjhokdccgachcaaPb
import Derived.Test.YtjhokdccgachcaaWm5
import Derived.Test.YtjhokdccgachcaaOm5
import Derived.Test.YtjhokdccgachcaaBw5
import Derived.Test.YtjhokdccgachcaaFs
import Derived.WalkKit
import Derived.ProofKit
import Derived.OpenShut
import Derived.Lib.Hide
import Derived.WalkSpells
import Derived.Below
import Derived.BigQuiet
import Derived.LoopN
namespace Go.Proofs.Ytjhokdccgachcaa
open Go.ChangeShapes Go.WideShapes Go.ChangeAt Go.RowKit
set_option linter.unusedVariables false
theorem fv_cells (T : List Bool) (w : World) (g : Nat) (hg : w.heap[g]? = some (.cells (T.map fv5).toArray 86 (0, 0))) : ∀ (i : Nat) (h : i < T.length), w.cell? ⟨g, i, none⟩ = some (fv5 T[i]) := by
  intro i h
  have e := cell_of_row w g i _ _ _ hg
  rw [e]
  simp [h]
theorem be_f (s p : Fn6) : be5 [false] s p = spd s p := by simp [be5, st5]
theorem be_t (s p : Fn6) : be5 [true] s p = shr s p := by simp [be5, st5]
theorem be_tf (s p : Fn6) : be5 [true, false] s p = spd (shr s p) p := by simp [be5, st5]
theorem be_ft (s p : Fn6) : be5 [false, true] s p = shr (spd s p) p := by simp [be5, st5]
/-- As behind_f, with equations for what the walk has. -/
theorem behind_g (T : List Bool) (n : Nat) (hn : T.length = n) (h12 : n ≤ 12) (cs : Array Value) (hcs : cs = (T.map fv5).toArray) (F s p : Fn6) (hF : be5 T s p = F) (w : World) (g : Nat) (hg : w.heap[g]? = some (.cells cs 86 (0, 0))) : Calls Try.prog 94 #[.agg #[.int .i64 (rowv (s 0)), .int .i64 (rowv (s 1)), .int .i64 (rowv (s 2)), .int .i64 (rowv (s 3)), .int .i64 (rowv (s 4)), .int .i64 (rowv (s 5))], .agg #[.int .i64 (rowv (p 0)), .int .i64 (rowv (p 1)), .int .i64 (rowv (p 2)), .int .i64 (rowv (p 3)), .int .i64 (rowv (p 4)), .int .i64 (rowv (p 5))], .slice (some ⟨g, 0, none⟩) n n] w fun e w' => e = .returned (.tuple #[.agg #[.int .i64 (rowv (F 0)), .int .i64 (rowv (F 1)), .int .i64 (rowv (F 2)), .int .i64 (rowv (F 3)), .int .i64 (rowv (F 4)), .int .i64 (rowv (F 5))], .bool true]) ∧ Below w.heap.size w w' := by
  subst hn
  subst hcs
  subst hF
  exact behind_f T h12 s p g _ w (row_lt hg) (fv_cells T w g hg) (sh_ai (rowv (s 0)) (rowv (s 1)) (rowv (s 2)) (rowv (s 3)) (rowv (s 4)) (rowv (s 5)) (sh_of s)) (sh_ai (rowv (p 0)) (rowv (p 1)) (rowv (p 2)) (rowv (p 3)) (rowv (p 4)) (rowv (p 5)) (sh_of p))
theorem spread_pair (a0 a1 a2 a3 a4 a5 : Int) (b0 b1 b2 b3 b4 b5 : Int) : ∃ (r0 r1 r2 r3 r4 r5 : Int) (t : Bool), (∀ w, Calls Try.prog 23 #[.agg #[.int .i64 a0, .int .i64 a1, .int .i64 a2, .int .i64 a3, .int .i64 a4, .int .i64 a5], .agg #[.int .i64 b0, .int .i64 b1, .int .i64 b2, .int .i64 b3, .int .i64 b4, .int .i64 b5]] w fun e w' => e = .returned (.tuple #[.agg #[.int .i64 r0, .int .i64 r1, .int .i64 r2, .int .i64 r3, .int .i64 r4, .int .i64 r5], .bool t]) ∧ Below w.heap.size w w') ∧ (∀ w, Calls Try.prog 25 #[.agg #[.int .i64 a0, .int .i64 a1, .int .i64 a2, .int .i64 a3, .int .i64 a4, .int .i64 a5], .agg #[.int .i64 b0, .int .i64 b1, .int .i64 b2, .int .i64 b3, .int .i64 b4, .int .i64 b5]] w fun e w' => e = .returned (.tuple #[.agg #[.int .i64 r0, .int .i64 r1, .int .i64 r2, .int .i64 r3, .int .i64 r4, .int .i64 r5], .bool t]) ∧ Below w.heap.size w w') := by
  cases hv : (ok a0 && ok a1 && ok a2 && ok a3 && ok a4 && ok a5)
  · exact ⟨0, 0, 0, 0, 0, 0, false, fun w => ssp_no0 a0 a1 a2 a3 a4 a5 b0 b1 b2 b3 b4 b5 (sh_as a0 a1 a2 a3 a4 a5 hv) w, fun w => ispr_any a0 a1 a2 a3 a4 a5 b0 b1 b2 b3 b4 b5 0 0 0 0 0 0 false (Lib.hid fun w g _ => behind_no0 a0 a1 a2 a3 a4 a5 b0 b1 b2 b3 b4 b5 _ (sh_ai a0 a1 a2 a3 a4 a5 hv) w) w⟩
  · cases hc : (ok b0 && ok b1 && ok b2 && ok b3 && ok b4 && ok b5)
    · exact ⟨0, 0, 0, 0, 0, 0, false, fun w => ssp_no1 a0 a1 a2 a3 a4 a5 b0 b1 b2 b3 b4 b5 (sh_as a0 a1 a2 a3 a4 a5 hv) (sh_as b0 b1 b2 b3 b4 b5 hc) w, fun w => ispr_any a0 a1 a2 a3 a4 a5 b0 b1 b2 b3 b4 b5 0 0 0 0 0 0 false (Lib.hid fun w g _ => behind_no1 a0 a1 a2 a3 a4 a5 b0 b1 b2 b3 b4 b5 _ (sh_ai a0 a1 a2 a3 a4 a5 hv) (sh_ai b0 b1 b2 b3 b4 b5 hc) w) w⟩
    · skip
      have Hs := sh_as a0 a1 a2 a3 a4 a5 hv
      have Hi := sh_ai a0 a1 a2 a3 a4 a5 hv
      have Ks := sh_as b0 b1 b2 b3 b4 b5 hc
      have Ki := sh_ai b0 b1 b2 b3 b4 b5 hc
      obtain ⟨s, rfl, rfl, rfl, rfl, rfl, rfl⟩ := sheet_bits a0 a1 a2 a3 a4 a5 hv
      obtain ⟨p, rfl, rfl, rfl, rfl, rfl, rfl⟩ := sheet_bits b0 b1 b2 b3 b4 b5 hc
      exact ⟨_, _, _, _, _, _, true, fun w => ssp_yes (rowv (s 0)) (rowv (s 1)) (rowv (s 2)) (rowv (s 3)) (rowv (s 4)) (rowv (s 5)) (rowv (p 0)) (rowv (p 1)) (rowv (p 2)) (rowv (p 3)) (rowv (p 4)) (rowv (p 5)) _ _ _ _ _ _ Hs Ks (Lib.hid (lspread_f s p)) w, fun w => ispr_any (rowv (s 0)) (rowv (s 1)) (rowv (s 2)) (rowv (s 3)) (rowv (s 4)) (rowv (s 5)) (rowv (p 0)) (rowv (p 1)) (rowv (p 2)) (rowv (p 3)) (rowv (p 4)) (rowv (p 5)) _ _ _ _ _ _ true (Lib.hid fun w g hg => behind_g [false] 1 rfl (by decide) _ rfl _ s p (be_f s p) w g hg) w⟩
theorem shrink_pair (a0 a1 a2 a3 a4 a5 : Int) (b0 b1 b2 b3 b4 b5 : Int) : ∃ (r0 r1 r2 r3 r4 r5 : Int) (t : Bool), (∀ w, Calls Try.prog 27 #[.agg #[.int .i64 a0, .int .i64 a1, .int .i64 a2, .int .i64 a3, .int .i64 a4, .int .i64 a5], .agg #[.int .i64 b0, .int .i64 b1, .int .i64 b2, .int .i64 b3, .int .i64 b4, .int .i64 b5]] w fun e w' => e = .returned (.tuple #[.agg #[.int .i64 r0, .int .i64 r1, .int .i64 r2, .int .i64 r3, .int .i64 r4, .int .i64 r5], .bool t]) ∧ Below w.heap.size w w') ∧ (∀ w, Calls Try.prog 28 #[.agg #[.int .i64 a0, .int .i64 a1, .int .i64 a2, .int .i64 a3, .int .i64 a4, .int .i64 a5], .agg #[.int .i64 b0, .int .i64 b1, .int .i64 b2, .int .i64 b3, .int .i64 b4, .int .i64 b5]] w fun e w' => e = .returned (.tuple #[.agg #[.int .i64 r0, .int .i64 r1, .int .i64 r2, .int .i64 r3, .int .i64 r4, .int .i64 r5], .bool t]) ∧ Below w.heap.size w w') := by
  cases hv : (ok a0 && ok a1 && ok a2 && ok a3 && ok a4 && ok a5)
  · exact ⟨0, 0, 0, 0, 0, 0, false, fun w => ssh_no0 a0 a1 a2 a3 a4 a5 b0 b1 b2 b3 b4 b5 (sh_as a0 a1 a2 a3 a4 a5 hv) w, fun w => ishr_any a0 a1 a2 a3 a4 a5 b0 b1 b2 b3 b4 b5 0 0 0 0 0 0 false (Lib.hid fun w g _ => behind_no0 a0 a1 a2 a3 a4 a5 b0 b1 b2 b3 b4 b5 _ (sh_ai a0 a1 a2 a3 a4 a5 hv) w) w⟩
  · cases hc : (ok b0 && ok b1 && ok b2 && ok b3 && ok b4 && ok b5)
    · exact ⟨0, 0, 0, 0, 0, 0, false, fun w => ssh_no1 a0 a1 a2 a3 a4 a5 b0 b1 b2 b3 b4 b5 (sh_as a0 a1 a2 a3 a4 a5 hv) (sh_as b0 b1 b2 b3 b4 b5 hc) w, fun w => ishr_any a0 a1 a2 a3 a4 a5 b0 b1 b2 b3 b4 b5 0 0 0 0 0 0 false (Lib.hid fun w g _ => behind_no1 a0 a1 a2 a3 a4 a5 b0 b1 b2 b3 b4 b5 _ (sh_ai a0 a1 a2 a3 a4 a5 hv) (sh_ai b0 b1 b2 b3 b4 b5 hc) w) w⟩
    · skip
      have Hs := sh_as a0 a1 a2 a3 a4 a5 hv
      have Hi := sh_ai a0 a1 a2 a3 a4 a5 hv
      have Ks := sh_as b0 b1 b2 b3 b4 b5 hc
      have Ki := sh_ai b0 b1 b2 b3 b4 b5 hc
      obtain ⟨s, rfl, rfl, rfl, rfl, rfl, rfl⟩ := sheet_bits a0 a1 a2 a3 a4 a5 hv
      obtain ⟨p, rfl, rfl, rfl, rfl, rfl, rfl⟩ := sheet_bits b0 b1 b2 b3 b4 b5 hc
      exact ⟨_, _, _, _, _, _, true, fun w => ssh_yes (rowv (s 0)) (rowv (s 1)) (rowv (s 2)) (rowv (s 3)) (rowv (s 4)) (rowv (s 5)) (rowv (p 0)) (rowv (p 1)) (rowv (p 2)) (rowv (p 3)) (rowv (p 4)) (rowv (p 5)) _ _ _ _ _ _ Hs Ks (Lib.hid (lshrink_f s p)) w, fun w => ishr_any (rowv (s 0)) (rowv (s 1)) (rowv (s 2)) (rowv (s 3)) (rowv (s 4)) (rowv (s 5)) (rowv (p 0)) (rowv (p 1)) (rowv (p 2)) (rowv (p 3)) (rowv (p 4)) (rowv (p 5)) _ _ _ _ _ _ true (Lib.hid fun w g hg => behind_g [true] 1 rfl (by decide) _ rfl _ s p (be_t s p) w g hg) w⟩
theorem open_pair (a0 a1 a2 a3 a4 a5 : Int) (b0 b1 b2 b3 b4 b5 : Int) : ∃ (r0 r1 r2 r3 r4 r5 : Int) (t : Bool), (∀ w, Calls Try.prog 29 #[.agg #[.int .i64 a0, .int .i64 a1, .int .i64 a2, .int .i64 a3, .int .i64 a4, .int .i64 a5], .agg #[.int .i64 b0, .int .i64 b1, .int .i64 b2, .int .i64 b3, .int .i64 b4, .int .i64 b5]] w fun e w' => e = .returned (.tuple #[.agg #[.int .i64 r0, .int .i64 r1, .int .i64 r2, .int .i64 r3, .int .i64 r4, .int .i64 r5], .bool t]) ∧ Below w.heap.size w w') ∧ (∀ w, Calls Try.prog 30 #[.agg #[.int .i64 a0, .int .i64 a1, .int .i64 a2, .int .i64 a3, .int .i64 a4, .int .i64 a5], .agg #[.int .i64 b0, .int .i64 b1, .int .i64 b2, .int .i64 b3, .int .i64 b4, .int .i64 b5]] w fun e w' => e = .returned (.tuple #[.agg #[.int .i64 r0, .int .i64 r1, .int .i64 r2, .int .i64 r3, .int .i64 r4, .int .i64 r5], .bool t]) ∧ Below w.heap.size w w') := by
  cases hv : (ok a0 && ok a1 && ok a2 && ok a3 && ok a4 && ok a5)
  · exact ⟨0, 0, 0, 0, 0, 0, false, fun w => sop_no0 a0 a1 a2 a3 a4 a5 b0 b1 b2 b3 b4 b5 (sh_as a0 a1 a2 a3 a4 a5 hv) w, fun w => iope_any a0 a1 a2 a3 a4 a5 b0 b1 b2 b3 b4 b5 0 0 0 0 0 0 false (Lib.hid fun w g _ => behind_no0 a0 a1 a2 a3 a4 a5 b0 b1 b2 b3 b4 b5 _ (sh_ai a0 a1 a2 a3 a4 a5 hv) w) w⟩
  · cases hc : (ok b0 && ok b1 && ok b2 && ok b3 && ok b4 && ok b5)
    · exact ⟨0, 0, 0, 0, 0, 0, false, fun w => sop_no1 a0 a1 a2 a3 a4 a5 b0 b1 b2 b3 b4 b5 (sh_as a0 a1 a2 a3 a4 a5 hv) (sh_as b0 b1 b2 b3 b4 b5 hc) w, fun w => iope_any a0 a1 a2 a3 a4 a5 b0 b1 b2 b3 b4 b5 0 0 0 0 0 0 false (Lib.hid fun w g _ => behind_no1 a0 a1 a2 a3 a4 a5 b0 b1 b2 b3 b4 b5 _ (sh_ai a0 a1 a2 a3 a4 a5 hv) (sh_ai b0 b1 b2 b3 b4 b5 hc) w) w⟩
    · skip
      have Hs := sh_as a0 a1 a2 a3 a4 a5 hv
      have Hi := sh_ai a0 a1 a2 a3 a4 a5 hv
      have Ks := sh_as b0 b1 b2 b3 b4 b5 hc
      have Ki := sh_ai b0 b1 b2 b3 b4 b5 hc
      obtain ⟨s, rfl, rfl, rfl, rfl, rfl, rfl⟩ := sheet_bits a0 a1 a2 a3 a4 a5 hv
      obtain ⟨p, rfl, rfl, rfl, rfl, rfl, rfl⟩ := sheet_bits b0 b1 b2 b3 b4 b5 hc
      exact ⟨_, _, _, _, _, _, true, fun w => sop_yes (rowv (s 0)) (rowv (s 1)) (rowv (s 2)) (rowv (s 3)) (rowv (s 4)) (rowv (s 5)) (rowv (p 0)) (rowv (p 1)) (rowv (p 2)) (rowv (p 3)) (rowv (p 4)) (rowv (p 5)) _ _ _ _ _ _ Hs Ks (Lib.hid (lopen_f s p)) w, fun w => iope_any (rowv (s 0)) (rowv (s 1)) (rowv (s 2)) (rowv (s 3)) (rowv (s 4)) (rowv (s 5)) (rowv (p 0)) (rowv (p 1)) (rowv (p 2)) (rowv (p 3)) (rowv (p 4)) (rowv (p 5)) _ _ _ _ _ _ true (Lib.hid fun w g hg => behind_g [true, false] 2 rfl (by decide) _ rfl _ s p (be_tf s p) w g hg) w⟩
theorem close_pair (a0 a1 a2 a3 a4 a5 : Int) (b0 b1 b2 b3 b4 b5 : Int) : ∃ (r0 r1 r2 r3 r4 r5 : Int) (t : Bool), (∀ w, Calls Try.prog 31 #[.agg #[.int .i64 a0, .int .i64 a1, .int .i64 a2, .int .i64 a3, .int .i64 a4, .int .i64 a5], .agg #[.int .i64 b0, .int .i64 b1, .int .i64 b2, .int .i64 b3, .int .i64 b4, .int .i64 b5]] w fun e w' => e = .returned (.tuple #[.agg #[.int .i64 r0, .int .i64 r1, .int .i64 r2, .int .i64 r3, .int .i64 r4, .int .i64 r5], .bool t]) ∧ Below w.heap.size w w') ∧ (∀ w, Calls Try.prog 32 #[.agg #[.int .i64 a0, .int .i64 a1, .int .i64 a2, .int .i64 a3, .int .i64 a4, .int .i64 a5], .agg #[.int .i64 b0, .int .i64 b1, .int .i64 b2, .int .i64 b3, .int .i64 b4, .int .i64 b5]] w fun e w' => e = .returned (.tuple #[.agg #[.int .i64 r0, .int .i64 r1, .int .i64 r2, .int .i64 r3, .int .i64 r4, .int .i64 r5], .bool t]) ∧ Below w.heap.size w w') := by
  cases hv : (ok a0 && ok a1 && ok a2 && ok a3 && ok a4 && ok a5)
  · exact ⟨0, 0, 0, 0, 0, 0, false, fun w => scl_no0 a0 a1 a2 a3 a4 a5 b0 b1 b2 b3 b4 b5 (sh_as a0 a1 a2 a3 a4 a5 hv) w, fun w => iclo_any a0 a1 a2 a3 a4 a5 b0 b1 b2 b3 b4 b5 0 0 0 0 0 0 false (Lib.hid fun w g _ => behind_no0 a0 a1 a2 a3 a4 a5 b0 b1 b2 b3 b4 b5 _ (sh_ai a0 a1 a2 a3 a4 a5 hv) w) w⟩
  · cases hc : (ok b0 && ok b1 && ok b2 && ok b3 && ok b4 && ok b5)
    · exact ⟨0, 0, 0, 0, 0, 0, false, fun w => scl_no1 a0 a1 a2 a3 a4 a5 b0 b1 b2 b3 b4 b5 (sh_as a0 a1 a2 a3 a4 a5 hv) (sh_as b0 b1 b2 b3 b4 b5 hc) w, fun w => iclo_any a0 a1 a2 a3 a4 a5 b0 b1 b2 b3 b4 b5 0 0 0 0 0 0 false (Lib.hid fun w g _ => behind_no1 a0 a1 a2 a3 a4 a5 b0 b1 b2 b3 b4 b5 _ (sh_ai a0 a1 a2 a3 a4 a5 hv) (sh_ai b0 b1 b2 b3 b4 b5 hc) w) w⟩
    · skip
      have Hs := sh_as a0 a1 a2 a3 a4 a5 hv
      have Hi := sh_ai a0 a1 a2 a3 a4 a5 hv
      have Ks := sh_as b0 b1 b2 b3 b4 b5 hc
      have Ki := sh_ai b0 b1 b2 b3 b4 b5 hc
      obtain ⟨s, rfl, rfl, rfl, rfl, rfl, rfl⟩ := sheet_bits a0 a1 a2 a3 a4 a5 hv
      obtain ⟨p, rfl, rfl, rfl, rfl, rfl, rfl⟩ := sheet_bits b0 b1 b2 b3 b4 b5 hc
      exact ⟨_, _, _, _, _, _, true, fun w => scl_yes (rowv (s 0)) (rowv (s 1)) (rowv (s 2)) (rowv (s 3)) (rowv (s 4)) (rowv (s 5)) (rowv (p 0)) (rowv (p 1)) (rowv (p 2)) (rowv (p 3)) (rowv (p 4)) (rowv (p 5)) _ _ _ _ _ _ Hs Ks (Lib.hid (lclose_f s p)) w, fun w => iclo_any (rowv (s 0)) (rowv (s 1)) (rowv (s 2)) (rowv (s 3)) (rowv (s 4)) (rowv (s 5)) (rowv (p 0)) (rowv (p 1)) (rowv (p 2)) (rowv (p 3)) (rowv (p 4)) (rowv (p 5)) _ _ _ _ _ _ true (Lib.hid fun w g hg => behind_g [false, true] 2 rfl (by decide) _ rfl _ s p (be_ft s p) w g hg) w⟩
theorem ispread_c (s p : Fn6) (w : World) : Calls Try.prog 25 #[.agg #[.int .i64 (rowv (s 0)), .int .i64 (rowv (s 1)), .int .i64 (rowv (s 2)), .int .i64 (rowv (s 3)), .int .i64 (rowv (s 4)), .int .i64 (rowv (s 5))], .agg #[.int .i64 (rowv (p 0)), .int .i64 (rowv (p 1)), .int .i64 (rowv (p 2)), .int .i64 (rowv (p 3)), .int .i64 (rowv (p 4)), .int .i64 (rowv (p 5))]] w fun e w' => e = .returned (.tuple #[.agg #[.int .i64 (rowv (spd s p 0)), .int .i64 (rowv (spd s p 1)), .int .i64 (rowv (spd s p 2)), .int .i64 (rowv (spd s p 3)), .int .i64 (rowv (spd s p 4)), .int .i64 (rowv (spd s p 5))], .bool true]) ∧ Below w.heap.size w w' :=
  ispr_any (rowv (s 0)) (rowv (s 1)) (rowv (s 2)) (rowv (s 3)) (rowv (s 4)) (rowv (s 5)) (rowv (p 0)) (rowv (p 1)) (rowv (p 2)) (rowv (p 3)) (rowv (p 4)) (rowv (p 5)) _ _ _ _ _ _ true (Lib.hid fun w g hg => behind_g [false] 1 rfl (by decide) _ rfl (spd s p) s p (be_f s p) w g hg) w
theorem ishrink_c (s p : Fn6) (w : World) : Calls Try.prog 28 #[.agg #[.int .i64 (rowv (s 0)), .int .i64 (rowv (s 1)), .int .i64 (rowv (s 2)), .int .i64 (rowv (s 3)), .int .i64 (rowv (s 4)), .int .i64 (rowv (s 5))], .agg #[.int .i64 (rowv (p 0)), .int .i64 (rowv (p 1)), .int .i64 (rowv (p 2)), .int .i64 (rowv (p 3)), .int .i64 (rowv (p 4)), .int .i64 (rowv (p 5))]] w fun e w' => e = .returned (.tuple #[.agg #[.int .i64 (rowv (shr s p 0)), .int .i64 (rowv (shr s p 1)), .int .i64 (rowv (shr s p 2)), .int .i64 (rowv (shr s p 3)), .int .i64 (rowv (shr s p 4)), .int .i64 (rowv (shr s p 5))], .bool true]) ∧ Below w.heap.size w w' :=
  ishr_any (rowv (s 0)) (rowv (s 1)) (rowv (s 2)) (rowv (s 3)) (rowv (s 4)) (rowv (s 5)) (rowv (p 0)) (rowv (p 1)) (rowv (p 2)) (rowv (p 3)) (rowv (p 4)) (rowv (p 5)) _ _ _ _ _ _ true (Lib.hid fun w g hg => behind_g [true] 1 rfl (by decide) _ rfl (shr s p) s p (be_t s p) w g hg) w
theorem iopen_c (s p : Fn6) (w : World) : Calls Try.prog 30 #[.agg #[.int .i64 (rowv (s 0)), .int .i64 (rowv (s 1)), .int .i64 (rowv (s 2)), .int .i64 (rowv (s 3)), .int .i64 (rowv (s 4)), .int .i64 (rowv (s 5))], .agg #[.int .i64 (rowv (p 0)), .int .i64 (rowv (p 1)), .int .i64 (rowv (p 2)), .int .i64 (rowv (p 3)), .int .i64 (rowv (p 4)), .int .i64 (rowv (p 5))]] w fun e w' => e = .returned (.tuple #[.agg #[.int .i64 (rowv (spd (shr s p) p 0)), .int .i64 (rowv (spd (shr s p) p 1)), .int .i64 (rowv (spd (shr s p) p 2)), .int .i64 (rowv (spd (shr s p) p 3)), .int .i64 (rowv (spd (shr s p) p 4)), .int .i64 (rowv (spd (shr s p) p 5))], .bool true]) ∧ Below w.heap.size w w' :=
  iope_any (rowv (s 0)) (rowv (s 1)) (rowv (s 2)) (rowv (s 3)) (rowv (s 4)) (rowv (s 5)) (rowv (p 0)) (rowv (p 1)) (rowv (p 2)) (rowv (p 3)) (rowv (p 4)) (rowv (p 5)) _ _ _ _ _ _ true (Lib.hid fun w g hg => behind_g [true, false] 2 rfl (by decide) _ rfl (spd (shr s p) p) s p (be_tf s p) w g hg) w
theorem iclose_c (s p : Fn6) (w : World) : Calls Try.prog 32 #[.agg #[.int .i64 (rowv (s 0)), .int .i64 (rowv (s 1)), .int .i64 (rowv (s 2)), .int .i64 (rowv (s 3)), .int .i64 (rowv (s 4)), .int .i64 (rowv (s 5))], .agg #[.int .i64 (rowv (p 0)), .int .i64 (rowv (p 1)), .int .i64 (rowv (p 2)), .int .i64 (rowv (p 3)), .int .i64 (rowv (p 4)), .int .i64 (rowv (p 5))]] w fun e w' => e = .returned (.tuple #[.agg #[.int .i64 (rowv (shr (spd s p) p 0)), .int .i64 (rowv (shr (spd s p) p 1)), .int .i64 (rowv (shr (spd s p) p 2)), .int .i64 (rowv (shr (spd s p) p 3)), .int .i64 (rowv (shr (spd s p) p 4)), .int .i64 (rowv (shr (spd s p) p 5))], .bool true]) ∧ Below w.heap.size w w' :=
  iclo_any (rowv (s 0)) (rowv (s 1)) (rowv (s 2)) (rowv (s 3)) (rowv (s 4)) (rowv (s 5)) (rowv (p 0)) (rowv (p 1)) (rowv (p 2)) (rowv (p 3)) (rowv (p 4)) (rowv (p 5)) _ _ _ _ _ _ true (Lib.hid fun w g hg => behind_g [false, true] 2 rfl (by decide) _ rfl (shr (spd s p) p) s p (be_ft s p) w g hg) w
theorem ispread_n0 (a0 a1 a2 a3 a4 a5 : Int) (b0 b1 b2 b3 b4 b5 : Int) (hv : (ok a0 && ok a1 && ok a2 && ok a3 && ok a4 && ok a5) = false) (w : World) : Calls Try.prog 25 #[.agg #[.int .i64 a0, .int .i64 a1, .int .i64 a2, .int .i64 a3, .int .i64 a4, .int .i64 a5], .agg #[.int .i64 b0, .int .i64 b1, .int .i64 b2, .int .i64 b3, .int .i64 b4, .int .i64 b5]] w fun e w' => e = .returned (.tuple #[.agg #[.int .i64 0, .int .i64 0, .int .i64 0, .int .i64 0, .int .i64 0, .int .i64 0], .bool false]) ∧ Below w.heap.size w w' := ispr_any a0 a1 a2 a3 a4 a5 b0 b1 b2 b3 b4 b5 0 0 0 0 0 0 false (Lib.hid fun w g _ => behind_no0 a0 a1 a2 a3 a4 a5 b0 b1 b2 b3 b4 b5 _ (sh_ai a0 a1 a2 a3 a4 a5 hv) w) w
theorem ispread_n1 (a0 a1 a2 a3 a4 a5 : Int) (b0 b1 b2 b3 b4 b5 : Int) (hv : (ok a0 && ok a1 && ok a2 && ok a3 && ok a4 && ok a5) = true) (hc : (ok b0 && ok b1 && ok b2 && ok b3 && ok b4 && ok b5) = false) (w : World) : Calls Try.prog 25 #[.agg #[.int .i64 a0, .int .i64 a1, .int .i64 a2, .int .i64 a3, .int .i64 a4, .int .i64 a5], .agg #[.int .i64 b0, .int .i64 b1, .int .i64 b2, .int .i64 b3, .int .i64 b4, .int .i64 b5]] w fun e w' => e = .returned (.tuple #[.agg #[.int .i64 0, .int .i64 0, .int .i64 0, .int .i64 0, .int .i64 0, .int .i64 0], .bool false]) ∧ Below w.heap.size w w' := ispr_any a0 a1 a2 a3 a4 a5 b0 b1 b2 b3 b4 b5 0 0 0 0 0 0 false (Lib.hid fun w g _ => behind_no1 a0 a1 a2 a3 a4 a5 b0 b1 b2 b3 b4 b5 _ (sh_ai a0 a1 a2 a3 a4 a5 hv) (sh_ai b0 b1 b2 b3 b4 b5 hc) w) w
theorem ishrink_n0 (a0 a1 a2 a3 a4 a5 : Int) (b0 b1 b2 b3 b4 b5 : Int) (hv : (ok a0 && ok a1 && ok a2 && ok a3 && ok a4 && ok a5) = false) (w : World) : Calls Try.prog 28 #[.agg #[.int .i64 a0, .int .i64 a1, .int .i64 a2, .int .i64 a3, .int .i64 a4, .int .i64 a5], .agg #[.int .i64 b0, .int .i64 b1, .int .i64 b2, .int .i64 b3, .int .i64 b4, .int .i64 b5]] w fun e w' => e = .returned (.tuple #[.agg #[.int .i64 0, .int .i64 0, .int .i64 0, .int .i64 0, .int .i64 0, .int .i64 0], .bool false]) ∧ Below w.heap.size w w' := ishr_any a0 a1 a2 a3 a4 a5 b0 b1 b2 b3 b4 b5 0 0 0 0 0 0 false (Lib.hid fun w g _ => behind_no0 a0 a1 a2 a3 a4 a5 b0 b1 b2 b3 b4 b5 _ (sh_ai a0 a1 a2 a3 a4 a5 hv) w) w
theorem ishrink_n1 (a0 a1 a2 a3 a4 a5 : Int) (b0 b1 b2 b3 b4 b5 : Int) (hv : (ok a0 && ok a1 && ok a2 && ok a3 && ok a4 && ok a5) = true) (hc : (ok b0 && ok b1 && ok b2 && ok b3 && ok b4 && ok b5) = false) (w : World) : Calls Try.prog 28 #[.agg #[.int .i64 a0, .int .i64 a1, .int .i64 a2, .int .i64 a3, .int .i64 a4, .int .i64 a5], .agg #[.int .i64 b0, .int .i64 b1, .int .i64 b2, .int .i64 b3, .int .i64 b4, .int .i64 b5]] w fun e w' => e = .returned (.tuple #[.agg #[.int .i64 0, .int .i64 0, .int .i64 0, .int .i64 0, .int .i64 0, .int .i64 0], .bool false]) ∧ Below w.heap.size w w' := ishr_any a0 a1 a2 a3 a4 a5 b0 b1 b2 b3 b4 b5 0 0 0 0 0 0 false (Lib.hid fun w g _ => behind_no1 a0 a1 a2 a3 a4 a5 b0 b1 b2 b3 b4 b5 _ (sh_ai a0 a1 a2 a3 a4 a5 hv) (sh_ai b0 b1 b2 b3 b4 b5 hc) w) w
theorem iopen_n0 (a0 a1 a2 a3 a4 a5 : Int) (b0 b1 b2 b3 b4 b5 : Int) (hv : (ok a0 && ok a1 && ok a2 && ok a3 && ok a4 && ok a5) = false) (w : World) : Calls Try.prog 30 #[.agg #[.int .i64 a0, .int .i64 a1, .int .i64 a2, .int .i64 a3, .int .i64 a4, .int .i64 a5], .agg #[.int .i64 b0, .int .i64 b1, .int .i64 b2, .int .i64 b3, .int .i64 b4, .int .i64 b5]] w fun e w' => e = .returned (.tuple #[.agg #[.int .i64 0, .int .i64 0, .int .i64 0, .int .i64 0, .int .i64 0, .int .i64 0], .bool false]) ∧ Below w.heap.size w w' := iope_any a0 a1 a2 a3 a4 a5 b0 b1 b2 b3 b4 b5 0 0 0 0 0 0 false (Lib.hid fun w g _ => behind_no0 a0 a1 a2 a3 a4 a5 b0 b1 b2 b3 b4 b5 _ (sh_ai a0 a1 a2 a3 a4 a5 hv) w) w
theorem iopen_n1 (a0 a1 a2 a3 a4 a5 : Int) (b0 b1 b2 b3 b4 b5 : Int) (hv : (ok a0 && ok a1 && ok a2 && ok a3 && ok a4 && ok a5) = true) (hc : (ok b0 && ok b1 && ok b2 && ok b3 && ok b4 && ok b5) = false) (w : World) : Calls Try.prog 30 #[.agg #[.int .i64 a0, .int .i64 a1, .int .i64 a2, .int .i64 a3, .int .i64 a4, .int .i64 a5], .agg #[.int .i64 b0, .int .i64 b1, .int .i64 b2, .int .i64 b3, .int .i64 b4, .int .i64 b5]] w fun e w' => e = .returned (.tuple #[.agg #[.int .i64 0, .int .i64 0, .int .i64 0, .int .i64 0, .int .i64 0, .int .i64 0], .bool false]) ∧ Below w.heap.size w w' := iope_any a0 a1 a2 a3 a4 a5 b0 b1 b2 b3 b4 b5 0 0 0 0 0 0 false (Lib.hid fun w g _ => behind_no1 a0 a1 a2 a3 a4 a5 b0 b1 b2 b3 b4 b5 _ (sh_ai a0 a1 a2 a3 a4 a5 hv) (sh_ai b0 b1 b2 b3 b4 b5 hc) w) w
theorem iclose_n0 (a0 a1 a2 a3 a4 a5 : Int) (b0 b1 b2 b3 b4 b5 : Int) (hv : (ok a0 && ok a1 && ok a2 && ok a3 && ok a4 && ok a5) = false) (w : World) : Calls Try.prog 32 #[.agg #[.int .i64 a0, .int .i64 a1, .int .i64 a2, .int .i64 a3, .int .i64 a4, .int .i64 a5], .agg #[.int .i64 b0, .int .i64 b1, .int .i64 b2, .int .i64 b3, .int .i64 b4, .int .i64 b5]] w fun e w' => e = .returned (.tuple #[.agg #[.int .i64 0, .int .i64 0, .int .i64 0, .int .i64 0, .int .i64 0, .int .i64 0], .bool false]) ∧ Below w.heap.size w w' := iclo_any a0 a1 a2 a3 a4 a5 b0 b1 b2 b3 b4 b5 0 0 0 0 0 0 false (Lib.hid fun w g _ => behind_no0 a0 a1 a2 a3 a4 a5 b0 b1 b2 b3 b4 b5 _ (sh_ai a0 a1 a2 a3 a4 a5 hv) w) w
theorem iclose_n1 (a0 a1 a2 a3 a4 a5 : Int) (b0 b1 b2 b3 b4 b5 : Int) (hv : (ok a0 && ok a1 && ok a2 && ok a3 && ok a4 && ok a5) = true) (hc : (ok b0 && ok b1 && ok b2 && ok b3 && ok b4 && ok b5) = false) (w : World) : Calls Try.prog 32 #[.agg #[.int .i64 a0, .int .i64 a1, .int .i64 a2, .int .i64 a3, .int .i64 a4, .int .i64 a5], .agg #[.int .i64 b0, .int .i64 b1, .int .i64 b2, .int .i64 b3, .int .i64 b4, .int .i64 b5]] w fun e w' => e = .returned (.tuple #[.agg #[.int .i64 0, .int .i64 0, .int .i64 0, .int .i64 0, .int .i64 0, .int .i64 0], .bool false]) ∧ Below w.heap.size w w' := iclo_any a0 a1 a2 a3 a4 a5 b0 b1 b2 b3 b4 b5 0 0 0 0 0 0 false (Lib.hid fun w g _ => behind_no1 a0 a1 a2 a3 a4 a5 b0 b1 b2 b3 b4 b5 _ (sh_ai a0 a1 a2 a3 a4 a5 hv) (sh_ai b0 b1 b2 b3 b4 b5 hc) w) w
theorem inner_pair (a0 a1 a2 a3 a4 a5 : Int) (b0 b1 b2 b3 b4 b5 : Int) : ∃ (r0 r1 r2 r3 r4 r5 : Int) (t : Bool), (∀ w, Calls Try.prog 35 #[.agg #[.int .i64 a0, .int .i64 a1, .int .i64 a2, .int .i64 a3, .int .i64 a4, .int .i64 a5], .agg #[.int .i64 b0, .int .i64 b1, .int .i64 b2, .int .i64 b3, .int .i64 b4, .int .i64 b5]] w fun e w' => e = .returned (.tuple #[.agg #[.int .i64 r0, .int .i64 r1, .int .i64 r2, .int .i64 r3, .int .i64 r4, .int .i64 r5], .bool t]) ∧ Below w.heap.size w w') ∧ (∀ w, Calls Try.prog 36 #[.agg #[.int .i64 a0, .int .i64 a1, .int .i64 a2, .int .i64 a3, .int .i64 a4, .int .i64 a5], .agg #[.int .i64 b0, .int .i64 b1, .int .i64 b2, .int .i64 b3, .int .i64 b4, .int .i64 b5]] w fun e w' => e = .returned (.tuple #[.agg #[.int .i64 r0, .int .i64 r1, .int .i64 r2, .int .i64 r3, .int .i64 r4, .int .i64 r5], .bool t]) ∧ Below w.heap.size w w') := by
  cases hv : (ok a0 && ok a1 && ok a2 && ok a3 && ok a4 && ok a5)
  · exact ⟨0, 0, 0, 0, 0, 0, false, fun w => sie_no0 a0 a1 a2 a3 a4 a5 b0 b1 b2 b3 b4 b5 (sh_as a0 a1 a2 a3 a4 a5 hv) w, fun w => iie_no a0 a1 a2 a3 a4 a5 b0 b1 b2 b3 b4 b5 (Lib.hid (ishrink_n0 a0 a1 a2 a3 a4 a5 b0 b1 b2 b3 b4 b5 hv)) w⟩
  · cases hc : (ok b0 && ok b1 && ok b2 && ok b3 && ok b4 && ok b5)
    · exact ⟨0, 0, 0, 0, 0, 0, false, fun w => sie_no1 a0 a1 a2 a3 a4 a5 b0 b1 b2 b3 b4 b5 (sh_as a0 a1 a2 a3 a4 a5 hv) (sh_as b0 b1 b2 b3 b4 b5 hc) w, fun w => iie_no a0 a1 a2 a3 a4 a5 b0 b1 b2 b3 b4 b5 (Lib.hid (ishrink_n1 a0 a1 a2 a3 a4 a5 b0 b1 b2 b3 b4 b5 hv hc)) w⟩
    · skip
      have Hs := sh_as a0 a1 a2 a3 a4 a5 hv
      have Hi := sh_ai a0 a1 a2 a3 a4 a5 hv
      have Ks := sh_as b0 b1 b2 b3 b4 b5 hc
      have Ki := sh_ai b0 b1 b2 b3 b4 b5 hc
      obtain ⟨s, rfl, rfl, rfl, rfl, rfl, rfl⟩ := sheet_bits a0 a1 a2 a3 a4 a5 hv
      obtain ⟨p, rfl, rfl, rfl, rfl, rfl, rfl⟩ := sheet_bits b0 b1 b2 b3 b4 b5 hc
      refine ⟨_, _, _, _, _, _, true, fun w => sie_yes s p Hs Ks w, fun w => ?_⟩
      have h := iie_yes (rowv (s 0)) (rowv (s 1)) (rowv (s 2)) (rowv (s 3)) (rowv (s 4)) (rowv (s 5)) (rowv (p 0)) (rowv (p 1)) (rowv (p 2)) (rowv (p 3)) (rowv (p 4)) (rowv (p 5)) (rowv (shr s p 0)) (rowv (shr s p 1)) (rowv (shr s p 2)) (rowv (shr s p 3)) (rowv (shr s p 4)) (rowv (shr s p 5)) (Lib.hid (ishrink_c s p)) w
      simp only [row_wf] at h
      exact h
theorem outer_pair (a0 a1 a2 a3 a4 a5 : Int) (b0 b1 b2 b3 b4 b5 : Int) : ∃ (r0 r1 r2 r3 r4 r5 : Int) (t : Bool), (∀ w, Calls Try.prog 37 #[.agg #[.int .i64 a0, .int .i64 a1, .int .i64 a2, .int .i64 a3, .int .i64 a4, .int .i64 a5], .agg #[.int .i64 b0, .int .i64 b1, .int .i64 b2, .int .i64 b3, .int .i64 b4, .int .i64 b5]] w fun e w' => e = .returned (.tuple #[.agg #[.int .i64 r0, .int .i64 r1, .int .i64 r2, .int .i64 r3, .int .i64 r4, .int .i64 r5], .bool t]) ∧ Below w.heap.size w w') ∧ (∀ w, Calls Try.prog 38 #[.agg #[.int .i64 a0, .int .i64 a1, .int .i64 a2, .int .i64 a3, .int .i64 a4, .int .i64 a5], .agg #[.int .i64 b0, .int .i64 b1, .int .i64 b2, .int .i64 b3, .int .i64 b4, .int .i64 b5]] w fun e w' => e = .returned (.tuple #[.agg #[.int .i64 r0, .int .i64 r1, .int .i64 r2, .int .i64 r3, .int .i64 r4, .int .i64 r5], .bool t]) ∧ Below w.heap.size w w') := by
  cases hv : (ok a0 && ok a1 && ok a2 && ok a3 && ok a4 && ok a5)
  · exact ⟨0, 0, 0, 0, 0, 0, false, fun w => soe_no0 a0 a1 a2 a3 a4 a5 b0 b1 b2 b3 b4 b5 (sh_as a0 a1 a2 a3 a4 a5 hv) w, fun w => ioe_no a0 a1 a2 a3 a4 a5 b0 b1 b2 b3 b4 b5 (Lib.hid (ispread_n0 a0 a1 a2 a3 a4 a5 b0 b1 b2 b3 b4 b5 hv)) w⟩
  · cases hc : (ok b0 && ok b1 && ok b2 && ok b3 && ok b4 && ok b5)
    · exact ⟨0, 0, 0, 0, 0, 0, false, fun w => soe_no1 a0 a1 a2 a3 a4 a5 b0 b1 b2 b3 b4 b5 (sh_as a0 a1 a2 a3 a4 a5 hv) (sh_as b0 b1 b2 b3 b4 b5 hc) w, fun w => ioe_no a0 a1 a2 a3 a4 a5 b0 b1 b2 b3 b4 b5 (Lib.hid (ispread_n1 a0 a1 a2 a3 a4 a5 b0 b1 b2 b3 b4 b5 hv hc)) w⟩
    · skip
      have Hs := sh_as a0 a1 a2 a3 a4 a5 hv
      have Hi := sh_ai a0 a1 a2 a3 a4 a5 hv
      have Ks := sh_as b0 b1 b2 b3 b4 b5 hc
      have Ki := sh_ai b0 b1 b2 b3 b4 b5 hc
      obtain ⟨s, rfl, rfl, rfl, rfl, rfl, rfl⟩ := sheet_bits a0 a1 a2 a3 a4 a5 hv
      obtain ⟨p, rfl, rfl, rfl, rfl, rfl, rfl⟩ := sheet_bits b0 b1 b2 b3 b4 b5 hc
      refine ⟨_, _, _, _, _, _, true, fun w => soe_yes s p Hs Ks w, fun w => ?_⟩
      have h := ioe_yes (rowv (s 0)) (rowv (s 1)) (rowv (s 2)) (rowv (s 3)) (rowv (s 4)) (rowv (s 5)) (rowv (p 0)) (rowv (p 1)) (rowv (p 2)) (rowv (p 3)) (rowv (p 4)) (rowv (p 5)) (rowv (spd s p 0)) (rowv (spd s p 1)) (rowv (spd s p 2)) (rowv (spd s p 3)) (rowv (spd s p 4)) (rowv (spd s p 5)) (Lib.hid (ispread_c s p)) w
      simp only [row_wf] at h
      exact h
theorem isop_pair (a0 a1 a2 a3 a4 a5 : Int) (b0 b1 b2 b3 b4 b5 : Int) : ∃ (r t : Bool), (∀ w, Calls Try.prog 47 #[.agg #[.int .i64 a0, .int .i64 a1, .int .i64 a2, .int .i64 a3, .int .i64 a4, .int .i64 a5], .agg #[.int .i64 b0, .int .i64 b1, .int .i64 b2, .int .i64 b3, .int .i64 b4, .int .i64 b5]] w fun e w' => e = .returned (.tuple #[.bool r, .bool t]) ∧ Below w.heap.size w w') ∧ (∀ w, Calls Try.prog 48 #[.agg #[.int .i64 a0, .int .i64 a1, .int .i64 a2, .int .i64 a3, .int .i64 a4, .int .i64 a5], .agg #[.int .i64 b0, .int .i64 b1, .int .i64 b2, .int .i64 b3, .int .i64 b4, .int .i64 b5]] w fun e w' => e = .returned (.tuple #[.bool r, .bool t]) ∧ Below w.heap.size w w') := by
  cases hv : (ok a0 && ok a1 && ok a2 && ok a3 && ok a4 && ok a5)
  · exact ⟨false, false, fun w => sio_no0 a0 a1 a2 a3 a4 a5 b0 b1 b2 b3 b4 b5 (sh_as a0 a1 a2 a3 a4 a5 hv) w, fun w => iio_no a0 a1 a2 a3 a4 a5 b0 b1 b2 b3 b4 b5 (Lib.hid (iopen_n0 a0 a1 a2 a3 a4 a5 b0 b1 b2 b3 b4 b5 hv)) w⟩
  · cases hc : (ok b0 && ok b1 && ok b2 && ok b3 && ok b4 && ok b5)
    · exact ⟨false, false, fun w => sio_no1 a0 a1 a2 a3 a4 a5 b0 b1 b2 b3 b4 b5 (sh_as a0 a1 a2 a3 a4 a5 hv) (sh_as b0 b1 b2 b3 b4 b5 hc) w, fun w => iio_no a0 a1 a2 a3 a4 a5 b0 b1 b2 b3 b4 b5 (Lib.hid (iopen_n1 a0 a1 a2 a3 a4 a5 b0 b1 b2 b3 b4 b5 hv hc)) w⟩
    · skip
      have Hs := sh_as a0 a1 a2 a3 a4 a5 hv
      have Hi := sh_ai a0 a1 a2 a3 a4 a5 hv
      have Ks := sh_as b0 b1 b2 b3 b4 b5 hc
      have Ki := sh_ai b0 b1 b2 b3 b4 b5 hc
      obtain ⟨s, rfl, rfl, rfl, rfl, rfl, rfl⟩ := sheet_bits a0 a1 a2 a3 a4 a5 hv
      obtain ⟨p, rfl, rfl, rfl, rfl, rfl, rfl⟩ := sheet_bits b0 b1 b2 b3 b4 b5 hc
      exact ⟨_, true, fun w => sio_yes s p Hs Ks w, fun w => iio_yes (rowv (s 0)) (rowv (s 1)) (rowv (s 2)) (rowv (s 3)) (rowv (s 4)) (rowv (s 5)) (rowv (p 0)) (rowv (p 1)) (rowv (p 2)) (rowv (p 3)) (rowv (p 4)) (rowv (p 5)) (rowv (spd (shr s p) p 0)) (rowv (spd (shr s p) p 1)) (rowv (spd (shr s p) p 2)) (rowv (spd (shr s p) p 3)) (rowv (spd (shr s p) p 4)) (rowv (spd (shr s p) p 5)) (Lib.hid (iopen_c s p)) w⟩
theorem iscl_pair (a0 a1 a2 a3 a4 a5 : Int) (b0 b1 b2 b3 b4 b5 : Int) : ∃ (r t : Bool), (∀ w, Calls Try.prog 49 #[.agg #[.int .i64 a0, .int .i64 a1, .int .i64 a2, .int .i64 a3, .int .i64 a4, .int .i64 a5], .agg #[.int .i64 b0, .int .i64 b1, .int .i64 b2, .int .i64 b3, .int .i64 b4, .int .i64 b5]] w fun e w' => e = .returned (.tuple #[.bool r, .bool t]) ∧ Below w.heap.size w w') ∧ (∀ w, Calls Try.prog 50 #[.agg #[.int .i64 a0, .int .i64 a1, .int .i64 a2, .int .i64 a3, .int .i64 a4, .int .i64 a5], .agg #[.int .i64 b0, .int .i64 b1, .int .i64 b2, .int .i64 b3, .int .i64 b4, .int .i64 b5]] w fun e w' => e = .returned (.tuple #[.bool r, .bool t]) ∧ Below w.heap.size w w') := by
  cases hv : (ok a0 && ok a1 && ok a2 && ok a3 && ok a4 && ok a5)
  · exact ⟨false, false, fun w => sic_no0 a0 a1 a2 a3 a4 a5 b0 b1 b2 b3 b4 b5 (sh_as a0 a1 a2 a3 a4 a5 hv) w, fun w => iic_no a0 a1 a2 a3 a4 a5 b0 b1 b2 b3 b4 b5 (Lib.hid (iclose_n0 a0 a1 a2 a3 a4 a5 b0 b1 b2 b3 b4 b5 hv)) w⟩
  · cases hc : (ok b0 && ok b1 && ok b2 && ok b3 && ok b4 && ok b5)
    · exact ⟨false, false, fun w => sic_no1 a0 a1 a2 a3 a4 a5 b0 b1 b2 b3 b4 b5 (sh_as a0 a1 a2 a3 a4 a5 hv) (sh_as b0 b1 b2 b3 b4 b5 hc) w, fun w => iic_no a0 a1 a2 a3 a4 a5 b0 b1 b2 b3 b4 b5 (Lib.hid (iclose_n1 a0 a1 a2 a3 a4 a5 b0 b1 b2 b3 b4 b5 hv hc)) w⟩
    · skip
      have Hs := sh_as a0 a1 a2 a3 a4 a5 hv
      have Hi := sh_ai a0 a1 a2 a3 a4 a5 hv
      have Ks := sh_as b0 b1 b2 b3 b4 b5 hc
      have Ki := sh_ai b0 b1 b2 b3 b4 b5 hc
      obtain ⟨s, rfl, rfl, rfl, rfl, rfl, rfl⟩ := sheet_bits a0 a1 a2 a3 a4 a5 hv
      obtain ⟨p, rfl, rfl, rfl, rfl, rfl, rfl⟩ := sheet_bits b0 b1 b2 b3 b4 b5 hc
      exact ⟨_, true, fun w => sic_yes s p Hs Ks w, fun w => iic_yes (rowv (s 0)) (rowv (s 1)) (rowv (s 2)) (rowv (s 3)) (rowv (s 4)) (rowv (s 5)) (rowv (p 0)) (rowv (p 1)) (rowv (p 2)) (rowv (p 3)) (rowv (p 4)) (rowv (p 5)) (rowv (shr (spd s p) p 0)) (rowv (shr (spd s p) p 1)) (rowv (shr (spd s p) p 2)) (rowv (shr (spd s p) p 3)) (rowv (shr (spd s p) p 4)) (rowv (shr (spd s p) p 5)) (Lib.hid (iclose_c s p)) w⟩
theorem sum_pair (a0 a1 a2 a3 a4 a5 : Int) (b0 b1 b2 b3 b4 b5 : Int) : ∃ (r0 r1 r2 r3 r4 r5 : Int) (t : Bool), (∀ w, Calls Try.prog 51 #[.agg #[.int .i64 a0, .int .i64 a1, .int .i64 a2, .int .i64 a3, .int .i64 a4, .int .i64 a5], .agg #[.int .i64 b0, .int .i64 b1, .int .i64 b2, .int .i64 b3, .int .i64 b4, .int .i64 b5]] w fun e w' => e = .returned (.tuple #[.agg #[.int .i64 r0, .int .i64 r1, .int .i64 r2, .int .i64 r3, .int .i64 r4, .int .i64 r5], .bool t]) ∧ Below w.heap.size w w') ∧ (∀ w, Calls Try.prog 52 #[.agg #[.int .i64 a0, .int .i64 a1, .int .i64 a2, .int .i64 a3, .int .i64 a4, .int .i64 a5], .agg #[.int .i64 b0, .int .i64 b1, .int .i64 b2, .int .i64 b3, .int .i64 b4, .int .i64 b5]] w fun e w' => e = .returned (.tuple #[.agg #[.int .i64 r0, .int .i64 r1, .int .i64 r2, .int .i64 r3, .int .i64 r4, .int .i64 r5], .bool t]) ∧ Below w.heap.size w w') := by
  cases hv : (ok a0 && ok a1 && ok a2 && ok a3 && ok a4 && ok a5)
  · exact ⟨0, 0, 0, 0, 0, 0, false, fun w => ssu_no0 a0 a1 a2 a3 a4 a5 b0 b1 b2 b3 b4 b5 (sh_as a0 a1 a2 a3 a4 a5 hv) w, fun w => isu_any a0 a1 a2 a3 a4 a5 b0 b1 b2 b3 b4 b5 0 0 0 0 0 0 false (Lib.hid (ispread_n0 a0 a1 a2 a3 a4 a5 b0 b1 b2 b3 b4 b5 hv)) w⟩
  · cases hc : (ok b0 && ok b1 && ok b2 && ok b3 && ok b4 && ok b5)
    · exact ⟨0, 0, 0, 0, 0, 0, false, fun w => ssu_no1 a0 a1 a2 a3 a4 a5 b0 b1 b2 b3 b4 b5 (sh_as a0 a1 a2 a3 a4 a5 hv) (sh_as b0 b1 b2 b3 b4 b5 hc) w, fun w => isu_any a0 a1 a2 a3 a4 a5 b0 b1 b2 b3 b4 b5 0 0 0 0 0 0 false (Lib.hid (ispread_n1 a0 a1 a2 a3 a4 a5 b0 b1 b2 b3 b4 b5 hv hc)) w⟩
    · skip
      have Hs := sh_as a0 a1 a2 a3 a4 a5 hv
      have Hi := sh_ai a0 a1 a2 a3 a4 a5 hv
      have Ks := sh_as b0 b1 b2 b3 b4 b5 hc
      have Ki := sh_ai b0 b1 b2 b3 b4 b5 hc
      obtain ⟨s, rfl, rfl, rfl, rfl, rfl, rfl⟩ := sheet_bits a0 a1 a2 a3 a4 a5 hv
      obtain ⟨p, rfl, rfl, rfl, rfl, rfl, rfl⟩ := sheet_bits b0 b1 b2 b3 b4 b5 hc
      exact ⟨_, _, _, _, _, _, true, fun w => ssu_yes (rowv (s 0)) (rowv (s 1)) (rowv (s 2)) (rowv (s 3)) (rowv (s 4)) (rowv (s 5)) (rowv (p 0)) (rowv (p 1)) (rowv (p 2)) (rowv (p 3)) (rowv (p 4)) (rowv (p 5)) _ _ _ _ _ _ Hs Ks (Lib.hid (lspread_f s p)) w, fun w => isu_any (rowv (s 0)) (rowv (s 1)) (rowv (s 2)) (rowv (s 3)) (rowv (s 4)) (rowv (s 5)) (rowv (p 0)) (rowv (p 1)) (rowv (p 2)) (rowv (p 3)) (rowv (p 4)) (rowv (p 5)) _ _ _ _ _ _ true (Lib.hid (ispread_c s p)) w⟩
end Go.Proofs.Ytjhokdccgachcaa
