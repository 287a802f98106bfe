/- CONTRACTS: ShiftsTo and PeriodsOf, the model's and the code's. -/
import Derived.Test.YtpmhnikilianoaaAv7
import Derived.Test.YtpmhnikilianoaaFs
import Derived.Deep.RegionHeld3
import Derived.WalkKit
import Derived.ProofKit
import Derived.OpenShut
import Derived.Lib.Hide
import Derived.WalkSpells
import Derived.Below
import Derived.BigQuiet
import Derived.LoopN
namespace Go.Proofs.Ytpmhnikilianoaa
open Go.ChangeShapes Go.WideShapes Go.ChangeAt Go.RowKit
set_option linter.unusedVariables false
/-- Whether one sheet, shifted, is another one: as both compare them. -/
def sg7 (a b : Fn6) (x y : Nat) : Bool := rowv (sf x y a 0) == rowv (b 0) && rowv (sf x y a 1) == rowv (b 1) && rowv (sf x y a 2) == rowv (b 2) && rowv (sf x y a 3) == rowv (b 3) && rowv (sf x y a 4) == rowv (b 4) && rowv (sf x y a 5) == rowv (b 5)
theorem eq_sg7 (a b : Fn6) (x y : Nat) (w : World) : (binOp .eql 28 (.agg #[.int .i64 (rowv (sf x y a 0)), .int .i64 (rowv (sf x y a 1)), .int .i64 (rowv (sf x y a 2)), .int .i64 (rowv (sf x y a 3)), .int .i64 (rowv (sf x y a 4)), .int .i64 (rowv (sf x y a 5))]) (.agg #[.int .i64 (rowv (b 0)), .int .i64 (rowv (b 1)), .int .i64 (rowv (b 2)), .int .i64 (rowv (b 3)), .int .i64 (rowv (b 4)), .int .i64 (rowv (b 5))])).run Try.prog w = .ok (.bool (sg7 a b x y)) w := eq26 (rowv (sf x y a 0)) (rowv (sf x y a 1)) (rowv (sf x y a 2)) (rowv (sf x y a 3)) (rowv (sf x y a 4)) (rowv (sf x y a 5)) (rowv (b 0)) (rowv (b 1)) (rowv (b 2)) (rowv (b 3)) (rowv (b 4)) (rowv (b 5)) w
theorem l2shift_7 (f : Fn6) {x y : Nat} (hx : x < 6) (hy : y < 6) (w : World) : Calls Try.prog 127 #[.agg #[.int .i64 (rowv (f 0)), .int .i64 (rowv (f 1)), .int .i64 (rowv (f 2)), .int .i64 (rowv (f 3)), .int .i64 (rowv (f 4)), .int .i64 (rowv (f 5))], .int .i64 (x : Int), .int .i64 (y : Int)] w fun e w' => e = .returned (.agg #[.int .i64 (rowv (sf x y f 0)), .int .i64 (rowv (sf x y f 1)), .int .i64 (rowv (sf x y f 2)), .int .i64 (rowv (sf x y f 3)), .int .i64 (rowv (sf x y f 4)), .int .i64 (rowv (sf x y f 5))]) ∧ Below w.heap.size w w' := l2shift_f f (x : Int) (y : Int) (WalkArith.wf_i64 (by omega)) (WalkArith.wf_i64 (by omega)) hx hy (by omega) (by omega) w
theorem SKl {w U : World} {a b : Fn6} {xs : List (Nat × Nat)} {v : Value} (h : Rl 2 [(w.heap.size, o6 a), (w.heap.size + 1, o6 b)] w xs v U) : U.cell? ⟨w.heap.size, 0, none⟩ = some (.int .i64 (rowv (a 0))) ∧ U.cell? ⟨w.heap.size, 1, none⟩ = some (.int .i64 (rowv (a 1))) ∧ U.cell? ⟨w.heap.size, 2, none⟩ = some (.int .i64 (rowv (a 2))) ∧ U.cell? ⟨w.heap.size, 3, none⟩ = some (.int .i64 (rowv (a 3))) ∧ U.cell? ⟨w.heap.size, 4, none⟩ = some (.int .i64 (rowv (a 4))) ∧ U.cell? ⟨w.heap.size, 5, none⟩ = some (.int .i64 (rowv (a 5))) ∧ U.cell? ⟨w.heap.size + 1, 0, none⟩ = some (.int .i64 (rowv (b 0))) ∧ U.cell? ⟨w.heap.size + 1, 1, none⟩ = some (.int .i64 (rowv (b 1))) ∧ U.cell? ⟨w.heap.size + 1, 2, none⟩ = some (.int .i64 (rowv (b 2))) ∧ U.cell? ⟨w.heap.size + 1, 3, none⟩ = some (.int .i64 (rowv (b 3))) ∧ U.cell? ⟨w.heap.size + 1, 4, none⟩ = some (.int .i64 (rowv (b 4))) ∧ U.cell? ⟨w.heap.size + 1, 5, none⟩ = some (.int .i64 (rowv (b 5))) ∧ Rl 2 [(w.heap.size, o6 a), (w.heap.size + 1, o6 b)] w xs v U :=
  have h0 := fun j => cell_of_row U _ j _ _ _ (h.1.row (g := w.heap.size) (o := o6 a) (List.mem_cons_self ..))
  have h1 := fun j => cell_of_row U _ j _ _ _ (h.1.row (g := w.heap.size + 1) (o := o6 b) (List.mem_cons_of_mem _ (List.mem_cons_self ..)))
  ⟨h0 0, h0 1, h0 2, h0 3, h0 4, h0 5, h1 0, h1 1, h1 2, h1 3, h1 4, h1 5, h⟩
set_option maxHeartbeats 4000000 in
theorem lto_f (a b : Fn6) (w : World) : Calls Try.prog 120 #[.agg #[.int .i64 (rowv (a 0)), .int .i64 (rowv (a 1)), .int .i64 (rowv (a 2)), .int .i64 (rowv (a 3)), .int .i64 (rowv (a 4)), .int .i64 (rowv (a 5))], .agg #[.int .i64 (rowv (b 0)), .int .i64 (rowv (b 1)), .int .i64 (rowv (b 2)), .int .i64 (rowv (b 3)), .int .i64 (rowv (b 4)), .int .i64 (rowv (b 5))]] w (LP (pl (sg7 a b) 36) w) := by
  obtain ⟨i0, hi, hz0, hz1, hz2⟩ := info_parts info44
  go_enter Try.func120, Try.ntmps120
  go_wp2_with fail
  generalize hW : (World.alloc (World.alloc w _) _ : World) = W0
  have hsz : W0.heap.size = w.heap.size + 1 + 1 := by rw [← hW]; simp
  have hB0 : Below w.heap.size w W0 := by rw [← hW]; (repeat (first | exact Below.refl _ _ | assumption | refine Below.setCell ?_ (by first | (simp; done) | (simp; omega)) _ | refine Below.alloc ?_ (by first | (simp; done) | (simp; omega)) _ | refine Below.drew ?_))
  have q0 : W0.heap[(w.heap.size : Nat)]? = some (o6 a) := by
    rw [← hW]
    repeat (first | (refine alloc_at ?_; first | (simp; done) | (simp; omega)) | refine drew_row ?_ | refine alloc_past ?_ | assumption)
  have q1 : W0.heap[(w.heap.size + 1 : Nat)]? = some (o6 b) := by
    rw [← hW]
    repeat (first | (refine alloc_at ?_; first | (simp; done) | (simp; omega)) | refine drew_row ?_ | refine alloc_past ?_ | assumption)
  have K0 : KR 2 [(w.heap.size, o6 a), (w.heap.size + 1, o6 b)] w W0 := ⟨by simp [q0, q1], by rw [← hW]; simp, hB0⟩
  have S0 := Lib.hid (Rl.start K0)
  rw [hsz] at S0
  clear hsz
  clear hW hB0 q0 q1 K0
  generalize (World.alloc _ _ : World) = W1 at S0 ⊢
  generalize hv0 : (Value.slice (some ⟨_, 0, none⟩) 0 0) = v0 at S0 ⊢
  clear hv0
  go_loopw [5, 6] (fun v n wr => ∃ x : Nat, x ≤ 6 ∧ n = .int .i64 x ∧ Hid (Rl 2 [(w.heap.size, o6 a), (w.heap.size + 1, o6 b)] w (pl (sg7 a b) (6 * x)) v wr)) (fun _ n _ => 6 - (intOf n).toNat)
  case atStart => exact ⟨0, by omega, rfl, S0⟩
  case round =>
    obtain ⟨x, hx, rfl, HX⟩ := hrel
    by_cases hlx : x < 6
    · have hlx' : (x : Int) < 6 := by omega
      have hlx2 : decide ((x : Int) < (6 : Int)) = true := decide_eq_true hlx'
      go_wp2_with fail
      try rw [hlx2]
      clear hlx2
      go_loopw [5, 7] (fun v n wr => ∃ y : Nat, y ≤ 6 ∧ n = .int .i64 y ∧ Hid (Rl 2 [(w.heap.size, o6 a), (w.heap.size + 1, o6 b)] w (pl (sg7 a b) (6 * x + y)) v wr)) (fun _ n _ => 6 - (intOf n).toNat)
      case atStart => exact ⟨0, by omega, rfl, HX⟩
      case round =>
        obtain ⟨y, hy, rfl, HS⟩ := hrel
        by_cases hly : y < 6
        · have hly' : (y : Int) < 6 := by omega
          have HF := Lib.hid (l2shift_7 a hlx hly)
          have he := eq_sg7 a b x y
          have H0 := Lib.hid (@pl_no (sg7 a b) x y hly)
          have H1 := Lib.hid (@pl_yes (sg7 a b) x y hly)
          have HL := pl_len (sg7 a b) (6 * x + y)
          have HL := Lib.hid (show (pl (sg7 a b) (6 * x + y)).length ≤ 36 by omega)
          obtain ⟨xs, hxs⟩ : ∃ xs, xs = pl (sg7 a b) (6 * x + y) := ⟨_, rfl⟩
          rw [← hxs] at HS H0 H1 HL
          clear hxs
          obtain ⟨g, cap, rfl, ho⟩ := HS.out.2
          clear ho
          obtain ⟨u, hu⟩ : ∃ u, u = sg7 a b x y := ⟨_, rfl⟩
          rw [← hu] at H0 H1 he
          clear hu
          have hk := HS.out
          go_wp2_with fail
          clear HS
          set_option maxRecDepth 8000 in
          go_region_held3 (fun U => U.cell? ⟨w.heap.size, 0, none⟩ = some (.int .i64 (rowv (a 0))) ∧ U.cell? ⟨w.heap.size, 1, none⟩ = some (.int .i64 (rowv (a 1))) ∧ U.cell? ⟨w.heap.size, 2, none⟩ = some (.int .i64 (rowv (a 2))) ∧ U.cell? ⟨w.heap.size, 3, none⟩ = some (.int .i64 (rowv (a 3))) ∧ U.cell? ⟨w.heap.size, 4, none⟩ = some (.int .i64 (rowv (a 4))) ∧ U.cell? ⟨w.heap.size, 5, none⟩ = some (.int .i64 (rowv (a 5))) ∧ U.cell? ⟨w.heap.size + 1, 0, none⟩ = some (.int .i64 (rowv (b 0))) ∧ U.cell? ⟨w.heap.size + 1, 1, none⟩ = some (.int .i64 (rowv (b 1))) ∧ U.cell? ⟨w.heap.size + 1, 2, none⟩ = some (.int .i64 (rowv (b 2))) ∧ U.cell? ⟨w.heap.size + 1, 3, none⟩ = some (.int .i64 (rowv (b 3))) ∧ U.cell? ⟨w.heap.size + 1, 4, none⟩ = some (.int .i64 (rowv (b 4))) ∧ U.cell? ⟨w.heap.size + 1, 5, none⟩ = some (.int .i64 (rowv (b 5))) ∧ Rl 2 [(w.heap.size, o6 a), (w.heap.size + 1, o6 b)] w xs (.slice (some ⟨g, 0, none⟩) xs.length cap) U) (with_reducible refine SKl ?_; (first | with_reducible assumption | (with_reducible refine Rl.drew ?_; with_reducible assumption))) (first | (go_at_call 127; with_reducible refine (HF.out _).mono ?_; rintro e w' ⟨rfl, hb'⟩; have hk : Rl 2 [(w.heap.size, o6 a), (w.heap.size + 1, o6 b)] w xs (.slice (some ⟨g, 0, none⟩) xs.length cap) w' := Rl.below (by (first | with_reducible assumption | (with_reducible refine Rl.drew ?_; with_reducible assumption))) hb' rfl))
          all_goals
            have HJ := Lib.hid hk
            clear hk HF he
            cases u
            · go_wp2_with fail
              go_roundw
              case rel => exact ⟨y + 1, by omega, by go_num, by rw [show 6 * x + (y + 1) = 6 * x + y + 1 from rfl, H0.out rfl]; exact HJ⟩
              case measure => simp [intOf]; omega
            · obtain ⟨hK, _, _, hv, ho⟩ := HJ.out
              have HO := ho.kept (grown_below ((Below.refl _ _).alloc (Nat.le_refl _) (.cells #[.int .i64 (x : Int), .int .i64 (y : Int)] 37)) rfl) (.inr (by simp [Value.ownBlock]))
              have HY := Lib.hid (HJ.out.alloc (.cells #[.int .i64 (x : Int), .int .i64 (y : Int)] 37))
              have HL := HL.out
              have hks := hK.2.1
              clear ho HJ hv hK
              go_wp2_with (at_builtin; refine wpList_append_own _ rfl _ _ 25 rfl (w.heap.size + 2) 37 i0 (.agg #[.int .i64 0, .int .i64 0]) 2 16 Try.underlying25 hi hz0 hz1 hz2 rfl (by decide) _ _ _ rfl HO ⟨w'.heap.size, 0, none⟩ 1 1 [.int .i64 (x : Int), .int .i64 (y : Int)] rfl rfl (two_new _ _ _ _) (ints_one _ _) (by have := HL; unfold maxLen; omega) (by have := HL; omega) (by have := hks; simp; omega) ?_; intro v' w1 hown' hgrow hnn; have R := Lib.hid (HY.out.snoc hown' hgrow hnn); clear hown' hgrow hnn HY HO HL hks)
              go_roundw
              case rel => exact ⟨y + 1, by omega, by go_num, by rw [show 6 * x + (y + 1) = 6 * x + y + 1 from rfl, H1.out rfl]; exact R⟩
              case measure => simp [intOf]; omega
        · obtain rfl : y = 6 := by omega
          clear hi hz0 hz1 hz2
          go_wp2_with fail
          go_roundw
          case rel => exact ⟨x + 1, by omega, by go_num, HS⟩
          case measure => simp [intOf]; omega
    · obtain rfl : x = 6 := by omega
      obtain ⟨g, cap, rfl, h2, h3⟩ := HX.out.post
      have H2 := Lib.hid h2
      have H3 := Lib.hid h3
      clear h2 h3 HX
      go_wp2_with fail
      go_ret
      exact ⟨g, cap, rfl, H2.out, H3.out⟩
end Go.Proofs.Ytpmhnikilianoaa
