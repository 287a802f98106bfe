/- CONTRACTS: the motions that keep a sheet, in the model. -/
import Derived.Test.YtpgfmigbjffemaaKc
import Derived.WalkKit
import Derived.ProofKit
import Derived.OpenShut
import Derived.Lib.Hide
import Derived.WalkSpells
import Derived.Below
import Derived.BigQuiet
import Derived.LoopN
namespace Go.Proofs.Ytpgfmigbjffemaa
open Go.ChangeShapes Go.WideShapes Go.ChangeAt Go.RowKit
set_option linter.unusedVariables false
/-- Midway: the kept ones of l, and the sheet. -/
def Rs (w : World) (f : Nat → Nat → Bool) (l : List (Nat × Nat × Nat)) (v : Value) (W : World) : Prop :=
  ∃ gv cv, v = .slice (some ⟨gv, 0, none⟩) (ks f l).length cv ∧ W.ownsRow (w.heap.size + 1) 67 3 v (ks f l).length (tv (ks f l)) ∧ W.heap[w.heap.size]? = some (.cells #[.int .i64 (rowv (f 0)), .int .i64 (rowv (f 1)), .int .i64 (rowv (f 2)), .int .i64 (rowv (f 3)), .int .i64 (rowv (f 4)), .int .i64 (rowv (f 5))] 28 (0, 0)) ∧ Below w.heap.size w W ∧ w.heap.size + 1 ≤ W.heap.size
theorem Rs.below {w W W' : World} {f : Nat → Nat → Bool} {l : List (Nat × Nat × Nat)} {N : Nat} {v : Value} (h : Rs w f l v W) (hb : Below N W W') (hN : N = W.heap.size) : Rs w f l v W' := by
  obtain ⟨gv, cv, h1, h4, h5, h9, h10⟩ := h
  exact ⟨gv, cv, h1, h4.kept (grown_below hb hN) (.inr (by rw [h1]; simp [Value.ownBlock])), rowk h5 hb hN, below_of h9 hb (by omega), Nat.le_trans h10 hb.size⟩
theorem ks_snoc (f : Nat → Nat → Bool) (l : List (Nat × Nat × Nat)) (c : Nat × Nat × Nat) : ks f (l ++ [c]) = ks f l ++ (if kb f c then [c] else []) := by
  unfold ks
  rw [List.filter_append]
  cases h : kb f c <;> simp [List.filter, h]
theorem Rs.no {w W : World} {f : Nat → Nat → Bool} {l : List (Nat × Nat × Nat)} {c : Nat × Nat × Nat} {v : Value} (h : Rs w f l v W) (hk : kb f c = false) : Rs w f (l ++ [c]) v W := by
  unfold Rs at h ⊢
  rw [ks_snoc, hk]
  simpa using h
theorem Rs.yes {w W w1 : World} {f : Nat → Nat → Bool} {l : List (Nat × Nat × Nat)} {k x y : Nat} {v v' : Value} (h : Rs w f l v W) (hk : kb f (k, x, y) = true) (hown : w1.ownsRow (w.heap.size + 1) 67 3 v' ((ks f l).length + 1) (tv (ks f l) ++ [.int .i64 (k : Int), .int .i64 (x : Int), .int .i64 (y : Int)])) (hg : W.grownBy w1 v.ownBlock) (hn : v' = .slice none 0 0 ↔ v = .slice none 0 0 ∧ 1 = 0) : Rs w f (l ++ [(k, x, y)]) v' w1 := by
  obtain ⟨gv, cv, h1, h4, h5, h9, h10⟩ := h
  rcases hown.2 with ⟨e, _⟩ | ⟨g2, cap2, cur, e, hr⟩
  · exact absurd (hn.mp e).2 (by decide)
  · have ek : ks f (l ++ [(k, x, y)]) = ks f l ++ [(k, x, y)] := by rw [ks_snoc, hk]; rfl
    unfold Rs
    rw [ek, tv_snoc, List.length_append]
    have hlt := h4.lt
    refine ⟨g2, cap2, e, hown, ?_, h9.grown hg (by omega) (fun k hk => by have := (hlt k hk).1; omega), Nat.le_trans h10 hg.size⟩
    rw [hg.block _ (by omega) (fun e2 => by have := (hlt _ e2.symm).1; omega)]
    exact h5
def KtPost (l : List (Nat × Nat × Nat)) (w : World) (e : Ending) (w' : World) : Prop := ∃ g cap, e = .returned (.slice (some ⟨g, 0, none⟩) l.length cap) ∧ w'.ownsRow w.heap.size 67 3 (.slice (some ⟨g, 0, none⟩) l.length cap) l.length (tv l) ∧ Below w.heap.size w w'
set_option maxHeartbeats 4000000 in
theorem lkept_f (f : Nat → Nat → Bool) (w : World) : Calls Try.prog 162 #[.agg #[.int .i64 (rowv (f 0)), .int .i64 (rowv (f 1)), .int .i64 (rowv (f 2)), .int .i64 (rowv (f 3)), .int .i64 (rowv (f 4)), .int .i64 (rowv (f 5))]] w (KtPost (ks f (L1 6 8)) w) := by
  obtain ⟨i0, hi, hz0, hz1, hz2⟩ := info_parts info67
  go_enter Try.func162, Try.ntmps162
  go_wp2_with fail
  have S0 : Hid (Rs w f (L1 6 0) (.slice (some ⟨w.heap.size + 1, 0, none⟩) 0 0) ((w.alloc (.cells #[.int .i64 (rowv (f 0)), .int .i64 (rowv (f 1)), .int .i64 (rowv (f 2)), .int .i64 (rowv (f 3)), .int .i64 (rowv (f 4)), .int .i64 (rowv (f 5))] 28)).alloc (.cells #[] 67))) := Lib.hid (by
    refine ⟨w.heap.size + 1, 0, rfl, ?_, alloc_past (alloc_at rfl), by (repeat (first | exact Below.refl _ _ | assumption | refine Below.setCell ?_ (by first | (simp; done) | (simp; omega)) _ | refine Below.alloc ?_ (by first | (simp; done) | (simp; omega)) _ | refine Below.drew ?_)), by simp⟩
    have h := World.ownsRow_lit (base := w.heap.size + 1) (e := 67) (size := 3) (w.alloc (.cells #[.int .i64 (rowv (f 0)), .int .i64 (rowv (f 1)), .int .i64 (rowv (f 2)), .int .i64 (rowv (f 3)), .int .i64 (rowv (f 4)), .int .i64 (rowv (f 5))] 28)) #[] 0 (by simp) (by unfold maxLen; omega) rfl
    rw [show (w.alloc (.cells #[.int .i64 (rowv (f 0)), .int .i64 (rowv (f 1)), .int .i64 (rowv (f 2)), .int .i64 (rowv (f 3)), .int .i64 (rowv (f 4)), .int .i64 (rowv (f 5))] 28)).heap.size = w.heap.size + 1 by simp] at h
    exact h)
  generalize (World.alloc _ _ : World) = W0 at S0 ⊢
  generalize hv0 : (Value.slice (some ⟨w.heap.size + 1, 0, none⟩) 0 0) = v0 at S0 ⊢
  clear hv0
  go_loopw [3, 4] (fun v c wr => ∃ k : Nat, k ≤ 8 ∧ c = .int .i64 k ∧ Hid (Rs w f (L1 6 k) v wr)) (fun _ c _ => 8 - (intOf c).toNat)
  case atStart => exact ⟨0, by omega, rfl, S0⟩
  case round =>
    obtain ⟨k, hk, rfl, HS⟩ := hrel
    by_cases hlt : k < 8
    · have hlt' : (k : Int) < 8 := by omega
      have hlt2 : decide ((k : Int) < 8) = true := decide_eq_true hlt'
      go_wp2_with fail
      try rw [hlt2]
      clear hlt2
      go_loopw [3, 5] (fun v c wr => ∃ x : Nat, x ≤ 6 ∧ c = .int .i64 x ∧ Hid (Rs w f (L1 6 k ++ L2 6 k x) v wr)) (fun _ c _ => 6 - (intOf c).toNat)
      case atStart => exact ⟨0, by omega, rfl, Lib.hid (by rw [show L2 6 k 0 = [] from rfl, List.append_nil]; exact HS.out)⟩
      case round =>
        obtain ⟨x, hx, rfl, HX⟩ := hrel
        by_cases hlx : x < 6
        · have hlx' : (x : Int) < 6 := by omega
          have hlx2 : decide ((x : Int) < 6) = true := decide_eq_true hlx'
          go_wp2_with fail
          try rw [hlx2]
          clear hlx2
          go_loopw [3, 6] (fun v c wr => ∃ y : Nat, y ≤ 6 ∧ c = .int .i64 y ∧ Hid (Rs w f (L1 6 k ++ L2 6 k x ++ L3 k x y) v wr)) (fun _ c _ => 6 - (intOf c).toNat)
          case atStart => exact ⟨0, by omega, rfl, Lib.hid (by rw [show L3 k x 0 = [] from rfl, List.append_nil]; exact HX.out)⟩
          case round =>
            obtain ⟨y, hy, rfl, HY⟩ := hrel
            by_cases hly : y < 6
            · have hly' : (y : Int) < 6 := by omega
              obtain ⟨gv, cv, rfl, _, _, _, hsz⟩ := HY.out
              have HN : (ks f (L1 6 k ++ L2 6 k x ++ L3 k x y)).length ≤ 600 := by
                refine Nat.le_trans (ks_len _ _) ?_
                rw [List.length_append, List.length_append, L1_len, L2_len, L3_len]
                omega
              obtain ⟨l, hl⟩ : ∃ l, l = L1 6 k ++ L2 6 k x ++ L3 k x y := ⟨_, rfl⟩
              rw [← hl] at HN HY ⊢
              have HN2 := Lib.hid HN
              have HLL := Lib.hid hl
              clear HN hl
              go_wp2_with fail
              have HA := Lib.hid (HY.out.below (N := wr.heap.size) ((Below.refl _ _).alloc (Nat.le_refl _) (.cells #[.int .i64 (k : Int), .int .i64 (x : Int), .int .i64 (y : Int)] 67)) rfl)
              have hq : (wr.alloc (.cells #[.int .i64 (k : Int), .int .i64 (x : Int), .int .i64 (y : Int)] 67)).heap[wr.heap.size]? = some (.cells #[.int .i64 (k : Int), .int .i64 (x : Int), .int .i64 (y : Int)] 67 (0, 0)) := alloc_at rfl
              clear HY
              generalize (World.alloc _ _ : World) = W1 at HA hq ⊢
              generalize wr.heap.size = gc at hq hsz ⊢
              obtain ⟨_, _, _, _, hs, hbw, _⟩ := HA.out
              have k0 : (fun U => U.cell? ⟨gc, 0, none⟩ = some (.int .i64 (k : Int)) ∧ U.cell? ⟨gc, 1, none⟩ = some (.int .i64 (x : Int)) ∧ U.cell? ⟨gc, 2, none⟩ = some (.int .i64 (y : Int)) ∧ U.cell? ⟨w.heap.size, 0, none⟩ = some (.int .i64 (rowv (f 0))) ∧ U.cell? ⟨w.heap.size, 1, none⟩ = some (.int .i64 (rowv (f 1))) ∧ U.cell? ⟨w.heap.size, 2, none⟩ = some (.int .i64 (rowv (f 2))) ∧ U.cell? ⟨w.heap.size, 3, none⟩ = some (.int .i64 (rowv (f 3))) ∧ U.cell? ⟨w.heap.size, 4, none⟩ = some (.int .i64 (rowv (f 4))) ∧ U.cell? ⟨w.heap.size, 5, none⟩ = some (.int .i64 (rowv (f 5))) ∧ Below w.heap.size w U) W1 := ⟨cell_of_row W1 _ 0 _ _ _ hq, cell_of_row W1 _ 1 _ _ _ hq, cell_of_row W1 _ 2 _ _ _ hq, cell_of_row W1 _ 0 _ _ _ hs, cell_of_row W1 _ 1 _ _ _ hs, cell_of_row W1 _ 2 _ _ _ hs, cell_of_row W1 _ 3 _ _ _ hs, cell_of_row W1 _ 4 _ _ _ hs, cell_of_row W1 _ 5 _ _ _ hs, hbw⟩
              dsimp only at k0
              have HD := Lib.hid (HA.out.below (N := W1.heap.size) (Below.refl _ _).drew rfl)
              have hqd : W1.drew.heap[gc]? = some (.cells #[.int .i64 (k : Int), .int .i64 (x : Int), .int .i64 (y : Int)] 67 (0, 0)) := hq
              have HQ := Lib.hid hqd
              have HF := Lib.hid (lmove_f f hlt hlx hly)
              have e3 := eq26 (rowv (sf x y (tf k f) 0)) (rowv (sf x y (tf k f) 1)) (rowv (sf x y (tf k f) 2)) (rowv (sf x y (tf k f) 3)) (rowv (sf x y (tf k f) 4)) (rowv (sf x y (tf k f) 5)) (rowv (f 0)) (rowv (f 1)) (rowv (f 2)) (rowv (f 3)) (rowv (f 4)) (rowv (f 5))
              clear hq hqd hs hbw HA
              cases hk2 : kb f (k, x, y)
              · have e4 : ∀ w, (binOp .eql 28 (.agg #[.int .i64 (rowv (sf x y (tf k f) 0)), .int .i64 (rowv (sf x y (tf k f) 1)), .int .i64 (rowv (sf x y (tf k f) 2)), .int .i64 (rowv (sf x y (tf k f) 3)), .int .i64 (rowv (sf x y (tf k f) 4)), .int .i64 (rowv (sf x y (tf k f) 5))]) (.agg #[.int .i64 (rowv (f 0)), .int .i64 (rowv (f 1)), .int .i64 (rowv (f 2)), .int .i64 (rowv (f 3)), .int .i64 (rowv (f 4)), .int .i64 (rowv (f 5))])).run Try.prog w = .ok (.bool false) w := fun w => (e3 w).trans (by rw [show (rowv (sf x y (tf k f) 0) == rowv (f 0) && rowv (sf x y (tf k f) 1) == rowv (f 1) && rowv (sf x y (tf k f) 2) == rowv (f 2) && rowv (sf x y (tf k f) 3) == rowv (f 3) && rowv (sf x y (tf k f) 4) == rowv (f 4) && rowv (sf x y (tf k f) 5) == rowv (f 5)) = kb f (k, x, y) from rfl, hk2])
                clear e3
                set_option maxRecDepth 8000 in
                go_region_held3 (fun U => U.cell? ⟨gc, 0, none⟩ = some (.int .i64 (k : Int)) ∧ U.cell? ⟨gc, 1, none⟩ = some (.int .i64 (x : Int)) ∧ U.cell? ⟨gc, 2, none⟩ = some (.int .i64 (y : Int)) ∧ U.cell? ⟨w.heap.size, 0, none⟩ = some (.int .i64 (rowv (f 0))) ∧ U.cell? ⟨w.heap.size, 1, none⟩ = some (.int .i64 (rowv (f 1))) ∧ U.cell? ⟨w.heap.size, 2, none⟩ = some (.int .i64 (rowv (f 2))) ∧ U.cell? ⟨w.heap.size, 3, none⟩ = some (.int .i64 (rowv (f 3))) ∧ U.cell? ⟨w.heap.size, 4, none⟩ = some (.int .i64 (rowv (f 4))) ∧ U.cell? ⟨w.heap.size, 5, none⟩ = some (.int .i64 (rowv (f 5))) ∧ Below w.heap.size w U) (first | with_reducible exact drewc9 k0 | with_reducible assumption) (first | (go_at_call 148; with_reducible refine (HF.out _).mono ?_; rintro e w' ⟨rfl, hb'⟩; have hk := keepc9 (by with_reducible assumption) hb' rfl; have HE := Lib.hid (HD.out.below hb' rfl)))
                all_goals
                  clear k0 hk e4 hb' HD HQ HF
                  go_wp2_with fail
                  go_roundw
                  case rel => exact ⟨y + 1, by omega, by go_num, Lib.hid (by rw [L3_succ, ← List.append_assoc, ← HLL.out]; exact HE.out.no hk2)⟩
                  case measure => simp [intOf]; omega
              · have e4 : ∀ w, (binOp .eql 28 (.agg #[.int .i64 (rowv (sf x y (tf k f) 0)), .int .i64 (rowv (sf x y (tf k f) 1)), .int .i64 (rowv (sf x y (tf k f) 2)), .int .i64 (rowv (sf x y (tf k f) 3)), .int .i64 (rowv (sf x y (tf k f) 4)), .int .i64 (rowv (sf x y (tf k f) 5))]) (.agg #[.int .i64 (rowv (f 0)), .int .i64 (rowv (f 1)), .int .i64 (rowv (f 2)), .int .i64 (rowv (f 3)), .int .i64 (rowv (f 4)), .int .i64 (rowv (f 5))])).run Try.prog w = .ok (.bool true) w := fun w => (e3 w).trans (by rw [show (rowv (sf x y (tf k f) 0) == rowv (f 0) && rowv (sf x y (tf k f) 1) == rowv (f 1) && rowv (sf x y (tf k f) 2) == rowv (f 2) && rowv (sf x y (tf k f) 3) == rowv (f 3) && rowv (sf x y (tf k f) 4) == rowv (f 4) && rowv (sf x y (tf k f) 5) == rowv (f 5)) = kb f (k, x, y) from rfl, hk2])
                clear e3
                set_option maxRecDepth 8000 in
                go_region_held3 (fun U => U.cell? ⟨gc, 0, none⟩ = some (.int .i64 (k : Int)) ∧ U.cell? ⟨gc, 1, none⟩ = some (.int .i64 (x : Int)) ∧ U.cell? ⟨gc, 2, none⟩ = some (.int .i64 (y : Int)) ∧ U.cell? ⟨w.heap.size, 0, none⟩ = some (.int .i64 (rowv (f 0))) ∧ U.cell? ⟨w.heap.size, 1, none⟩ = some (.int .i64 (rowv (f 1))) ∧ U.cell? ⟨w.heap.size, 2, none⟩ = some (.int .i64 (rowv (f 2))) ∧ U.cell? ⟨w.heap.size, 3, none⟩ = some (.int .i64 (rowv (f 3))) ∧ U.cell? ⟨w.heap.size, 4, none⟩ = some (.int .i64 (rowv (f 4))) ∧ U.cell? ⟨w.heap.size, 5, none⟩ = some (.int .i64 (rowv (f 5))) ∧ Below w.heap.size w U) (first | with_reducible exact drewc9 k0 | with_reducible assumption) (first | (go_at_call 148; with_reducible refine (HF.out _).mono ?_; rintro e w' ⟨rfl, hb'⟩; have hk := keepc9 (by with_reducible assumption) hb' rfl; have HE := Lib.hid (HD.out.below hb' rfl); have HR := Lib.hid (rowk HQ.out hb' rfl)))
                all_goals
                  clear k0 hk e4 hb' HD HQ HF
                  have HG := Lib.hid (HE.out.below (N := w'.heap.size) ((Below.refl _ _).alloc (Nat.le_refl _) (.cells #[.int .i64 (k : Int), .int .i64 (x : Int), .int .i64 (y : Int)] 67)) rfl)
                  obtain ⟨_, _, _, HO, _, _, HB⟩ := HG.out
                  have HN := HN2.out
                  have g_c := fun k => cell_of_row w' _ k _ _ _ HR.out
                  go_wp2_with (at_builtin; refine wpList_append_own _ rfl _ _ 85 rfl (w.heap.size + 1) 67 i0 (.agg #[.int .i64 0, .int .i64 0, .int .i64 0]) 3 24 Try.underlying85 hi hz0 hz1 hz2 rfl (by decide) _ _ _ rfl HO ⟨w'.heap.size, 0, none⟩ 1 1 [.int .i64 (k : Int), .int .i64 (x : Int), .int .i64 (y : Int)] rfl rfl (three_new _ _ _ _ _) (ints_one3 _ _ _) (by have := HN; unfold maxLen; omega) (by have := HN; omega) (by omega) ?_; intro v' w1 hown' hgrow hnn; have R := Lib.hid (HG.out.yes hk2 hown' hgrow hnn); clear hown' hgrow hnn HG HO HB HN g_c)
                  go_roundw
                  case rel => exact ⟨y + 1, by omega, by go_num, Lib.hid (by rw [L3_succ, ← List.append_assoc, ← HLL.out]; exact R.out)⟩
                  case measure => simp [intOf]; omega
            · obtain rfl : y = 6 := by omega
              clear hi hz0 hz1 hz2
              go_wp2_with fail
              go_roundw
              case rel => exact ⟨x + 1, by omega, by go_num, Lib.hid (by rw [L2_succ, ← List.append_assoc]; exact HY.out)⟩
              case measure => simp [intOf]; omega
        · obtain rfl : x = 6 := by omega
          clear hi hz0 hz1 hz2
          go_wp2_with fail
          go_roundw
          case rel => exact ⟨k + 1, by omega, by go_num, Lib.hid (by rw [L1_succ]; exact HX.out)⟩
          case measure => simp [intOf]; omega
    · obtain rfl : k = 8 := by omega
      obtain ⟨gv, cv, rfl, h4, _, h9, _⟩ := HS.out
      have H4 := Lib.hid h4
      have H9 := Lib.hid h9
      clear h4 h9 HS hi hz0 hz1 hz2
      go_wp2_with fail
      go_ret
      exact ⟨gv, cv, rfl, own_mono H4.out (Nat.le_succ _), H9.out⟩
end Go.Proofs.Ytpgfmigbjffemaa
