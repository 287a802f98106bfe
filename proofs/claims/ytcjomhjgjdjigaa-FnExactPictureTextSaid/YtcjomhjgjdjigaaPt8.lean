/- CONTRACTS: PictureText, the code's. -/
import Derived.Test.YtcjomhjgjdjigaaZm8
import Derived.Test.YtcjomhjgjdjigaaVi8
import Derived.RegionTactic
import Derived.WalkKit
import Derived.ProofKit
import Derived.OpenShut
import Derived.Lib.Hide
import Derived.WalkSpells
import Derived.Below
import Derived.BigQuiet
import Derived.LoopN
namespace Go.Proofs.Ytcjomhjgjdjigaa
open Go.ChangeShapes Go.WideShapes Go.ChangeAt Go.RowKit
set_option linter.unusedVariables false
/-- Midway: the rows under construction. -/
def Sv8 (w : World) (G : Nat) (m : Nat → Int) (p : Nat) (W : World) : Prop := W.heap[G]? = some (c6 (sv8 m p) 9) ∧ w.heap.size ≤ G ∧ Below w.heap.size w W
theorem Sv8.al {w W : World} {G p : Nat} {m : Nat → Int} {o : Obj} (h : Sv8 w G m p W) : Sv8 w G m p (W.alloc o) := ⟨alloc_past h.1, h.2.1, h.2.2.alloc h.2.2.size _⟩
theorem Sv8.put {w W : World} {G x y : Nat} {m : Nat → Int} {t : UInt8} (hx : x < 6) (hy : y < 6) (ht : sg (m (y * 6 + x)) = t) (h : Sv8 w G m (6 * y + x) W) : Sv8 w G m (6 * y + (x + 1)) (W.setCell ⟨G, y, none⟩ (.string (qx ⟨#[]⟩ (rw8 m y) x ++ ⟨#[t]⟩))) := by
  subst ht
  have H1 := c6_set (v' := sv8 m (6 * y + (x + 1))) hy (fun j _ hj => sv8_to m hx hj) h.1
  rw [sv8_next m hx] at H1
  exact ⟨H1, h.2.1, h.2.2.setCell h.2.1 _⟩
theorem Sv8.drew {w W : World} {G p : Nat} {m : Nat → Int} (h : Sv8 w G m p W) : Sv8 w G m p W.drew := ⟨h.1, h.2.1, h.2.2.drew⟩
theorem five8 {v : Int} (h0 : 0 ≤ v) (h4 : v ≤ 4) : v = 0 ∨ v = 1 ∨ v = 2 ∨ v = 3 ∨ v = 4 := by omega
set_option maxRecDepth 8000 in
set_option maxHeartbeats 2000000 in
theorem ptext_yes (m : Nat → Int) (HO : Hid (okp m = true)) (w : World) : Calls Try.prog 60 #[pv m] w fun e w' => e = .returned (.tuple #[.string (pgt m), .bool true]) ∧ Below w.heap.size w w' := by
  have HI := Lib.hid (impic_any m)
  have hmk := make_s8 m
  go_enter Try.func60, Try.ntmps60
  have q1 : (w.alloc (pb 27 m)).heap[w.heap.size]? = some (pb 27 m) := alloc_at rfl
  have K0 : KR 1 [(w.heap.size, pb 27 m)] w (w.alloc (pb 27 m)) := ⟨by intro p hp; simp only [List.mem_cons, List.mem_nil_iff, or_false] at hp; subst hp; exact ⟨by simp, q1⟩, by simp, by (repeat (first | exact Below.refl _ _ | assumption | refine Below.setCell ?_ (by first | (simp; done) | (simp; omega)) _ | refine Below.alloc ?_ (by first | (simp; done) | (simp; omega)) _ | refine Below.drew ?_))⟩
  go_wp2_with (first | ((with_reducible refine wpB36 m ?_ ?_); rfl) | ((with_reducible refine wpL36 w.heap.size 27 m q1 _ Try.underlying27 ?_ ?_ ?_ ?_); rfl; rfl; kernel_rfl))
  clear q1
  refine (HI.out _).mono ?_
  rintro e W1 ⟨rfl, hb⟩
  have K1 := K0.far hb rfl
  clear hb K0
  rw [HO.out]
  have q2 : Hid ((W1.alloc (c6 (sv8 m 0) 9)).heap[w.heap.size]? = some (pb 27 m)) := Lib.hid (alloc_past (K1.row (g := w.heap.size) (o := pb 27 m) (by simp)))
  have S0 : Hid (Sv8 w W1.heap.size m (6 * 0) (W1.alloc (c6 (sv8 m 0) 9))) := Lib.hid ⟨alloc_at rfl, K1.2.2.size, K1.2.2.alloc K1.2.2.size _⟩
  go_wp2_with ((with_reducible refine wpL36 w.heap.size 27 m q2.out _ Try.underlying23 ?_ ?_ ?_ ?_); rfl; rfl; kernel_rfl)
  clear q2 K1 hmk
  generalize (World.alloc W1 _ : World) = W2 at S0 ⊢
  generalize W1.heap.size = G at S0 ⊢
  go_loopw [15] (fun c wr => ∃ y : Nat, y ≤ 6 ∧ c = .int .i64 y ∧ Hid (Sv8 w G m (6 * y) wr)) (fun c _ => 6 - (intOf c).toNat)
  case atStart => exact ⟨0, by omega, rfl, S0⟩
  case round =>
    obtain ⟨y, hy, rfl, HS⟩ := hrel
    by_cases hlt : y < 6
    · have hlt' : (y : Int) < 6 := by omega
      have hlt2 : decide ((y : Int) < 6) = true := decide_eq_true hlt'
      have hr := row36 m y hlt
      go_wp2_with fail
      try rw [hlt2]
      have HA : Hid (Sv8 w G m (6 * y + 0) (wr.alloc (.cells #[.int .i64 (m (y * 6)), .int .i64 (m (y * 6 + 1)), .int .i64 (m (y * 6 + 2)), .int .i64 (m (y * 6 + 3)), .int .i64 (m (y * 6 + 4)), .int .i64 (m (y * 6 + 5))] 22))) := Lib.hid HS.out.al
      clear hlt2 hr HS
      generalize (World.alloc _ _ : World) = W3 at HA ⊢
      go_loopw [20] (fun c wr => ∃ x : Nat, x ≤ 6 ∧ c = .int .i64 x ∧ Hid (Sv8 w G m (6 * y + x) wr)) (fun c _ => 6 - (intOf c).toNat)
      case atStart => exact ⟨0, by omega, rfl, HA⟩
      case round =>
        obtain ⟨x, hx, rfl, HT⟩ := hrel
        by_cases hlx : x < 6
        · have hlx' : (x : Int) < 6 := by omega
          have hy0 : (0 : Int) ≤ y := by omega
          have he : ∀ W, (Instr.index 22 (.agg #[.int .i64 (m (y * 6)), .int .i64 (m (y * 6 + 1)), .int .i64 (m (y * 6 + 2)), .int .i64 (m (y * 6 + 3)), .int .i64 (m (y * 6 + 4)), .int .i64 (m (y * 6 + 5))]) (.int .i64 x)).run Try.prog W = .ok (.int .i64 (m (y * 6 + x))) W := el6 (fun j => m (y * 6 + j)) x hlx
          have hok := okp_all HO.out (y * 6 + x) (by omega)
          have HP : Hid (∀ t, sg (m (y * 6 + x)) = t → Sv8 w G m (6 * y + (x + 1)) ((wr.drew).setCell ⟨G, y, none⟩ (.string (qx ⟨#[]⟩ (rw8 m y) x ++ ⟨#[t]⟩)))) := Lib.hid fun t ht => Sv8.put hlx hlt ht HT.out.drew
          have b_y := c6_at hlt HT.out.1
          rw [sv8_is m hx] at b_y
          have b_f := fun j => frozen_of_row wr G j _ _ HT.out.1
          have hsz : (qx ⟨#[]⟩ (rw8 m y) x).size ≤ 48 := by rw [qx_size]; show 0 + x ≤ 48; omega
          have hst : ¬ (9223372036854775807 < (qx ⟨#[]⟩ (rw8 m y) x).size + 1) := by omega
          generalize qx ⟨#[]⟩ (rw8 m y) x = T at HP b_y hsz hst
          generalize m (y * 6 + x) = v at he HP hok
          rcases five8 hok.1 hok.2 with h | h | h | h | h
          · subst h
            have HJ := Lib.hid (HP.out 46 (by decide))
            clear HP HT hok
            go_wp2_with fail
            go_region
            all_goals
              (try go_wp2_with fail)
              go_roundw
              case rel => exact ⟨x + 1, by omega, by go_num, HJ⟩
              case measure => simp [intOf]; omega
          · subst h
            have HJ := Lib.hid (HP.out 49 (by decide))
            clear HP HT hok
            go_wp2_with fail
            go_region
            all_goals
              (try go_wp2_with fail)
              go_roundw
              case rel => exact ⟨x + 1, by omega, by go_num, HJ⟩
              case measure => simp [intOf]; omega
          · subst h
            have HJ := Lib.hid (HP.out 50 (by decide))
            clear HP HT hok
            go_wp2_with fail
            go_region
            all_goals
              (try go_wp2_with fail)
              go_roundw
              case rel => exact ⟨x + 1, by omega, by go_num, HJ⟩
              case measure => simp [intOf]; omega
          · subst h
            have HJ := Lib.hid (HP.out 51 (by decide))
            clear HP HT hok
            go_wp2_with fail
            go_region
            all_goals
              (try go_wp2_with fail)
              go_roundw
              case rel => exact ⟨x + 1, by omega, by go_num, HJ⟩
              case measure => simp [intOf]; omega
          · subst h
            have HJ := Lib.hid (HP.out 52 (by decide))
            clear HP HT hok
            go_wp2_with fail
            go_region
            all_goals
              (try go_wp2_with fail)
              go_roundw
              case rel => exact ⟨x + 1, by omega, by go_num, HJ⟩
              case measure => simp [intOf]; omega
        · obtain rfl : x = 6 := by omega
          go_wp2_with fail
          go_roundw
          case rel => exact ⟨y + 1, by omega, by go_num, Lib.hid HT.out⟩
          case measure => simp [intOf]; omega
    · obtain rfl : y = 6 := by omega
      have HJ := Zi.implJ_any G 0 6 (rx8 m) 47 wr (rd_8 m G wr HS.out.1) (row_lt HS.out.1) (fun x hx => by
        obtain ⟨j, hj, rfl⟩ := List.getElem_of_mem hx
        rw [(rx8_get m (List.getElem?_eq_getElem hj)).2, rtx_size]; decide) (by rw [rx8_len]; decide) (by rw [rx8_len]; decide) (by rw [rx8_len]; decide) ⟨#[47]⟩ rfl rfl
      rw [rx8_len, Zi.JRes_yes (rx8_can m), rx8_len] at HJ
      have HJ := Lib.hid HJ
      have HB := below_of HS.out.2.2 (Below.refl _ _) HS.out.2.2.size
      go_wp2_with (go_at_call 101; refine HJ.out.mono ?_; rintro e W2 ⟨rfl, hb⟩)
      (try rw [Exit.noGoto_ret])
      go_ret2
      exact ⟨rfl, below_of HS.out.2.2 hb HS.out.2.2.size⟩
end Go.Proofs.Ytcjomhjgjdjigaa
