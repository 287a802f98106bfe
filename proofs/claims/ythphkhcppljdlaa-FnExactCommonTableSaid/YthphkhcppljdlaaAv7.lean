/- CONTRACTS: all vectors of the code; a list of vectors that a test takes out of all. -/
import Derived.Test.YthphkhcppljdlaaRl6
import Derived.Laws.OwnMore
import Derived.WalkKit
import Derived.ProofKit
import Derived.OpenShut
import Derived.Lib.Hide
import Derived.WalkSpells
import Derived.Below
import Derived.BigQuiet
import Derived.LoopN
namespace Go.Proofs.Ythphkhcppljdlaa
open Go.ChangeShapes Go.WideShapes Go.ChangeAt Go.RowKit
set_option linter.unusedVariables false
/-- The vectors of the first k (dx the slower) that a test takes. -/
def pl (g : Nat → Nat → Bool) : Nat → List (Nat × Nat)
  | 0 => []
  | k + 1 => pl g k ++ (if g (k / 6) (k % 6) then [(k / 6, k % 6)] else [])
theorem pl_no {g : Nat → Nat → Bool} {x y : Nat} (hy : y < 6) (h : g x y = false) : pl g (6 * x + y + 1) = pl g (6 * x + y) := by
  have e1 : (6 * x + y) / 6 = x := by omega
  have e2 : (6 * x + y) % 6 = y := by omega
  show pl g (6 * x + y) ++ _ = _
  rw [e1, e2, h]; simp
theorem pl_yes {g : Nat → Nat → Bool} {x y : Nat} (hy : y < 6) (h : g x y = true) : pl g (6 * x + y + 1) = pl g (6 * x + y) ++ [(x, y)] := by
  have e1 : (6 * x + y) / 6 = x := by omega
  have e2 : (6 * x + y) % 6 = y := by omega
  show pl g (6 * x + y) ++ _ = _
  rw [e1, e2, h]; simp
theorem pl_len (g : Nat → Nat → Bool) : ∀ k, (pl g k).length ≤ k
  | 0 => Nat.le_refl _
  | k + 1 => by
    have := pl_len g k
    show (pl g k ++ _).length ≤ _
    split <;> simp <;> omega
/-- All vectors. -/
def vl (k : Nat) : List (Nat × Nat) := pl (fun _ _ => true) k
theorem vl_succ (k : Nat) : vl (k + 1) = vl k ++ [(k / 6, k % 6)] := rfl
theorem vl_len : ∀ k, (vl k).length = k
  | 0 => rfl
  | k + 1 => by rw [vl_succ, List.length_append, vl_len k]; rfl
theorem vl_get : ∀ (n k : Nat) (h : k < (vl n).length), (vl n)[k] = (k / 6, k % 6)
  | 0, k, h => absurd h (by simp [vl, pl])
  | n + 1, k, h => by
    have hl := vl_len n
    have hn : k < n + 1 := by rw [vl_len] at h; exact h
    rcases Nat.lt_or_ge k n with hk | hk
    · have : (vl (n + 1))[k] = (vl n)[k]'(by omega) := by
        simp only [vl_succ]
        exact List.getElem_append_left (by omega)
      rw [this]
      exact vl_get n k _
    · obtain rfl : k = n := by omega
      simp only [vl_succ]
      rw [List.getElem_append_right (by omega)]
      simp [hl]
theorem kept_alloc7 {W : World} {B n : Nat} {e : TypeId} {size : Nat} {v : Value} {xs : List Value} (h : W.ownsRow B e size v n xs) (o : Obj) : (W.alloc o).ownsRow B e size v n xs := h.alloc o
/-- A list of pairs that the call owns. -/
def Rn (w : World) (l : List (Nat × Nat)) (v : Value) (W : World) : Prop := W.ownsRow w.heap.size 25 2 v l.length (cv l) ∧ Below w.heap.size w W
theorem Rn.app {w W w1 : World} {l : List (Nat × Nat)} {x y : Nat} {v v' : Value} (o : Obj) (h : Rn w l v W) (hown : w1.ownsRow w.heap.size 25 2 v' (l.length + 1) (cv l ++ [.int .i64 (x : Int), .int .i64 (y : Int)])) (hg : (W.alloc o).grownBy w1 v.ownBlock) : Rn w (l ++ [(x, y)]) v' w1 := by
  refine ⟨?_, (h.2.alloc h.2.size _).grown hg (by have := h.2.size; simp; omega) (fun k hk => (h.1.lt k hk).1)⟩
  rw [cv_snoc, List.length_append]
  exact hown
set_option maxHeartbeats 4000000 in
theorem vectors_f (w : World) : Calls Try.prog 105 #[] w (LP (vl 36) w) := by
  obtain ⟨i0, hi, hz0, hz1, hz2⟩ := info_parts info44
  go_enter Try.func105, Try.ntmps105
  go_wp2_with fail
  go_loopw [1, 4] (fun v c wr => ∃ x : Nat, x ≤ 6 ∧ c = .int .i64 x ∧ Hid (Rn w (vl (6 * x)) v wr)) (fun _ c _ => 6 - (intOf c).toNat)
  case atStart => exact ⟨0, by omega, rfl, Lib.hid ⟨World.ownsRow_nil _ _ _ _, Below.refl _ _⟩⟩
  case round =>
    obtain ⟨x, hx, rfl, HX⟩ := hrel
    by_cases hlx : x < 6
    · have hlx' : (x : Int) < 6 := by omega
      have hlx2 : decide ((x : Int) < (6 : Int)) = true := decide_eq_true hlx'
      go_wp2_with fail
      try rw [hlx2]
      clear hlx2
      go_loopw [1, 7] (fun v c wr => ∃ y : Nat, y ≤ 6 ∧ c = .int .i64 y ∧ Hid (Rn w (vl (6 * x + y)) v wr)) (fun _ c _ => 6 - (intOf c).toNat)
      case atStart => exact ⟨0, by omega, rfl, HX⟩
      case round =>
        obtain ⟨y, hy, rfl, HY⟩ := hrel
        by_cases hly : y < 6
        · have hly' : (y : Int) < 6 := by omega
          have HO := kept_alloc7 HY.out.1 (.cells #[.int .i64 (x : Int), .int .i64 (y : Int)] 25)
          have HB := HY.out.2.size
          have HE : vl (6 * x + y + 1) = vl (6 * x + y) ++ [(x, y)] := pl_yes hly rfl
          have HE := Lib.hid HE
          have HL : (vl (6 * x + y)).length ≤ 36 := by rw [vl_len]; omega
          generalize vl (6 * x + y) = L at HY HO HE HL ⊢
          go_wp2_with (at_builtin; refine wpList_append_own _ rfl _ _ 52 rfl w.heap.size 25 i0 (.agg #[.int .i64 0, .int .i64 0]) 2 16 Try.underlying52 hi hz0 hz1 hz2 rfl (by decide) _ _ _ rfl HO ⟨wr.heap.size, 0, none⟩ 1 1 [.int .i64 (x : Int), .int .i64 (y : Int)] rfl rfl (two_new _ _ _ _) (ints_one _ _) (by have := HL; unfold maxLen; omega) (by have := HL; omega) (by have := HB; simp; omega) ?_; intro v' w1 hown' hgrow hnn; have R := Lib.hid (HY.out.app _ hown' hgrow); clear hown' hgrow hnn HY HO HL HB)
          go_roundw
          case rel => exact ⟨y + 1, by omega, by go_num, by rw [show 6 * x + (y + 1) = 6 * x + y + 1 from rfl, HE.out]; exact R⟩
          case measure => simp [intOf]; omega
        · obtain rfl : y = 6 := by omega
          clear hi hz0 hz1 hz2
          go_wp2_with fail
          go_roundw
          case rel => exact ⟨x + 1, by omega, by go_num, HY⟩
          case measure => simp [intOf]; omega
    · obtain rfl : x = 6 := by omega
      have h1 := HX.out.1
      have hn : 0 < (vl (6 * 6)).length := by rw [vl_len]; omega
      rcases h1.2 with ⟨_, h0⟩ | ⟨g, cap, cur, rfl, hb, hr⟩
      · omega
      · have H1 := Lib.hid h1
        have HB := Lib.hid HX.out.2
        clear h1 hb hr HX hi hz0 hz1 hz2
        go_wp2_with fail
        go_ret
        exact ⟨g, cap, rfl, H1.out, HB.out⟩
end Go.Proofs.Ythphkhcppljdlaa
