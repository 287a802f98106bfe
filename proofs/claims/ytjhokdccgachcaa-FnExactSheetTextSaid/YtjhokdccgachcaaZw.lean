/- CONTRACTS: SheetText, the model's. -/
import Derived.Test.YtjhokdccgachcaaZn
import Derived.Test.YtjhokdccgachcaaTq
import Derived.WalkKit
import Derived.ProofKit
import Derived.OpenShut
import Derived.Lib.Hide
import Derived.WalkSpells
import Derived.Below
import Derived.BigQuiet
import Derived.LoopN
namespace Go.Proofs.Ytjhokdccgachcaa
open Go.ChangeShapes Go.WideShapes Go.ChangeAt Go.RowKit
set_option linter.unusedVariables false
/-- A text with x signs of a row behind it. -/
def px (b : ByteArray) (g : Nat → Bool) : Nat → ByteArray
  | 0 => b
  | x + 1 => px b g x ++ ⟨#[sgb (g x)]⟩
theorem px_six (b : ByteArray) (g : Nat → Bool) : px b g 6 = b ++ rtx g := by
  apply ByteArray.ext
  apply Array.toList_inj.1
  unfold rtx rtl
  simp [px, ByteArray.data_append]
theorem px_size (b : ByteArray) (g : Nat → Bool) : ∀ x, (px b g x).size = b.size + x
  | 0 => rfl
  | x + 1 => by
    rw [px, ByteArray.size_append, px_size b g x]
    show b.size + x + 1 = _
    omega
theorem jn_41 (s : F6) {y : Nat} (h1 : 1 ≤ y) (h6 : y ≤ 6) : (Zi.jn (rx6 s) 47 y).size ≤ 41 := by
  have h := Zi.jn_size (xs := rx6 s) (c := 47) h1 (by rw [rx6_len]; exact h6)
  have e : Zi.LL (rx6 s) y ≤ 41 := by
    obtain ⟨z, hz, rfl⟩ : ∃ z, z < 6 ∧ y = z + 1 := ⟨y - 1, by omega, by omega⟩
    rcases six_n hz with rfl | rfl | rfl | rfl | rfl | rfl <;> simp [Zi.LL, rx6, rtx_size]
  omega
/-- The text of y rows; with the mark behind it. -/
def ot (s : F6) (y : Nat) : ByteArray := if y = 0 then ⟨#[]⟩ else Zi.jn (rx6 s) 47 y
def sl (s : F6) (y : Nat) : ByteArray := if y = 0 then ⟨#[]⟩ else ot s y ++ ⟨#[47]⟩
theorem sl_0 (s : F6) : sl s 0 = ⟨#[]⟩ := by unfold sl; exact if_pos (Eq.refl (0 : Nat))
theorem sl_s (s : F6) {y : Nat} (h : y ≠ 0) : sl s y = Zi.jn (rx6 s) 47 y ++ ⟨#[47]⟩ := by unfold sl ot; rw [if_neg h, if_neg h]
theorem sl_o (s : F6) {y : Nat} (h : y ≠ 0) : ot s y ++ ⟨#[47]⟩ = sl s y := by unfold sl; rw [if_neg h]
theorem ot_s (s : F6) (y : Nat) : ot s (y + 1) = Zi.jn (rx6 s) 47 (y + 1) := by unfold ot; exact if_neg (Nat.succ_ne_zero y)
theorem ot_0 (s : F6) : ot s 0 = ⟨#[]⟩ := by unfold ot; exact if_pos (Eq.refl (0 : Nat))
theorem em_add (b : ByteArray) : (⟨#[]⟩ : ByteArray) ++ b = b := by apply ByteArray.ext; simp [ByteArray.data_append]
theorem ot_41 (s : F6) {y : Nat} (h6 : y ≤ 6) : (ot s y).size ≤ 41 := by
  by_cases h : y = 0
  · rw [h, ot_0]; decide
  · have e : ot s y = Zi.jn (rx6 s) 47 y := by unfold ot; exact if_neg h
    rw [e]; exact jn_41 s (by omega) h6
theorem sl_42 (s : F6) {y : Nat} (h6 : y ≤ 6) : (sl s y).size ≤ 42 := by
  by_cases h : y = 0
  · rw [h, sl_0]; decide
  · rw [← sl_o s h, ByteArray.size_append]
    have := ot_41 s h6
    show (ot s y).size + 1 ≤ 42
    omega
theorem sl_px (s : F6) {y : Nat} (hy : y < 6) : px (sl s y) (s y) 6 = ot s (y + 1) := by
  have hg : (rx6 s)[y]? = some (rtx (s y)) := by
    rcases six_n hy with rfl | rfl | rfl | rfl | rfl | rfl <;> rfl
  generalize hr : rtx (s y) = r at hg
  rw [px_six, hr, ot_s]
  by_cases h : y = 0
  · have e1 := Zi.jn_one (c := 47) (h ▸ hg)
    rw [h, sl_0, em_add]
    exact e1.symm
  · have e1 := Zi.jn_succ (c := 47) (by omega) hg
    rw [sl_s s h, e1]
theorem sgb_t {b : Bool} (h : b = true) : (⟨#[sgb b]⟩ : ByteArray) = ⟨#[35]⟩ := by rw [h]; rfl
theorem sgb_f {b : Bool} (h : b = false) : (⟨#[sgb b]⟩ : ByteArray) = ⟨#[46]⟩ := by rw [h]; rfl
/-- The round: the box stays. -/
def Rx (w : World) (s : F6) (t : ByteArray) (v : Value) (W : World) : Prop := v = .string t ∧ W.heap[w.heap.size]? = some (o6 s) ∧ Below w.heap.size w W
theorem Rx.far {w W V : World} {s : F6} {t : ByteArray} {v : Value} {N : Nat} (h : Rx w s t v W) (hb : Below N W V) (hN : N = W.heap.size) : Rx w s t v V :=
  ⟨h.1, rowk h.2.1 hb hN, below_of h.2.2 hb (by have := row_lt h.2.1; omega)⟩
set_option maxRecDepth 8000 in
set_option maxHeartbeats 1000000 in
theorem ltext_f (s : F6) (w : World) : Calls Try.prog 125 #[.agg #[.int .i64 (rowv (s 0)), .int .i64 (rowv (s 1)), .int .i64 (rowv (s 2)), .int .i64 (rowv (s 3)), .int .i64 (rowv (s 4)), .int .i64 (rowv (s 5))]] w fun e w' => e = .returned (.string (sgt s)) ∧ Below w.heap.size w w' := by
  go_enter Try.func125, Try.ntmps125
  go_wp2_with fail
  have S0 : Hid (Rx w s (ot s 0) (.string ⟨#[]⟩) (w.alloc (o6 s))) := Lib.hid ⟨by rw [ot_0], alloc_at rfl, by (repeat (first | exact Below.refl _ _ | assumption | refine Below.setCell ?_ (by first | (simp; done) | (simp; omega)) _ | refine Below.alloc ?_ (by first | (simp; done) | (simp; omega)) _ | refine Below.drew ?_))⟩
  unfold o6 at S0
  generalize (World.alloc _ _ : World) = W0 at S0 ⊢
  go_loopw [3, 4] (fun v y wr => ∃ j : Nat, j ≤ 6 ∧ y = .int .i64 j ∧ Hid (Rx w s (ot s j) v wr)) (fun _ y _ => 6 - (intOf y).toNat)
  case atStart => exact ⟨0, by omega, rfl, S0⟩
  case round =>
    obtain ⟨j, hj, rfl, HS⟩ := hrel
    obtain ⟨rfl, -, -⟩ := HS.out
    by_cases hlt : j < 6
    · have hlt' : (j : Int) < 6 := by omega
      have hj0 : (0 : Int) ≤ j := by omega
      have HP := Lib.hid (sl_px s hlt)
      by_cases hz : j = 0
      · have hz' : ¬ ((j : Int) > 0) := by omega
        have HX : Hid (Rx w s (px (sl s j) (s j) 0) (.string (ot s j)) wr) := Lib.hid ⟨by subst hz; show Value.string (ot s 0) = Value.string (sl s 0); rw [ot_0, sl_0], HS.out.2.1, HS.out.2.2⟩
        have hso := ot_41 s hj
        have hst : ¬ (9223372036854775807 < (ot s j).size + 1) := by omega
        clear hz
        go_wp2_with fail
        clear hst hso
        clear HS
        go_loopw [3, 5] (fun v x wr2 => ∃ i : Nat, i ≤ 6 ∧ x = .int .i64 i ∧ Hid (Rx w s (px (sl s j) (s j) i) v wr2)) (fun _ x _ => 6 - (intOf x).toNat)
        case atStart => exact ⟨0, by omega, rfl, HX⟩
        case round =>
          obtain ⟨i, hi, rfl, HI⟩ := hrel
          have HT : Hid (∀ b, s j i = b → px (sl s j) (s j) (i + 1) = px (sl s j) (s j) i ++ ⟨#[sgb b]⟩) := Lib.hid (fun b hb => by rw [← hb]; rfl)
          have HQ : Hid (i = 6 → px (sl s j) (s j) i = ot s (j + 1)) := Lib.hid (fun h => by rw [h]; exact HP.out)
          obtain ⟨rfl, -, -⟩ := HI.out
          have hsz : (px (sl s j) (s j) i).size ≤ 48 := by rw [px_size]; have := sl_42 s hj; omega
          have hst : ¬ (9223372036854775807 < (px (sl s j) (s j) i).size + 1) := by omega
          generalize px (sl s j) (s j) i = t at HI HT HQ hsz hst ⊢
          by_cases hl2 : i < 6
          · have hl2' : (i : Int) < 6 := by omega
            have hi0 : (0 : Int) ≤ i := by omega
            have a_c := fun k => cell_of_row _ _ k _ _ _ HI.out.2.1
            cases hg : s j i
            · have hs := Lib.hid (HT.out false hg)
              go_wp2_with (go_at_call 160; refine (get_f s hlt hl2 _).mono ?_; rintro e W2 ⟨rfl, hb⟩; rw [hg]; have HY := Lib.hid (HI.out.far hb rfl))
              refine ⟨⟨i + 1, by omega, rfl, Lib.hid ⟨by rw [hs.out]; rfl, HY.out.2.1, HY.out.2.2⟩⟩, ?_⟩
              show 6 - ((i : Int) + 1).toNat < 6 - (i : Int).toNat
              omega
            · have hs := Lib.hid (HT.out true hg)
              go_wp2_with (go_at_call 160; refine (get_f s hlt hl2 _).mono ?_; rintro e W2 ⟨rfl, hb⟩; rw [hg]; have HY := Lib.hid (HI.out.far hb rfl))
              refine ⟨⟨i + 1, by omega, rfl, Lib.hid ⟨by rw [hs.out]; rfl, HY.out.2.1, HY.out.2.2⟩⟩, ?_⟩
              show 6 - ((i : Int) + 1).toNat < 6 - (i : Int).toNat
              omega
          · have e6 : i = 6 := by omega
            have hq := Lib.hid (HQ.out e6)
            clear HQ HT
            subst e6
            go_wp2_with fail
            refine ⟨⟨j + 1, by omega, rfl, Lib.hid ⟨by rw [hq.out], HI.out.2.1, HI.out.2.2⟩⟩, ?_⟩
            show 6 - ((j : Int) + 1).toNat < 6 - (j : Int).toNat
            omega
      · have hz' : (j : Int) > 0 := by omega
        have HX : Hid (Rx w s (px (sl s j) (s j) 0) (.string (ot s j ++ ⟨#[47]⟩)) wr) := Lib.hid ⟨by show _ = Value.string (sl s j); rw [sl_o s hz], HS.out.2.1, HS.out.2.2⟩
        have hso := ot_41 s hj
        have hst : ¬ (9223372036854775807 < (ot s j).size + 1) := by omega
        clear hz
        go_wp2_with fail
        clear hst hso
        rw [show (decide (0 < j)) = true from decide_eq_true (by omega)]
        clear HS
        go_loopw [3, 5] (fun v x wr2 => ∃ i : Nat, i ≤ 6 ∧ x = .int .i64 i ∧ Hid (Rx w s (px (sl s j) (s j) i) v wr2)) (fun _ x _ => 6 - (intOf x).toNat)
        case atStart => exact ⟨0, by omega, rfl, HX⟩
        case round =>
          obtain ⟨i, hi, rfl, HI⟩ := hrel
          have HT : Hid (∀ b, s j i = b → px (sl s j) (s j) (i + 1) = px (sl s j) (s j) i ++ ⟨#[sgb b]⟩) := Lib.hid (fun b hb => by rw [← hb]; rfl)
          have HQ : Hid (i = 6 → px (sl s j) (s j) i = ot s (j + 1)) := Lib.hid (fun h => by rw [h]; exact HP.out)
          obtain ⟨rfl, -, -⟩ := HI.out
          have hsz : (px (sl s j) (s j) i).size ≤ 48 := by rw [px_size]; have := sl_42 s hj; omega
          have hst : ¬ (9223372036854775807 < (px (sl s j) (s j) i).size + 1) := by omega
          generalize px (sl s j) (s j) i = t at HI HT HQ hsz hst ⊢
          by_cases hl2 : i < 6
          · have hl2' : (i : Int) < 6 := by omega
            have hi0 : (0 : Int) ≤ i := by omega
            have a_c := fun k => cell_of_row _ _ k _ _ _ HI.out.2.1
            cases hg : s j i
            · have hs := Lib.hid (HT.out false hg)
              go_wp2_with (go_at_call 160; refine (get_f s hlt hl2 _).mono ?_; rintro e W2 ⟨rfl, hb⟩; rw [hg]; have HY := Lib.hid (HI.out.far hb rfl))
              refine ⟨⟨i + 1, by omega, rfl, Lib.hid ⟨by rw [hs.out]; rfl, HY.out.2.1, HY.out.2.2⟩⟩, ?_⟩
              show 6 - ((i : Int) + 1).toNat < 6 - (i : Int).toNat
              omega
            · have hs := Lib.hid (HT.out true hg)
              go_wp2_with (go_at_call 160; refine (get_f s hlt hl2 _).mono ?_; rintro e W2 ⟨rfl, hb⟩; rw [hg]; have HY := Lib.hid (HI.out.far hb rfl))
              refine ⟨⟨i + 1, by omega, rfl, Lib.hid ⟨by rw [hs.out]; rfl, HY.out.2.1, HY.out.2.2⟩⟩, ?_⟩
              show 6 - ((i : Int) + 1).toNat < 6 - (i : Int).toNat
              omega
          · have e6 : i = 6 := by omega
            have hq := Lib.hid (HQ.out e6)
            clear HQ HT
            subst e6
            go_wp2_with fail
            refine ⟨⟨j + 1, by omega, rfl, Lib.hid ⟨by rw [hq.out], HI.out.2.1, HI.out.2.2⟩⟩, ?_⟩
            show 6 - ((j : Int) + 1).toNat < 6 - (j : Int).toNat
            omega
    · have e6 : j = 6 := by omega
      subst e6
      have HO := Lib.hid (ot_s s 5)
      generalize ot s 6 = t at HS HO ⊢
      go_wp2_with fail
      (try rw [Exit.noGoto_ret])
      go_ret
      exact ⟨by rw [HO.out]; rfl, HS.out.2.2⟩
end Go.Proofs.Ytjhokdccgachcaa
