/- CONTRACTS: PictureText, the model's; both failures; THE PAIR. -/
import Derived.Test.YtcjomhjgjdjigaaPt8
import Derived.WalkKit
import Derived.ProofKit
import Derived.OpenShut
import Derived.Lib.Hide
import Derived.WalkSpells
import Derived.Below
import Derived.BigQuiet
import Derived.LoopN
namespace Go.Proofs.Ytcjomhjgjdjigaa
open Go.ChangeShapes Go.WideShapes Go.ChangeAt Go.RowKit
set_option linter.unusedVariables false
theorem jn_41 (m : Nat → Int) {y : Nat} (h1 : 1 ≤ y) (h6 : y ≤ 6) : (Zi.jn (rx8 m) 47 y).size ≤ 41 := by
  have h := Zi.jn_size (xs := rx8 m) (c := 47) h1 (by rw [rx8_len]; exact h6)
  have e : Zi.LL (rx8 m) y ≤ 41 := by
    obtain ⟨z, hz, rfl⟩ : ∃ z, z < 6 ∧ y = z + 1 := ⟨y - 1, by omega, by omega⟩
    rcases six_n hz with rfl | rfl | rfl | rfl | rfl | rfl <;> simp [Zi.LL, rx8, rtx_size]
  omega
/-- The text of y rows; with the mark behind it. -/
def ot (m : Nat → Int) (y : Nat) : ByteArray := if y = 0 then ⟨#[]⟩ else Zi.jn (rx8 m) 47 y
def sl (m : Nat → Int) (y : Nat) : ByteArray := if y = 0 then ⟨#[]⟩ else ot m y ++ ⟨#[47]⟩
theorem sl_0 (m : Nat → Int) : sl m 0 = ⟨#[]⟩ := by unfold sl; exact if_pos (Eq.refl (0 : Nat))
theorem sl_s (m : Nat → Int) {y : Nat} (h : y ≠ 0) : sl m y = Zi.jn (rx8 m) 47 y ++ ⟨#[47]⟩ := by unfold sl ot; rw [if_neg h, if_neg h]
theorem sl_o (m : Nat → Int) {y : Nat} (h : y ≠ 0) : ot m y ++ ⟨#[47]⟩ = sl m y := by unfold sl; rw [if_neg h]
theorem ot_s (m : Nat → Int) (y : Nat) : ot m (y + 1) = Zi.jn (rx8 m) 47 (y + 1) := by unfold ot; exact if_neg (Nat.succ_ne_zero y)
theorem ot_0 (m : Nat → Int) : ot m 0 = ⟨#[]⟩ := by unfold ot; exact if_pos (Eq.refl (0 : Nat))
theorem em_add (b : ByteArray) : (⟨#[]⟩ : ByteArray) ++ b = b := by apply ByteArray.ext; simp [ByteArray.data_append]
theorem ot_41 (m : Nat → Int) {y : Nat} (h6 : y ≤ 6) : (ot m y).size ≤ 41 := by
  by_cases h : y = 0
  · rw [h, ot_0]; decide
  · have e : ot m y = Zi.jn (rx8 m) 47 y := by unfold ot; exact if_neg h
    rw [e]; exact jn_41 m (by omega) h6
theorem sl_42 (m : Nat → Int) {y : Nat} (h6 : y ≤ 6) : (sl m y).size ≤ 42 := by
  by_cases h : y = 0
  · rw [h, sl_0]; decide
  · rw [← sl_o m h, ByteArray.size_append]
    have := ot_41 m h6
    show (ot m y).size + 1 ≤ 42
    omega
theorem sl_px (m : Nat → Int) {y : Nat} (hy : y < 6) : qx (sl m y) (rw8 m y) 6 = ot m (y + 1) := by
  have hg := rx8_at m hy
  rw [qx_add, show qx ⟨#[]⟩ (rw8 m y) 6 = rtx (rw8 m y) from rfl]
  generalize rtx (rw8 m y) = r at hg
  rw [ot_s]
  by_cases h : y = 0
  · have e1 := Zi.jn_one (c := 47) (h ▸ hg)
    rw [h, sl_0, em_add]
    exact e1.symm
  · have e1 := Zi.jn_succ (c := 47) (by omega) hg
    rw [sl_s m h, e1]
/-- The round: the box stays. -/
def Rx8 (w : World) (m : Nat → Int) (t : ByteArray) (v : Value) (W : World) : Prop := v = .string t ∧ KR 1 [(w.heap.size, pb 27 m)] w W
set_option maxRecDepth 8000 in
set_option maxHeartbeats 2000000 in
theorem stext8 (m : Nat → Int) (HO : Hid (okp m = true)) (w : World) : Calls Try.prog 59 #[pv m] w fun e w' => e = .returned (.tuple #[.string (pgt m), .bool true]) ∧ Below w.heap.size w w' := by
  have HI := Lib.hid (spic_any m)
  go_enter Try.func59, Try.ntmps59
  have q1 : (w.alloc (pb 27 m)).heap[w.heap.size]? = some (pb 27 m) := alloc_at rfl
  have K0 : KR 1 [(w.heap.size, pb 27 m)] w (w.alloc (pb 27 m)) := ⟨by intro p hp; simp only [List.mem_cons, List.mem_nil_iff, or_false] at hp; subst hp; exact ⟨by simp, q1⟩, by simp, by (repeat (first | exact Below.refl _ _ | assumption | refine Below.setCell ?_ (by first | (simp; done) | (simp; omega)) _ | refine Below.alloc ?_ (by first | (simp; done) | (simp; omega)) _ | refine Below.drew ?_))⟩
  go_wp2_with (first | ((with_reducible refine wpB36 m ?_ ?_); rfl) | ((with_reducible refine wpL36 w.heap.size 27 m q1 _ Try.underlying27 ?_ ?_ ?_ ?_); rfl; rfl; kernel_rfl))
  clear q1
  refine (HI.out _).mono ?_
  rintro e W1 ⟨rfl, hb⟩
  have K1 := K0.far hb rfl
  clear hb K0
  rw [HO.out]
  go_wp2_with fail
  have S0 : Hid (Rx8 w m (ot m 0) (.string ⟨#[]⟩) W1) := Lib.hid ⟨by rw [ot_0], K1⟩
  clear K1
  go_loopw [4, 5] (fun v y wr => ∃ j : Nat, j ≤ 6 ∧ y = .int .i64 j ∧ Hid (Rx8 w m (ot m j) v wr)) (fun _ y _ => 6 - (intOf y).toNat)
  case atStart => exact ⟨0, by omega, rfl, S0⟩
  case round =>
    obtain ⟨j, hj, rfl, HS⟩ := hrel
    obtain ⟨rfl, -⟩ := HS.out
    by_cases hlt : j < 6
    · have hlt' : (j : Int) < 6 := by omega
      have hj0 : (0 : Int) ≤ j := by omega
      have HP := Lib.hid (sl_px m hlt)
      by_cases hz : j = 0
      · have hz' : ¬ ((j : Int) > 0) := by omega
        have HX : Hid (Rx8 w m (qx (sl m j) (rw8 m j) 0) (.string (ot m j)) wr) := Lib.hid ⟨by subst hz; show Value.string (ot m 0) = Value.string (sl m 0); rw [ot_0, sl_0], HS.out.2⟩
        have hso := ot_41 m hj
        have hst : ¬ (9223372036854775807 < (ot m j).size + 1) := by omega
        clear hz
        go_wp2_with fail
        clear hst hso
        clear HS
        go_loopw [4, 6] (fun v x wr2 => ∃ i : Nat, i ≤ 6 ∧ x = .int .i64 i ∧ Hid (Rx8 w m (qx (sl m j) (rw8 m j) i) v wr2)) (fun _ x _ => 6 - (intOf x).toNat)
        case atStart => exact ⟨0, by omega, rfl, HX⟩
        case round =>
          obtain ⟨i, hi, rfl, HI⟩ := hrel
          have HT : Hid (∀ b, sg (m (j * 6 + i)) = b → qx (sl m j) (rw8 m j) (i + 1) = qx (sl m j) (rw8 m j) i ++ ⟨#[b]⟩) := Lib.hid (fun b hb => by rw [← hb]; rfl)
          have HQ : Hid (i = 6 → qx (sl m j) (rw8 m j) i = ot m (j + 1)) := Lib.hid (fun h => by rw [h]; exact HP.out)
          obtain ⟨rfl, -⟩ := HI.out
          have hsz : (qx (sl m j) (rw8 m j) i).size ≤ 48 := by rw [qx_size]; have := sl_42 m hj; omega
          have hst : ¬ (9223372036854775807 < (qx (sl m j) (rw8 m j) i).size + 1) := by omega
          generalize qx (sl m j) (rw8 m j) i = t at HI HT HQ hsz hst ⊢
          by_cases hl2 : i < 6
          · have hl2' : (i : Int) < 6 := by omega
            have hi0 : (0 : Int) ≤ i := by omega
            have hok := okp_all HO.out (j * 6 + i) (by omega)
            have c0 := pb_cell (HI.out.2.row (g := w.heap.size) (o := pb 27 m) (by simp)) (j * 6 + i)
            rw [if_pos (by omega)] at c0
            generalize m (j * 6 + i) = v at HT hok c0
            rcases five8 hok.1 hok.2 with h | h | h | h | h
            · subst h
              have hs := Lib.hid (HT.out 46 (by decide))
              clear HT hok
              go_wp2_with fail
              refine ⟨⟨i + 1, by omega, rfl, Lib.hid ⟨by rw [hs.out]; rfl, HI.out.2⟩⟩, ?_⟩
              show 6 - ((i : Int) + 1).toNat < 6 - (i : Int).toNat
              omega
            · subst h
              have hs := Lib.hid (HT.out 49 (by decide))
              clear HT hok
              go_wp2_with fail
              refine ⟨⟨i + 1, by omega, rfl, Lib.hid ⟨by rw [hs.out]; rfl, HI.out.2⟩⟩, ?_⟩
              show 6 - ((i : Int) + 1).toNat < 6 - (i : Int).toNat
              omega
            · subst h
              have hs := Lib.hid (HT.out 50 (by decide))
              clear HT hok
              go_wp2_with fail
              refine ⟨⟨i + 1, by omega, rfl, Lib.hid ⟨by rw [hs.out]; rfl, HI.out.2⟩⟩, ?_⟩
              show 6 - ((i : Int) + 1).toNat < 6 - (i : Int).toNat
              omega
            · subst h
              have hs := Lib.hid (HT.out 51 (by decide))
              clear HT hok
              go_wp2_with fail
              refine ⟨⟨i + 1, by omega, rfl, Lib.hid ⟨by rw [hs.out]; rfl, HI.out.2⟩⟩, ?_⟩
              show 6 - ((i : Int) + 1).toNat < 6 - (i : Int).toNat
              omega
            · subst h
              have hs := Lib.hid (HT.out 52 (by decide))
              clear HT hok
              go_wp2_with fail
              refine ⟨⟨i + 1, by omega, rfl, Lib.hid ⟨by rw [hs.out]; rfl, HI.out.2⟩⟩, ?_⟩
              show 6 - ((i : Int) + 1).toNat < 6 - (i : Int).toNat
              omega
          · have e6 : i = 6 := by omega
            have hq := Lib.hid (HQ.out e6)
            clear HQ HT
            subst e6
            go_wp2_with fail
            refine ⟨⟨j + 1, by omega, rfl, Lib.hid ⟨by rw [hq.out], HI.out.2⟩⟩, ?_⟩
            show 6 - ((j : Int) + 1).toNat < 6 - (j : Int).toNat
            omega
      · have hz' : (j : Int) > 0 := by omega
        have HX : Hid (Rx8 w m (qx (sl m j) (rw8 m j) 0) (.string (ot m j ++ ⟨#[47]⟩)) wr) := Lib.hid ⟨by show _ = Value.string (sl m j); rw [sl_o m hz], HS.out.2⟩
        have hso := ot_41 m hj
        have hst : ¬ (9223372036854775807 < (ot m j).size + 1) := by omega
        clear hz
        go_wp2_with fail
        clear hst hso
        rw [show (decide (0 < j)) = true from decide_eq_true (by omega)]
        clear HS
        go_loopw [4, 6] (fun v x wr2 => ∃ i : Nat, i ≤ 6 ∧ x = .int .i64 i ∧ Hid (Rx8 w m (qx (sl m j) (rw8 m j) i) v wr2)) (fun _ x _ => 6 - (intOf x).toNat)
        case atStart => exact ⟨0, by omega, rfl, HX⟩
        case round =>
          obtain ⟨i, hi, rfl, HI⟩ := hrel
          have HT : Hid (∀ b, sg (m (j * 6 + i)) = b → qx (sl m j) (rw8 m j) (i + 1) = qx (sl m j) (rw8 m j) i ++ ⟨#[b]⟩) := Lib.hid (fun b hb => by rw [← hb]; rfl)
          have HQ : Hid (i = 6 → qx (sl m j) (rw8 m j) i = ot m (j + 1)) := Lib.hid (fun h => by rw [h]; exact HP.out)
          obtain ⟨rfl, -⟩ := HI.out
          have hsz : (qx (sl m j) (rw8 m j) i).size ≤ 48 := by rw [qx_size]; have := sl_42 m hj; omega
          have hst : ¬ (9223372036854775807 < (qx (sl m j) (rw8 m j) i).size + 1) := by omega
          generalize qx (sl m j) (rw8 m j) i = t at HI HT HQ hsz hst ⊢
          by_cases hl2 : i < 6
          · have hl2' : (i : Int) < 6 := by omega
            have hi0 : (0 : Int) ≤ i := by omega
            have hok := okp_all HO.out (j * 6 + i) (by omega)
            have c0 := pb_cell (HI.out.2.row (g := w.heap.size) (o := pb 27 m) (by simp)) (j * 6 + i)
            rw [if_pos (by omega)] at c0
            generalize m (j * 6 + i) = v at HT hok c0
            rcases five8 hok.1 hok.2 with h | h | h | h | h
            · subst h
              have hs := Lib.hid (HT.out 46 (by decide))
              clear HT hok
              go_wp2_with fail
              refine ⟨⟨i + 1, by omega, rfl, Lib.hid ⟨by rw [hs.out]; rfl, HI.out.2⟩⟩, ?_⟩
              show 6 - ((i : Int) + 1).toNat < 6 - (i : Int).toNat
              omega
            · subst h
              have hs := Lib.hid (HT.out 49 (by decide))
              clear HT hok
              go_wp2_with fail
              refine ⟨⟨i + 1, by omega, rfl, Lib.hid ⟨by rw [hs.out]; rfl, HI.out.2⟩⟩, ?_⟩
              show 6 - ((i : Int) + 1).toNat < 6 - (i : Int).toNat
              omega
            · subst h
              have hs := Lib.hid (HT.out 50 (by decide))
              clear HT hok
              go_wp2_with fail
              refine ⟨⟨i + 1, by omega, rfl, Lib.hid ⟨by rw [hs.out]; rfl, HI.out.2⟩⟩, ?_⟩
              show 6 - ((i : Int) + 1).toNat < 6 - (i : Int).toNat
              omega
            · subst h
              have hs := Lib.hid (HT.out 51 (by decide))
              clear HT hok
              go_wp2_with fail
              refine ⟨⟨i + 1, by omega, rfl, Lib.hid ⟨by rw [hs.out]; rfl, HI.out.2⟩⟩, ?_⟩
              show 6 - ((i : Int) + 1).toNat < 6 - (i : Int).toNat
              omega
            · subst h
              have hs := Lib.hid (HT.out 52 (by decide))
              clear HT hok
              go_wp2_with fail
              refine ⟨⟨i + 1, by omega, rfl, Lib.hid ⟨by rw [hs.out]; rfl, HI.out.2⟩⟩, ?_⟩
              show 6 - ((i : Int) + 1).toNat < 6 - (i : Int).toNat
              omega
          · have e6 : i = 6 := by omega
            have hq := Lib.hid (HQ.out e6)
            clear HQ HT
            subst e6
            go_wp2_with fail
            refine ⟨⟨j + 1, by omega, rfl, Lib.hid ⟨by rw [hq.out], HI.out.2⟩⟩, ?_⟩
            show 6 - ((j : Int) + 1).toNat < 6 - (j : Int).toNat
            omega
    · have e6 : j = 6 := by omega
      subst e6
      have HO2 := Lib.hid (ot_s m 5)
      generalize ot m 6 = t at HS HO2 ⊢
      go_wp2_with fail
      (try rw [Exit.noGoto_ret])
      go_ret2
      exact ⟨by rw [HO2.out]; rfl, HS.out.2.2.2⟩
theorem stext8_no (m : Nat → Int) (HO : Hid (okp m = false)) (w : World) : Calls Try.prog 59 #[pv m] w fun e w' => e = .returned (.tuple #[.string ⟨#[]⟩, .bool false]) ∧ Below w.heap.size w w' := by
  have HI := Lib.hid (spic_any m)
  go_enter Try.func59, Try.ntmps59
  have q1 : (w.alloc (pb 27 m)).heap[w.heap.size]? = some (pb 27 m) := alloc_at rfl
  have hB : Below w.heap.size w (w.alloc (pb 27 m)) := by (repeat (first | exact Below.refl _ _ | assumption | refine Below.setCell ?_ (by first | (simp; done) | (simp; omega)) _ | refine Below.alloc ?_ (by first | (simp; done) | (simp; omega)) _ | refine Below.drew ?_))
  go_wp2_with (first | ((with_reducible refine wpB36 m ?_ ?_); rfl) | ((with_reducible refine wpL36 w.heap.size 27 m q1 _ Try.underlying27 ?_ ?_ ?_ ?_); rfl; rfl; kernel_rfl))
  clear q1
  refine (HI.out _).mono ?_
  rintro e W1 ⟨rfl, hb⟩
  have hB1 := below_of hB hb hB.size
  rw [HO.out]
  clear hb hB
  go_wp2_with fail
  go_ret2
  exact ⟨rfl, hB1⟩
theorem itext8_no (m : Nat → Int) (HO : Hid (okp m = false)) (w : World) : Calls Try.prog 60 #[pv m] w fun e w' => e = .returned (.tuple #[.string ⟨#[]⟩, .bool false]) ∧ Below w.heap.size w w' := by
  have HI := Lib.hid (impic_any m)
  go_enter Try.func60, Try.ntmps60
  have q1 : (w.alloc (pb 27 m)).heap[w.heap.size]? = some (pb 27 m) := alloc_at rfl
  have hB : Below w.heap.size w (w.alloc (pb 27 m)) := by (repeat (first | exact Below.refl _ _ | assumption | refine Below.setCell ?_ (by first | (simp; done) | (simp; omega)) _ | refine Below.alloc ?_ (by first | (simp; done) | (simp; omega)) _ | refine Below.drew ?_))
  go_wp2_with (first | ((with_reducible refine wpB36 m ?_ ?_); rfl) | ((with_reducible refine wpL36 w.heap.size 27 m q1 _ Try.underlying27 ?_ ?_ ?_ ?_); rfl; rfl; kernel_rfl))
  clear q1
  refine (HI.out _).mono ?_
  rintro e W1 ⟨rfl, hb⟩
  have hB1 := below_of hB hb hB.size
  rw [HO.out]
  clear hb hB
  go_wp2_with fail
  go_ret2
  exact ⟨rfl, hB1⟩
theorem ptext_pair (m : Nat → Int) : ∃ (r : ByteArray) (t : Bool), (∀ w, Calls Try.prog 59 #[pv m] w fun e w' => e = .returned (.tuple #[.string r, .bool t]) ∧ Below w.heap.size w w') ∧ (∀ w, Calls Try.prog 60 #[pv m] w fun e w' => e = .returned (.tuple #[.string r, .bool t]) ∧ Below w.heap.size w w') := by
  cases hv : okp m
  · exact ⟨⟨#[]⟩, false, fun w => stext8_no m (Lib.hid hv) w, fun w => itext8_no m (Lib.hid hv) w⟩
  · exact ⟨pgt m, true, fun w => stext8 m (Lib.hid hv) w, fun w => ptext_yes m (Lib.hid hv) w⟩
end Go.Proofs.Ytcjomhjgjdjigaa
