/- CONTRACTS: ParseSheet, the model's. -/
import Derived.Test.YtjhokdccgachcaaZq
import Derived.Test.YtjhokdccgachcaaRm5
import Derived.WalkKit
import Derived.ProofKit
import Derived.OpenShut
import Derived.Lib.Hide
import Derived.WalkSpells
import Derived.Below
import Derived.BigQuiet
import Derived.LoopN
namespace Go.Proofs.Ytjhokdccgachcaa
open Go.ChangeShapes Go.WideShapes Go.ChangeAt Go.RowKit
set_option linter.unusedVariables false
/-- The sign at a place may stand there. -/
def okS (t : ByteArray) (i : Nat) (h : i < t.size) : Prop := if i % 7 = 6 then t[i] = 47 else sgn t[i]
/-- What a text of 41 signs tells. -/
def tF (t : ByteArray) : Fn6 := fun y x => decide (t.data.toList[7 * y + x]? = some 35)
def tK (t : ByteArray) (i : Nat) : Fn6 := fun y x => decide (7 * y + x < i) && tF t y x
theorem tK_black {t : ByteArray} {i : Nat} (h : i < t.size) (h41 : i < 41) (hm : i % 7 < 6) (he : t[i] = 35) {j : Nat} (hj : j < 6) : rowv (sg (i % 7) (i / 7) (tK t i) j) = rowv (tK t (i + 1) j) := rowv_congr fun x hx => by
  by_cases e : 7 * j + x = i
  · have e1 : i / 7 = j := by omega
    have e2 : i % 7 = x := by omega
    have hf : tF t j x = true := by
      unfold tF
      rw [e, Zi.get_at t i h, he]
      rfl
    have n1 : ¬ 7 * j + x < i := by omega
    have n2 : 7 * j + x < i + 1 := by omega
    simp [sg, tK, e1, e2, hf, n1, n2]
  · have hb : (j == i / 7 && x == i % 7) = false := by
      cases hc : (j == i / 7 && x == i % 7)
      · rfl
      · simp only [Bool.and_eq_true, beq_iff_eq] at hc
        omega
    have : (7 * j + x < i + 1) ↔ (7 * j + x < i) := by omega
    simp [sg, tK, hb, this]
theorem tK_same {t : ByteArray} {i : Nat} (h : i < t.size) (hw : i % 7 = 6 ∨ t[i] ≠ 35) (j : Nat) : rowv (tK t (i + 1) j) = rowv (tK t i j) := rowv_congr fun x hx => by
  by_cases e : 7 * j + x = i
  · have hf : tF t j x = false := by
      rcases hw with hw | hw
      · omega
      · unfold tF
        rw [e, Zi.get_at t i h]
        simpa using hw
    simp [tK, hf]
  · have : (7 * j + x < i + 1) ↔ (7 * j + x < i) := by omega
    simp [tK, this]
theorem o6_congr {F G : Fn6} (h : ∀ j, j < 6 → rowv (F j) = rowv (G j)) : o6 F = o6 G := by
  unfold o6
  rw [h 0 (by decide), h 1 (by decide), h 2 (by decide), h 3 (by decide), h 4 (by decide), h 5 (by decide)]
/-- Midway. -/
def Rt (w : World) (gb : Nat) (F : Fn6) (W : World) : Prop := KR 1 [(w.heap.size, oz)] w W ∧ W.heap[gb]? = some (o6 F) ∧ w.heap.size + 1 ≤ gb
theorem Rt.below {w W W' : World} {gb M : Nat} {F : Fn6} (h : Rt w gb F W) (hb : Below M W W') (hM : M = W.heap.size) : Rt w gb F W' := ⟨h.1.far hb hM, rowk h.2.1 hb hM, h.2.2⟩
theorem Rt.put {w W : World} {gb : Nat} {F : Fn6} (G : Fn6) (h : Rt w gb F W) : Rt w gb G ((((((W.setCell ⟨gb, 0, none⟩ (.int .i64 (rowv (G 0)))).setCell ⟨gb, 1, none⟩ (.int .i64 (rowv (G 1)))).setCell ⟨gb, 2, none⟩ (.int .i64 (rowv (G 2)))).setCell ⟨gb, 3, none⟩ (.int .i64 (rowv (G 3)))).setCell ⟨gb, 4, none⟩ (.int .i64 (rowv (G 4)))).setCell ⟨gb, 5, none⟩ (.int .i64 (rowv (G 5)))) :=
  ⟨h.1.set h.2.2 |>.set h.2.2 |>.set h.2.2 |>.set h.2.2 |>.set h.2.2 |>.set h.2.2, set6a _ _ _ _ _ _ h.2.1, h.2.2⟩
theorem Rt.congr {w W : World} {gb : Nat} {F G : Fn6} (h : Rt w gb F W) (e : ∀ j, j < 6 → rowv (F j) = rowv (G j)) : Rt w gb G W := ⟨h.1, by rw [← o6_congr e]; exact h.2.1, h.2.2⟩
theorem lparse_len (t : ByteArray) (h : t.size ≠ 41) (hs : t.size ≤ 1048576) (w : World) : Calls Try.prog 128 #[.string t] w fun e w' => e = .returned (.tuple #[.agg #[.int .i64 0, .int .i64 0, .int .i64 0, .int .i64 0, .int .i64 0, .int .i64 0], .bool false]) ∧ Below w.heap.size w w' := by
  have h5 : ((t.size : Int) == 41) = false := by rw [beq_eq_false_iff_ne]; omega
  have h6 : ((t.size : Int) != 41) = true := by rw [bne, h5]; rfl
  clear h
  go_enter Try.func128, Try.ntmps128
  go_wp2_with fail
  refine bodyPost_ret (v := .tuple #[.agg #[.int .i64 0, .int .i64 0, .int .i64 0, .int .i64 0, .int .i64 0, .int .i64 0], .bool false]) (by simp [results, Try.results128, go_sem]) rfl ⟨rfl, ?_⟩
  (repeat (first | exact Below.refl _ _ | assumption | refine Below.setCell ?_ (by first | (simp; done) | (simp; omega)) _ | refine Below.alloc ?_ (by first | (simp; done) | (simp; omega)) _ | refine Below.drew ?_))
set_option maxRecDepth 8000 in
set_option maxHeartbeats 1000000 in
theorem lparse_yes (t : ByteArray) (h41 : t.size = 41) (hok : ∀ i (h : i < t.size), i < 41 → okS t i h) (w : World) : Calls Try.prog 128 #[.string t] w fun e w' => e = .returned (.tuple #[.agg #[.int .i64 (rowv (tF t 0)), .int .i64 (rowv (tF t 1)), .int .i64 (rowv (tF t 2)), .int .i64 (rowv (tF t 3)), .int .i64 (rowv (tF t 4)), .int .i64 (rowv (tF t 5))], .bool true]) ∧ Below w.heap.size w w' := by
  have HK := Lib.hid hok
  have H41 := Lib.hid h41
  clear hok
  have h5 : ((t.size : Int) == 41) = true := by rw [beq_iff_eq]; omega
  have h6 : ((t.size : Int) != 41) = false := by rw [bne, h5]; rfl
  have h7 : (t.size : Int) = 41 := by omega
  clear h41
  go_enter Try.func128, Try.ntmps128
  go_wp2_with fail
  generalize hW : (World.alloc _ _ : World) = W0
  have q0 : W0.heap[(w.heap.size : Nat)]? = some oz := by
    rw [← hW]
    repeat (first | (refine alloc_at ?_; first | (simp; done) | (simp; omega)) | refine drew_row ?_ | refine alloc_past ?_ | assumption)
  have q1 : W0.heap[(w.heap.size + 1 : Nat)]? = some (o6 zf) := by
    rw [← hW]
    repeat (first | (refine alloc_at ?_; first | (simp; done) | (simp; omega)) | refine drew_row ?_ | refine alloc_past ?_ | assumption)
  have S0 : Hid (Rt w (w.heap.size + 1) (tK t 0) W0) := Lib.hid (Rt.congr (F := zf) ⟨⟨by simp [q0], by rw [← hW]; simp, by rw [← hW]; (repeat (first | exact Below.refl _ _ | assumption | refine Below.setCell ?_ (by first | (simp; done) | (simp; omega)) _ | refine Below.alloc ?_ (by first | (simp; done) | (simp; omega)) _ | refine Below.drew ?_))⟩, q1, Nat.le_refl _⟩ (fun j _ => rowv_congr fun x _ => by simp [zf, tK]))
  clear hW q0 q1
  go_loopw [5] (fun c wr => ∃ i : Nat, i ≤ 41 ∧ c = .int .i64 i ∧ Hid (Rt w (w.heap.size + 1) (tK t i) wr)) (fun c _ => 41 - (intOf c).toNat)
  case atStart => exact ⟨0, by omega, rfl, S0⟩
  case round =>
    obtain ⟨i, hi, rfl, HS⟩ := hrel
    by_cases hlt : i < 41
    · have hi41 : i < 41 := by omega
      have hit : i < t.size := by rw [H41.out]; exact hi41
      have hlt' : (i : Int) < 41 := by omega
      have hi0 : (0 : Int) ≤ i := by omega
      have hk := HK.out i hit (by omega)
      have er : (i : Int).tmod 7 = ((i % 7 : Nat) : Int) := by rw [Int.tmod_eq_emod_of_nonneg hi0]; omega
      have eq : (i : Int).tdiv 7 = ((i / 7 : Nat) : Int) := by rw [Int.tdiv_eq_ediv_of_nonneg hi0]; omega
      have er2 : (i : Int) % 7 = ((i % 7 : Nat) : Int) := by omega
      have eq2 : (i : Int) / 7 = ((i / 7 : Nat) : Int) := by omega
      have e35 : ((35 : UInt8).toNat : Int) = 35 := rfl
      have e46 : ((46 : UInt8).toNat : Int) = 46 := rfl
      have e47 : ((47 : UInt8).toNat : Int) = 47 := rfl
      unfold okS at hk
      by_cases hm : i % 7 = 6
      · rw [if_pos hm] at hk
        have HE := Lib.hid (fun j => tK_same hit (.inl hm) j)
        have hb := Zi.at_eq hk
        rw [e47] at hb
        rw [hm] at er er2
        clear hk hm e35 e46 e47
        go_wp2_with fail
        go_roundw
        case rel => exact ⟨i + 1, by omega, by go_num, Lib.hid (HS.out.congr fun j _ => (HE.out j).symm)⟩
        case measure => simp [intOf]; omega
      · rw [if_neg hm] at hk
        have hm5 : i % 7 < 6 := by omega
        have hq5 : i / 7 < 6 := by omega
        have m1 : (((i % 7 : Nat) : Int) == 6) = false := by rw [beq_eq_false_iff_ne]; omega
        have m2 : ((i % 7 : Nat) : Int) < 6 := by omega
        rcases hk with he | he
        · have HE := Lib.hid (fun j (hj : j < 6) => tK_black hit hi41 hm5 he hj)
          have hn : t[i] ≠ 46 := by rw [he]; decide
          have hb := Zi.at_eq he
          have hb2 := Zi.at_ne hn
          rw [e35] at hb
          rw [e46] at hb2
          have HF := Lib.hid (lflip_f (tK t i) hm5 hq5)
          clear he hn hm e35 e46 e47
          generalize i % 7 = m at er er2 m1 m2 HE HF hm5
          generalize i / 7 = q at eq eq2 HE HF hq5
          have s_c := fun j => cell_of_row wr _ j _ _ _ HS.out.2.1
          go_wp2_with fail
          refine (HF.out _).mono ?_
          rintro e Y ⟨rfl, hb3⟩
          have HY := Lib.hid (HS.out.below hb3 rfl)
          clear hb3 HS s_c
          have s_c := fun j => cell_of_row Y _ j _ _ _ HY.out.2.1
          have s_f := fun j => frozen_of_row Y _ j _ _ HY.out.2.1
          go_wp2_with fail
          have HD := Lib.hid (HY.out.put (sg m q (tK t i)))
          clear HY s_c s_f
          go_roundw
          case rel => exact ⟨i + 1, by omega, by go_num, Lib.hid (HD.out.congr HE.out)⟩
          case measure => simp [intOf]; omega
        · have hn : t[i] ≠ 35 := by rw [he]; decide
          have HE := Lib.hid (fun j => tK_same hit (.inr hn) j)
          have hb := Zi.at_eq he
          rw [e46] at hb
          clear he hn hm e35 e46 e47
          generalize i % 7 = m at er er2 m1 m2 hm5
          go_wp2_with fail
          go_roundw
          case rel => exact ⟨i + 1, by omega, by go_num, Lib.hid (HS.out.congr fun j _ => (HE.out j).symm)⟩
          case measure => simp [intOf]; omega
    · have hge : ¬ ((i : Int) < 41) := by omega
      have HI := Lib.hid (show ∀ j, j < 6 → rowv (tF t j) = rowv (tK t i j) from fun j hj => rowv_congr fun x hx => by
        have : 7 * j + x < i := by omega
        simp [tK, this])
      have d_c := fun j => cell_of_row wr _ j _ _ _ HS.out.2.1
      have z_c : ∀ j, wr.cell? ⟨w.heap.size, j, none⟩ = (#[.int .i64 0, .int .i64 0, .int .i64 0, .int .i64 0, .int .i64 0, .int .i64 0] : Array Value)[j]? := fun j => cell_of_row wr _ j _ _ _ (HS.out.1.row (g := w.heap.size) (o := oz) (by simp))
      have z_f : ∀ j, wr.frozen? ⟨w.heap.size, j, none⟩ = false := fun j => frozen_of_row wr _ j _ _ (HS.out.1.row (g := w.heap.size) (o := oz) (by simp))
      go_wp2_with fail
      refine bodyPost_ret (v := .tuple #[.agg #[.int .i64 (rowv (tK t i 0)), .int .i64 (rowv (tK t i 1)), .int .i64 (rowv (tK t i 2)), .int .i64 (rowv (tK t i 3)), .int .i64 (rowv (tK t i 4)), .int .i64 (rowv (tK t i 5))], .bool true]) (by simp [results, Try.results128, go_sem, z_c]) rfl ⟨by rw [HI.out 0 (by decide), HI.out 1 (by decide), HI.out 2 (by decide), HI.out 3 (by decide), HI.out 4 (by decide), HI.out 5 (by decide)], ?_⟩
      exact below6 HS.out.1.2.2 (by omega)
set_option maxRecDepth 8000 in
set_option maxHeartbeats 1000000 in
theorem lparse_bad (t : ByteArray) (h41 : t.size = 41) (N : Nat) (hN : N < 41) (hok : ∀ i (h : i < t.size), i < N → okS t i h) (hbad : ∀ h : N < t.size, ¬ okS t N h) (w : World) : Calls Try.prog 128 #[.string t] w fun e w' => e = .returned (.tuple #[.agg #[.int .i64 0, .int .i64 0, .int .i64 0, .int .i64 0, .int .i64 0, .int .i64 0], .bool false]) ∧ Below w.heap.size w w' := by
  have HK := Lib.hid hok
  have H41 := Lib.hid h41
  clear hok
  have h5 : ((t.size : Int) == 41) = true := by rw [beq_iff_eq]; omega
  have h6 : ((t.size : Int) != 41) = false := by rw [bne, h5]; rfl
  have h7 : (t.size : Int) = 41 := by omega
  clear h41
  go_enter Try.func128, Try.ntmps128
  go_wp2_with fail
  generalize hW : (World.alloc _ _ : World) = W0
  have q0 : W0.heap[(w.heap.size : Nat)]? = some oz := by
    rw [← hW]
    repeat (first | (refine alloc_at ?_; first | (simp; done) | (simp; omega)) | refine drew_row ?_ | refine alloc_past ?_ | assumption)
  have q1 : W0.heap[(w.heap.size + 1 : Nat)]? = some (o6 zf) := by
    rw [← hW]
    repeat (first | (refine alloc_at ?_; first | (simp; done) | (simp; omega)) | refine drew_row ?_ | refine alloc_past ?_ | assumption)
  have S0 : Hid (Rt w (w.heap.size + 1) (tK t 0) W0) := Lib.hid (Rt.congr (F := zf) ⟨⟨by simp [q0], by rw [← hW]; simp, by rw [← hW]; (repeat (first | exact Below.refl _ _ | assumption | refine Below.setCell ?_ (by first | (simp; done) | (simp; omega)) _ | refine Below.alloc ?_ (by first | (simp; done) | (simp; omega)) _ | refine Below.drew ?_))⟩, q1, Nat.le_refl _⟩ (fun j _ => rowv_congr fun x _ => by simp [zf, tK]))
  clear hW q0 q1
  go_loopw [5] (fun c wr => ∃ i : Nat, i ≤ N ∧ c = .int .i64 i ∧ Hid (Rt w (w.heap.size + 1) (tK t i) wr)) (fun c _ => 41 - (intOf c).toNat)
  case atStart => exact ⟨0, by omega, rfl, S0⟩
  case round =>
    obtain ⟨i, hi, rfl, HS⟩ := hrel
    by_cases hlt : i < N
    · have hi41 : i < 41 := by omega
      have hit : i < t.size := by rw [H41.out]; exact hi41
      have hlt' : (i : Int) < 41 := by omega
      have hi0 : (0 : Int) ≤ i := by omega
      have hk := HK.out i hit (by omega)
      have er : (i : Int).tmod 7 = ((i % 7 : Nat) : Int) := by rw [Int.tmod_eq_emod_of_nonneg hi0]; omega
      have eq : (i : Int).tdiv 7 = ((i / 7 : Nat) : Int) := by rw [Int.tdiv_eq_ediv_of_nonneg hi0]; omega
      have er2 : (i : Int) % 7 = ((i % 7 : Nat) : Int) := by omega
      have eq2 : (i : Int) / 7 = ((i / 7 : Nat) : Int) := by omega
      have e35 : ((35 : UInt8).toNat : Int) = 35 := rfl
      have e46 : ((46 : UInt8).toNat : Int) = 46 := rfl
      have e47 : ((47 : UInt8).toNat : Int) = 47 := rfl
      unfold okS at hk
      by_cases hm : i % 7 = 6
      · rw [if_pos hm] at hk
        have HE := Lib.hid (fun j => tK_same hit (.inl hm) j)
        have hb := Zi.at_eq hk
        rw [e47] at hb
        rw [hm] at er er2
        clear hk hm e35 e46 e47
        go_wp2_with fail
        go_roundw
        case rel => exact ⟨i + 1, by omega, by go_num, Lib.hid (HS.out.congr fun j _ => (HE.out j).symm)⟩
        case measure => simp [intOf]; omega
      · rw [if_neg hm] at hk
        have hm5 : i % 7 < 6 := by omega
        have hq5 : i / 7 < 6 := by omega
        have m1 : (((i % 7 : Nat) : Int) == 6) = false := by rw [beq_eq_false_iff_ne]; omega
        have m2 : ((i % 7 : Nat) : Int) < 6 := by omega
        rcases hk with he | he
        · have HE := Lib.hid (fun j (hj : j < 6) => tK_black hit hi41 hm5 he hj)
          have hn : t[i] ≠ 46 := by rw [he]; decide
          have hb := Zi.at_eq he
          have hb2 := Zi.at_ne hn
          rw [e35] at hb
          rw [e46] at hb2
          have HF := Lib.hid (lflip_f (tK t i) hm5 hq5)
          clear he hn hm e35 e46 e47
          generalize i % 7 = m at er er2 m1 m2 HE HF hm5
          generalize i / 7 = q at eq eq2 HE HF hq5
          have s_c := fun j => cell_of_row wr _ j _ _ _ HS.out.2.1
          go_wp2_with fail
          refine (HF.out _).mono ?_
          rintro e Y ⟨rfl, hb3⟩
          have HY := Lib.hid (HS.out.below hb3 rfl)
          clear hb3 HS s_c
          have s_c := fun j => cell_of_row Y _ j _ _ _ HY.out.2.1
          have s_f := fun j => frozen_of_row Y _ j _ _ HY.out.2.1
          go_wp2_with fail
          have HD := Lib.hid (HY.out.put (sg m q (tK t i)))
          clear HY s_c s_f
          go_roundw
          case rel => exact ⟨i + 1, by omega, by go_num, Lib.hid (HD.out.congr HE.out)⟩
          case measure => simp [intOf]; omega
        · have hn : t[i] ≠ 35 := by rw [he]; decide
          have HE := Lib.hid (fun j => tK_same hit (.inr hn) j)
          have hb := Zi.at_eq he
          rw [e46] at hb
          clear he hn hm e35 e46 e47
          generalize i % 7 = m at er er2 m1 m2 hm5
          go_wp2_with fail
          go_roundw
          case rel => exact ⟨i + 1, by omega, by go_num, Lib.hid (HS.out.congr fun j _ => (HE.out j).symm)⟩
          case measure => simp [intOf]; omega
    · obtain rfl : i = N := by omega
      have hit : i < t.size := by rw [H41.out]; exact hN
      have hlt' : (i : Int) < 41 := by omega
      have hi0 : (0 : Int) ≤ i := by omega
      have hk := hbad hit
      have er : (i : Int).tmod 7 = ((i % 7 : Nat) : Int) := by rw [Int.tmod_eq_emod_of_nonneg hi0]; omega
      have er2 : (i : Int) % 7 = ((i % 7 : Nat) : Int) := by omega
      have e35 : ((35 : UInt8).toNat : Int) = 35 := rfl
      have e46 : ((46 : UInt8).toNat : Int) = 46 := rfl
      have e47 : ((47 : UInt8).toNat : Int) = 47 := rfl
      unfold okS at hk
      clear hbad
      by_cases hm : i % 7 = 6
      · rw [if_pos hm] at hk
        have hb := Zi.at_ne hk
        rw [e47] at hb
        rw [hm] at er er2
        clear hk hm e35 e46 e47
        have z_c : ∀ j, wr.cell? ⟨w.heap.size, j, none⟩ = (#[.int .i64 0, .int .i64 0, .int .i64 0, .int .i64 0, .int .i64 0, .int .i64 0] : Array Value)[j]? := fun j => cell_of_row wr _ j _ _ _ (HS.out.1.row (g := w.heap.size) (o := oz) (by simp))
        have z_f : ∀ j, wr.frozen? ⟨w.heap.size, j, none⟩ = false := fun j => frozen_of_row wr _ j _ _ (HS.out.1.row (g := w.heap.size) (o := oz) (by simp))
        go_wp2_with fail
        refine bodyPost_ret (v := .tuple #[.agg #[.int .i64 0, .int .i64 0, .int .i64 0, .int .i64 0, .int .i64 0, .int .i64 0], .bool false]) (by simp [results, Try.results128, go_sem, z_c]) rfl ⟨rfl, ?_⟩
        exact below6 HS.out.1.2.2 (by omega)
      · rw [if_neg hm] at hk
        have m1 : (((i % 7 : Nat) : Int) == 6) = false := by rw [beq_eq_false_iff_ne]; omega
        have m2 : ((i % 7 : Nat) : Int) < 6 := by omega
        have hb := Zi.at_ne (fun h => hk (.inl h) : t[i] ≠ 35)
        have hb2 := Zi.at_ne (fun h => hk (.inr h) : t[i] ≠ 46)
        rw [e35] at hb
        rw [e46] at hb2
        clear hk hm e35 e46 e47
        generalize i % 7 = m at er er2 m1 m2
        have z_c : ∀ j, wr.cell? ⟨w.heap.size, j, none⟩ = (#[.int .i64 0, .int .i64 0, .int .i64 0, .int .i64 0, .int .i64 0, .int .i64 0] : Array Value)[j]? := fun j => cell_of_row wr _ j _ _ _ (HS.out.1.row (g := w.heap.size) (o := oz) (by simp))
        have z_f : ∀ j, wr.frozen? ⟨w.heap.size, j, none⟩ = false := fun j => frozen_of_row wr _ j _ _ (HS.out.1.row (g := w.heap.size) (o := oz) (by simp))
        go_wp2_with fail
        refine bodyPost_ret (v := .tuple #[.agg #[.int .i64 0, .int .i64 0, .int .i64 0, .int .i64 0, .int .i64 0, .int .i64 0], .bool false]) (by simp [results, Try.results128, go_sem, z_c]) rfl ⟨rfl, ?_⟩
        exact below6 HS.out.1.2.2 (by omega)
end Go.Proofs.Ytjhokdccgachcaa
