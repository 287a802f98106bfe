/- THE WALK of FnSpreadTimes. -/
import Derived.Test.YtbmfjcmlgndofaaRw
import Derived.Test.YtbmfjcmlgndofaaMt6
import Derived.Test.YtbmfjcmlgndofaaMu6
import Derived.WalkKit
import Derived.ProofKit
import Derived.OpenShut
import Derived.Lib.Hide
import Derived.WalkSpells
import Derived.Below
import Derived.BigQuiet
import Derived.LoopN
namespace Go.Proofs.Ytbmfjcmlgndofaa
open Go.ChangeShapes Go.WideShapes Go.ChangeAt Go.RowKit
set_option linter.unusedVariables false
set_option maxRecDepth 8000 in
set_option maxHeartbeats 16000000 in
theorem spreadtimes_core (A : Option Addr) (len cap : Nat) (zs : List Int) (w : World) (hcode : CodeIn w w.heap.size A len zs) (hsl : SlOk A len cap) (hl : len ≤ 65536) : Calls Try.prog 17 #[.slice A len cap] w fun e w' => e = .returned (.bool true) ∧ Below w.heap.size w w' := by
  have HC := Lib.hid hcode
  have HB0 := Lib.hid (fun w => big_no A len cap hl w)
  have E := neq_same
  have E2 := eql_same
  go_enter Try.func17, Try.ntmps17
  have R0 := Lib.hid (Rws.nil w)
  go_wp2_with fail
  refine (HB0.out _).mono ?_
  rintro e W1 ⟨rfl, hb⟩
  have R1 : Hid (Rws w [] W1) := Lib.hid (by rw [hb]; exact Rws.nil w)
  clear hb R0
  go_wp2_with fail
  refine (draw_times (w.heap.size) A len cap zs W1 (HC.out.below R1.out.1 (Nat.le_refl _)) R1.out.1.size hl).mono ?_
  rintro e W2 ⟨a0, a1, a2, a3, a4, a5, b0, b1, b2, b3, b4, b5, n, hwa, hwb, hn, rfl, hb⟩
  have R2 := Lib.hid (R1.out.below hb rfl)
  clear hb R1
  obtain ⟨c0, c1, c2, c3, c4, c5, p, h1, h2, h3⟩ := times_more a0 a1 a2 a3 a4 a5 b0 b1 b2 b3 b4 b5 n
  have K1 := Lib.hid h1
  have K2 := Lib.hid h2
  have K3 := Lib.hid h3
  have HN := Lib.hid hn
  clear h1 h2 h3 hn
  clear hwa hwb
  go_wp2_with fail
  refine (K2.out _).mono ?_
  rintro e W3 ⟨rfl, hb⟩
  have R3 := Lib.hid (((R2.out.put (W2.heap.size) (by first | rfl | simp) (.cells #[.int .i64 a0, .int .i64 a1, .int .i64 a2, .int .i64 a3, .int .i64 a4, .int .i64 a5] 28)).put (W2.heap.size + 1) (by first | rfl | simp) (.cells #[.int .i64 b0, .int .i64 b1, .int .i64 b2, .int .i64 b3, .int .i64 b4, .int .i64 b5] 28)).below hb rfl)
  clear hb R2
  have zq3 := R3.out.get 1 rfl
  have zc3 := fun j => cell_of_row W3 _ j _ _ _ zq3
  have zl3 := row_lt zq3
  clear zq3
  have zq4 := R3.out.get 0 rfl
  have zc4 := fun j => cell_of_row W3 _ j _ _ _ zq4
  have zl4 := row_lt zq4
  clear zq4
  go_wp2_with fail
  refine (K1.out _).mono ?_
  rintro e W4 ⟨rfl, hb⟩
  have R4 := Lib.hid ((R3.out.put (W3.heap.size) (by first | rfl | simp) (.cells #[.int .i64 c0, .int .i64 c1, .int .i64 c2, .int .i64 c3, .int .i64 c4, .int .i64 c5] 28)).below hb rfl)
  clear hb R3 zc3 zl3 zc4 zl4
  go_wp2_with fail
  refine (vcut_all A len cap zs w hcode hsl hl 1 (by omega) (by omega) (W4.alloc (.cells #[.int .i64 c0, .int .i64 c1, .int .i64 c2, .int .i64 c3, .int .i64 c4, .int .i64 c5] 28)) (R4.out.put (W4.heap.size) (by first | rfl | simp) (.cells #[.int .i64 c0, .int .i64 c1, .int .i64 c2, .int .i64 c3, .int .i64 c4, .int .i64 c5] 28)).1).mono ?_
  rintro e W5 ⟨g1, y1, zs1, hzl1, hcd1, rfl, hb⟩
  have R5 := Lib.hid ((R4.out.put (W4.heap.size) (by first | rfl | simp) (.cells #[.int .i64 c0, .int .i64 c1, .int .i64 c2, .int .i64 c3, .int .i64 c4, .int .i64 c5] 28)).below hb rfl)
  clear hb R4
  as_aux_lemma =>
    go_wp2_with fail
    refine (draw_two W5.heap.size (some ⟨g1, 0, none⟩) zs1.length y1 zs1 W5 hcd1 (Nat.le_refl _) hzl1).mono ?_
    rintro e W6 ⟨d0, d1, d2, d3, d4, d5, f0, f1, f2, f3, f4, f5, hwa, hwb, rfl, hb⟩
    have R6 := Lib.hid (R5.out.below hb rfl)
    clear hb R5
    obtain ⟨r, q, h1, h2, h3⟩ := fill_more d0 d1 d2 d3 d4 d5 f0 f1 f2 f3 f4 f5
    have L1 := Lib.hid h1
    have L2 := Lib.hid h2
    have L3 := Lib.hid h3
    clear h1 h2 h3
    clear hwa hwb hcd1 hzl1
    go_wp2_with fail
    refine (L2.out _).mono ?_
    rintro e W7 ⟨rfl, hb⟩
    have R7 := Lib.hid (((R6.out.put (W6.heap.size) (by first | rfl | simp) (.cells #[.int .i64 d0, .int .i64 d1, .int .i64 d2, .int .i64 d3, .int .i64 d4, .int .i64 d5] 28)).put (W6.heap.size + 1) (by first | rfl | simp) (.cells #[.int .i64 f0, .int .i64 f1, .int .i64 f2, .int .i64 f3, .int .i64 f4, .int .i64 f5] 28)).below hb rfl)
    clear hb R6
    have zq10 := R7.out.get 1 rfl
    have zc10 := fun j => cell_of_row W7 _ j _ _ _ zq10
    have zl10 := row_lt zq10
    clear zq10
    have zq11 := R7.out.get 0 rfl
    have zc11 := fun j => cell_of_row W7 _ j _ _ _ zq11
    have zl11 := row_lt zq11
    clear zq11
    go_wp2_with fail
    refine (L1.out _).mono ?_
    rintro e W8 ⟨rfl, hb⟩
    have R8 := Lib.hid (R7.out.below hb rfl)
    clear hb R7 zc10 zl10 zc11 zl11
    go_wp2_with fail
    refine (vcut_all A len cap zs w hcode hsl hl 2 (by omega) (by omega) W8 R8.out.1).mono ?_
    rintro e W9 ⟨g2, y2, zs2, hzl2, hcd2, rfl, hb⟩
    have R9 := Lib.hid (R8.out.below hb rfl)
    clear hb R8
    as_aux_lemma =>
      go_wp2_with fail
      refine (draw_sum W9.heap.size (some ⟨g2, 0, none⟩) zs2.length y2 zs2 W9 hcd2 (Nat.le_refl _) hzl2).mono ?_
      rintro e W10 ⟨i0, i1, i2, i3, i4, i5, j0, j1, j2, j3, j4, j5, hwa, hwb, rfl, hb⟩
      have R10 := Lib.hid (R9.out.below hb rfl)
      clear hb R9
      obtain ⟨k0, k1, k2, k3, k4, k5, t, h1, h2, h3⟩ := sum_more i0 i1 i2 i3 i4 i5 j0 j1 j2 j3 j4 j5
      have M1 := Lib.hid h1
      have M2 := Lib.hid h2
      have M3 := Lib.hid h3
      clear h1 h2 h3
      clear hwa hwb hcd2 hzl2
      go_wp2_with fail
      refine (M2.out _).mono ?_
      rintro e W11 ⟨rfl, hb⟩
      have R11 := Lib.hid (((R10.out.put (W10.heap.size) (by first | rfl | simp) (.cells #[.int .i64 i0, .int .i64 i1, .int .i64 i2, .int .i64 i3, .int .i64 i4, .int .i64 i5] 28)).put (W10.heap.size + 1) (by first | rfl | simp) (.cells #[.int .i64 j0, .int .i64 j1, .int .i64 j2, .int .i64 j3, .int .i64 j4, .int .i64 j5] 28)).below hb rfl)
      clear hb R10
      have zq16 := R11.out.get 1 rfl
      have zc16 := fun j => cell_of_row W11 _ j _ _ _ zq16
      have zl16 := row_lt zq16
      clear zq16
      have zq17 := R11.out.get 0 rfl
      have zc17 := fun j => cell_of_row W11 _ j _ _ _ zq17
      have zl17 := row_lt zq17
      clear zq17
      go_wp2_with fail
      refine (M1.out _).mono ?_
      rintro e W12 ⟨rfl, hb⟩
      have R12 := Lib.hid ((R11.out.put (W11.heap.size) (by first | rfl | simp) (.cells #[.int .i64 k0, .int .i64 k1, .int .i64 k2, .int .i64 k3, .int .i64 k4, .int .i64 k5] 28)).below hb rfl)
      clear hb R11 zc16 zl16 zc17 zl17
      cases t
      · cases p
        · cases q
          · skip
            as_aux_lemma =>
              have zq6 := R12.out.get 6 rfl
              have zc6 := fun j => cell_of_row W12 _ j _ _ _ zq6
              have zl6 := row_lt zq6
              clear zq6
              have zq8 := R12.out.get 5 rfl
              have zc8 := fun j => cell_of_row W12 _ j _ _ _ zq8
              have zl8 := row_lt zq8
              clear zq8
              have zq18 := R12.out.get 0 rfl
              have zc18 := fun j => cell_of_row W12 _ j _ _ _ zq18
              have zl18 := row_lt zq18
              clear zq18
              go_wp2_with fail
              go_ret
              exact ⟨rfl, (R12.out.put (W12.heap.size) (by first | rfl | simp) (.cells #[.int .i64 k0, .int .i64 k1, .int .i64 k2, .int .i64 k3, .int .i64 k4, .int .i64 k5] 28)).1⟩
          · rcases (by omega : 0 < r ∨ ¬ 0 < r) with hrp | hrp
            · skip
              as_aux_lemma =>
                obtain ⟨⟨hr0, hr1⟩, ⟨g0, g1, g2, g3, g4, g5, h3, h4⟩, h5⟩ := L3.out rfl
                have L4 := Lib.hid h3
                have L5 := Lib.hid h4
                clear h3 h4 L3
                obtain ⟨u0, u1, u2, u3, u4, u5, mz, h3, h4, hmz⟩ := h5 hrp
                have L6 := Lib.hid h3
                have L7 := Lib.hid h4
                clear h3 h4
                have n2 : wrap64 (r - 1) = r - 1 := by unfold wrap64; omega
                have hrg : r > 0 := hrp
                clear h5
                have zq6 := R12.out.get 6 rfl
                have zc6 := fun j => cell_of_row W12 _ j _ _ _ zq6
                have zl6 := row_lt zq6
                clear zq6
                have zq8 := R12.out.get 5 rfl
                have zc8 := fun j => cell_of_row W12 _ j _ _ _ zq8
                have zl8 := row_lt zq8
                clear zq8
                have zq18 := R12.out.get 0 rfl
                have zc18 := fun j => cell_of_row W12 _ j _ _ _ zq18
                have zl18 := row_lt zq18
                clear zq18
                have zq10 := R12.out.get 4 rfl
                have zc10 := fun j => cell_of_row W12 _ j _ _ _ zq10
                have zl10 := row_lt zq10
                clear zq10
                have zq11 := R12.out.get 3 rfl
                have zc11 := fun j => cell_of_row W12 _ j _ _ _ zq11
                have zl11 := row_lt zq11
                clear zq11
                go_wp2_with fail
                refine (L4.out _).mono ?_
                rintro e W13 ⟨rfl, hb⟩
                have R13 := Lib.hid ((R12.out.put (W12.heap.size) (by first | rfl | simp) (.cells #[.int .i64 k0, .int .i64 k1, .int .i64 k2, .int .i64 k3, .int .i64 k4, .int .i64 k5] 28)).below hb rfl)
                clear hb R12 zc6 zl6 zc8 zl8 zc18 zl18 zc10 zl10 zc11 zl11
                go_wp2_with fail
                refine (L5.out _).mono ?_
                rintro e W14 ⟨rfl, hb⟩
                have R14 := Lib.hid ((R13.out.put (W13.heap.size) (by first | rfl | simp) (.cells #[.int .i64 g0, .int .i64 g1, .int .i64 g2, .int .i64 g3, .int .i64 g4, .int .i64 g5] 28)).below hb rfl)
                clear hb R13
                have zq10 := R14.out.get 6 rfl
                have zc10 := fun j => cell_of_row W14 _ j _ _ _ zq10
                have zl10 := row_lt zq10
                clear zq10
                have zq11 := R14.out.get 5 rfl
                have zc11 := fun j => cell_of_row W14 _ j _ _ _ zq11
                have zl11 := row_lt zq11
                clear zq11
                go_wp2_with fail
                refine (L6.out _).mono ?_
                rintro e W15 ⟨rfl, hb⟩
                have R15 := Lib.hid (R14.out.below hb rfl)
                clear hb R14 zc10 zl10 zc11 zl11
                go_wp2_with fail
                refine (L7.out _).mono ?_
                rintro e W16 ⟨rfl, hb⟩
                have R16 := Lib.hid ((R15.out.put (W15.heap.size) (by first | rfl | simp) (.cells #[.int .i64 u0, .int .i64 u1, .int .i64 u2, .int .i64 u3, .int .i64 u4, .int .i64 u5] 28)).below hb rfl)
                clear hb R15
                go_wp2_with fail
                go_ret
                exact ⟨rfl, R16.out.1⟩
            · skip
              as_aux_lemma =>
                obtain ⟨⟨hr0, hr1⟩, ⟨g0, g1, g2, g3, g4, g5, h3, h4⟩, h5⟩ := L3.out rfl
                have L4 := Lib.hid h3
                have L5 := Lib.hid h4
                clear h3 h4 L3
                obtain rfl : r = 0 := by omega
                clear hrp hr0 hr1
                clear h5
                have zq6 := R12.out.get 6 rfl
                have zc6 := fun j => cell_of_row W12 _ j _ _ _ zq6
                have zl6 := row_lt zq6
                clear zq6
                have zq8 := R12.out.get 5 rfl
                have zc8 := fun j => cell_of_row W12 _ j _ _ _ zq8
                have zl8 := row_lt zq8
                clear zq8
                have zq18 := R12.out.get 0 rfl
                have zc18 := fun j => cell_of_row W12 _ j _ _ _ zq18
                have zl18 := row_lt zq18
                clear zq18
                have zq10 := R12.out.get 4 rfl
                have zc10 := fun j => cell_of_row W12 _ j _ _ _ zq10
                have zl10 := row_lt zq10
                clear zq10
                have zq11 := R12.out.get 3 rfl
                have zc11 := fun j => cell_of_row W12 _ j _ _ _ zq11
                have zl11 := row_lt zq11
                clear zq11
                go_wp2_with fail
                refine (L4.out _).mono ?_
                rintro e W13 ⟨rfl, hb⟩
                have R13 := Lib.hid ((R12.out.put (W12.heap.size) (by first | rfl | simp) (.cells #[.int .i64 k0, .int .i64 k1, .int .i64 k2, .int .i64 k3, .int .i64 k4, .int .i64 k5] 28)).below hb rfl)
                clear hb R12 zc6 zl6 zc8 zl8 zc18 zl18 zc10 zl10 zc11 zl11
                go_wp2_with fail
                refine (L5.out _).mono ?_
                rintro e W14 ⟨rfl, hb⟩
                have R14 := Lib.hid ((R13.out.put (W13.heap.size) (by first | rfl | simp) (.cells #[.int .i64 g0, .int .i64 g1, .int .i64 g2, .int .i64 g3, .int .i64 g4, .int .i64 g5] 28)).below hb rfl)
                clear hb R13
                go_wp2_with fail
                go_ret
                exact ⟨rfl, R14.out.1⟩
        · rcases (by omega : 0 < n ∨ ¬ 0 < n) with hnp | hnp
          · cases q
            · skip
              as_aux_lemma =>
                obtain ⟨h1, h2⟩ := K3.out rfl
                obtain ⟨o0, o1, o2, o3, o4, o5, h3, h4⟩ := h2 hnp
                have K4 := Lib.hid h3
                have K5 := Lib.hid h4
                clear h3 h4
                have n1 : wrap64 (n - 1) = n - 1 := by have := HN.out; unfold wrap64; omega
                have hng : n > 0 := hnp
                clear h1 h2 K3
                have zq6 := R12.out.get 6 rfl
                have zc6 := fun j => cell_of_row W12 _ j _ _ _ zq6
                have zl6 := row_lt zq6
                clear zq6
                have zq8 := R12.out.get 5 rfl
                have zc8 := fun j => cell_of_row W12 _ j _ _ _ zq8
                have zl8 := row_lt zq8
                clear zq8
                have zq18 := R12.out.get 0 rfl
                have zc18 := fun j => cell_of_row W12 _ j _ _ _ zq18
                have zl18 := row_lt zq18
                clear zq18
                have zq3 := R12.out.get 8 rfl
                have zc3 := fun j => cell_of_row W12 _ j _ _ _ zq3
                have zl3 := row_lt zq3
                clear zq3
                have zq4 := R12.out.get 7 rfl
                have zc4 := fun j => cell_of_row W12 _ j _ _ _ zq4
                have zl4 := row_lt zq4
                clear zq4
                go_wp2_with fail
                refine (K4.out _).mono ?_
                rintro e W13 ⟨rfl, hb⟩
                have R13 := Lib.hid ((R12.out.put (W12.heap.size) (by first | rfl | simp) (.cells #[.int .i64 k0, .int .i64 k1, .int .i64 k2, .int .i64 k3, .int .i64 k4, .int .i64 k5] 28)).below hb rfl)
                clear hb R12 zc6 zl6 zc8 zl8 zc18 zl18 zc3 zl3 zc4 zl4
                have zq4 := R13.out.get 8 rfl
                have zc4 := fun j => cell_of_row W13 _ j _ _ _ zq4
                have zl4 := row_lt zq4
                clear zq4
                go_wp2_with fail
                refine (K5.out _).mono ?_
                rintro e W14 ⟨rfl, hb⟩
                have R14 := Lib.hid ((R13.out.put (W13.heap.size) (by first | rfl | simp) (.cells #[.int .i64 o0, .int .i64 o1, .int .i64 o2, .int .i64 o3, .int .i64 o4, .int .i64 o5] 28)).below hb rfl)
                clear hb R13 zc4 zl4
                have zq6 := R14.out.get 8 rfl
                have zc6 := fun j => cell_of_row W14 _ j _ _ _ zq6
                have zl6 := row_lt zq6
                clear zq6
                go_wp2_with fail
                go_ret
                exact ⟨rfl, (R14.out.put (W14.heap.size) (by first | rfl | simp) (.cells #[.int .i64 c0, .int .i64 c1, .int .i64 c2, .int .i64 c3, .int .i64 c4, .int .i64 c5] 28)).1⟩
            · rcases (by omega : 0 < r ∨ ¬ 0 < r) with hrp | hrp
              · skip
                as_aux_lemma =>
                  obtain ⟨h1, h2⟩ := K3.out rfl
                  obtain ⟨⟨hr0, hr1⟩, ⟨g0, g1, g2, g3, g4, g5, h3, h4⟩, h5⟩ := L3.out rfl
                  have L4 := Lib.hid h3
                  have L5 := Lib.hid h4
                  clear h3 h4 L3
                  obtain ⟨u0, u1, u2, u3, u4, u5, mz, h3, h4, hmz⟩ := h5 hrp
                  have L6 := Lib.hid h3
                  have L7 := Lib.hid h4
                  clear h3 h4
                  have n2 : wrap64 (r - 1) = r - 1 := by unfold wrap64; omega
                  have hrg : r > 0 := hrp
                  clear h5
                  obtain ⟨o0, o1, o2, o3, o4, o5, h3, h4⟩ := h2 hnp
                  have K4 := Lib.hid h3
                  have K5 := Lib.hid h4
                  clear h3 h4
                  have n1 : wrap64 (n - 1) = n - 1 := by have := HN.out; unfold wrap64; omega
                  have hng : n > 0 := hnp
                  clear h1 h2 K3
                  have zq6 := R12.out.get 6 rfl
                  have zc6 := fun j => cell_of_row W12 _ j _ _ _ zq6
                  have zl6 := row_lt zq6
                  clear zq6
                  have zq8 := R12.out.get 5 rfl
                  have zc8 := fun j => cell_of_row W12 _ j _ _ _ zq8
                  have zl8 := row_lt zq8
                  clear zq8
                  have zq18 := R12.out.get 0 rfl
                  have zc18 := fun j => cell_of_row W12 _ j _ _ _ zq18
                  have zl18 := row_lt zq18
                  clear zq18
                  have zq10 := R12.out.get 4 rfl
                  have zc10 := fun j => cell_of_row W12 _ j _ _ _ zq10
                  have zl10 := row_lt zq10
                  clear zq10
                  have zq11 := R12.out.get 3 rfl
                  have zc11 := fun j => cell_of_row W12 _ j _ _ _ zq11
                  have zl11 := row_lt zq11
                  clear zq11
                  go_wp2_with fail
                  refine (L4.out _).mono ?_
                  rintro e W13 ⟨rfl, hb⟩
                  have R13 := Lib.hid ((R12.out.put (W12.heap.size) (by first | rfl | simp) (.cells #[.int .i64 k0, .int .i64 k1, .int .i64 k2, .int .i64 k3, .int .i64 k4, .int .i64 k5] 28)).below hb rfl)
                  clear hb R12 zc6 zl6 zc8 zl8 zc18 zl18 zc10 zl10 zc11 zl11
                  go_wp2_with fail
                  refine (L5.out _).mono ?_
                  rintro e W14 ⟨rfl, hb⟩
                  have R14 := Lib.hid ((R13.out.put (W13.heap.size) (by first | rfl | simp) (.cells #[.int .i64 g0, .int .i64 g1, .int .i64 g2, .int .i64 g3, .int .i64 g4, .int .i64 g5] 28)).below hb rfl)
                  clear hb R13
                  have zq10 := R14.out.get 6 rfl
                  have zc10 := fun j => cell_of_row W14 _ j _ _ _ zq10
                  have zl10 := row_lt zq10
                  clear zq10
                  have zq11 := R14.out.get 5 rfl
                  have zc11 := fun j => cell_of_row W14 _ j _ _ _ zq11
                  have zl11 := row_lt zq11
                  clear zq11
                  go_wp2_with fail
                  refine (L6.out _).mono ?_
                  rintro e W15 ⟨rfl, hb⟩
                  have R15 := Lib.hid (R14.out.below hb rfl)
                  clear hb R14 zc10 zl10 zc11 zl11
                  go_wp2_with fail
                  refine (L7.out _).mono ?_
                  rintro e W16 ⟨rfl, hb⟩
                  have R16 := Lib.hid ((R15.out.put (W15.heap.size) (by first | rfl | simp) (.cells #[.int .i64 u0, .int .i64 u1, .int .i64 u2, .int .i64 u3, .int .i64 u4, .int .i64 u5] 28)).below hb rfl)
                  clear hb R15
                  have zq3 := R16.out.get 11 rfl
                  have zc3 := fun j => cell_of_row W16 _ j _ _ _ zq3
                  have zl3 := row_lt zq3
                  clear zq3
                  have zq4 := R16.out.get 10 rfl
                  have zc4 := fun j => cell_of_row W16 _ j _ _ _ zq4
                  have zl4 := row_lt zq4
                  clear zq4
                  go_wp2_with fail
                  refine (K4.out _).mono ?_
                  rintro e W17 ⟨rfl, hb⟩
                  have R17 := Lib.hid (R16.out.below hb rfl)
                  clear hb R16 zc3 zl3 zc4 zl4
                  have zq4 := R17.out.get 10 rfl
                  have zc4 := fun j => cell_of_row W17 _ j _ _ _ zq4
                  have zl4 := row_lt zq4
                  clear zq4
                  go_wp2_with fail
                  refine (K5.out _).mono ?_
                  rintro e W18 ⟨rfl, hb⟩
                  have R18 := Lib.hid ((R17.out.put (W17.heap.size) (by first | rfl | simp) (.cells #[.int .i64 o0, .int .i64 o1, .int .i64 o2, .int .i64 o3, .int .i64 o4, .int .i64 o5] 28)).below hb rfl)
                  clear hb R17 zc4 zl4
                  have zq6 := R18.out.get 10 rfl
                  have zc6 := fun j => cell_of_row W18 _ j _ _ _ zq6
                  have zl6 := row_lt zq6
                  clear zq6
                  go_wp2_with fail
                  go_ret
                  exact ⟨rfl, (R18.out.put (W18.heap.size) (by first | rfl | simp) (.cells #[.int .i64 c0, .int .i64 c1, .int .i64 c2, .int .i64 c3, .int .i64 c4, .int .i64 c5] 28)).1⟩
              · skip
                as_aux_lemma =>
                  obtain ⟨h1, h2⟩ := K3.out rfl
                  obtain ⟨⟨hr0, hr1⟩, ⟨g0, g1, g2, g3, g4, g5, h3, h4⟩, h5⟩ := L3.out rfl
                  have L4 := Lib.hid h3
                  have L5 := Lib.hid h4
                  clear h3 h4 L3
                  obtain rfl : r = 0 := by omega
                  clear hrp hr0 hr1
                  clear h5
                  obtain ⟨o0, o1, o2, o3, o4, o5, h3, h4⟩ := h2 hnp
                  have K4 := Lib.hid h3
                  have K5 := Lib.hid h4
                  clear h3 h4
                  have n1 : wrap64 (n - 1) = n - 1 := by have := HN.out; unfold wrap64; omega
                  have hng : n > 0 := hnp
                  clear h1 h2 K3
                  have zq6 := R12.out.get 6 rfl
                  have zc6 := fun j => cell_of_row W12 _ j _ _ _ zq6
                  have zl6 := row_lt zq6
                  clear zq6
                  have zq8 := R12.out.get 5 rfl
                  have zc8 := fun j => cell_of_row W12 _ j _ _ _ zq8
                  have zl8 := row_lt zq8
                  clear zq8
                  have zq18 := R12.out.get 0 rfl
                  have zc18 := fun j => cell_of_row W12 _ j _ _ _ zq18
                  have zl18 := row_lt zq18
                  clear zq18
                  have zq10 := R12.out.get 4 rfl
                  have zc10 := fun j => cell_of_row W12 _ j _ _ _ zq10
                  have zl10 := row_lt zq10
                  clear zq10
                  have zq11 := R12.out.get 3 rfl
                  have zc11 := fun j => cell_of_row W12 _ j _ _ _ zq11
                  have zl11 := row_lt zq11
                  clear zq11
                  go_wp2_with fail
                  refine (L4.out _).mono ?_
                  rintro e W13 ⟨rfl, hb⟩
                  have R13 := Lib.hid ((R12.out.put (W12.heap.size) (by first | rfl | simp) (.cells #[.int .i64 k0, .int .i64 k1, .int .i64 k2, .int .i64 k3, .int .i64 k4, .int .i64 k5] 28)).below hb rfl)
                  clear hb R12 zc6 zl6 zc8 zl8 zc18 zl18 zc10 zl10 zc11 zl11
                  go_wp2_with fail
                  refine (L5.out _).mono ?_
                  rintro e W14 ⟨rfl, hb⟩
                  have R14 := Lib.hid ((R13.out.put (W13.heap.size) (by first | rfl | simp) (.cells #[.int .i64 g0, .int .i64 g1, .int .i64 g2, .int .i64 g3, .int .i64 g4, .int .i64 g5] 28)).below hb rfl)
                  clear hb R13
                  have zq3 := R14.out.get 10 rfl
                  have zc3 := fun j => cell_of_row W14 _ j _ _ _ zq3
                  have zl3 := row_lt zq3
                  clear zq3
                  have zq4 := R14.out.get 9 rfl
                  have zc4 := fun j => cell_of_row W14 _ j _ _ _ zq4
                  have zl4 := row_lt zq4
                  clear zq4
                  go_wp2_with fail
                  refine (K4.out _).mono ?_
                  rintro e W15 ⟨rfl, hb⟩
                  have R15 := Lib.hid (R14.out.below hb rfl)
                  clear hb R14 zc3 zl3 zc4 zl4
                  have zq4 := R15.out.get 9 rfl
                  have zc4 := fun j => cell_of_row W15 _ j _ _ _ zq4
                  have zl4 := row_lt zq4
                  clear zq4
                  go_wp2_with fail
                  refine (K5.out _).mono ?_
                  rintro e W16 ⟨rfl, hb⟩
                  have R16 := Lib.hid ((R15.out.put (W15.heap.size) (by first | rfl | simp) (.cells #[.int .i64 o0, .int .i64 o1, .int .i64 o2, .int .i64 o3, .int .i64 o4, .int .i64 o5] 28)).below hb rfl)
                  clear hb R15 zc4 zl4
                  have zq6 := R16.out.get 9 rfl
                  have zc6 := fun j => cell_of_row W16 _ j _ _ _ zq6
                  have zl6 := row_lt zq6
                  clear zq6
                  go_wp2_with fail
                  go_ret
                  exact ⟨rfl, (R16.out.put (W16.heap.size) (by first | rfl | simp) (.cells #[.int .i64 c0, .int .i64 c1, .int .i64 c2, .int .i64 c3, .int .i64 c4, .int .i64 c5] 28)).1⟩
          · cases q
            · skip
              as_aux_lemma =>
                obtain ⟨h1, h2⟩ := K3.out rfl
                have hng : n ≤ 0 := by omega
                clear h1 h2 K3
                have zq6 := R12.out.get 6 rfl
                have zc6 := fun j => cell_of_row W12 _ j _ _ _ zq6
                have zl6 := row_lt zq6
                clear zq6
                have zq8 := R12.out.get 5 rfl
                have zc8 := fun j => cell_of_row W12 _ j _ _ _ zq8
                have zl8 := row_lt zq8
                clear zq8
                have zq18 := R12.out.get 0 rfl
                have zc18 := fun j => cell_of_row W12 _ j _ _ _ zq18
                have zl18 := row_lt zq18
                clear zq18
                go_wp2_with fail
                go_ret
                exact ⟨rfl, (R12.out.put (W12.heap.size) (by first | rfl | simp) (.cells #[.int .i64 k0, .int .i64 k1, .int .i64 k2, .int .i64 k3, .int .i64 k4, .int .i64 k5] 28)).1⟩
            · rcases (by omega : 0 < r ∨ ¬ 0 < r) with hrp | hrp
              · skip
                as_aux_lemma =>
                  obtain ⟨h1, h2⟩ := K3.out rfl
                  obtain ⟨⟨hr0, hr1⟩, ⟨g0, g1, g2, g3, g4, g5, h3, h4⟩, h5⟩ := L3.out rfl
                  have L4 := Lib.hid h3
                  have L5 := Lib.hid h4
                  clear h3 h4 L3
                  obtain ⟨u0, u1, u2, u3, u4, u5, mz, h3, h4, hmz⟩ := h5 hrp
                  have L6 := Lib.hid h3
                  have L7 := Lib.hid h4
                  clear h3 h4
                  have n2 : wrap64 (r - 1) = r - 1 := by unfold wrap64; omega
                  have hrg : r > 0 := hrp
                  clear h5
                  have hng : n ≤ 0 := by omega
                  clear h1 h2 K3
                  have zq6 := R12.out.get 6 rfl
                  have zc6 := fun j => cell_of_row W12 _ j _ _ _ zq6
                  have zl6 := row_lt zq6
                  clear zq6
                  have zq8 := R12.out.get 5 rfl
                  have zc8 := fun j => cell_of_row W12 _ j _ _ _ zq8
                  have zl8 := row_lt zq8
                  clear zq8
                  have zq18 := R12.out.get 0 rfl
                  have zc18 := fun j => cell_of_row W12 _ j _ _ _ zq18
                  have zl18 := row_lt zq18
                  clear zq18
                  have zq10 := R12.out.get 4 rfl
                  have zc10 := fun j => cell_of_row W12 _ j _ _ _ zq10
                  have zl10 := row_lt zq10
                  clear zq10
                  have zq11 := R12.out.get 3 rfl
                  have zc11 := fun j => cell_of_row W12 _ j _ _ _ zq11
                  have zl11 := row_lt zq11
                  clear zq11
                  go_wp2_with fail
                  refine (L4.out _).mono ?_
                  rintro e W13 ⟨rfl, hb⟩
                  have R13 := Lib.hid ((R12.out.put (W12.heap.size) (by first | rfl | simp) (.cells #[.int .i64 k0, .int .i64 k1, .int .i64 k2, .int .i64 k3, .int .i64 k4, .int .i64 k5] 28)).below hb rfl)
                  clear hb R12 zc6 zl6 zc8 zl8 zc18 zl18 zc10 zl10 zc11 zl11
                  go_wp2_with fail
                  refine (L5.out _).mono ?_
                  rintro e W14 ⟨rfl, hb⟩
                  have R14 := Lib.hid ((R13.out.put (W13.heap.size) (by first | rfl | simp) (.cells #[.int .i64 g0, .int .i64 g1, .int .i64 g2, .int .i64 g3, .int .i64 g4, .int .i64 g5] 28)).below hb rfl)
                  clear hb R13
                  have zq10 := R14.out.get 6 rfl
                  have zc10 := fun j => cell_of_row W14 _ j _ _ _ zq10
                  have zl10 := row_lt zq10
                  clear zq10
                  have zq11 := R14.out.get 5 rfl
                  have zc11 := fun j => cell_of_row W14 _ j _ _ _ zq11
                  have zl11 := row_lt zq11
                  clear zq11
                  go_wp2_with fail
                  refine (L6.out _).mono ?_
                  rintro e W15 ⟨rfl, hb⟩
                  have R15 := Lib.hid (R14.out.below hb rfl)
                  clear hb R14 zc10 zl10 zc11 zl11
                  go_wp2_with fail
                  refine (L7.out _).mono ?_
                  rintro e W16 ⟨rfl, hb⟩
                  have R16 := Lib.hid ((R15.out.put (W15.heap.size) (by first | rfl | simp) (.cells #[.int .i64 u0, .int .i64 u1, .int .i64 u2, .int .i64 u3, .int .i64 u4, .int .i64 u5] 28)).below hb rfl)
                  clear hb R15
                  go_wp2_with fail
                  go_ret
                  exact ⟨rfl, R16.out.1⟩
              · skip
                as_aux_lemma =>
                  obtain ⟨h1, h2⟩ := K3.out rfl
                  obtain ⟨⟨hr0, hr1⟩, ⟨g0, g1, g2, g3, g4, g5, h3, h4⟩, h5⟩ := L3.out rfl
                  have L4 := Lib.hid h3
                  have L5 := Lib.hid h4
                  clear h3 h4 L3
                  obtain rfl : r = 0 := by omega
                  clear hrp hr0 hr1
                  clear h5
                  have hng : n ≤ 0 := by omega
                  clear h1 h2 K3
                  have zq6 := R12.out.get 6 rfl
                  have zc6 := fun j => cell_of_row W12 _ j _ _ _ zq6
                  have zl6 := row_lt zq6
                  clear zq6
                  have zq8 := R12.out.get 5 rfl
                  have zc8 := fun j => cell_of_row W12 _ j _ _ _ zq8
                  have zl8 := row_lt zq8
                  clear zq8
                  have zq18 := R12.out.get 0 rfl
                  have zc18 := fun j => cell_of_row W12 _ j _ _ _ zq18
                  have zl18 := row_lt zq18
                  clear zq18
                  have zq10 := R12.out.get 4 rfl
                  have zc10 := fun j => cell_of_row W12 _ j _ _ _ zq10
                  have zl10 := row_lt zq10
                  clear zq10
                  have zq11 := R12.out.get 3 rfl
                  have zc11 := fun j => cell_of_row W12 _ j _ _ _ zq11
                  have zl11 := row_lt zq11
                  clear zq11
                  go_wp2_with fail
                  refine (L4.out _).mono ?_
                  rintro e W13 ⟨rfl, hb⟩
                  have R13 := Lib.hid ((R12.out.put (W12.heap.size) (by first | rfl | simp) (.cells #[.int .i64 k0, .int .i64 k1, .int .i64 k2, .int .i64 k3, .int .i64 k4, .int .i64 k5] 28)).below hb rfl)
                  clear hb R12 zc6 zl6 zc8 zl8 zc18 zl18 zc10 zl10 zc11 zl11
                  go_wp2_with fail
                  refine (L5.out _).mono ?_
                  rintro e W14 ⟨rfl, hb⟩
                  have R14 := Lib.hid ((R13.out.put (W13.heap.size) (by first | rfl | simp) (.cells #[.int .i64 g0, .int .i64 g1, .int .i64 g2, .int .i64 g3, .int .i64 g4, .int .i64 g5] 28)).below hb rfl)
                  clear hb R13
                  go_wp2_with fail
                  go_ret
                  exact ⟨rfl, R14.out.1⟩
      · cases p
        · cases q
          · skip
            as_aux_lemma =>
              obtain ⟨h3, h4⟩ := M3.out rfl
              have M4 := Lib.hid h3
              clear h3 h4 M3
              have zq6 := R12.out.get 6 rfl
              have zc6 := fun j => cell_of_row W12 _ j _ _ _ zq6
              have zl6 := row_lt zq6
              clear zq6
              have zq8 := R12.out.get 5 rfl
              have zc8 := fun j => cell_of_row W12 _ j _ _ _ zq8
              have zl8 := row_lt zq8
              clear zq8
              have zq18 := R12.out.get 0 rfl
              have zc18 := fun j => cell_of_row W12 _ j _ _ _ zq18
              have zl18 := row_lt zq18
              clear zq18
              have zq17 := R12.out.get 1 rfl
              have zc17 := fun j => cell_of_row W12 _ j _ _ _ zq17
              have zl17 := row_lt zq17
              clear zq17
              have zq16 := R12.out.get 2 rfl
              have zc16 := fun j => cell_of_row W12 _ j _ _ _ zq16
              have zl16 := row_lt zq16
              clear zq16
              go_wp2_with fail
              refine (M4.out _).mono ?_
              rintro e W13 ⟨rfl, hb⟩
              have R13 := Lib.hid ((R12.out.put (W12.heap.size) (by first | rfl | simp) (.cells #[.int .i64 k0, .int .i64 k1, .int .i64 k2, .int .i64 k3, .int .i64 k4, .int .i64 k5] 28)).below hb rfl)
              clear hb R12 zc6 zl6 zc8 zl8 zc18 zl18 zc17 zl17 zc16 zl16
              have zq18 := R13.out.get 1 rfl
              have zc18 := fun j => cell_of_row W13 _ j _ _ _ zq18
              have zl18 := row_lt zq18
              clear zq18
              go_wp2_with fail
              go_ret
              exact ⟨rfl, (R13.out.put (W13.heap.size) (by first | rfl | simp) (.cells #[.int .i64 k0, .int .i64 k1, .int .i64 k2, .int .i64 k3, .int .i64 k4, .int .i64 k5] 28)).1⟩
          · rcases (by omega : 0 < r ∨ ¬ 0 < r) with hrp | hrp
            · skip
              as_aux_lemma =>
                obtain ⟨h3, h4⟩ := M3.out rfl
                have M4 := Lib.hid h3
                clear h3 h4 M3
                obtain ⟨⟨hr0, hr1⟩, ⟨g0, g1, g2, g3, g4, g5, h3, h4⟩, h5⟩ := L3.out rfl
                have L4 := Lib.hid h3
                have L5 := Lib.hid h4
                clear h3 h4 L3
                obtain ⟨u0, u1, u2, u3, u4, u5, mz, h3, h4, hmz⟩ := h5 hrp
                have L6 := Lib.hid h3
                have L7 := Lib.hid h4
                clear h3 h4
                have n2 : wrap64 (r - 1) = r - 1 := by unfold wrap64; omega
                have hrg : r > 0 := hrp
                clear h5
                have zq6 := R12.out.get 6 rfl
                have zc6 := fun j => cell_of_row W12 _ j _ _ _ zq6
                have zl6 := row_lt zq6
                clear zq6
                have zq8 := R12.out.get 5 rfl
                have zc8 := fun j => cell_of_row W12 _ j _ _ _ zq8
                have zl8 := row_lt zq8
                clear zq8
                have zq18 := R12.out.get 0 rfl
                have zc18 := fun j => cell_of_row W12 _ j _ _ _ zq18
                have zl18 := row_lt zq18
                clear zq18
                have zq17 := R12.out.get 1 rfl
                have zc17 := fun j => cell_of_row W12 _ j _ _ _ zq17
                have zl17 := row_lt zq17
                clear zq17
                have zq16 := R12.out.get 2 rfl
                have zc16 := fun j => cell_of_row W12 _ j _ _ _ zq16
                have zl16 := row_lt zq16
                clear zq16
                go_wp2_with fail
                refine (M4.out _).mono ?_
                rintro e W13 ⟨rfl, hb⟩
                have R13 := Lib.hid ((R12.out.put (W12.heap.size) (by first | rfl | simp) (.cells #[.int .i64 k0, .int .i64 k1, .int .i64 k2, .int .i64 k3, .int .i64 k4, .int .i64 k5] 28)).below hb rfl)
                clear hb R12 zc6 zl6 zc8 zl8 zc18 zl18 zc17 zl17 zc16 zl16
                have zq18 := R13.out.get 1 rfl
                have zc18 := fun j => cell_of_row W13 _ j _ _ _ zq18
                have zl18 := row_lt zq18
                clear zq18
                have zq10 := R13.out.get 5 rfl
                have zc10 := fun j => cell_of_row W13 _ j _ _ _ zq10
                have zl10 := row_lt zq10
                clear zq10
                have zq11 := R13.out.get 4 rfl
                have zc11 := fun j => cell_of_row W13 _ j _ _ _ zq11
                have zl11 := row_lt zq11
                clear zq11
                go_wp2_with fail
                refine (L4.out _).mono ?_
                rintro e W14 ⟨rfl, hb⟩
                have R14 := Lib.hid ((R13.out.put (W13.heap.size) (by first | rfl | simp) (.cells #[.int .i64 k0, .int .i64 k1, .int .i64 k2, .int .i64 k3, .int .i64 k4, .int .i64 k5] 28)).below hb rfl)
                clear hb R13 zc18 zl18 zc10 zl10 zc11 zl11
                go_wp2_with fail
                refine (L5.out _).mono ?_
                rintro e W15 ⟨rfl, hb⟩
                have R15 := Lib.hid ((R14.out.put (W14.heap.size) (by first | rfl | simp) (.cells #[.int .i64 g0, .int .i64 g1, .int .i64 g2, .int .i64 g3, .int .i64 g4, .int .i64 g5] 28)).below hb rfl)
                clear hb R14
                have zq10 := R15.out.get 7 rfl
                have zc10 := fun j => cell_of_row W15 _ j _ _ _ zq10
                have zl10 := row_lt zq10
                clear zq10
                have zq11 := R15.out.get 6 rfl
                have zc11 := fun j => cell_of_row W15 _ j _ _ _ zq11
                have zl11 := row_lt zq11
                clear zq11
                go_wp2_with fail
                refine (L6.out _).mono ?_
                rintro e W16 ⟨rfl, hb⟩
                have R16 := Lib.hid (R15.out.below hb rfl)
                clear hb R15 zc10 zl10 zc11 zl11
                go_wp2_with fail
                refine (L7.out _).mono ?_
                rintro e W17 ⟨rfl, hb⟩
                have R17 := Lib.hid ((R16.out.put (W16.heap.size) (by first | rfl | simp) (.cells #[.int .i64 u0, .int .i64 u1, .int .i64 u2, .int .i64 u3, .int .i64 u4, .int .i64 u5] 28)).below hb rfl)
                clear hb R16
                go_wp2_with fail
                go_ret
                exact ⟨rfl, R17.out.1⟩
            · skip
              as_aux_lemma =>
                obtain ⟨h3, h4⟩ := M3.out rfl
                have M4 := Lib.hid h3
                clear h3 h4 M3
                obtain ⟨⟨hr0, hr1⟩, ⟨g0, g1, g2, g3, g4, g5, h3, h4⟩, h5⟩ := L3.out rfl
                have L4 := Lib.hid h3
                have L5 := Lib.hid h4
                clear h3 h4 L3
                obtain rfl : r = 0 := by omega
                clear hrp hr0 hr1
                clear h5
                have zq6 := R12.out.get 6 rfl
                have zc6 := fun j => cell_of_row W12 _ j _ _ _ zq6
                have zl6 := row_lt zq6
                clear zq6
                have zq8 := R12.out.get 5 rfl
                have zc8 := fun j => cell_of_row W12 _ j _ _ _ zq8
                have zl8 := row_lt zq8
                clear zq8
                have zq18 := R12.out.get 0 rfl
                have zc18 := fun j => cell_of_row W12 _ j _ _ _ zq18
                have zl18 := row_lt zq18
                clear zq18
                have zq17 := R12.out.get 1 rfl
                have zc17 := fun j => cell_of_row W12 _ j _ _ _ zq17
                have zl17 := row_lt zq17
                clear zq17
                have zq16 := R12.out.get 2 rfl
                have zc16 := fun j => cell_of_row W12 _ j _ _ _ zq16
                have zl16 := row_lt zq16
                clear zq16
                go_wp2_with fail
                refine (M4.out _).mono ?_
                rintro e W13 ⟨rfl, hb⟩
                have R13 := Lib.hid ((R12.out.put (W12.heap.size) (by first | rfl | simp) (.cells #[.int .i64 k0, .int .i64 k1, .int .i64 k2, .int .i64 k3, .int .i64 k4, .int .i64 k5] 28)).below hb rfl)
                clear hb R12 zc6 zl6 zc8 zl8 zc18 zl18 zc17 zl17 zc16 zl16
                have zq18 := R13.out.get 1 rfl
                have zc18 := fun j => cell_of_row W13 _ j _ _ _ zq18
                have zl18 := row_lt zq18
                clear zq18
                have zq10 := R13.out.get 5 rfl
                have zc10 := fun j => cell_of_row W13 _ j _ _ _ zq10
                have zl10 := row_lt zq10
                clear zq10
                have zq11 := R13.out.get 4 rfl
                have zc11 := fun j => cell_of_row W13 _ j _ _ _ zq11
                have zl11 := row_lt zq11
                clear zq11
                go_wp2_with fail
                refine (L4.out _).mono ?_
                rintro e W14 ⟨rfl, hb⟩
                have R14 := Lib.hid ((R13.out.put (W13.heap.size) (by first | rfl | simp) (.cells #[.int .i64 k0, .int .i64 k1, .int .i64 k2, .int .i64 k3, .int .i64 k4, .int .i64 k5] 28)).below hb rfl)
                clear hb R13 zc18 zl18 zc10 zl10 zc11 zl11
                go_wp2_with fail
                refine (L5.out _).mono ?_
                rintro e W15 ⟨rfl, hb⟩
                have R15 := Lib.hid ((R14.out.put (W14.heap.size) (by first | rfl | simp) (.cells #[.int .i64 g0, .int .i64 g1, .int .i64 g2, .int .i64 g3, .int .i64 g4, .int .i64 g5] 28)).below hb rfl)
                clear hb R14
                go_wp2_with fail
                go_ret
                exact ⟨rfl, R15.out.1⟩
        · rcases (by omega : 0 < n ∨ ¬ 0 < n) with hnp | hnp
          · cases q
            · skip
              as_aux_lemma =>
                obtain ⟨h1, h2⟩ := K3.out rfl
                obtain ⟨h3, h4⟩ := M3.out rfl
                have M4 := Lib.hid h3
                obtain ⟨l0, l1, l2, l3, l4, l5, m0, m1, m2, m3, m4, m5, h5, h6, h7⟩ := h4 a0 a1 a2 a3 a4 a5 h1
                have M5 := Lib.hid h5
                have M6 := Lib.hid h6
                have M7 := Lib.hid h7
                clear h5 h6 h7
                clear h3 h4 M3
                obtain ⟨o0, o1, o2, o3, o4, o5, h3, h4⟩ := h2 hnp
                have K4 := Lib.hid h3
                have K5 := Lib.hid h4
                clear h3 h4
                have n1 : wrap64 (n - 1) = n - 1 := by have := HN.out; unfold wrap64; omega
                have hng : n > 0 := hnp
                clear h1 h2 K3
                have zq6 := R12.out.get 6 rfl
                have zc6 := fun j => cell_of_row W12 _ j _ _ _ zq6
                have zl6 := row_lt zq6
                clear zq6
                have zq8 := R12.out.get 5 rfl
                have zc8 := fun j => cell_of_row W12 _ j _ _ _ zq8
                have zl8 := row_lt zq8
                clear zq8
                have zq18 := R12.out.get 0 rfl
                have zc18 := fun j => cell_of_row W12 _ j _ _ _ zq18
                have zl18 := row_lt zq18
                clear zq18
                have zq17 := R12.out.get 1 rfl
                have zc17 := fun j => cell_of_row W12 _ j _ _ _ zq17
                have zl17 := row_lt zq17
                clear zq17
                have zq16 := R12.out.get 2 rfl
                have zc16 := fun j => cell_of_row W12 _ j _ _ _ zq16
                have zl16 := row_lt zq16
                clear zq16
                go_wp2_with fail
                refine (M4.out _).mono ?_
                rintro e W13 ⟨rfl, hb⟩
                have R13 := Lib.hid ((R12.out.put (W12.heap.size) (by first | rfl | simp) (.cells #[.int .i64 k0, .int .i64 k1, .int .i64 k2, .int .i64 k3, .int .i64 k4, .int .i64 k5] 28)).below hb rfl)
                clear hb R12 zc6 zl6 zc8 zl8 zc18 zl18 zc17 zl17 zc16 zl16
                have zq18 := R13.out.get 1 rfl
                have zc18 := fun j => cell_of_row W13 _ j _ _ _ zq18
                have zl18 := row_lt zq18
                clear zq18
                have zq3 := R13.out.get 9 rfl
                have zc3 := fun j => cell_of_row W13 _ j _ _ _ zq3
                have zl3 := row_lt zq3
                clear zq3
                go_wp2_with fail
                refine (M5.out _).mono ?_
                rintro e W14 ⟨rfl, hb⟩
                have R14 := Lib.hid ((R13.out.put (W13.heap.size) (by first | rfl | simp) (.cells #[.int .i64 k0, .int .i64 k1, .int .i64 k2, .int .i64 k3, .int .i64 k4, .int .i64 k5] 28)).below hb rfl)
                clear hb R13 zc18 zl18 zc3 zl3
                have zq3 := R14.out.get 10 rfl
                have zc3 := fun j => cell_of_row W14 _ j _ _ _ zq3
                have zl3 := row_lt zq3
                clear zq3
                have zq16 := R14.out.get 4 rfl
                have zc16 := fun j => cell_of_row W14 _ j _ _ _ zq16
                have zl16 := row_lt zq16
                clear zq16
                go_wp2_with fail
                refine (M6.out _).mono ?_
                rintro e W15 ⟨rfl, hb⟩
                have R15 := Lib.hid ((R14.out.put (W14.heap.size) (by first | rfl | simp) (.cells #[.int .i64 l0, .int .i64 l1, .int .i64 l2, .int .i64 l3, .int .i64 l4, .int .i64 l5] 28)).below hb rfl)
                clear hb R14 zc3 zl3 zc16 zl16
                have zq17 := R15.out.get 4 rfl
                have zc17 := fun j => cell_of_row W15 _ j _ _ _ zq17
                have zl17 := row_lt zq17
                clear zq17
                go_wp2_with fail
                refine (M7.out _).mono ?_
                rintro e W16 ⟨rfl, hb⟩
                have R16 := Lib.hid ((R15.out.put (W15.heap.size) (by first | rfl | simp) (.cells #[.int .i64 m0, .int .i64 m1, .int .i64 m2, .int .i64 m3, .int .i64 m4, .int .i64 m5] 28)).below hb rfl)
                clear hb R15 zc17 zl17
                have zq24 := R16.out.get 1 rfl
                have zc24 := fun j => cell_of_row W16 _ j _ _ _ zq24
                have zl24 := row_lt zq24
                clear zq24
                have zq3 := R16.out.get 12 rfl
                have zc3 := fun j => cell_of_row W16 _ j _ _ _ zq3
                have zl3 := row_lt zq3
                clear zq3
                have zq4 := R16.out.get 11 rfl
                have zc4 := fun j => cell_of_row W16 _ j _ _ _ zq4
                have zl4 := row_lt zq4
                clear zq4
                go_wp2_with fail
                refine (K4.out _).mono ?_
                rintro e W17 ⟨rfl, hb⟩
                have R17 := Lib.hid ((R16.out.put (W16.heap.size) (by first | rfl | simp) (.cells #[.int .i64 l0, .int .i64 l1, .int .i64 l2, .int .i64 l3, .int .i64 l4, .int .i64 l5] 28)).below hb rfl)
                clear hb R16 zc24 zl24 zc3 zl3 zc4 zl4
                have zq4 := R17.out.get 12 rfl
                have zc4 := fun j => cell_of_row W17 _ j _ _ _ zq4
                have zl4 := row_lt zq4
                clear zq4
                go_wp2_with fail
                refine (K5.out _).mono ?_
                rintro e W18 ⟨rfl, hb⟩
                have R18 := Lib.hid ((R17.out.put (W17.heap.size) (by first | rfl | simp) (.cells #[.int .i64 o0, .int .i64 o1, .int .i64 o2, .int .i64 o3, .int .i64 o4, .int .i64 o5] 28)).below hb rfl)
                clear hb R17 zc4 zl4
                have zq6 := R18.out.get 12 rfl
                have zc6 := fun j => cell_of_row W18 _ j _ _ _ zq6
                have zl6 := row_lt zq6
                clear zq6
                go_wp2_with fail
                go_ret
                exact ⟨rfl, (R18.out.put (W18.heap.size) (by first | rfl | simp) (.cells #[.int .i64 c0, .int .i64 c1, .int .i64 c2, .int .i64 c3, .int .i64 c4, .int .i64 c5] 28)).1⟩
            · rcases (by omega : 0 < r ∨ ¬ 0 < r) with hrp | hrp
              · skip
                as_aux_lemma =>
                  obtain ⟨h1, h2⟩ := K3.out rfl
                  obtain ⟨h3, h4⟩ := M3.out rfl
                  have M4 := Lib.hid h3
                  obtain ⟨l0, l1, l2, l3, l4, l5, m0, m1, m2, m3, m4, m5, h5, h6, h7⟩ := h4 a0 a1 a2 a3 a4 a5 h1
                  have M5 := Lib.hid h5
                  have M6 := Lib.hid h6
                  have M7 := Lib.hid h7
                  clear h5 h6 h7
                  clear h3 h4 M3
                  obtain ⟨⟨hr0, hr1⟩, ⟨g0, g1, g2, g3, g4, g5, h3, h4⟩, h5⟩ := L3.out rfl
                  have L4 := Lib.hid h3
                  have L5 := Lib.hid h4
                  clear h3 h4 L3
                  obtain ⟨u0, u1, u2, u3, u4, u5, mz, h3, h4, hmz⟩ := h5 hrp
                  have L6 := Lib.hid h3
                  have L7 := Lib.hid h4
                  clear h3 h4
                  have n2 : wrap64 (r - 1) = r - 1 := by unfold wrap64; omega
                  have hrg : r > 0 := hrp
                  clear h5
                  obtain ⟨o0, o1, o2, o3, o4, o5, h3, h4⟩ := h2 hnp
                  have K4 := Lib.hid h3
                  have K5 := Lib.hid h4
                  clear h3 h4
                  have n1 : wrap64 (n - 1) = n - 1 := by have := HN.out; unfold wrap64; omega
                  have hng : n > 0 := hnp
                  clear h1 h2 K3
                  have zq6 := R12.out.get 6 rfl
                  have zc6 := fun j => cell_of_row W12 _ j _ _ _ zq6
                  have zl6 := row_lt zq6
                  clear zq6
                  have zq8 := R12.out.get 5 rfl
                  have zc8 := fun j => cell_of_row W12 _ j _ _ _ zq8
                  have zl8 := row_lt zq8
                  clear zq8
                  have zq18 := R12.out.get 0 rfl
                  have zc18 := fun j => cell_of_row W12 _ j _ _ _ zq18
                  have zl18 := row_lt zq18
                  clear zq18
                  have zq17 := R12.out.get 1 rfl
                  have zc17 := fun j => cell_of_row W12 _ j _ _ _ zq17
                  have zl17 := row_lt zq17
                  clear zq17
                  have zq16 := R12.out.get 2 rfl
                  have zc16 := fun j => cell_of_row W12 _ j _ _ _ zq16
                  have zl16 := row_lt zq16
                  clear zq16
                  go_wp2_with fail
                  refine (M4.out _).mono ?_
                  rintro e W13 ⟨rfl, hb⟩
                  have R13 := Lib.hid ((R12.out.put (W12.heap.size) (by first | rfl | simp) (.cells #[.int .i64 k0, .int .i64 k1, .int .i64 k2, .int .i64 k3, .int .i64 k4, .int .i64 k5] 28)).below hb rfl)
                  clear hb R12 zc6 zl6 zc8 zl8 zc18 zl18 zc17 zl17 zc16 zl16
                  have zq18 := R13.out.get 1 rfl
                  have zc18 := fun j => cell_of_row W13 _ j _ _ _ zq18
                  have zl18 := row_lt zq18
                  clear zq18
                  have zq3 := R13.out.get 9 rfl
                  have zc3 := fun j => cell_of_row W13 _ j _ _ _ zq3
                  have zl3 := row_lt zq3
                  clear zq3
                  go_wp2_with fail
                  refine (M5.out _).mono ?_
                  rintro e W14 ⟨rfl, hb⟩
                  have R14 := Lib.hid ((R13.out.put (W13.heap.size) (by first | rfl | simp) (.cells #[.int .i64 k0, .int .i64 k1, .int .i64 k2, .int .i64 k3, .int .i64 k4, .int .i64 k5] 28)).below hb rfl)
                  clear hb R13 zc18 zl18 zc3 zl3
                  have zq3 := R14.out.get 10 rfl
                  have zc3 := fun j => cell_of_row W14 _ j _ _ _ zq3
                  have zl3 := row_lt zq3
                  clear zq3
                  have zq16 := R14.out.get 4 rfl
                  have zc16 := fun j => cell_of_row W14 _ j _ _ _ zq16
                  have zl16 := row_lt zq16
                  clear zq16
                  go_wp2_with fail
                  refine (M6.out _).mono ?_
                  rintro e W15 ⟨rfl, hb⟩
                  have R15 := Lib.hid ((R14.out.put (W14.heap.size) (by first | rfl | simp) (.cells #[.int .i64 l0, .int .i64 l1, .int .i64 l2, .int .i64 l3, .int .i64 l4, .int .i64 l5] 28)).below hb rfl)
                  clear hb R14 zc3 zl3 zc16 zl16
                  have zq17 := R15.out.get 4 rfl
                  have zc17 := fun j => cell_of_row W15 _ j _ _ _ zq17
                  have zl17 := row_lt zq17
                  clear zq17
                  go_wp2_with fail
                  refine (M7.out _).mono ?_
                  rintro e W16 ⟨rfl, hb⟩
                  have R16 := Lib.hid ((R15.out.put (W15.heap.size) (by first | rfl | simp) (.cells #[.int .i64 m0, .int .i64 m1, .int .i64 m2, .int .i64 m3, .int .i64 m4, .int .i64 m5] 28)).below hb rfl)
                  clear hb R15 zc17 zl17
                  have zq24 := R16.out.get 1 rfl
                  have zc24 := fun j => cell_of_row W16 _ j _ _ _ zq24
                  have zl24 := row_lt zq24
                  clear zq24
                  have zq10 := R16.out.get 8 rfl
                  have zc10 := fun j => cell_of_row W16 _ j _ _ _ zq10
                  have zl10 := row_lt zq10
                  clear zq10
                  have zq11 := R16.out.get 7 rfl
                  have zc11 := fun j => cell_of_row W16 _ j _ _ _ zq11
                  have zl11 := row_lt zq11
                  clear zq11
                  go_wp2_with fail
                  refine (L4.out _).mono ?_
                  rintro e W17 ⟨rfl, hb⟩
                  have R17 := Lib.hid ((R16.out.put (W16.heap.size) (by first | rfl | simp) (.cells #[.int .i64 l0, .int .i64 l1, .int .i64 l2, .int .i64 l3, .int .i64 l4, .int .i64 l5] 28)).below hb rfl)
                  clear hb R16 zc24 zl24 zc10 zl10 zc11 zl11
                  go_wp2_with fail
                  refine (L5.out _).mono ?_
                  rintro e W18 ⟨rfl, hb⟩
                  have R18 := Lib.hid ((R17.out.put (W17.heap.size) (by first | rfl | simp) (.cells #[.int .i64 g0, .int .i64 g1, .int .i64 g2, .int .i64 g3, .int .i64 g4, .int .i64 g5] 28)).below hb rfl)
                  clear hb R17
                  have zq10 := R18.out.get 10 rfl
                  have zc10 := fun j => cell_of_row W18 _ j _ _ _ zq10
                  have zl10 := row_lt zq10
                  clear zq10
                  have zq11 := R18.out.get 9 rfl
                  have zc11 := fun j => cell_of_row W18 _ j _ _ _ zq11
                  have zl11 := row_lt zq11
                  clear zq11
                  go_wp2_with fail
                  refine (L6.out _).mono ?_
                  rintro e W19 ⟨rfl, hb⟩
                  have R19 := Lib.hid (R18.out.below hb rfl)
                  clear hb R18 zc10 zl10 zc11 zl11
                  go_wp2_with fail
                  refine (L7.out _).mono ?_
                  rintro e W20 ⟨rfl, hb⟩
                  have R20 := Lib.hid ((R19.out.put (W19.heap.size) (by first | rfl | simp) (.cells #[.int .i64 u0, .int .i64 u1, .int .i64 u2, .int .i64 u3, .int .i64 u4, .int .i64 u5] 28)).below hb rfl)
                  clear hb R19
                  have zq3 := R20.out.get 15 rfl
                  have zc3 := fun j => cell_of_row W20 _ j _ _ _ zq3
                  have zl3 := row_lt zq3
                  clear zq3
                  have zq4 := R20.out.get 14 rfl
                  have zc4 := fun j => cell_of_row W20 _ j _ _ _ zq4
                  have zl4 := row_lt zq4
                  clear zq4
                  go_wp2_with fail
                  refine (K4.out _).mono ?_
                  rintro e W21 ⟨rfl, hb⟩
                  have R21 := Lib.hid (R20.out.below hb rfl)
                  clear hb R20 zc3 zl3 zc4 zl4
                  have zq4 := R21.out.get 14 rfl
                  have zc4 := fun j => cell_of_row W21 _ j _ _ _ zq4
                  have zl4 := row_lt zq4
                  clear zq4
                  go_wp2_with fail
                  refine (K5.out _).mono ?_
                  rintro e W22 ⟨rfl, hb⟩
                  have R22 := Lib.hid ((R21.out.put (W21.heap.size) (by first | rfl | simp) (.cells #[.int .i64 o0, .int .i64 o1, .int .i64 o2, .int .i64 o3, .int .i64 o4, .int .i64 o5] 28)).below hb rfl)
                  clear hb R21 zc4 zl4
                  have zq6 := R22.out.get 14 rfl
                  have zc6 := fun j => cell_of_row W22 _ j _ _ _ zq6
                  have zl6 := row_lt zq6
                  clear zq6
                  go_wp2_with fail
                  go_ret
                  exact ⟨rfl, (R22.out.put (W22.heap.size) (by first | rfl | simp) (.cells #[.int .i64 c0, .int .i64 c1, .int .i64 c2, .int .i64 c3, .int .i64 c4, .int .i64 c5] 28)).1⟩
              · skip
                as_aux_lemma =>
                  obtain ⟨h1, h2⟩ := K3.out rfl
                  obtain ⟨h3, h4⟩ := M3.out rfl
                  have M4 := Lib.hid h3
                  obtain ⟨l0, l1, l2, l3, l4, l5, m0, m1, m2, m3, m4, m5, h5, h6, h7⟩ := h4 a0 a1 a2 a3 a4 a5 h1
                  have M5 := Lib.hid h5
                  have M6 := Lib.hid h6
                  have M7 := Lib.hid h7
                  clear h5 h6 h7
                  clear h3 h4 M3
                  obtain ⟨⟨hr0, hr1⟩, ⟨g0, g1, g2, g3, g4, g5, h3, h4⟩, h5⟩ := L3.out rfl
                  have L4 := Lib.hid h3
                  have L5 := Lib.hid h4
                  clear h3 h4 L3
                  obtain rfl : r = 0 := by omega
                  clear hrp hr0 hr1
                  clear h5
                  obtain ⟨o0, o1, o2, o3, o4, o5, h3, h4⟩ := h2 hnp
                  have K4 := Lib.hid h3
                  have K5 := Lib.hid h4
                  clear h3 h4
                  have n1 : wrap64 (n - 1) = n - 1 := by have := HN.out; unfold wrap64; omega
                  have hng : n > 0 := hnp
                  clear h1 h2 K3
                  have zq6 := R12.out.get 6 rfl
                  have zc6 := fun j => cell_of_row W12 _ j _ _ _ zq6
                  have zl6 := row_lt zq6
                  clear zq6
                  have zq8 := R12.out.get 5 rfl
                  have zc8 := fun j => cell_of_row W12 _ j _ _ _ zq8
                  have zl8 := row_lt zq8
                  clear zq8
                  have zq18 := R12.out.get 0 rfl
                  have zc18 := fun j => cell_of_row W12 _ j _ _ _ zq18
                  have zl18 := row_lt zq18
                  clear zq18
                  have zq17 := R12.out.get 1 rfl
                  have zc17 := fun j => cell_of_row W12 _ j _ _ _ zq17
                  have zl17 := row_lt zq17
                  clear zq17
                  have zq16 := R12.out.get 2 rfl
                  have zc16 := fun j => cell_of_row W12 _ j _ _ _ zq16
                  have zl16 := row_lt zq16
                  clear zq16
                  go_wp2_with fail
                  refine (M4.out _).mono ?_
                  rintro e W13 ⟨rfl, hb⟩
                  have R13 := Lib.hid ((R12.out.put (W12.heap.size) (by first | rfl | simp) (.cells #[.int .i64 k0, .int .i64 k1, .int .i64 k2, .int .i64 k3, .int .i64 k4, .int .i64 k5] 28)).below hb rfl)
                  clear hb R12 zc6 zl6 zc8 zl8 zc18 zl18 zc17 zl17 zc16 zl16
                  have zq18 := R13.out.get 1 rfl
                  have zc18 := fun j => cell_of_row W13 _ j _ _ _ zq18
                  have zl18 := row_lt zq18
                  clear zq18
                  have zq3 := R13.out.get 9 rfl
                  have zc3 := fun j => cell_of_row W13 _ j _ _ _ zq3
                  have zl3 := row_lt zq3
                  clear zq3
                  go_wp2_with fail
                  refine (M5.out _).mono ?_
                  rintro e W14 ⟨rfl, hb⟩
                  have R14 := Lib.hid ((R13.out.put (W13.heap.size) (by first | rfl | simp) (.cells #[.int .i64 k0, .int .i64 k1, .int .i64 k2, .int .i64 k3, .int .i64 k4, .int .i64 k5] 28)).below hb rfl)
                  clear hb R13 zc18 zl18 zc3 zl3
                  have zq3 := R14.out.get 10 rfl
                  have zc3 := fun j => cell_of_row W14 _ j _ _ _ zq3
                  have zl3 := row_lt zq3
                  clear zq3
                  have zq16 := R14.out.get 4 rfl
                  have zc16 := fun j => cell_of_row W14 _ j _ _ _ zq16
                  have zl16 := row_lt zq16
                  clear zq16
                  go_wp2_with fail
                  refine (M6.out _).mono ?_
                  rintro e W15 ⟨rfl, hb⟩
                  have R15 := Lib.hid ((R14.out.put (W14.heap.size) (by first | rfl | simp) (.cells #[.int .i64 l0, .int .i64 l1, .int .i64 l2, .int .i64 l3, .int .i64 l4, .int .i64 l5] 28)).below hb rfl)
                  clear hb R14 zc3 zl3 zc16 zl16
                  have zq17 := R15.out.get 4 rfl
                  have zc17 := fun j => cell_of_row W15 _ j _ _ _ zq17
                  have zl17 := row_lt zq17
                  clear zq17
                  go_wp2_with fail
                  refine (M7.out _).mono ?_
                  rintro e W16 ⟨rfl, hb⟩
                  have R16 := Lib.hid ((R15.out.put (W15.heap.size) (by first | rfl | simp) (.cells #[.int .i64 m0, .int .i64 m1, .int .i64 m2, .int .i64 m3, .int .i64 m4, .int .i64 m5] 28)).below hb rfl)
                  clear hb R15 zc17 zl17
                  have zq24 := R16.out.get 1 rfl
                  have zc24 := fun j => cell_of_row W16 _ j _ _ _ zq24
                  have zl24 := row_lt zq24
                  clear zq24
                  have zq10 := R16.out.get 8 rfl
                  have zc10 := fun j => cell_of_row W16 _ j _ _ _ zq10
                  have zl10 := row_lt zq10
                  clear zq10
                  have zq11 := R16.out.get 7 rfl
                  have zc11 := fun j => cell_of_row W16 _ j _ _ _ zq11
                  have zl11 := row_lt zq11
                  clear zq11
                  go_wp2_with fail
                  refine (L4.out _).mono ?_
                  rintro e W17 ⟨rfl, hb⟩
                  have R17 := Lib.hid ((R16.out.put (W16.heap.size) (by first | rfl | simp) (.cells #[.int .i64 l0, .int .i64 l1, .int .i64 l2, .int .i64 l3, .int .i64 l4, .int .i64 l5] 28)).below hb rfl)
                  clear hb R16 zc24 zl24 zc10 zl10 zc11 zl11
                  go_wp2_with fail
                  refine (L5.out _).mono ?_
                  rintro e W18 ⟨rfl, hb⟩
                  have R18 := Lib.hid ((R17.out.put (W17.heap.size) (by first | rfl | simp) (.cells #[.int .i64 g0, .int .i64 g1, .int .i64 g2, .int .i64 g3, .int .i64 g4, .int .i64 g5] 28)).below hb rfl)
                  clear hb R17
                  have zq3 := R18.out.get 14 rfl
                  have zc3 := fun j => cell_of_row W18 _ j _ _ _ zq3
                  have zl3 := row_lt zq3
                  clear zq3
                  have zq4 := R18.out.get 13 rfl
                  have zc4 := fun j => cell_of_row W18 _ j _ _ _ zq4
                  have zl4 := row_lt zq4
                  clear zq4
                  go_wp2_with fail
                  refine (K4.out _).mono ?_
                  rintro e W19 ⟨rfl, hb⟩
                  have R19 := Lib.hid (R18.out.below hb rfl)
                  clear hb R18 zc3 zl3 zc4 zl4
                  have zq4 := R19.out.get 13 rfl
                  have zc4 := fun j => cell_of_row W19 _ j _ _ _ zq4
                  have zl4 := row_lt zq4
                  clear zq4
                  go_wp2_with fail
                  refine (K5.out _).mono ?_
                  rintro e W20 ⟨rfl, hb⟩
                  have R20 := Lib.hid ((R19.out.put (W19.heap.size) (by first | rfl | simp) (.cells #[.int .i64 o0, .int .i64 o1, .int .i64 o2, .int .i64 o3, .int .i64 o4, .int .i64 o5] 28)).below hb rfl)
                  clear hb R19 zc4 zl4
                  have zq6 := R20.out.get 13 rfl
                  have zc6 := fun j => cell_of_row W20 _ j _ _ _ zq6
                  have zl6 := row_lt zq6
                  clear zq6
                  go_wp2_with fail
                  go_ret
                  exact ⟨rfl, (R20.out.put (W20.heap.size) (by first | rfl | simp) (.cells #[.int .i64 c0, .int .i64 c1, .int .i64 c2, .int .i64 c3, .int .i64 c4, .int .i64 c5] 28)).1⟩
          · cases q
            · skip
              as_aux_lemma =>
                obtain ⟨h1, h2⟩ := K3.out rfl
                obtain ⟨h3, h4⟩ := M3.out rfl
                have M4 := Lib.hid h3
                obtain ⟨l0, l1, l2, l3, l4, l5, m0, m1, m2, m3, m4, m5, h5, h6, h7⟩ := h4 a0 a1 a2 a3 a4 a5 h1
                have M5 := Lib.hid h5
                have M6 := Lib.hid h6
                have M7 := Lib.hid h7
                clear h5 h6 h7
                clear h3 h4 M3
                have hng : n ≤ 0 := by omega
                clear h1 h2 K3
                have zq6 := R12.out.get 6 rfl
                have zc6 := fun j => cell_of_row W12 _ j _ _ _ zq6
                have zl6 := row_lt zq6
                clear zq6
                have zq8 := R12.out.get 5 rfl
                have zc8 := fun j => cell_of_row W12 _ j _ _ _ zq8
                have zl8 := row_lt zq8
                clear zq8
                have zq18 := R12.out.get 0 rfl
                have zc18 := fun j => cell_of_row W12 _ j _ _ _ zq18
                have zl18 := row_lt zq18
                clear zq18
                have zq17 := R12.out.get 1 rfl
                have zc17 := fun j => cell_of_row W12 _ j _ _ _ zq17
                have zl17 := row_lt zq17
                clear zq17
                have zq16 := R12.out.get 2 rfl
                have zc16 := fun j => cell_of_row W12 _ j _ _ _ zq16
                have zl16 := row_lt zq16
                clear zq16
                go_wp2_with fail
                refine (M4.out _).mono ?_
                rintro e W13 ⟨rfl, hb⟩
                have R13 := Lib.hid ((R12.out.put (W12.heap.size) (by first | rfl | simp) (.cells #[.int .i64 k0, .int .i64 k1, .int .i64 k2, .int .i64 k3, .int .i64 k4, .int .i64 k5] 28)).below hb rfl)
                clear hb R12 zc6 zl6 zc8 zl8 zc18 zl18 zc17 zl17 zc16 zl16
                have zq18 := R13.out.get 1 rfl
                have zc18 := fun j => cell_of_row W13 _ j _ _ _ zq18
                have zl18 := row_lt zq18
                clear zq18
                have zq3 := R13.out.get 9 rfl
                have zc3 := fun j => cell_of_row W13 _ j _ _ _ zq3
                have zl3 := row_lt zq3
                clear zq3
                go_wp2_with fail
                refine (M5.out _).mono ?_
                rintro e W14 ⟨rfl, hb⟩
                have R14 := Lib.hid ((R13.out.put (W13.heap.size) (by first | rfl | simp) (.cells #[.int .i64 k0, .int .i64 k1, .int .i64 k2, .int .i64 k3, .int .i64 k4, .int .i64 k5] 28)).below hb rfl)
                clear hb R13 zc18 zl18 zc3 zl3
                have zq3 := R14.out.get 10 rfl
                have zc3 := fun j => cell_of_row W14 _ j _ _ _ zq3
                have zl3 := row_lt zq3
                clear zq3
                have zq16 := R14.out.get 4 rfl
                have zc16 := fun j => cell_of_row W14 _ j _ _ _ zq16
                have zl16 := row_lt zq16
                clear zq16
                go_wp2_with fail
                refine (M6.out _).mono ?_
                rintro e W15 ⟨rfl, hb⟩
                have R15 := Lib.hid ((R14.out.put (W14.heap.size) (by first | rfl | simp) (.cells #[.int .i64 l0, .int .i64 l1, .int .i64 l2, .int .i64 l3, .int .i64 l4, .int .i64 l5] 28)).below hb rfl)
                clear hb R14 zc3 zl3 zc16 zl16
                have zq17 := R15.out.get 4 rfl
                have zc17 := fun j => cell_of_row W15 _ j _ _ _ zq17
                have zl17 := row_lt zq17
                clear zq17
                go_wp2_with fail
                refine (M7.out _).mono ?_
                rintro e W16 ⟨rfl, hb⟩
                have R16 := Lib.hid ((R15.out.put (W15.heap.size) (by first | rfl | simp) (.cells #[.int .i64 m0, .int .i64 m1, .int .i64 m2, .int .i64 m3, .int .i64 m4, .int .i64 m5] 28)).below hb rfl)
                clear hb R15 zc17 zl17
                have zq24 := R16.out.get 1 rfl
                have zc24 := fun j => cell_of_row W16 _ j _ _ _ zq24
                have zl24 := row_lt zq24
                clear zq24
                go_wp2_with fail
                go_ret
                exact ⟨rfl, (R16.out.put (W16.heap.size) (by first | rfl | simp) (.cells #[.int .i64 l0, .int .i64 l1, .int .i64 l2, .int .i64 l3, .int .i64 l4, .int .i64 l5] 28)).1⟩
            · rcases (by omega : 0 < r ∨ ¬ 0 < r) with hrp | hrp
              · skip
                as_aux_lemma =>
                  obtain ⟨h1, h2⟩ := K3.out rfl
                  obtain ⟨h3, h4⟩ := M3.out rfl
                  have M4 := Lib.hid h3
                  obtain ⟨l0, l1, l2, l3, l4, l5, m0, m1, m2, m3, m4, m5, h5, h6, h7⟩ := h4 a0 a1 a2 a3 a4 a5 h1
                  have M5 := Lib.hid h5
                  have M6 := Lib.hid h6
                  have M7 := Lib.hid h7
                  clear h5 h6 h7
                  clear h3 h4 M3
                  obtain ⟨⟨hr0, hr1⟩, ⟨g0, g1, g2, g3, g4, g5, h3, h4⟩, h5⟩ := L3.out rfl
                  have L4 := Lib.hid h3
                  have L5 := Lib.hid h4
                  clear h3 h4 L3
                  obtain ⟨u0, u1, u2, u3, u4, u5, mz, h3, h4, hmz⟩ := h5 hrp
                  have L6 := Lib.hid h3
                  have L7 := Lib.hid h4
                  clear h3 h4
                  have n2 : wrap64 (r - 1) = r - 1 := by unfold wrap64; omega
                  have hrg : r > 0 := hrp
                  clear h5
                  have hng : n ≤ 0 := by omega
                  clear h1 h2 K3
                  have zq6 := R12.out.get 6 rfl
                  have zc6 := fun j => cell_of_row W12 _ j _ _ _ zq6
                  have zl6 := row_lt zq6
                  clear zq6
                  have zq8 := R12.out.get 5 rfl
                  have zc8 := fun j => cell_of_row W12 _ j _ _ _ zq8
                  have zl8 := row_lt zq8
                  clear zq8
                  have zq18 := R12.out.get 0 rfl
                  have zc18 := fun j => cell_of_row W12 _ j _ _ _ zq18
                  have zl18 := row_lt zq18
                  clear zq18
                  have zq17 := R12.out.get 1 rfl
                  have zc17 := fun j => cell_of_row W12 _ j _ _ _ zq17
                  have zl17 := row_lt zq17
                  clear zq17
                  have zq16 := R12.out.get 2 rfl
                  have zc16 := fun j => cell_of_row W12 _ j _ _ _ zq16
                  have zl16 := row_lt zq16
                  clear zq16
                  go_wp2_with fail
                  refine (M4.out _).mono ?_
                  rintro e W13 ⟨rfl, hb⟩
                  have R13 := Lib.hid ((R12.out.put (W12.heap.size) (by first | rfl | simp) (.cells #[.int .i64 k0, .int .i64 k1, .int .i64 k2, .int .i64 k3, .int .i64 k4, .int .i64 k5] 28)).below hb rfl)
                  clear hb R12 zc6 zl6 zc8 zl8 zc18 zl18 zc17 zl17 zc16 zl16
                  have zq18 := R13.out.get 1 rfl
                  have zc18 := fun j => cell_of_row W13 _ j _ _ _ zq18
                  have zl18 := row_lt zq18
                  clear zq18
                  have zq3 := R13.out.get 9 rfl
                  have zc3 := fun j => cell_of_row W13 _ j _ _ _ zq3
                  have zl3 := row_lt zq3
                  clear zq3
                  go_wp2_with fail
                  refine (M5.out _).mono ?_
                  rintro e W14 ⟨rfl, hb⟩
                  have R14 := Lib.hid ((R13.out.put (W13.heap.size) (by first | rfl | simp) (.cells #[.int .i64 k0, .int .i64 k1, .int .i64 k2, .int .i64 k3, .int .i64 k4, .int .i64 k5] 28)).below hb rfl)
                  clear hb R13 zc18 zl18 zc3 zl3
                  have zq3 := R14.out.get 10 rfl
                  have zc3 := fun j => cell_of_row W14 _ j _ _ _ zq3
                  have zl3 := row_lt zq3
                  clear zq3
                  have zq16 := R14.out.get 4 rfl
                  have zc16 := fun j => cell_of_row W14 _ j _ _ _ zq16
                  have zl16 := row_lt zq16
                  clear zq16
                  go_wp2_with fail
                  refine (M6.out _).mono ?_
                  rintro e W15 ⟨rfl, hb⟩
                  have R15 := Lib.hid ((R14.out.put (W14.heap.size) (by first | rfl | simp) (.cells #[.int .i64 l0, .int .i64 l1, .int .i64 l2, .int .i64 l3, .int .i64 l4, .int .i64 l5] 28)).below hb rfl)
                  clear hb R14 zc3 zl3 zc16 zl16
                  have zq17 := R15.out.get 4 rfl
                  have zc17 := fun j => cell_of_row W15 _ j _ _ _ zq17
                  have zl17 := row_lt zq17
                  clear zq17
                  go_wp2_with fail
                  refine (M7.out _).mono ?_
                  rintro e W16 ⟨rfl, hb⟩
                  have R16 := Lib.hid ((R15.out.put (W15.heap.size) (by first | rfl | simp) (.cells #[.int .i64 m0, .int .i64 m1, .int .i64 m2, .int .i64 m3, .int .i64 m4, .int .i64 m5] 28)).below hb rfl)
                  clear hb R15 zc17 zl17
                  have zq24 := R16.out.get 1 rfl
                  have zc24 := fun j => cell_of_row W16 _ j _ _ _ zq24
                  have zl24 := row_lt zq24
                  clear zq24
                  have zq10 := R16.out.get 8 rfl
                  have zc10 := fun j => cell_of_row W16 _ j _ _ _ zq10
                  have zl10 := row_lt zq10
                  clear zq10
                  have zq11 := R16.out.get 7 rfl
                  have zc11 := fun j => cell_of_row W16 _ j _ _ _ zq11
                  have zl11 := row_lt zq11
                  clear zq11
                  go_wp2_with fail
                  refine (L4.out _).mono ?_
                  rintro e W17 ⟨rfl, hb⟩
                  have R17 := Lib.hid ((R16.out.put (W16.heap.size) (by first | rfl | simp) (.cells #[.int .i64 l0, .int .i64 l1, .int .i64 l2, .int .i64 l3, .int .i64 l4, .int .i64 l5] 28)).below hb rfl)
                  clear hb R16 zc24 zl24 zc10 zl10 zc11 zl11
                  go_wp2_with fail
                  refine (L5.out _).mono ?_
                  rintro e W18 ⟨rfl, hb⟩
                  have R18 := Lib.hid ((R17.out.put (W17.heap.size) (by first | rfl | simp) (.cells #[.int .i64 g0, .int .i64 g1, .int .i64 g2, .int .i64 g3, .int .i64 g4, .int .i64 g5] 28)).below hb rfl)
                  clear hb R17
                  have zq10 := R18.out.get 10 rfl
                  have zc10 := fun j => cell_of_row W18 _ j _ _ _ zq10
                  have zl10 := row_lt zq10
                  clear zq10
                  have zq11 := R18.out.get 9 rfl
                  have zc11 := fun j => cell_of_row W18 _ j _ _ _ zq11
                  have zl11 := row_lt zq11
                  clear zq11
                  go_wp2_with fail
                  refine (L6.out _).mono ?_
                  rintro e W19 ⟨rfl, hb⟩
                  have R19 := Lib.hid (R18.out.below hb rfl)
                  clear hb R18 zc10 zl10 zc11 zl11
                  go_wp2_with fail
                  refine (L7.out _).mono ?_
                  rintro e W20 ⟨rfl, hb⟩
                  have R20 := Lib.hid ((R19.out.put (W19.heap.size) (by first | rfl | simp) (.cells #[.int .i64 u0, .int .i64 u1, .int .i64 u2, .int .i64 u3, .int .i64 u4, .int .i64 u5] 28)).below hb rfl)
                  clear hb R19
                  go_wp2_with fail
                  go_ret
                  exact ⟨rfl, R20.out.1⟩
              · skip
                as_aux_lemma =>
                  obtain ⟨h1, h2⟩ := K3.out rfl
                  obtain ⟨h3, h4⟩ := M3.out rfl
                  have M4 := Lib.hid h3
                  obtain ⟨l0, l1, l2, l3, l4, l5, m0, m1, m2, m3, m4, m5, h5, h6, h7⟩ := h4 a0 a1 a2 a3 a4 a5 h1
                  have M5 := Lib.hid h5
                  have M6 := Lib.hid h6
                  have M7 := Lib.hid h7
                  clear h5 h6 h7
                  clear h3 h4 M3
                  obtain ⟨⟨hr0, hr1⟩, ⟨g0, g1, g2, g3, g4, g5, h3, h4⟩, h5⟩ := L3.out rfl
                  have L4 := Lib.hid h3
                  have L5 := Lib.hid h4
                  clear h3 h4 L3
                  obtain rfl : r = 0 := by omega
                  clear hrp hr0 hr1
                  clear h5
                  have hng : n ≤ 0 := by omega
                  clear h1 h2 K3
                  have zq6 := R12.out.get 6 rfl
                  have zc6 := fun j => cell_of_row W12 _ j _ _ _ zq6
                  have zl6 := row_lt zq6
                  clear zq6
                  have zq8 := R12.out.get 5 rfl
                  have zc8 := fun j => cell_of_row W12 _ j _ _ _ zq8
                  have zl8 := row_lt zq8
                  clear zq8
                  have zq18 := R12.out.get 0 rfl
                  have zc18 := fun j => cell_of_row W12 _ j _ _ _ zq18
                  have zl18 := row_lt zq18
                  clear zq18
                  have zq17 := R12.out.get 1 rfl
                  have zc17 := fun j => cell_of_row W12 _ j _ _ _ zq17
                  have zl17 := row_lt zq17
                  clear zq17
                  have zq16 := R12.out.get 2 rfl
                  have zc16 := fun j => cell_of_row W12 _ j _ _ _ zq16
                  have zl16 := row_lt zq16
                  clear zq16
                  go_wp2_with fail
                  refine (M4.out _).mono ?_
                  rintro e W13 ⟨rfl, hb⟩
                  have R13 := Lib.hid ((R12.out.put (W12.heap.size) (by first | rfl | simp) (.cells #[.int .i64 k0, .int .i64 k1, .int .i64 k2, .int .i64 k3, .int .i64 k4, .int .i64 k5] 28)).below hb rfl)
                  clear hb R12 zc6 zl6 zc8 zl8 zc18 zl18 zc17 zl17 zc16 zl16
                  have zq18 := R13.out.get 1 rfl
                  have zc18 := fun j => cell_of_row W13 _ j _ _ _ zq18
                  have zl18 := row_lt zq18
                  clear zq18
                  have zq3 := R13.out.get 9 rfl
                  have zc3 := fun j => cell_of_row W13 _ j _ _ _ zq3
                  have zl3 := row_lt zq3
                  clear zq3
                  go_wp2_with fail
                  refine (M5.out _).mono ?_
                  rintro e W14 ⟨rfl, hb⟩
                  have R14 := Lib.hid ((R13.out.put (W13.heap.size) (by first | rfl | simp) (.cells #[.int .i64 k0, .int .i64 k1, .int .i64 k2, .int .i64 k3, .int .i64 k4, .int .i64 k5] 28)).below hb rfl)
                  clear hb R13 zc18 zl18 zc3 zl3
                  have zq3 := R14.out.get 10 rfl
                  have zc3 := fun j => cell_of_row W14 _ j _ _ _ zq3
                  have zl3 := row_lt zq3
                  clear zq3
                  have zq16 := R14.out.get 4 rfl
                  have zc16 := fun j => cell_of_row W14 _ j _ _ _ zq16
                  have zl16 := row_lt zq16
                  clear zq16
                  go_wp2_with fail
                  refine (M6.out _).mono ?_
                  rintro e W15 ⟨rfl, hb⟩
                  have R15 := Lib.hid ((R14.out.put (W14.heap.size) (by first | rfl | simp) (.cells #[.int .i64 l0, .int .i64 l1, .int .i64 l2, .int .i64 l3, .int .i64 l4, .int .i64 l5] 28)).below hb rfl)
                  clear hb R14 zc3 zl3 zc16 zl16
                  have zq17 := R15.out.get 4 rfl
                  have zc17 := fun j => cell_of_row W15 _ j _ _ _ zq17
                  have zl17 := row_lt zq17
                  clear zq17
                  go_wp2_with fail
                  refine (M7.out _).mono ?_
                  rintro e W16 ⟨rfl, hb⟩
                  have R16 := Lib.hid ((R15.out.put (W15.heap.size) (by first | rfl | simp) (.cells #[.int .i64 m0, .int .i64 m1, .int .i64 m2, .int .i64 m3, .int .i64 m4, .int .i64 m5] 28)).below hb rfl)
                  clear hb R15 zc17 zl17
                  have zq24 := R16.out.get 1 rfl
                  have zc24 := fun j => cell_of_row W16 _ j _ _ _ zq24
                  have zl24 := row_lt zq24
                  clear zq24
                  have zq10 := R16.out.get 8 rfl
                  have zc10 := fun j => cell_of_row W16 _ j _ _ _ zq10
                  have zl10 := row_lt zq10
                  clear zq10
                  have zq11 := R16.out.get 7 rfl
                  have zc11 := fun j => cell_of_row W16 _ j _ _ _ zq11
                  have zl11 := row_lt zq11
                  clear zq11
                  go_wp2_with fail
                  refine (L4.out _).mono ?_
                  rintro e W17 ⟨rfl, hb⟩
                  have R17 := Lib.hid ((R16.out.put (W16.heap.size) (by first | rfl | simp) (.cells #[.int .i64 l0, .int .i64 l1, .int .i64 l2, .int .i64 l3, .int .i64 l4, .int .i64 l5] 28)).below hb rfl)
                  clear hb R16 zc24 zl24 zc10 zl10 zc11 zl11
                  go_wp2_with fail
                  refine (L5.out _).mono ?_
                  rintro e W18 ⟨rfl, hb⟩
                  have R18 := Lib.hid ((R17.out.put (W17.heap.size) (by first | rfl | simp) (.cells #[.int .i64 g0, .int .i64 g1, .int .i64 g2, .int .i64 g3, .int .i64 g4, .int .i64 g5] 28)).below hb rfl)
                  clear hb R17
                  go_wp2_with fail
                  go_ret
                  exact ⟨rfl, R18.out.1⟩
end Go.Proofs.Ytbmfjcmlgndofaa
