/- THE WALK of FnPresses. -/
import Derived.Test.YtpgfmigbjffemaaRw
import Derived.Test.YtpgfmigbjffemaaFr
import Derived.Test.YtpgfmigbjffemaaDx
import Derived.WalkKit
import Derived.ProofKit
import Derived.OpenShut
import Derived.Lib.Hide
import Derived.WalkSpells
import Derived.Below
import Derived.BigQuiet
import Derived.LoopN
namespace Go.Proofs.Ytpgfmigbjffemaa
open Go.ChangeShapes Go.WideShapes Go.ChangeAt Go.RowKit
set_option linter.unusedVariables false
set_option maxRecDepth 8000 in
set_option maxHeartbeats 16000000 in
theorem presses_core (A : Option Addr) (len cap : Nat) (zs : List Int) (w : World) (hcode : CodeIn w w.heap.size A len zs) (hl : len ≤ 65536) : Calls Try.prog 7 #[.slice A len cap] w fun e w' => e = .returned (.bool true) ∧ Below w.heap.size w w' := by
  have HC := Lib.hid hcode
  have HB0 := Lib.hid (fun w => big_no A len cap hl w)
  have E := neq_same
  have E2 := eql_same
  clear hcode
  go_enter Try.func7, Try.ntmps7
  have R0 := Lib.hid (Rws.nil w)
  go_wp2_with fail
  refine (HB0.out _).mono ?_
  rintro e W1 ⟨rfl, hb⟩
  have R1 : Hid (Rws w [] W1) := Lib.hid (by rw [hb]; exact Rws.nil w)
  clear hb R0
  go_wp2_with fail
  refine (draw_press (w.heap.size) A len cap zs W1 (HC.out.below R1.out.1 (Nat.le_refl _)) R1.out.1.size hl).mono ?_
  rintro e W2 ⟨a0, a1, a2, a3, a4, a5, b0, b1, b2, b3, b4, b5, x, y, hwa, hwb, hx, hy, rfl, hb⟩
  have R2 := Lib.hid (R1.out.below hb rfl)
  clear hb R1
  obtain ⟨c0, c1, c2, c3, c4, c5, d0, d1, d2, d3, d4, d5, e0, e1, e2, e3, e4, e5, p, h1, h2, h3, h4, h5, h6, h7⟩ := press_all a0 a1 a2 a3 a4 a5 b0 b1 b2 b3 b4 b5 x y hx hy
  have K1 := Lib.hid h1
  have K2 := Lib.hid h2
  have K3 := Lib.hid h3
  have K4 := Lib.hid h4
  have K5 := Lib.hid h5
  have K6 := Lib.hid h6
  have K7 := Lib.hid h7
  clear h1 h2 h3 h4 h5 h6 h7 hwa hwb hx hy
  go_wp2_with fail
  refine (K1.out _).mono ?_
  rintro e W3 ⟨rfl, hb⟩
  have R3 := Lib.hid ((((R2.out.put (W2.heap.size) (by first | rfl | simp) (.cells #[.int .i64 a0, .int .i64 a1, .int .i64 a2, .int .i64 a3, .int .i64 a4, .int .i64 a5] 28)).put (W2.heap.size + 1) (by first | rfl | simp) (.cells #[.int .i64 b0, .int .i64 b1, .int .i64 b2, .int .i64 b3, .int .i64 b4, .int .i64 b5] 28)).put (W2.heap.size + 1 + 1) (by first | rfl | simp) (.cells #[.int .i64 x, .int .i64 y] 44)).below hb rfl)
  clear hb R2
  have zq3 := R3.out.get 2 rfl
  have zc3 := fun j => cell_of_row W3 _ j _ _ _ zq3
  have zl3 := row_lt zq3
  clear zq3
  have zq4 := R3.out.get 1 rfl
  have zc4 := fun j => cell_of_row W3 _ j _ _ _ zq4
  have zl4 := row_lt zq4
  clear zq4
  have zq5 := R3.out.get 0 rfl
  have zc5 := fun j => cell_of_row W3 _ j _ _ _ zq5
  have zl5 := row_lt zq5
  clear zq5
  go_wp2_with fail
  refine (K2.out _).mono ?_
  rintro e W4 ⟨rfl, hb⟩
  have R4 := Lib.hid ((R3.out.put (W3.heap.size) (by first | rfl | simp) (.cells #[.int .i64 c0, .int .i64 c1, .int .i64 c2, .int .i64 c3, .int .i64 c4, .int .i64 c5] 28)).below hb rfl)
  clear hb R3 zc3 zl3 zc4 zl4 zc5 zl5
  have zq6 := R4.out.get 0 rfl
  have zc6 := fun j => cell_of_row W4 _ j _ _ _ zq6
  have zl6 := row_lt zq6
  clear zq6
  have zq3 := R4.out.get 3 rfl
  have zc3 := fun j => cell_of_row W4 _ j _ _ _ zq3
  have zl3 := row_lt zq3
  clear zq3
  have zq4 := R4.out.get 2 rfl
  have zc4 := fun j => cell_of_row W4 _ j _ _ _ zq4
  have zl4 := row_lt zq4
  clear zq4
  have zq5 := R4.out.get 1 rfl
  have zc5 := fun j => cell_of_row W4 _ j _ _ _ zq5
  have zl5 := row_lt zq5
  clear zq5
  go_wp2_with fail
  refine (K3.out _).mono ?_
  rintro e W5 ⟨rfl, hb⟩
  have R5 := Lib.hid ((R4.out.put (W4.heap.size) (by first | rfl | simp) (.cells #[.int .i64 c0, .int .i64 c1, .int .i64 c2, .int .i64 c3, .int .i64 c4, .int .i64 c5] 28)).below hb rfl)
  clear hb R4 zc6 zl6 zc3 zl3 zc4 zl4 zc5 zl5
  as_aux_lemma =>
    have zq3 := R5.out.get 4 rfl
    have zc3 := fun j => cell_of_row W5 _ j _ _ _ zq3
    have zl3 := row_lt zq3
    clear zq3
    have zq4 := R5.out.get 3 rfl
    have zc4 := fun j => cell_of_row W5 _ j _ _ _ zq4
    have zl4 := row_lt zq4
    clear zq4
    have zq5 := R5.out.get 2 rfl
    have zc5 := fun j => cell_of_row W5 _ j _ _ _ zq5
    have zl5 := row_lt zq5
    clear zq5
    go_wp2_with fail
    refine (K4.out _).mono ?_
    rintro e W6 ⟨rfl, hb⟩
    have R6 := Lib.hid ((R5.out.put (W5.heap.size) (by first | rfl | simp) (.cells #[.int .i64 d0, .int .i64 d1, .int .i64 d2, .int .i64 d3, .int .i64 d4, .int .i64 d5] 28)).below hb rfl)
    clear hb R5 zc3 zl3 zc4 zl4 zc5 zl5
    have zq10 := R6.out.get 0 rfl
    have zc10 := fun j => cell_of_row W6 _ j _ _ _ zq10
    have zl10 := row_lt zq10
    clear zq10
    have zq3 := R6.out.get 5 rfl
    have zc3 := fun j => cell_of_row W6 _ j _ _ _ zq3
    have zl3 := row_lt zq3
    clear zq3
    have zq4 := R6.out.get 4 rfl
    have zc4 := fun j => cell_of_row W6 _ j _ _ _ zq4
    have zl4 := row_lt zq4
    clear zq4
    have zq5 := R6.out.get 3 rfl
    have zc5 := fun j => cell_of_row W6 _ j _ _ _ zq5
    have zl5 := row_lt zq5
    clear zq5
    go_wp2_with fail
    refine (K5.out _).mono ?_
    rintro e W7 ⟨rfl, hb⟩
    have R7 := Lib.hid ((R6.out.put (W6.heap.size) (by first | rfl | simp) (.cells #[.int .i64 d0, .int .i64 d1, .int .i64 d2, .int .i64 d3, .int .i64 d4, .int .i64 d5] 28)).below hb rfl)
    clear hb R6 zc10 zl10 zc3 zl3 zc4 zl4 zc5 zl5
    have zq3 := R7.out.get 6 rfl
    have zc3 := fun j => cell_of_row W7 _ j _ _ _ zq3
    have zl3 := row_lt zq3
    clear zq3
    have zq4 := R7.out.get 5 rfl
    have zc4 := fun j => cell_of_row W7 _ j _ _ _ zq4
    have zl4 := row_lt zq4
    clear zq4
    have zq5 := R7.out.get 4 rfl
    have zc5 := fun j => cell_of_row W7 _ j _ _ _ zq5
    have zl5 := row_lt zq5
    clear zq5
    go_wp2_with fail
    refine (K6.out _).mono ?_
    rintro e W8 ⟨rfl, hb⟩
    have R8 := Lib.hid ((R7.out.put (W7.heap.size) (by first | rfl | simp) (.cells #[.int .i64 e0, .int .i64 e1, .int .i64 e2, .int .i64 e3, .int .i64 e4, .int .i64 e5] 28)).below hb rfl)
    clear hb R7 zc3 zl3 zc4 zl4 zc5 zl5
    have zq14 := R8.out.get 0 rfl
    have zc14 := fun j => cell_of_row W8 _ j _ _ _ zq14
    have zl14 := row_lt zq14
    clear zq14
    go_wp2_with fail
    refine (draw_shift (w.heap.size) A len cap zs (W8.alloc (.cells #[.int .i64 e0, .int .i64 e1, .int .i64 e2, .int .i64 e3, .int .i64 e4, .int .i64 e5] 28)) (HC.out.below (R8.out.put (W8.heap.size) (by first | rfl | simp) (.cells #[.int .i64 e0, .int .i64 e1, .int .i64 e2, .int .i64 e3, .int .i64 e4, .int .i64 e5] 28)).1 (Nat.le_refl _)) (R8.out.put (W8.heap.size) (by first | rfl | simp) (.cells #[.int .i64 e0, .int .i64 e1, .int .i64 e2, .int .i64 e3, .int .i64 e4, .int .i64 e5] 28)).1.size hl).mono ?_
    rintro e W9 ⟨f0, f1, f2, f3, f4, f5, dx, dy, hwf, hx, hy, rfl, hb⟩
    have R9 := Lib.hid ((R8.out.put (W8.heap.size) (by first | rfl | simp) (.cells #[.int .i64 e0, .int .i64 e1, .int .i64 e2, .int .i64 e3, .int .i64 e4, .int .i64 e5] 28)).below hb rfl)
    clear hb R8 zc14 zl14
    obtain ⟨g0, g1, g2, g3, g4, g5, q, h1, h2, h3, h4⟩ := shift_all f0 f1 f2 f3 f4 f5 dx dy hx hy.1 hy.2
    have M1 := Lib.hid h1
    have M2 := Lib.hid h2
    have M3 := Lib.hid h3
    have M4 := Lib.hid h4
    have HX := Lib.hid hx
    have HY := Lib.hid hy
    clear h1 h2 h3 h4 hwf hx hy
    as_aux_lemma =>
      go_wp2_with fail
      refine (M1.out _).mono ?_
      rintro e W10 ⟨rfl, hb⟩
      have R10 := Lib.hid ((R9.out.put (W9.heap.size) (by first | rfl | simp) (.cells #[.int .i64 f0, .int .i64 f1, .int .i64 f2, .int .i64 f3, .int .i64 f4, .int .i64 f5] 28)).below hb rfl)
      clear hb R9
      have zq18 := R10.out.get 0 rfl
      have zc18 := fun j => cell_of_row W10 _ j _ _ _ zq18
      have zl18 := row_lt zq18
      clear zq18
      go_wp2_with fail
      refine (M2.out _).mono ?_
      rintro e W11 ⟨rfl, hb⟩
      have R11 := Lib.hid ((R10.out.put (W10.heap.size) (by first | rfl | simp) (.cells #[.int .i64 g0, .int .i64 g1, .int .i64 g2, .int .i64 g3, .int .i64 g4, .int .i64 g5] 28)).below hb rfl)
      clear hb R10 zc18 zl18
      have zq21 := R11.out.get 0 rfl
      have zc21 := fun j => cell_of_row W11 _ j _ _ _ zq21
      have zl21 := row_lt zq21
      clear zq21
      have zq18 := R11.out.get 1 rfl
      have zc18 := fun j => cell_of_row W11 _ j _ _ _ zq18
      have zl18 := row_lt zq18
      clear zq18
      go_wp2_with fail
      refine (M3.out _).mono ?_
      rintro e W12 ⟨rfl, hb⟩
      have R12 := Lib.hid ((R11.out.put (W11.heap.size) (by first | rfl | simp) (.cells #[.int .i64 g0, .int .i64 g1, .int .i64 g2, .int .i64 g3, .int .i64 g4, .int .i64 g5] 28)).below hb rfl)
      clear hb R11 zc21 zl21 zc18 zl18
      go_wp2_with fail
      refine (draw_flip (w.heap.size) A len cap zs W12 (HC.out.below R12.out.1 (Nat.le_refl _)) R12.out.1.size hl).mono ?_
      rintro e W13 ⟨h0, h1, h2, h3, h4, h5, u, v, hwf, hx, hy, rfl, hb⟩
      have R13 := Lib.hid (R12.out.below hb rfl)
      clear hb R12
      obtain ⟨i0, i1, i2, i3, i4, i5, k, r, t1, t2, t3, t4, t5⟩ := flip_all h0 h1 h2 h3 h4 h5 u v hx hy
      have N1 := Lib.hid t1
      have N2 := Lib.hid t2
      have N3 := Lib.hid t3
      have N4 := Lib.hid t4
      have N5 := Lib.hid t5
      clear t1 t2 t3 t4 t5 hwf hx hy
      as_aux_lemma =>
        go_wp2_with fail
        refine (N1.out _).mono ?_
        rintro e W14 ⟨rfl, hb⟩
        have R14 := Lib.hid (((R13.out.put (W13.heap.size) (by first | rfl | simp) (.cells #[.int .i64 h0, .int .i64 h1, .int .i64 h2, .int .i64 h3, .int .i64 h4, .int .i64 h5] 28)).put (W13.heap.size + 1) (by first | rfl | simp) (.cells #[.int .i64 u, .int .i64 v] 44)).below hb rfl)
        clear hb R13
        have zq25 := R14.out.get 1 rfl
        have zc25 := fun j => cell_of_row W14 _ j _ _ _ zq25
        have zl25 := row_lt zq25
        clear zq25
        have zq26 := R14.out.get 0 rfl
        have zc26 := fun j => cell_of_row W14 _ j _ _ _ zq26
        have zl26 := row_lt zq26
        clear zq26
        go_wp2_with fail
        refine (N2.out _).mono ?_
        rintro e W15 ⟨rfl, hb⟩
        have R15 := Lib.hid ((R14.out.put (W14.heap.size) (by first | rfl | simp) (.cells #[.int .i64 i0, .int .i64 i1, .int .i64 i2, .int .i64 i3, .int .i64 i4, .int .i64 i5] 28)).below hb rfl)
        clear hb R14 zc25 zl25 zc26 zl26
        have zq27 := R15.out.get 0 rfl
        have zc27 := fun j => cell_of_row W15 _ j _ _ _ zq27
        have zl27 := row_lt zq27
        clear zq27
        have zq25 := R15.out.get 2 rfl
        have zc25 := fun j => cell_of_row W15 _ j _ _ _ zq25
        have zl25 := row_lt zq25
        clear zq25
        have zq26 := R15.out.get 1 rfl
        have zc26 := fun j => cell_of_row W15 _ j _ _ _ zq26
        have zl26 := row_lt zq26
        clear zq26
        go_wp2_with fail
        refine (N3.out _).mono ?_
        rintro e W16 ⟨rfl, hb⟩
        have R16 := Lib.hid ((R15.out.put (W15.heap.size) (by first | rfl | simp) (.cells #[.int .i64 i0, .int .i64 i1, .int .i64 i2, .int .i64 i3, .int .i64 i4, .int .i64 i5] 28)).below hb rfl)
        clear hb R15 zc27 zl27 zc25 zl25 zc26 zl26
        have zq25 := R16.out.get 3 rfl
        have zc25 := fun j => cell_of_row W16 _ j _ _ _ zq25
        have zl25 := row_lt zq25
        clear zq25
        have zq26 := R16.out.get 2 rfl
        have zc26 := fun j => cell_of_row W16 _ j _ _ _ zq26
        have zl26 := row_lt zq26
        clear zq26
        go_wp2_with fail
        refine (N4.out _).mono ?_
        rintro e W17 ⟨rfl, hb⟩
        have R17 := Lib.hid (R16.out.below hb rfl)
        clear hb R16 zc25 zl25 zc26 zl26
        cases r
        · cases q
          · cases p
            · skip
              as_aux_lemma =>
                go_wp2_with fail
                go_ret
                exact ⟨rfl, R17.out.1⟩
            · skip
              as_aux_lemma =>
                obtain ⟨j0, j1, j2, j3, j4, j5, t1, t2, t3, t4⟩ := K7.out rfl
                have K8 := Lib.hid t1
                have K9 := Lib.hid t2
                have K10 := Lib.hid t3
                have K11 := Lib.hid t4
                clear t1 t2 t3 t4 K7
                have zq4 := R17.out.get 14 rfl
                have zc4 := fun j => cell_of_row W17 _ j _ _ _ zq4
                have zl4 := row_lt zq4
                clear zq4
                have zq5 := R17.out.get 13 rfl
                have zc5 := fun j => cell_of_row W17 _ j _ _ _ zq5
                have zl5 := row_lt zq5
                clear zq5
                go_wp2_with fail
                refine (K8.out _).mono ?_
                rintro e W18 ⟨rfl, hb⟩
                have R18 := Lib.hid (R17.out.below hb rfl)
                clear hb R17 zc4 zl4 zc5 zl5
                have zq6 := R18.out.get 12 rfl
                have zc6 := fun j => cell_of_row W18 _ j _ _ _ zq6
                have zl6 := row_lt zq6
                clear zq6
                have zq4 := R18.out.get 14 rfl
                have zc4 := fun j => cell_of_row W18 _ j _ _ _ zq4
                have zl4 := row_lt zq4
                clear zq4
                have zq5 := R18.out.get 13 rfl
                have zc5 := fun j => cell_of_row W18 _ j _ _ _ zq5
                have zl5 := row_lt zq5
                clear zq5
                go_wp2_with fail
                refine (K9.out _).mono ?_
                rintro e W19 ⟨rfl, hb⟩
                have R19 := Lib.hid ((R18.out.put (W18.heap.size) (by first | rfl | simp) (.cells #[.int .i64 j0, .int .i64 j1, .int .i64 j2, .int .i64 j3, .int .i64 j4, .int .i64 j5] 28)).below hb rfl)
                clear hb R18 zc6 zl6 zc4 zl4 zc5 zl5
                have zq47 := R19.out.get 0 rfl
                have zc47 := fun j => cell_of_row W19 _ j _ _ _ zq47
                have zl47 := row_lt zq47
                clear zq47
                have zq10 := R19.out.get 11 rfl
                have zc10 := fun j => cell_of_row W19 _ j _ _ _ zq10
                have zl10 := row_lt zq10
                clear zq10
                go_wp2_with fail
                refine (K10.out _).mono ?_
                rintro e W20 ⟨rfl, hb⟩
                have R20 := Lib.hid ((R19.out.put (W19.heap.size) (by first | rfl | simp) (.cells #[.int .i64 a0, .int .i64 a1, .int .i64 a2, .int .i64 a3, .int .i64 a4, .int .i64 a5] 28)).below hb rfl)
                clear hb R19 zc47 zl47 zc10 zl10
                have zq47 := R20.out.get 1 rfl
                have zc47 := fun j => cell_of_row W20 _ j _ _ _ zq47
                have zl47 := row_lt zq47
                clear zq47
                have zq14 := R20.out.get 10 rfl
                have zc14 := fun j => cell_of_row W20 _ j _ _ _ zq14
                have zl14 := row_lt zq14
                clear zq14
                go_wp2_with fail
                refine (K11.out _).mono ?_
                rintro e W21 ⟨rfl, hb⟩
                have R21 := Lib.hid (R20.out.below hb rfl)
                clear hb R20 zc47 zl47 zc14 zl14
                have zq49 := R21.out.get 0 rfl
                have zc49 := fun j => cell_of_row W21 _ j _ _ _ zq49
                have zl49 := row_lt zq49
                clear zq49
                have zq3 := R21.out.get 17 rfl
                have zc3 := fun j => cell_of_row W21 _ j _ _ _ zq3
                have zl3 := row_lt zq3
                clear zq3
                go_wp2_with fail
                go_ret
                exact ⟨rfl, (R21.out.put (W21.heap.size) (by first | rfl | simp) (.cells #[.int .i64 0, .int .i64 0, .int .i64 0, .int .i64 0, .int .i64 0, .int .i64 0] 28)).1⟩
          · rcases (by omega : (-1000 < dx ∧ dx < 1000) ∨ dx ≤ -1000 ∨ 1000 ≤ dx) with hdx | hdx | hdx
            · cases p
              · skip
                as_aux_lemma =>
                  obtain ⟨m, t5, t6, t7⟩ := M4.out rfl
                  have M5 := Lib.hid t5
                  have M6 := Lib.hid t6
                  clear t5 t6 M4
                  obtain ⟨t8, t9⟩ := t7 hdx.1 hdx.2
                  have M7 := Lib.hid t8
                  have M8 := Lib.hid t9
                  clear t7 t8 t9
                  have n1 : wrap64 (-dx) = -dx := by unfold wrap64; omega
                  have n2 : wrap64 (-dy) = -dy := by have := HY.out; unfold wrap64; omega
                  have n3 : wrap64 (dx + 6) = dx + 6 := by unfold wrap64; omega
                  have n4 : wrap64 (dy - 6) = dy - 6 := by have := HY.out; unfold wrap64; omega
                  have hd1 := hdx.1
                  have hd2 := hdx.2
                  have hf1 : dx > -1000 := hdx.1
                  have zq18 := R17.out.get 6 rfl
                  have zc18 := fun j => cell_of_row W17 _ j _ _ _ zq18
                  have zl18 := row_lt zq18
                  clear zq18
                  go_wp2_with fail
                  refine (M5.out _).mono ?_
                  rintro e W18 ⟨rfl, hb⟩
                  have R18 := Lib.hid (R17.out.below hb rfl)
                  clear hb R17 zc18 zl18
                  have zq21 := R18.out.get 5 rfl
                  have zc21 := fun j => cell_of_row W18 _ j _ _ _ zq21
                  have zl21 := row_lt zq21
                  clear zq21
                  go_wp2_with fail
                  refine (M6.out _).mono ?_
                  rintro e W19 ⟨rfl, hb⟩
                  have R19 := Lib.hid (R18.out.below hb rfl)
                  clear hb R18 zc21 zl21
                  have zq21 := R19.out.get 5 rfl
                  have zc21 := fun j => cell_of_row W19 _ j _ _ _ zq21
                  have zl21 := row_lt zq21
                  clear zq21
                  go_wp2_with fail
                  refine (M7.out _).mono ?_
                  rintro e W20 ⟨rfl, hb⟩
                  have R20 := Lib.hid (R19.out.below hb rfl)
                  clear hb R19 zc21 zl21
                  have zq18 := R20.out.get 6 rfl
                  have zc18 := fun j => cell_of_row W20 _ j _ _ _ zq18
                  have zl18 := row_lt zq18
                  clear zq18
                  go_wp2_with fail
                  refine (M8.out _).mono ?_
                  rintro e W21 ⟨rfl, hb⟩
                  have R21 := Lib.hid ((R20.out.put (W20.heap.size) (by first | rfl | simp) (.cells #[.int .i64 f0, .int .i64 f1, .int .i64 f2, .int .i64 f3, .int .i64 f4, .int .i64 f5] 28)).below hb rfl)
                  clear hb R20 zc18 zl18
                  have zq43 := R21.out.get 0 rfl
                  have zc43 := fun j => cell_of_row W21 _ j _ _ _ zq43
                  have zl43 := row_lt zq43
                  clear zq43
                  have zq18 := R21.out.get 7 rfl
                  have zc18 := fun j => cell_of_row W21 _ j _ _ _ zq18
                  have zl18 := row_lt zq18
                  clear zq18
                  have zq21 := R21.out.get 6 rfl
                  have zc21 := fun j => cell_of_row W21 _ j _ _ _ zq21
                  have zl21 := row_lt zq21
                  clear zq21
                  go_wp2_with fail
                  go_ret
                  exact ⟨rfl, (R21.out.put (W21.heap.size) (by first | rfl | simp) (.cells #[.int .i64 g0, .int .i64 g1, .int .i64 g2, .int .i64 g3, .int .i64 g4, .int .i64 g5] 28)).1⟩
              · skip
                as_aux_lemma =>
                  obtain ⟨m, t5, t6, t7⟩ := M4.out rfl
                  have M5 := Lib.hid t5
                  have M6 := Lib.hid t6
                  clear t5 t6 M4
                  obtain ⟨t8, t9⟩ := t7 hdx.1 hdx.2
                  have M7 := Lib.hid t8
                  have M8 := Lib.hid t9
                  clear t7 t8 t9
                  have n1 : wrap64 (-dx) = -dx := by unfold wrap64; omega
                  have n2 : wrap64 (-dy) = -dy := by have := HY.out; unfold wrap64; omega
                  have n3 : wrap64 (dx + 6) = dx + 6 := by unfold wrap64; omega
                  have n4 : wrap64 (dy - 6) = dy - 6 := by have := HY.out; unfold wrap64; omega
                  have hd1 := hdx.1
                  have hd2 := hdx.2
                  have hf1 : dx > -1000 := hdx.1
                  obtain ⟨j0, j1, j2, j3, j4, j5, t1, t2, t3, t4⟩ := K7.out rfl
                  have K8 := Lib.hid t1
                  have K9 := Lib.hid t2
                  have K10 := Lib.hid t3
                  have K11 := Lib.hid t4
                  clear t1 t2 t3 t4 K7
                  have zq18 := R17.out.get 6 rfl
                  have zc18 := fun j => cell_of_row W17 _ j _ _ _ zq18
                  have zl18 := row_lt zq18
                  clear zq18
                  go_wp2_with fail
                  refine (M5.out _).mono ?_
                  rintro e W18 ⟨rfl, hb⟩
                  have R18 := Lib.hid (R17.out.below hb rfl)
                  clear hb R17 zc18 zl18
                  have zq21 := R18.out.get 5 rfl
                  have zc21 := fun j => cell_of_row W18 _ j _ _ _ zq21
                  have zl21 := row_lt zq21
                  clear zq21
                  go_wp2_with fail
                  refine (M6.out _).mono ?_
                  rintro e W19 ⟨rfl, hb⟩
                  have R19 := Lib.hid (R18.out.below hb rfl)
                  clear hb R18 zc21 zl21
                  have zq21 := R19.out.get 5 rfl
                  have zc21 := fun j => cell_of_row W19 _ j _ _ _ zq21
                  have zl21 := row_lt zq21
                  clear zq21
                  go_wp2_with fail
                  refine (M7.out _).mono ?_
                  rintro e W20 ⟨rfl, hb⟩
                  have R20 := Lib.hid (R19.out.below hb rfl)
                  clear hb R19 zc21 zl21
                  have zq18 := R20.out.get 6 rfl
                  have zc18 := fun j => cell_of_row W20 _ j _ _ _ zq18
                  have zl18 := row_lt zq18
                  clear zq18
                  go_wp2_with fail
                  refine (M8.out _).mono ?_
                  rintro e W21 ⟨rfl, hb⟩
                  have R21 := Lib.hid ((R20.out.put (W20.heap.size) (by first | rfl | simp) (.cells #[.int .i64 f0, .int .i64 f1, .int .i64 f2, .int .i64 f3, .int .i64 f4, .int .i64 f5] 28)).below hb rfl)
                  clear hb R20 zc18 zl18
                  have zq43 := R21.out.get 0 rfl
                  have zc43 := fun j => cell_of_row W21 _ j _ _ _ zq43
                  have zl43 := row_lt zq43
                  clear zq43
                  have zq18 := R21.out.get 7 rfl
                  have zc18 := fun j => cell_of_row W21 _ j _ _ _ zq18
                  have zl18 := row_lt zq18
                  clear zq18
                  have zq21 := R21.out.get 6 rfl
                  have zc21 := fun j => cell_of_row W21 _ j _ _ _ zq21
                  have zl21 := row_lt zq21
                  clear zq21
                  have zq4 := R21.out.get 15 rfl
                  have zc4 := fun j => cell_of_row W21 _ j _ _ _ zq4
                  have zl4 := row_lt zq4
                  clear zq4
                  have zq5 := R21.out.get 14 rfl
                  have zc5 := fun j => cell_of_row W21 _ j _ _ _ zq5
                  have zl5 := row_lt zq5
                  clear zq5
                  go_wp2_with fail
                  refine (K8.out _).mono ?_
                  rintro e W22 ⟨rfl, hb⟩
                  have R22 := Lib.hid ((R21.out.put (W21.heap.size) (by first | rfl | simp) (.cells #[.int .i64 g0, .int .i64 g1, .int .i64 g2, .int .i64 g3, .int .i64 g4, .int .i64 g5] 28)).below hb rfl)
                  clear hb R21 zc43 zl43 zc18 zl18 zc21 zl21 zc4 zl4 zc5 zl5
                  have zq6 := R22.out.get 14 rfl
                  have zc6 := fun j => cell_of_row W22 _ j _ _ _ zq6
                  have zl6 := row_lt zq6
                  clear zq6
                  have zq4 := R22.out.get 16 rfl
                  have zc4 := fun j => cell_of_row W22 _ j _ _ _ zq4
                  have zl4 := row_lt zq4
                  clear zq4
                  have zq5 := R22.out.get 15 rfl
                  have zc5 := fun j => cell_of_row W22 _ j _ _ _ zq5
                  have zl5 := row_lt zq5
                  clear zq5
                  go_wp2_with fail
                  refine (K9.out _).mono ?_
                  rintro e W23 ⟨rfl, hb⟩
                  have R23 := Lib.hid ((R22.out.put (W22.heap.size) (by first | rfl | simp) (.cells #[.int .i64 j0, .int .i64 j1, .int .i64 j2, .int .i64 j3, .int .i64 j4, .int .i64 j5] 28)).below hb rfl)
                  clear hb R22 zc6 zl6 zc4 zl4 zc5 zl5
                  have zq47 := R23.out.get 0 rfl
                  have zc47 := fun j => cell_of_row W23 _ j _ _ _ zq47
                  have zl47 := row_lt zq47
                  clear zq47
                  have zq10 := R23.out.get 13 rfl
                  have zc10 := fun j => cell_of_row W23 _ j _ _ _ zq10
                  have zl10 := row_lt zq10
                  clear zq10
                  go_wp2_with fail
                  refine (K10.out _).mono ?_
                  rintro e W24 ⟨rfl, hb⟩
                  have R24 := Lib.hid ((R23.out.put (W23.heap.size) (by first | rfl | simp) (.cells #[.int .i64 a0, .int .i64 a1, .int .i64 a2, .int .i64 a3, .int .i64 a4, .int .i64 a5] 28)).below hb rfl)
                  clear hb R23 zc47 zl47 zc10 zl10
                  have zq47 := R24.out.get 1 rfl
                  have zc47 := fun j => cell_of_row W24 _ j _ _ _ zq47
                  have zl47 := row_lt zq47
                  clear zq47
                  have zq14 := R24.out.get 12 rfl
                  have zc14 := fun j => cell_of_row W24 _ j _ _ _ zq14
                  have zl14 := row_lt zq14
                  clear zq14
                  go_wp2_with fail
                  refine (K11.out _).mono ?_
                  rintro e W25 ⟨rfl, hb⟩
                  have R25 := Lib.hid (R24.out.below hb rfl)
                  clear hb R24 zc47 zl47 zc14 zl14
                  have zq49 := R25.out.get 0 rfl
                  have zc49 := fun j => cell_of_row W25 _ j _ _ _ zq49
                  have zl49 := row_lt zq49
                  clear zq49
                  have zq3 := R25.out.get 19 rfl
                  have zc3 := fun j => cell_of_row W25 _ j _ _ _ zq3
                  have zl3 := row_lt zq3
                  clear zq3
                  go_wp2_with fail
                  go_ret
                  exact ⟨rfl, (R25.out.put (W25.heap.size) (by first | rfl | simp) (.cells #[.int .i64 0, .int .i64 0, .int .i64 0, .int .i64 0, .int .i64 0, .int .i64 0] 28)).1⟩
            · cases p
              · skip
                as_aux_lemma =>
                  obtain ⟨m, t5, t6, t7⟩ := M4.out rfl
                  have M5 := Lib.hid t5
                  have M6 := Lib.hid t6
                  clear t5 t6 M4
                  clear t7
                  have hd1 : dx ≤ -1000 := by omega
                  have zq18 := R17.out.get 6 rfl
                  have zc18 := fun j => cell_of_row W17 _ j _ _ _ zq18
                  have zl18 := row_lt zq18
                  clear zq18
                  go_wp2_with fail
                  refine (M5.out _).mono ?_
                  rintro e W18 ⟨rfl, hb⟩
                  have R18 := Lib.hid (R17.out.below hb rfl)
                  clear hb R17 zc18 zl18
                  have zq21 := R18.out.get 5 rfl
                  have zc21 := fun j => cell_of_row W18 _ j _ _ _ zq21
                  have zl21 := row_lt zq21
                  clear zq21
                  go_wp2_with fail
                  refine (M6.out _).mono ?_
                  rintro e W19 ⟨rfl, hb⟩
                  have R19 := Lib.hid (R18.out.below hb rfl)
                  clear hb R18 zc21 zl21
                  go_wp2_with fail
                  go_ret
                  exact ⟨rfl, R19.out.1⟩
              · skip
                as_aux_lemma =>
                  obtain ⟨m, t5, t6, t7⟩ := M4.out rfl
                  have M5 := Lib.hid t5
                  have M6 := Lib.hid t6
                  clear t5 t6 M4
                  clear t7
                  have hd1 : dx ≤ -1000 := by omega
                  obtain ⟨j0, j1, j2, j3, j4, j5, t1, t2, t3, t4⟩ := K7.out rfl
                  have K8 := Lib.hid t1
                  have K9 := Lib.hid t2
                  have K10 := Lib.hid t3
                  have K11 := Lib.hid t4
                  clear t1 t2 t3 t4 K7
                  have zq18 := R17.out.get 6 rfl
                  have zc18 := fun j => cell_of_row W17 _ j _ _ _ zq18
                  have zl18 := row_lt zq18
                  clear zq18
                  go_wp2_with fail
                  refine (M5.out _).mono ?_
                  rintro e W18 ⟨rfl, hb⟩
                  have R18 := Lib.hid (R17.out.below hb rfl)
                  clear hb R17 zc18 zl18
                  have zq21 := R18.out.get 5 rfl
                  have zc21 := fun j => cell_of_row W18 _ j _ _ _ zq21
                  have zl21 := row_lt zq21
                  clear zq21
                  go_wp2_with fail
                  refine (M6.out _).mono ?_
                  rintro e W19 ⟨rfl, hb⟩
                  have R19 := Lib.hid (R18.out.below hb rfl)
                  clear hb R18 zc21 zl21
                  have zq4 := R19.out.get 14 rfl
                  have zc4 := fun j => cell_of_row W19 _ j _ _ _ zq4
                  have zl4 := row_lt zq4
                  clear zq4
                  have zq5 := R19.out.get 13 rfl
                  have zc5 := fun j => cell_of_row W19 _ j _ _ _ zq5
                  have zl5 := row_lt zq5
                  clear zq5
                  go_wp2_with fail
                  refine (K8.out _).mono ?_
                  rintro e W20 ⟨rfl, hb⟩
                  have R20 := Lib.hid (R19.out.below hb rfl)
                  clear hb R19 zc4 zl4 zc5 zl5
                  have zq6 := R20.out.get 12 rfl
                  have zc6 := fun j => cell_of_row W20 _ j _ _ _ zq6
                  have zl6 := row_lt zq6
                  clear zq6
                  have zq4 := R20.out.get 14 rfl
                  have zc4 := fun j => cell_of_row W20 _ j _ _ _ zq4
                  have zl4 := row_lt zq4
                  clear zq4
                  have zq5 := R20.out.get 13 rfl
                  have zc5 := fun j => cell_of_row W20 _ j _ _ _ zq5
                  have zl5 := row_lt zq5
                  clear zq5
                  go_wp2_with fail
                  refine (K9.out _).mono ?_
                  rintro e W21 ⟨rfl, hb⟩
                  have R21 := Lib.hid ((R20.out.put (W20.heap.size) (by first | rfl | simp) (.cells #[.int .i64 j0, .int .i64 j1, .int .i64 j2, .int .i64 j3, .int .i64 j4, .int .i64 j5] 28)).below hb rfl)
                  clear hb R20 zc6 zl6 zc4 zl4 zc5 zl5
                  have zq47 := R21.out.get 0 rfl
                  have zc47 := fun j => cell_of_row W21 _ j _ _ _ zq47
                  have zl47 := row_lt zq47
                  clear zq47
                  have zq10 := R21.out.get 11 rfl
                  have zc10 := fun j => cell_of_row W21 _ j _ _ _ zq10
                  have zl10 := row_lt zq10
                  clear zq10
                  go_wp2_with fail
                  refine (K10.out _).mono ?_
                  rintro e W22 ⟨rfl, hb⟩
                  have R22 := Lib.hid ((R21.out.put (W21.heap.size) (by first | rfl | simp) (.cells #[.int .i64 a0, .int .i64 a1, .int .i64 a2, .int .i64 a3, .int .i64 a4, .int .i64 a5] 28)).below hb rfl)
                  clear hb R21 zc47 zl47 zc10 zl10
                  have zq47 := R22.out.get 1 rfl
                  have zc47 := fun j => cell_of_row W22 _ j _ _ _ zq47
                  have zl47 := row_lt zq47
                  clear zq47
                  have zq14 := R22.out.get 10 rfl
                  have zc14 := fun j => cell_of_row W22 _ j _ _ _ zq14
                  have zl14 := row_lt zq14
                  clear zq14
                  go_wp2_with fail
                  refine (K11.out _).mono ?_
                  rintro e W23 ⟨rfl, hb⟩
                  have R23 := Lib.hid (R22.out.below hb rfl)
                  clear hb R22 zc47 zl47 zc14 zl14
                  have zq49 := R23.out.get 0 rfl
                  have zc49 := fun j => cell_of_row W23 _ j _ _ _ zq49
                  have zl49 := row_lt zq49
                  clear zq49
                  have zq3 := R23.out.get 17 rfl
                  have zc3 := fun j => cell_of_row W23 _ j _ _ _ zq3
                  have zl3 := row_lt zq3
                  clear zq3
                  go_wp2_with fail
                  go_ret
                  exact ⟨rfl, (R23.out.put (W23.heap.size) (by first | rfl | simp) (.cells #[.int .i64 0, .int .i64 0, .int .i64 0, .int .i64 0, .int .i64 0, .int .i64 0] 28)).1⟩
            · cases p
              · skip
                as_aux_lemma =>
                  obtain ⟨m, t5, t6, t7⟩ := M4.out rfl
                  have M5 := Lib.hid t5
                  have M6 := Lib.hid t6
                  clear t5 t6 M4
                  clear t7
                  have hd1 : -1000 < dx := by omega
                  have hd2 : 1000 ≤ dx := by omega
                  have zq18 := R17.out.get 6 rfl
                  have zc18 := fun j => cell_of_row W17 _ j _ _ _ zq18
                  have zl18 := row_lt zq18
                  clear zq18
                  go_wp2_with fail
                  refine (M5.out _).mono ?_
                  rintro e W18 ⟨rfl, hb⟩
                  have R18 := Lib.hid (R17.out.below hb rfl)
                  clear hb R17 zc18 zl18
                  have zq21 := R18.out.get 5 rfl
                  have zc21 := fun j => cell_of_row W18 _ j _ _ _ zq21
                  have zl21 := row_lt zq21
                  clear zq21
                  go_wp2_with fail
                  refine (M6.out _).mono ?_
                  rintro e W19 ⟨rfl, hb⟩
                  have R19 := Lib.hid (R18.out.below hb rfl)
                  clear hb R18 zc21 zl21
                  go_wp2_with fail
                  go_ret
                  exact ⟨rfl, R19.out.1⟩
              · skip
                as_aux_lemma =>
                  obtain ⟨m, t5, t6, t7⟩ := M4.out rfl
                  have M5 := Lib.hid t5
                  have M6 := Lib.hid t6
                  clear t5 t6 M4
                  clear t7
                  have hd1 : -1000 < dx := by omega
                  have hd2 : 1000 ≤ dx := by omega
                  obtain ⟨j0, j1, j2, j3, j4, j5, t1, t2, t3, t4⟩ := K7.out rfl
                  have K8 := Lib.hid t1
                  have K9 := Lib.hid t2
                  have K10 := Lib.hid t3
                  have K11 := Lib.hid t4
                  clear t1 t2 t3 t4 K7
                  have zq18 := R17.out.get 6 rfl
                  have zc18 := fun j => cell_of_row W17 _ j _ _ _ zq18
                  have zl18 := row_lt zq18
                  clear zq18
                  go_wp2_with fail
                  refine (M5.out _).mono ?_
                  rintro e W18 ⟨rfl, hb⟩
                  have R18 := Lib.hid (R17.out.below hb rfl)
                  clear hb R17 zc18 zl18
                  have zq21 := R18.out.get 5 rfl
                  have zc21 := fun j => cell_of_row W18 _ j _ _ _ zq21
                  have zl21 := row_lt zq21
                  clear zq21
                  go_wp2_with fail
                  refine (M6.out _).mono ?_
                  rintro e W19 ⟨rfl, hb⟩
                  have R19 := Lib.hid (R18.out.below hb rfl)
                  clear hb R18 zc21 zl21
                  have zq4 := R19.out.get 14 rfl
                  have zc4 := fun j => cell_of_row W19 _ j _ _ _ zq4
                  have zl4 := row_lt zq4
                  clear zq4
                  have zq5 := R19.out.get 13 rfl
                  have zc5 := fun j => cell_of_row W19 _ j _ _ _ zq5
                  have zl5 := row_lt zq5
                  clear zq5
                  go_wp2_with fail
                  refine (K8.out _).mono ?_
                  rintro e W20 ⟨rfl, hb⟩
                  have R20 := Lib.hid (R19.out.below hb rfl)
                  clear hb R19 zc4 zl4 zc5 zl5
                  have zq6 := R20.out.get 12 rfl
                  have zc6 := fun j => cell_of_row W20 _ j _ _ _ zq6
                  have zl6 := row_lt zq6
                  clear zq6
                  have zq4 := R20.out.get 14 rfl
                  have zc4 := fun j => cell_of_row W20 _ j _ _ _ zq4
                  have zl4 := row_lt zq4
                  clear zq4
                  have zq5 := R20.out.get 13 rfl
                  have zc5 := fun j => cell_of_row W20 _ j _ _ _ zq5
                  have zl5 := row_lt zq5
                  clear zq5
                  go_wp2_with fail
                  refine (K9.out _).mono ?_
                  rintro e W21 ⟨rfl, hb⟩
                  have R21 := Lib.hid ((R20.out.put (W20.heap.size) (by first | rfl | simp) (.cells #[.int .i64 j0, .int .i64 j1, .int .i64 j2, .int .i64 j3, .int .i64 j4, .int .i64 j5] 28)).below hb rfl)
                  clear hb R20 zc6 zl6 zc4 zl4 zc5 zl5
                  have zq47 := R21.out.get 0 rfl
                  have zc47 := fun j => cell_of_row W21 _ j _ _ _ zq47
                  have zl47 := row_lt zq47
                  clear zq47
                  have zq10 := R21.out.get 11 rfl
                  have zc10 := fun j => cell_of_row W21 _ j _ _ _ zq10
                  have zl10 := row_lt zq10
                  clear zq10
                  go_wp2_with fail
                  refine (K10.out _).mono ?_
                  rintro e W22 ⟨rfl, hb⟩
                  have R22 := Lib.hid ((R21.out.put (W21.heap.size) (by first | rfl | simp) (.cells #[.int .i64 a0, .int .i64 a1, .int .i64 a2, .int .i64 a3, .int .i64 a4, .int .i64 a5] 28)).below hb rfl)
                  clear hb R21 zc47 zl47 zc10 zl10
                  have zq47 := R22.out.get 1 rfl
                  have zc47 := fun j => cell_of_row W22 _ j _ _ _ zq47
                  have zl47 := row_lt zq47
                  clear zq47
                  have zq14 := R22.out.get 10 rfl
                  have zc14 := fun j => cell_of_row W22 _ j _ _ _ zq14
                  have zl14 := row_lt zq14
                  clear zq14
                  go_wp2_with fail
                  refine (K11.out _).mono ?_
                  rintro e W23 ⟨rfl, hb⟩
                  have R23 := Lib.hid (R22.out.below hb rfl)
                  clear hb R22 zc47 zl47 zc14 zl14
                  have zq49 := R23.out.get 0 rfl
                  have zc49 := fun j => cell_of_row W23 _ j _ _ _ zq49
                  have zl49 := row_lt zq49
                  clear zq49
                  have zq3 := R23.out.get 17 rfl
                  have zc3 := fun j => cell_of_row W23 _ j _ _ _ zq3
                  have zl3 := row_lt zq3
                  clear zq3
                  go_wp2_with fail
                  go_ret
                  exact ⟨rfl, (R23.out.put (W23.heap.size) (by first | rfl | simp) (.cells #[.int .i64 0, .int .i64 0, .int .i64 0, .int .i64 0, .int .i64 0, .int .i64 0] 28)).1⟩
        · cases q
          · cases p
            · skip
              as_aux_lemma =>
                obtain ⟨t6, t7⟩ := N5.out rfl
                have N6 := Lib.hid t6
                have N7 := Lib.hid t7
                clear t6 t7 N5
                have zq27 := R17.out.get 1 rfl
                have zc27 := fun j => cell_of_row W17 _ j _ _ _ zq27
                have zl27 := row_lt zq27
                clear zq27
                have zq26 := R17.out.get 2 rfl
                have zc26 := fun j => cell_of_row W17 _ j _ _ _ zq26
                have zl26 := row_lt zq26
                clear zq26
                go_wp2_with fail
                refine (N6.out _).mono ?_
                rintro e W18 ⟨rfl, hb⟩
                have R18 := Lib.hid (R17.out.below hb rfl)
                clear hb R17 zc27 zl27 zc26 zl26
                have zq27 := R18.out.get 1 rfl
                have zc27 := fun j => cell_of_row W18 _ j _ _ _ zq27
                have zl27 := row_lt zq27
                clear zq27
                have zq26 := R18.out.get 2 rfl
                have zc26 := fun j => cell_of_row W18 _ j _ _ _ zq26
                have zl26 := row_lt zq26
                clear zq26
                go_wp2_with fail
                refine (N7.out _).mono ?_
                rintro e W19 ⟨rfl, hb⟩
                have R19 := Lib.hid (R18.out.below hb rfl)
                clear hb R18 zc27 zl27 zc26 zl26
                have zq25 := R19.out.get 3 rfl
                have zc25 := fun j => cell_of_row W19 _ j _ _ _ zq25
                have zl25 := row_lt zq25
                clear zq25
                go_wp2_with fail
                go_ret
                exact ⟨rfl, (R19.out.put (W19.heap.size) (by first | rfl | simp) (.cells #[.int .i64 h0, .int .i64 h1, .int .i64 h2, .int .i64 h3, .int .i64 h4, .int .i64 h5] 28)).1⟩
            · skip
              as_aux_lemma =>
                obtain ⟨t6, t7⟩ := N5.out rfl
                have N6 := Lib.hid t6
                have N7 := Lib.hid t7
                clear t6 t7 N5
                obtain ⟨j0, j1, j2, j3, j4, j5, t1, t2, t3, t4⟩ := K7.out rfl
                have K8 := Lib.hid t1
                have K9 := Lib.hid t2
                have K10 := Lib.hid t3
                have K11 := Lib.hid t4
                clear t1 t2 t3 t4 K7
                have zq27 := R17.out.get 1 rfl
                have zc27 := fun j => cell_of_row W17 _ j _ _ _ zq27
                have zl27 := row_lt zq27
                clear zq27
                have zq26 := R17.out.get 2 rfl
                have zc26 := fun j => cell_of_row W17 _ j _ _ _ zq26
                have zl26 := row_lt zq26
                clear zq26
                go_wp2_with fail
                refine (N6.out _).mono ?_
                rintro e W18 ⟨rfl, hb⟩
                have R18 := Lib.hid (R17.out.below hb rfl)
                clear hb R17 zc27 zl27 zc26 zl26
                have zq27 := R18.out.get 1 rfl
                have zc27 := fun j => cell_of_row W18 _ j _ _ _ zq27
                have zl27 := row_lt zq27
                clear zq27
                have zq26 := R18.out.get 2 rfl
                have zc26 := fun j => cell_of_row W18 _ j _ _ _ zq26
                have zl26 := row_lt zq26
                clear zq26
                go_wp2_with fail
                refine (N7.out _).mono ?_
                rintro e W19 ⟨rfl, hb⟩
                have R19 := Lib.hid (R18.out.below hb rfl)
                clear hb R18 zc27 zl27 zc26 zl26
                have zq25 := R19.out.get 3 rfl
                have zc25 := fun j => cell_of_row W19 _ j _ _ _ zq25
                have zl25 := row_lt zq25
                clear zq25
                have zq4 := R19.out.get 14 rfl
                have zc4 := fun j => cell_of_row W19 _ j _ _ _ zq4
                have zl4 := row_lt zq4
                clear zq4
                have zq5 := R19.out.get 13 rfl
                have zc5 := fun j => cell_of_row W19 _ j _ _ _ zq5
                have zl5 := row_lt zq5
                clear zq5
                go_wp2_with fail
                refine (K8.out _).mono ?_
                rintro e W20 ⟨rfl, hb⟩
                have R20 := Lib.hid ((R19.out.put (W19.heap.size) (by first | rfl | simp) (.cells #[.int .i64 h0, .int .i64 h1, .int .i64 h2, .int .i64 h3, .int .i64 h4, .int .i64 h5] 28)).below hb rfl)
                clear hb R19 zc25 zl25 zc4 zl4 zc5 zl5
                have zq6 := R20.out.get 13 rfl
                have zc6 := fun j => cell_of_row W20 _ j _ _ _ zq6
                have zl6 := row_lt zq6
                clear zq6
                have zq4 := R20.out.get 15 rfl
                have zc4 := fun j => cell_of_row W20 _ j _ _ _ zq4
                have zl4 := row_lt zq4
                clear zq4
                have zq5 := R20.out.get 14 rfl
                have zc5 := fun j => cell_of_row W20 _ j _ _ _ zq5
                have zl5 := row_lt zq5
                clear zq5
                go_wp2_with fail
                refine (K9.out _).mono ?_
                rintro e W21 ⟨rfl, hb⟩
                have R21 := Lib.hid ((R20.out.put (W20.heap.size) (by first | rfl | simp) (.cells #[.int .i64 j0, .int .i64 j1, .int .i64 j2, .int .i64 j3, .int .i64 j4, .int .i64 j5] 28)).below hb rfl)
                clear hb R20 zc6 zl6 zc4 zl4 zc5 zl5
                have zq47 := R21.out.get 0 rfl
                have zc47 := fun j => cell_of_row W21 _ j _ _ _ zq47
                have zl47 := row_lt zq47
                clear zq47
                have zq10 := R21.out.get 12 rfl
                have zc10 := fun j => cell_of_row W21 _ j _ _ _ zq10
                have zl10 := row_lt zq10
                clear zq10
                go_wp2_with fail
                refine (K10.out _).mono ?_
                rintro e W22 ⟨rfl, hb⟩
                have R22 := Lib.hid ((R21.out.put (W21.heap.size) (by first | rfl | simp) (.cells #[.int .i64 a0, .int .i64 a1, .int .i64 a2, .int .i64 a3, .int .i64 a4, .int .i64 a5] 28)).below hb rfl)
                clear hb R21 zc47 zl47 zc10 zl10
                have zq47 := R22.out.get 1 rfl
                have zc47 := fun j => cell_of_row W22 _ j _ _ _ zq47
                have zl47 := row_lt zq47
                clear zq47
                have zq14 := R22.out.get 11 rfl
                have zc14 := fun j => cell_of_row W22 _ j _ _ _ zq14
                have zl14 := row_lt zq14
                clear zq14
                go_wp2_with fail
                refine (K11.out _).mono ?_
                rintro e W23 ⟨rfl, hb⟩
                have R23 := Lib.hid (R22.out.below hb rfl)
                clear hb R22 zc47 zl47 zc14 zl14
                have zq49 := R23.out.get 0 rfl
                have zc49 := fun j => cell_of_row W23 _ j _ _ _ zq49
                have zl49 := row_lt zq49
                clear zq49
                have zq3 := R23.out.get 18 rfl
                have zc3 := fun j => cell_of_row W23 _ j _ _ _ zq3
                have zl3 := row_lt zq3
                clear zq3
                go_wp2_with fail
                go_ret
                exact ⟨rfl, (R23.out.put (W23.heap.size) (by first | rfl | simp) (.cells #[.int .i64 0, .int .i64 0, .int .i64 0, .int .i64 0, .int .i64 0, .int .i64 0] 28)).1⟩
          · rcases (by omega : (-1000 < dx ∧ dx < 1000) ∨ dx ≤ -1000 ∨ 1000 ≤ dx) with hdx | hdx | hdx
            · cases p
              · skip
                as_aux_lemma =>
                  obtain ⟨t6, t7⟩ := N5.out rfl
                  have N6 := Lib.hid t6
                  have N7 := Lib.hid t7
                  clear t6 t7 N5
                  obtain ⟨m, t5, t6, t7⟩ := M4.out rfl
                  have M5 := Lib.hid t5
                  have M6 := Lib.hid t6
                  clear t5 t6 M4
                  obtain ⟨t8, t9⟩ := t7 hdx.1 hdx.2
                  have M7 := Lib.hid t8
                  have M8 := Lib.hid t9
                  clear t7 t8 t9
                  have n1 : wrap64 (-dx) = -dx := by unfold wrap64; omega
                  have n2 : wrap64 (-dy) = -dy := by have := HY.out; unfold wrap64; omega
                  have n3 : wrap64 (dx + 6) = dx + 6 := by unfold wrap64; omega
                  have n4 : wrap64 (dy - 6) = dy - 6 := by have := HY.out; unfold wrap64; omega
                  have hd1 := hdx.1
                  have hd2 := hdx.2
                  have hf1 : dx > -1000 := hdx.1
                  have zq27 := R17.out.get 1 rfl
                  have zc27 := fun j => cell_of_row W17 _ j _ _ _ zq27
                  have zl27 := row_lt zq27
                  clear zq27
                  have zq26 := R17.out.get 2 rfl
                  have zc26 := fun j => cell_of_row W17 _ j _ _ _ zq26
                  have zl26 := row_lt zq26
                  clear zq26
                  go_wp2_with fail
                  refine (N6.out _).mono ?_
                  rintro e W18 ⟨rfl, hb⟩
                  have R18 := Lib.hid (R17.out.below hb rfl)
                  clear hb R17 zc27 zl27 zc26 zl26
                  have zq27 := R18.out.get 1 rfl
                  have zc27 := fun j => cell_of_row W18 _ j _ _ _ zq27
                  have zl27 := row_lt zq27
                  clear zq27
                  have zq26 := R18.out.get 2 rfl
                  have zc26 := fun j => cell_of_row W18 _ j _ _ _ zq26
                  have zl26 := row_lt zq26
                  clear zq26
                  go_wp2_with fail
                  refine (N7.out _).mono ?_
                  rintro e W19 ⟨rfl, hb⟩
                  have R19 := Lib.hid (R18.out.below hb rfl)
                  clear hb R18 zc27 zl27 zc26 zl26
                  have zq25 := R19.out.get 3 rfl
                  have zc25 := fun j => cell_of_row W19 _ j _ _ _ zq25
                  have zl25 := row_lt zq25
                  clear zq25
                  have zq18 := R19.out.get 6 rfl
                  have zc18 := fun j => cell_of_row W19 _ j _ _ _ zq18
                  have zl18 := row_lt zq18
                  clear zq18
                  go_wp2_with fail
                  refine (M5.out _).mono ?_
                  rintro e W20 ⟨rfl, hb⟩
                  have R20 := Lib.hid ((R19.out.put (W19.heap.size) (by first | rfl | simp) (.cells #[.int .i64 h0, .int .i64 h1, .int .i64 h2, .int .i64 h3, .int .i64 h4, .int .i64 h5] 28)).below hb rfl)
                  clear hb R19 zc25 zl25 zc18 zl18
                  have zq21 := R20.out.get 6 rfl
                  have zc21 := fun j => cell_of_row W20 _ j _ _ _ zq21
                  have zl21 := row_lt zq21
                  clear zq21
                  go_wp2_with fail
                  refine (M6.out _).mono ?_
                  rintro e W21 ⟨rfl, hb⟩
                  have R21 := Lib.hid (R20.out.below hb rfl)
                  clear hb R20 zc21 zl21
                  have zq21 := R21.out.get 6 rfl
                  have zc21 := fun j => cell_of_row W21 _ j _ _ _ zq21
                  have zl21 := row_lt zq21
                  clear zq21
                  go_wp2_with fail
                  refine (M7.out _).mono ?_
                  rintro e W22 ⟨rfl, hb⟩
                  have R22 := Lib.hid (R21.out.below hb rfl)
                  clear hb R21 zc21 zl21
                  have zq18 := R22.out.get 7 rfl
                  have zc18 := fun j => cell_of_row W22 _ j _ _ _ zq18
                  have zl18 := row_lt zq18
                  clear zq18
                  go_wp2_with fail
                  refine (M8.out _).mono ?_
                  rintro e W23 ⟨rfl, hb⟩
                  have R23 := Lib.hid ((R22.out.put (W22.heap.size) (by first | rfl | simp) (.cells #[.int .i64 f0, .int .i64 f1, .int .i64 f2, .int .i64 f3, .int .i64 f4, .int .i64 f5] 28)).below hb rfl)
                  clear hb R22 zc18 zl18
                  have zq43 := R23.out.get 0 rfl
                  have zc43 := fun j => cell_of_row W23 _ j _ _ _ zq43
                  have zl43 := row_lt zq43
                  clear zq43
                  have zq18 := R23.out.get 8 rfl
                  have zc18 := fun j => cell_of_row W23 _ j _ _ _ zq18
                  have zl18 := row_lt zq18
                  clear zq18
                  have zq21 := R23.out.get 7 rfl
                  have zc21 := fun j => cell_of_row W23 _ j _ _ _ zq21
                  have zl21 := row_lt zq21
                  clear zq21
                  go_wp2_with fail
                  go_ret
                  exact ⟨rfl, (R23.out.put (W23.heap.size) (by first | rfl | simp) (.cells #[.int .i64 g0, .int .i64 g1, .int .i64 g2, .int .i64 g3, .int .i64 g4, .int .i64 g5] 28)).1⟩
              · skip
                as_aux_lemma =>
                  obtain ⟨t6, t7⟩ := N5.out rfl
                  have N6 := Lib.hid t6
                  have N7 := Lib.hid t7
                  clear t6 t7 N5
                  obtain ⟨m, t5, t6, t7⟩ := M4.out rfl
                  have M5 := Lib.hid t5
                  have M6 := Lib.hid t6
                  clear t5 t6 M4
                  obtain ⟨t8, t9⟩ := t7 hdx.1 hdx.2
                  have M7 := Lib.hid t8
                  have M8 := Lib.hid t9
                  clear t7 t8 t9
                  have n1 : wrap64 (-dx) = -dx := by unfold wrap64; omega
                  have n2 : wrap64 (-dy) = -dy := by have := HY.out; unfold wrap64; omega
                  have n3 : wrap64 (dx + 6) = dx + 6 := by unfold wrap64; omega
                  have n4 : wrap64 (dy - 6) = dy - 6 := by have := HY.out; unfold wrap64; omega
                  have hd1 := hdx.1
                  have hd2 := hdx.2
                  have hf1 : dx > -1000 := hdx.1
                  obtain ⟨j0, j1, j2, j3, j4, j5, t1, t2, t3, t4⟩ := K7.out rfl
                  have K8 := Lib.hid t1
                  have K9 := Lib.hid t2
                  have K10 := Lib.hid t3
                  have K11 := Lib.hid t4
                  clear t1 t2 t3 t4 K7
                  have zq27 := R17.out.get 1 rfl
                  have zc27 := fun j => cell_of_row W17 _ j _ _ _ zq27
                  have zl27 := row_lt zq27
                  clear zq27
                  have zq26 := R17.out.get 2 rfl
                  have zc26 := fun j => cell_of_row W17 _ j _ _ _ zq26
                  have zl26 := row_lt zq26
                  clear zq26
                  go_wp2_with fail
                  refine (N6.out _).mono ?_
                  rintro e W18 ⟨rfl, hb⟩
                  have R18 := Lib.hid (R17.out.below hb rfl)
                  clear hb R17 zc27 zl27 zc26 zl26
                  have zq27 := R18.out.get 1 rfl
                  have zc27 := fun j => cell_of_row W18 _ j _ _ _ zq27
                  have zl27 := row_lt zq27
                  clear zq27
                  have zq26 := R18.out.get 2 rfl
                  have zc26 := fun j => cell_of_row W18 _ j _ _ _ zq26
                  have zl26 := row_lt zq26
                  clear zq26
                  go_wp2_with fail
                  refine (N7.out _).mono ?_
                  rintro e W19 ⟨rfl, hb⟩
                  have R19 := Lib.hid (R18.out.below hb rfl)
                  clear hb R18 zc27 zl27 zc26 zl26
                  have zq25 := R19.out.get 3 rfl
                  have zc25 := fun j => cell_of_row W19 _ j _ _ _ zq25
                  have zl25 := row_lt zq25
                  clear zq25
                  have zq18 := R19.out.get 6 rfl
                  have zc18 := fun j => cell_of_row W19 _ j _ _ _ zq18
                  have zl18 := row_lt zq18
                  clear zq18
                  go_wp2_with fail
                  refine (M5.out _).mono ?_
                  rintro e W20 ⟨rfl, hb⟩
                  have R20 := Lib.hid ((R19.out.put (W19.heap.size) (by first | rfl | simp) (.cells #[.int .i64 h0, .int .i64 h1, .int .i64 h2, .int .i64 h3, .int .i64 h4, .int .i64 h5] 28)).below hb rfl)
                  clear hb R19 zc25 zl25 zc18 zl18
                  have zq21 := R20.out.get 6 rfl
                  have zc21 := fun j => cell_of_row W20 _ j _ _ _ zq21
                  have zl21 := row_lt zq21
                  clear zq21
                  go_wp2_with fail
                  refine (M6.out _).mono ?_
                  rintro e W21 ⟨rfl, hb⟩
                  have R21 := Lib.hid (R20.out.below hb rfl)
                  clear hb R20 zc21 zl21
                  have zq21 := R21.out.get 6 rfl
                  have zc21 := fun j => cell_of_row W21 _ j _ _ _ zq21
                  have zl21 := row_lt zq21
                  clear zq21
                  go_wp2_with fail
                  refine (M7.out _).mono ?_
                  rintro e W22 ⟨rfl, hb⟩
                  have R22 := Lib.hid (R21.out.below hb rfl)
                  clear hb R21 zc21 zl21
                  have zq18 := R22.out.get 7 rfl
                  have zc18 := fun j => cell_of_row W22 _ j _ _ _ zq18
                  have zl18 := row_lt zq18
                  clear zq18
                  go_wp2_with fail
                  refine (M8.out _).mono ?_
                  rintro e W23 ⟨rfl, hb⟩
                  have R23 := Lib.hid ((R22.out.put (W22.heap.size) (by first | rfl | simp) (.cells #[.int .i64 f0, .int .i64 f1, .int .i64 f2, .int .i64 f3, .int .i64 f4, .int .i64 f5] 28)).below hb rfl)
                  clear hb R22 zc18 zl18
                  have zq43 := R23.out.get 0 rfl
                  have zc43 := fun j => cell_of_row W23 _ j _ _ _ zq43
                  have zl43 := row_lt zq43
                  clear zq43
                  have zq18 := R23.out.get 8 rfl
                  have zc18 := fun j => cell_of_row W23 _ j _ _ _ zq18
                  have zl18 := row_lt zq18
                  clear zq18
                  have zq21 := R23.out.get 7 rfl
                  have zc21 := fun j => cell_of_row W23 _ j _ _ _ zq21
                  have zl21 := row_lt zq21
                  clear zq21
                  have zq4 := R23.out.get 16 rfl
                  have zc4 := fun j => cell_of_row W23 _ j _ _ _ zq4
                  have zl4 := row_lt zq4
                  clear zq4
                  have zq5 := R23.out.get 15 rfl
                  have zc5 := fun j => cell_of_row W23 _ j _ _ _ zq5
                  have zl5 := row_lt zq5
                  clear zq5
                  go_wp2_with fail
                  refine (K8.out _).mono ?_
                  rintro e W24 ⟨rfl, hb⟩
                  have R24 := Lib.hid ((R23.out.put (W23.heap.size) (by first | rfl | simp) (.cells #[.int .i64 g0, .int .i64 g1, .int .i64 g2, .int .i64 g3, .int .i64 g4, .int .i64 g5] 28)).below hb rfl)
                  clear hb R23 zc43 zl43 zc18 zl18 zc21 zl21 zc4 zl4 zc5 zl5
                  have zq6 := R24.out.get 15 rfl
                  have zc6 := fun j => cell_of_row W24 _ j _ _ _ zq6
                  have zl6 := row_lt zq6
                  clear zq6
                  have zq4 := R24.out.get 17 rfl
                  have zc4 := fun j => cell_of_row W24 _ j _ _ _ zq4
                  have zl4 := row_lt zq4
                  clear zq4
                  have zq5 := R24.out.get 16 rfl
                  have zc5 := fun j => cell_of_row W24 _ j _ _ _ zq5
                  have zl5 := row_lt zq5
                  clear zq5
                  go_wp2_with fail
                  refine (K9.out _).mono ?_
                  rintro e W25 ⟨rfl, hb⟩
                  have R25 := Lib.hid ((R24.out.put (W24.heap.size) (by first | rfl | simp) (.cells #[.int .i64 j0, .int .i64 j1, .int .i64 j2, .int .i64 j3, .int .i64 j4, .int .i64 j5] 28)).below hb rfl)
                  clear hb R24 zc6 zl6 zc4 zl4 zc5 zl5
                  have zq47 := R25.out.get 0 rfl
                  have zc47 := fun j => cell_of_row W25 _ j _ _ _ zq47
                  have zl47 := row_lt zq47
                  clear zq47
                  have zq10 := R25.out.get 14 rfl
                  have zc10 := fun j => cell_of_row W25 _ j _ _ _ zq10
                  have zl10 := row_lt zq10
                  clear zq10
                  go_wp2_with fail
                  refine (K10.out _).mono ?_
                  rintro e W26 ⟨rfl, hb⟩
                  have R26 := Lib.hid ((R25.out.put (W25.heap.size) (by first | rfl | simp) (.cells #[.int .i64 a0, .int .i64 a1, .int .i64 a2, .int .i64 a3, .int .i64 a4, .int .i64 a5] 28)).below hb rfl)
                  clear hb R25 zc47 zl47 zc10 zl10
                  have zq47 := R26.out.get 1 rfl
                  have zc47 := fun j => cell_of_row W26 _ j _ _ _ zq47
                  have zl47 := row_lt zq47
                  clear zq47
                  have zq14 := R26.out.get 13 rfl
                  have zc14 := fun j => cell_of_row W26 _ j _ _ _ zq14
                  have zl14 := row_lt zq14
                  clear zq14
                  go_wp2_with fail
                  refine (K11.out _).mono ?_
                  rintro e W27 ⟨rfl, hb⟩
                  have R27 := Lib.hid (R26.out.below hb rfl)
                  clear hb R26 zc47 zl47 zc14 zl14
                  have zq49 := R27.out.get 0 rfl
                  have zc49 := fun j => cell_of_row W27 _ j _ _ _ zq49
                  have zl49 := row_lt zq49
                  clear zq49
                  have zq3 := R27.out.get 20 rfl
                  have zc3 := fun j => cell_of_row W27 _ j _ _ _ zq3
                  have zl3 := row_lt zq3
                  clear zq3
                  go_wp2_with fail
                  go_ret
                  exact ⟨rfl, (R27.out.put (W27.heap.size) (by first | rfl | simp) (.cells #[.int .i64 0, .int .i64 0, .int .i64 0, .int .i64 0, .int .i64 0, .int .i64 0] 28)).1⟩
            · cases p
              · skip
                as_aux_lemma =>
                  obtain ⟨t6, t7⟩ := N5.out rfl
                  have N6 := Lib.hid t6
                  have N7 := Lib.hid t7
                  clear t6 t7 N5
                  obtain ⟨m, t5, t6, t7⟩ := M4.out rfl
                  have M5 := Lib.hid t5
                  have M6 := Lib.hid t6
                  clear t5 t6 M4
                  clear t7
                  have hd1 : dx ≤ -1000 := by omega
                  have zq27 := R17.out.get 1 rfl
                  have zc27 := fun j => cell_of_row W17 _ j _ _ _ zq27
                  have zl27 := row_lt zq27
                  clear zq27
                  have zq26 := R17.out.get 2 rfl
                  have zc26 := fun j => cell_of_row W17 _ j _ _ _ zq26
                  have zl26 := row_lt zq26
                  clear zq26
                  go_wp2_with fail
                  refine (N6.out _).mono ?_
                  rintro e W18 ⟨rfl, hb⟩
                  have R18 := Lib.hid (R17.out.below hb rfl)
                  clear hb R17 zc27 zl27 zc26 zl26
                  have zq27 := R18.out.get 1 rfl
                  have zc27 := fun j => cell_of_row W18 _ j _ _ _ zq27
                  have zl27 := row_lt zq27
                  clear zq27
                  have zq26 := R18.out.get 2 rfl
                  have zc26 := fun j => cell_of_row W18 _ j _ _ _ zq26
                  have zl26 := row_lt zq26
                  clear zq26
                  go_wp2_with fail
                  refine (N7.out _).mono ?_
                  rintro e W19 ⟨rfl, hb⟩
                  have R19 := Lib.hid (R18.out.below hb rfl)
                  clear hb R18 zc27 zl27 zc26 zl26
                  have zq25 := R19.out.get 3 rfl
                  have zc25 := fun j => cell_of_row W19 _ j _ _ _ zq25
                  have zl25 := row_lt zq25
                  clear zq25
                  have zq18 := R19.out.get 6 rfl
                  have zc18 := fun j => cell_of_row W19 _ j _ _ _ zq18
                  have zl18 := row_lt zq18
                  clear zq18
                  go_wp2_with fail
                  refine (M5.out _).mono ?_
                  rintro e W20 ⟨rfl, hb⟩
                  have R20 := Lib.hid ((R19.out.put (W19.heap.size) (by first | rfl | simp) (.cells #[.int .i64 h0, .int .i64 h1, .int .i64 h2, .int .i64 h3, .int .i64 h4, .int .i64 h5] 28)).below hb rfl)
                  clear hb R19 zc25 zl25 zc18 zl18
                  have zq21 := R20.out.get 6 rfl
                  have zc21 := fun j => cell_of_row W20 _ j _ _ _ zq21
                  have zl21 := row_lt zq21
                  clear zq21
                  go_wp2_with fail
                  refine (M6.out _).mono ?_
                  rintro e W21 ⟨rfl, hb⟩
                  have R21 := Lib.hid (R20.out.below hb rfl)
                  clear hb R20 zc21 zl21
                  go_wp2_with fail
                  go_ret
                  exact ⟨rfl, R21.out.1⟩
              · skip
                as_aux_lemma =>
                  obtain ⟨t6, t7⟩ := N5.out rfl
                  have N6 := Lib.hid t6
                  have N7 := Lib.hid t7
                  clear t6 t7 N5
                  obtain ⟨m, t5, t6, t7⟩ := M4.out rfl
                  have M5 := Lib.hid t5
                  have M6 := Lib.hid t6
                  clear t5 t6 M4
                  clear t7
                  have hd1 : dx ≤ -1000 := by omega
                  obtain ⟨j0, j1, j2, j3, j4, j5, t1, t2, t3, t4⟩ := K7.out rfl
                  have K8 := Lib.hid t1
                  have K9 := Lib.hid t2
                  have K10 := Lib.hid t3
                  have K11 := Lib.hid t4
                  clear t1 t2 t3 t4 K7
                  have zq27 := R17.out.get 1 rfl
                  have zc27 := fun j => cell_of_row W17 _ j _ _ _ zq27
                  have zl27 := row_lt zq27
                  clear zq27
                  have zq26 := R17.out.get 2 rfl
                  have zc26 := fun j => cell_of_row W17 _ j _ _ _ zq26
                  have zl26 := row_lt zq26
                  clear zq26
                  go_wp2_with fail
                  refine (N6.out _).mono ?_
                  rintro e W18 ⟨rfl, hb⟩
                  have R18 := Lib.hid (R17.out.below hb rfl)
                  clear hb R17 zc27 zl27 zc26 zl26
                  have zq27 := R18.out.get 1 rfl
                  have zc27 := fun j => cell_of_row W18 _ j _ _ _ zq27
                  have zl27 := row_lt zq27
                  clear zq27
                  have zq26 := R18.out.get 2 rfl
                  have zc26 := fun j => cell_of_row W18 _ j _ _ _ zq26
                  have zl26 := row_lt zq26
                  clear zq26
                  go_wp2_with fail
                  refine (N7.out _).mono ?_
                  rintro e W19 ⟨rfl, hb⟩
                  have R19 := Lib.hid (R18.out.below hb rfl)
                  clear hb R18 zc27 zl27 zc26 zl26
                  have zq25 := R19.out.get 3 rfl
                  have zc25 := fun j => cell_of_row W19 _ j _ _ _ zq25
                  have zl25 := row_lt zq25
                  clear zq25
                  have zq18 := R19.out.get 6 rfl
                  have zc18 := fun j => cell_of_row W19 _ j _ _ _ zq18
                  have zl18 := row_lt zq18
                  clear zq18
                  go_wp2_with fail
                  refine (M5.out _).mono ?_
                  rintro e W20 ⟨rfl, hb⟩
                  have R20 := Lib.hid ((R19.out.put (W19.heap.size) (by first | rfl | simp) (.cells #[.int .i64 h0, .int .i64 h1, .int .i64 h2, .int .i64 h3, .int .i64 h4, .int .i64 h5] 28)).below hb rfl)
                  clear hb R19 zc25 zl25 zc18 zl18
                  have zq21 := R20.out.get 6 rfl
                  have zc21 := fun j => cell_of_row W20 _ j _ _ _ zq21
                  have zl21 := row_lt zq21
                  clear zq21
                  go_wp2_with fail
                  refine (M6.out _).mono ?_
                  rintro e W21 ⟨rfl, hb⟩
                  have R21 := Lib.hid (R20.out.below hb rfl)
                  clear hb R20 zc21 zl21
                  have zq4 := R21.out.get 15 rfl
                  have zc4 := fun j => cell_of_row W21 _ j _ _ _ zq4
                  have zl4 := row_lt zq4
                  clear zq4
                  have zq5 := R21.out.get 14 rfl
                  have zc5 := fun j => cell_of_row W21 _ j _ _ _ zq5
                  have zl5 := row_lt zq5
                  clear zq5
                  go_wp2_with fail
                  refine (K8.out _).mono ?_
                  rintro e W22 ⟨rfl, hb⟩
                  have R22 := Lib.hid (R21.out.below hb rfl)
                  clear hb R21 zc4 zl4 zc5 zl5
                  have zq6 := R22.out.get 13 rfl
                  have zc6 := fun j => cell_of_row W22 _ j _ _ _ zq6
                  have zl6 := row_lt zq6
                  clear zq6
                  have zq4 := R22.out.get 15 rfl
                  have zc4 := fun j => cell_of_row W22 _ j _ _ _ zq4
                  have zl4 := row_lt zq4
                  clear zq4
                  have zq5 := R22.out.get 14 rfl
                  have zc5 := fun j => cell_of_row W22 _ j _ _ _ zq5
                  have zl5 := row_lt zq5
                  clear zq5
                  go_wp2_with fail
                  refine (K9.out _).mono ?_
                  rintro e W23 ⟨rfl, hb⟩
                  have R23 := Lib.hid ((R22.out.put (W22.heap.size) (by first | rfl | simp) (.cells #[.int .i64 j0, .int .i64 j1, .int .i64 j2, .int .i64 j3, .int .i64 j4, .int .i64 j5] 28)).below hb rfl)
                  clear hb R22 zc6 zl6 zc4 zl4 zc5 zl5
                  have zq47 := R23.out.get 0 rfl
                  have zc47 := fun j => cell_of_row W23 _ j _ _ _ zq47
                  have zl47 := row_lt zq47
                  clear zq47
                  have zq10 := R23.out.get 12 rfl
                  have zc10 := fun j => cell_of_row W23 _ j _ _ _ zq10
                  have zl10 := row_lt zq10
                  clear zq10
                  go_wp2_with fail
                  refine (K10.out _).mono ?_
                  rintro e W24 ⟨rfl, hb⟩
                  have R24 := Lib.hid ((R23.out.put (W23.heap.size) (by first | rfl | simp) (.cells #[.int .i64 a0, .int .i64 a1, .int .i64 a2, .int .i64 a3, .int .i64 a4, .int .i64 a5] 28)).below hb rfl)
                  clear hb R23 zc47 zl47 zc10 zl10
                  have zq47 := R24.out.get 1 rfl
                  have zc47 := fun j => cell_of_row W24 _ j _ _ _ zq47
                  have zl47 := row_lt zq47
                  clear zq47
                  have zq14 := R24.out.get 11 rfl
                  have zc14 := fun j => cell_of_row W24 _ j _ _ _ zq14
                  have zl14 := row_lt zq14
                  clear zq14
                  go_wp2_with fail
                  refine (K11.out _).mono ?_
                  rintro e W25 ⟨rfl, hb⟩
                  have R25 := Lib.hid (R24.out.below hb rfl)
                  clear hb R24 zc47 zl47 zc14 zl14
                  have zq49 := R25.out.get 0 rfl
                  have zc49 := fun j => cell_of_row W25 _ j _ _ _ zq49
                  have zl49 := row_lt zq49
                  clear zq49
                  have zq3 := R25.out.get 18 rfl
                  have zc3 := fun j => cell_of_row W25 _ j _ _ _ zq3
                  have zl3 := row_lt zq3
                  clear zq3
                  go_wp2_with fail
                  go_ret
                  exact ⟨rfl, (R25.out.put (W25.heap.size) (by first | rfl | simp) (.cells #[.int .i64 0, .int .i64 0, .int .i64 0, .int .i64 0, .int .i64 0, .int .i64 0] 28)).1⟩
            · cases p
              · skip
                as_aux_lemma =>
                  obtain ⟨t6, t7⟩ := N5.out rfl
                  have N6 := Lib.hid t6
                  have N7 := Lib.hid t7
                  clear t6 t7 N5
                  obtain ⟨m, t5, t6, t7⟩ := M4.out rfl
                  have M5 := Lib.hid t5
                  have M6 := Lib.hid t6
                  clear t5 t6 M4
                  clear t7
                  have hd1 : -1000 < dx := by omega
                  have hd2 : 1000 ≤ dx := by omega
                  have zq27 := R17.out.get 1 rfl
                  have zc27 := fun j => cell_of_row W17 _ j _ _ _ zq27
                  have zl27 := row_lt zq27
                  clear zq27
                  have zq26 := R17.out.get 2 rfl
                  have zc26 := fun j => cell_of_row W17 _ j _ _ _ zq26
                  have zl26 := row_lt zq26
                  clear zq26
                  go_wp2_with fail
                  refine (N6.out _).mono ?_
                  rintro e W18 ⟨rfl, hb⟩
                  have R18 := Lib.hid (R17.out.below hb rfl)
                  clear hb R17 zc27 zl27 zc26 zl26
                  have zq27 := R18.out.get 1 rfl
                  have zc27 := fun j => cell_of_row W18 _ j _ _ _ zq27
                  have zl27 := row_lt zq27
                  clear zq27
                  have zq26 := R18.out.get 2 rfl
                  have zc26 := fun j => cell_of_row W18 _ j _ _ _ zq26
                  have zl26 := row_lt zq26
                  clear zq26
                  go_wp2_with fail
                  refine (N7.out _).mono ?_
                  rintro e W19 ⟨rfl, hb⟩
                  have R19 := Lib.hid (R18.out.below hb rfl)
                  clear hb R18 zc27 zl27 zc26 zl26
                  have zq25 := R19.out.get 3 rfl
                  have zc25 := fun j => cell_of_row W19 _ j _ _ _ zq25
                  have zl25 := row_lt zq25
                  clear zq25
                  have zq18 := R19.out.get 6 rfl
                  have zc18 := fun j => cell_of_row W19 _ j _ _ _ zq18
                  have zl18 := row_lt zq18
                  clear zq18
                  go_wp2_with fail
                  refine (M5.out _).mono ?_
                  rintro e W20 ⟨rfl, hb⟩
                  have R20 := Lib.hid ((R19.out.put (W19.heap.size) (by first | rfl | simp) (.cells #[.int .i64 h0, .int .i64 h1, .int .i64 h2, .int .i64 h3, .int .i64 h4, .int .i64 h5] 28)).below hb rfl)
                  clear hb R19 zc25 zl25 zc18 zl18
                  have zq21 := R20.out.get 6 rfl
                  have zc21 := fun j => cell_of_row W20 _ j _ _ _ zq21
                  have zl21 := row_lt zq21
                  clear zq21
                  go_wp2_with fail
                  refine (M6.out _).mono ?_
                  rintro e W21 ⟨rfl, hb⟩
                  have R21 := Lib.hid (R20.out.below hb rfl)
                  clear hb R20 zc21 zl21
                  go_wp2_with fail
                  go_ret
                  exact ⟨rfl, R21.out.1⟩
              · skip
                as_aux_lemma =>
                  obtain ⟨t6, t7⟩ := N5.out rfl
                  have N6 := Lib.hid t6
                  have N7 := Lib.hid t7
                  clear t6 t7 N5
                  obtain ⟨m, t5, t6, t7⟩ := M4.out rfl
                  have M5 := Lib.hid t5
                  have M6 := Lib.hid t6
                  clear t5 t6 M4
                  clear t7
                  have hd1 : -1000 < dx := by omega
                  have hd2 : 1000 ≤ dx := by omega
                  obtain ⟨j0, j1, j2, j3, j4, j5, t1, t2, t3, t4⟩ := K7.out rfl
                  have K8 := Lib.hid t1
                  have K9 := Lib.hid t2
                  have K10 := Lib.hid t3
                  have K11 := Lib.hid t4
                  clear t1 t2 t3 t4 K7
                  have zq27 := R17.out.get 1 rfl
                  have zc27 := fun j => cell_of_row W17 _ j _ _ _ zq27
                  have zl27 := row_lt zq27
                  clear zq27
                  have zq26 := R17.out.get 2 rfl
                  have zc26 := fun j => cell_of_row W17 _ j _ _ _ zq26
                  have zl26 := row_lt zq26
                  clear zq26
                  go_wp2_with fail
                  refine (N6.out _).mono ?_
                  rintro e W18 ⟨rfl, hb⟩
                  have R18 := Lib.hid (R17.out.below hb rfl)
                  clear hb R17 zc27 zl27 zc26 zl26
                  have zq27 := R18.out.get 1 rfl
                  have zc27 := fun j => cell_of_row W18 _ j _ _ _ zq27
                  have zl27 := row_lt zq27
                  clear zq27
                  have zq26 := R18.out.get 2 rfl
                  have zc26 := fun j => cell_of_row W18 _ j _ _ _ zq26
                  have zl26 := row_lt zq26
                  clear zq26
                  go_wp2_with fail
                  refine (N7.out _).mono ?_
                  rintro e W19 ⟨rfl, hb⟩
                  have R19 := Lib.hid (R18.out.below hb rfl)
                  clear hb R18 zc27 zl27 zc26 zl26
                  have zq25 := R19.out.get 3 rfl
                  have zc25 := fun j => cell_of_row W19 _ j _ _ _ zq25
                  have zl25 := row_lt zq25
                  clear zq25
                  have zq18 := R19.out.get 6 rfl
                  have zc18 := fun j => cell_of_row W19 _ j _ _ _ zq18
                  have zl18 := row_lt zq18
                  clear zq18
                  go_wp2_with fail
                  refine (M5.out _).mono ?_
                  rintro e W20 ⟨rfl, hb⟩
                  have R20 := Lib.hid ((R19.out.put (W19.heap.size) (by first | rfl | simp) (.cells #[.int .i64 h0, .int .i64 h1, .int .i64 h2, .int .i64 h3, .int .i64 h4, .int .i64 h5] 28)).below hb rfl)
                  clear hb R19 zc25 zl25 zc18 zl18
                  have zq21 := R20.out.get 6 rfl
                  have zc21 := fun j => cell_of_row W20 _ j _ _ _ zq21
                  have zl21 := row_lt zq21
                  clear zq21
                  go_wp2_with fail
                  refine (M6.out _).mono ?_
                  rintro e W21 ⟨rfl, hb⟩
                  have R21 := Lib.hid (R20.out.below hb rfl)
                  clear hb R20 zc21 zl21
                  have zq4 := R21.out.get 15 rfl
                  have zc4 := fun j => cell_of_row W21 _ j _ _ _ zq4
                  have zl4 := row_lt zq4
                  clear zq4
                  have zq5 := R21.out.get 14 rfl
                  have zc5 := fun j => cell_of_row W21 _ j _ _ _ zq5
                  have zl5 := row_lt zq5
                  clear zq5
                  go_wp2_with fail
                  refine (K8.out _).mono ?_
                  rintro e W22 ⟨rfl, hb⟩
                  have R22 := Lib.hid (R21.out.below hb rfl)
                  clear hb R21 zc4 zl4 zc5 zl5
                  have zq6 := R22.out.get 13 rfl
                  have zc6 := fun j => cell_of_row W22 _ j _ _ _ zq6
                  have zl6 := row_lt zq6
                  clear zq6
                  have zq4 := R22.out.get 15 rfl
                  have zc4 := fun j => cell_of_row W22 _ j _ _ _ zq4
                  have zl4 := row_lt zq4
                  clear zq4
                  have zq5 := R22.out.get 14 rfl
                  have zc5 := fun j => cell_of_row W22 _ j _ _ _ zq5
                  have zl5 := row_lt zq5
                  clear zq5
                  go_wp2_with fail
                  refine (K9.out _).mono ?_
                  rintro e W23 ⟨rfl, hb⟩
                  have R23 := Lib.hid ((R22.out.put (W22.heap.size) (by first | rfl | simp) (.cells #[.int .i64 j0, .int .i64 j1, .int .i64 j2, .int .i64 j3, .int .i64 j4, .int .i64 j5] 28)).below hb rfl)
                  clear hb R22 zc6 zl6 zc4 zl4 zc5 zl5
                  have zq47 := R23.out.get 0 rfl
                  have zc47 := fun j => cell_of_row W23 _ j _ _ _ zq47
                  have zl47 := row_lt zq47
                  clear zq47
                  have zq10 := R23.out.get 12 rfl
                  have zc10 := fun j => cell_of_row W23 _ j _ _ _ zq10
                  have zl10 := row_lt zq10
                  clear zq10
                  go_wp2_with fail
                  refine (K10.out _).mono ?_
                  rintro e W24 ⟨rfl, hb⟩
                  have R24 := Lib.hid ((R23.out.put (W23.heap.size) (by first | rfl | simp) (.cells #[.int .i64 a0, .int .i64 a1, .int .i64 a2, .int .i64 a3, .int .i64 a4, .int .i64 a5] 28)).below hb rfl)
                  clear hb R23 zc47 zl47 zc10 zl10
                  have zq47 := R24.out.get 1 rfl
                  have zc47 := fun j => cell_of_row W24 _ j _ _ _ zq47
                  have zl47 := row_lt zq47
                  clear zq47
                  have zq14 := R24.out.get 11 rfl
                  have zc14 := fun j => cell_of_row W24 _ j _ _ _ zq14
                  have zl14 := row_lt zq14
                  clear zq14
                  go_wp2_with fail
                  refine (K11.out _).mono ?_
                  rintro e W25 ⟨rfl, hb⟩
                  have R25 := Lib.hid (R24.out.below hb rfl)
                  clear hb R24 zc47 zl47 zc14 zl14
                  have zq49 := R25.out.get 0 rfl
                  have zc49 := fun j => cell_of_row W25 _ j _ _ _ zq49
                  have zl49 := row_lt zq49
                  clear zq49
                  have zq3 := R25.out.get 18 rfl
                  have zc3 := fun j => cell_of_row W25 _ j _ _ _ zq3
                  have zl3 := row_lt zq3
                  clear zq3
                  go_wp2_with fail
                  go_ret
                  exact ⟨rfl, (R25.out.put (W25.heap.size) (by first | rfl | simp) (.cells #[.int .i64 0, .int .i64 0, .int .i64 0, .int .i64 0, .int .i64 0, .int .i64 0] 28)).1⟩
end Go.Proofs.Ytpgfmigbjffemaa
