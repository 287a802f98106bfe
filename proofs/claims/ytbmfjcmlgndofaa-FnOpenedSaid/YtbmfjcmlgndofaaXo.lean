/- THE WALK of FnOpened. -/
import Derived.Test.YtbmfjcmlgndofaaRw
import Derived.Test.YtbmfjcmlgndofaaMv6
import Derived.Test.YtbmfjcmlgndofaaMw6
import Derived.WalkKit
import Derived.ProofKit
import Derived.OpenShut
import Derived.Lib.Hide
import Derived.WalkSpells
import Derived.Below
import Derived.BigQuiet
import Derived.LoopN
namespace Go.Proofs.Ytbmfjcmlgndofaa
open Go.ChangeShapes Go.WideShapes Go.ChangeAt Go.RowKit
set_option linter.unusedVariables false
set_option maxRecDepth 8000 in
set_option maxHeartbeats 16000000 in
theorem opened_core (A : Option Addr) (len cap : Nat) (zs : List Int) (w : World) (hcode : CodeIn w w.heap.size A len zs) (hsl : SlOk A len cap) (hl : len ≤ 65536) : Calls Try.prog 16 #[.slice A len cap] w fun e w' => e = .returned (.bool true) ∧ Below w.heap.size w w' := by
  have HC := Lib.hid hcode
  have HB0 := Lib.hid (fun w => big_no A len cap hl w)
  have E := neq_same
  have E2 := eql_same
  go_enter Try.func16, Try.ntmps16
  have R0 := Lib.hid (Rws.nil w)
  go_wp2_with fail
  refine (HB0.out _).mono ?_
  rintro e W1 ⟨rfl, hb⟩
  have R1 : Hid (Rws w [] W1) := Lib.hid (by rw [hb]; exact Rws.nil w)
  clear hb R0
  go_wp2_with fail
  refine (draw_isopened (w.heap.size) A len cap zs W1 (HC.out.below R1.out.1 (Nat.le_refl _)) R1.out.1.size hl).mono ?_
  rintro e W2 ⟨a0, a1, a2, a3, a4, a5, b0, b1, b2, b3, b4, b5, hwa, hwb, rfl, hb⟩
  have R2 := Lib.hid (R1.out.below hb rfl)
  clear hb R1
  obtain ⟨o0, o1, o2, o3, o4, o5, c0, c1, c2, c3, c4, c5, iso, n, l0, l1, l2, l3, l4, l5, t, h1, h2, h3, h4, h5, h6, h7, h8, h9⟩ := opened_all a0 a1 a2 a3 a4 a5 b0 b1 b2 b3 b4 b5
  have K1 := Lib.hid h1
  have K2 := Lib.hid h2
  have K3 := Lib.hid h3
  have K4 := Lib.hid h4
  have K5 := Lib.hid h5
  have K6 := Lib.hid h6
  have K7 := Lib.hid h7
  have K8 := Lib.hid h8
  have K9 := Lib.hid h9
  clear h1 h2 h3 h4 h5 h6 h7 h8 h9
  clear hwa hwb
  go_wp2_with fail
  refine (K2.out _).mono ?_
  rintro e W3 ⟨rfl, hb⟩
  have R3 := Lib.hid (((R2.out.put (W2.heap.size) (by first | rfl | simp) (.cells #[.int .i64 a0, .int .i64 a1, .int .i64 a2, .int .i64 a3, .int .i64 a4, .int .i64 a5] 28)).put (W2.heap.size + 1) (by first | rfl | simp) (.cells #[.int .i64 b0, .int .i64 b1, .int .i64 b2, .int .i64 b3, .int .i64 b4, .int .i64 b5] 28)).below hb rfl)
  clear hb R2
  have zq3 := R3.out.get 1 rfl
  have zc3 := fun j => cell_of_row W3 _ j _ _ _ zq3
  have zl3 := row_lt zq3
  clear zq3
  have zq4 := R3.out.get 0 rfl
  have zc4 := fun j => cell_of_row W3 _ j _ _ _ zq4
  have zl4 := row_lt zq4
  clear zq4
  go_wp2_with fail
  refine (K1.out _).mono ?_
  rintro e W4 ⟨rfl, hb⟩
  have R4 := Lib.hid ((R3.out.put (W3.heap.size) (by first | rfl | simp) (.cells #[.int .i64 o0, .int .i64 o1, .int .i64 o2, .int .i64 o3, .int .i64 o4, .int .i64 o5] 28)).below hb rfl)
  clear hb R3 zc3 zl3 zc4 zl4
  have zq3 := R4.out.get 2 rfl
  have zc3 := fun j => cell_of_row W4 _ j _ _ _ zq3
  have zl3 := row_lt zq3
  clear zq3
  have zq4 := R4.out.get 1 rfl
  have zc4 := fun j => cell_of_row W4 _ j _ _ _ zq4
  have zl4 := row_lt zq4
  clear zq4
  go_wp2_with fail
  refine (K4.out _).mono ?_
  rintro e W5 ⟨rfl, hb⟩
  have R5 := Lib.hid ((R4.out.put (W4.heap.size) (by first | rfl | simp) (.cells #[.int .i64 o0, .int .i64 o1, .int .i64 o2, .int .i64 o3, .int .i64 o4, .int .i64 o5] 28)).below hb rfl)
  clear hb R4 zc3 zl3 zc4 zl4
  as_aux_lemma =>
    have zq3 := R5.out.get 3 rfl
    have zc3 := fun j => cell_of_row W5 _ j _ _ _ zq3
    have zl3 := row_lt zq3
    clear zq3
    have zq4 := R5.out.get 2 rfl
    have zc4 := fun j => cell_of_row W5 _ j _ _ _ zq4
    have zl4 := row_lt zq4
    clear zq4
    go_wp2_with fail
    refine (K3.out _).mono ?_
    rintro e W6 ⟨rfl, hb⟩
    have R6 := Lib.hid ((R5.out.put (W5.heap.size) (by first | rfl | simp) (.cells #[.int .i64 c0, .int .i64 c1, .int .i64 c2, .int .i64 c3, .int .i64 c4, .int .i64 c5] 28)).below hb rfl)
    clear hb R5 zc3 zl3 zc4 zl4
    have zq3 := R6.out.get 4 rfl
    have zc3 := fun j => cell_of_row W6 _ j _ _ _ zq3
    have zl3 := row_lt zq3
    clear zq3
    have zq4 := R6.out.get 3 rfl
    have zc4 := fun j => cell_of_row W6 _ j _ _ _ zq4
    have zl4 := row_lt zq4
    clear zq4
    go_wp2_with fail
    refine (K6.out _).mono ?_
    rintro e W7 ⟨rfl, hb⟩
    have R7 := Lib.hid ((R6.out.put (W6.heap.size) (by first | rfl | simp) (.cells #[.int .i64 c0, .int .i64 c1, .int .i64 c2, .int .i64 c3, .int .i64 c4, .int .i64 c5] 28)).below hb rfl)
    clear hb R6 zc3 zl3 zc4 zl4
    have zq3 := R7.out.get 5 rfl
    have zc3 := fun j => cell_of_row W7 _ j _ _ _ zq3
    have zl3 := row_lt zq3
    clear zq3
    have zq4 := R7.out.get 4 rfl
    have zc4 := fun j => cell_of_row W7 _ j _ _ _ zq4
    have zl4 := row_lt zq4
    clear zq4
    go_wp2_with fail
    refine (K5.out _).mono ?_
    rintro e W8 ⟨rfl, hb⟩
    have R8 := Lib.hid (R7.out.below hb rfl)
    clear hb R7 zc3 zl3 zc4 zl4
    go_wp2_with fail
    refine (vcut_all A len cap zs w hcode hsl hl 1 (by omega) (by omega) W8 R8.out.1).mono ?_
    rintro e W9 ⟨g1, y1, zs1, hzl1, hcd1, rfl, hb⟩
    have R9 := Lib.hid (R8.out.below hb rfl)
    clear hb R8
    as_aux_lemma =>
      go_wp2_with fail
      refine (draw_isclosed W9.heap.size (some ⟨g1, 0, none⟩) zs1.length y1 zs1 W9 hcd1 (Nat.le_refl _) hzl1).mono ?_
      rintro e W10 ⟨u0, u1, u2, u3, u4, u5, v0, v1, v2, v3, v4, v5, hwa, hwb, rfl, hb⟩
      have R10 := Lib.hid (R9.out.below hb rfl)
      clear hb R9
      obtain ⟨be, q, h1, h2, h3⟩ := closed_all u0 u1 u2 u3 u4 u5 v0 v1 v2 v3 v4 v5
      have L1 := Lib.hid h1
      have L2 := Lib.hid h2
      have L3 := Lib.hid h3
      clear h1 h2 h3
      clear hwa hwb hcd1 hzl1
      go_wp2_with fail
      refine (L2.out _).mono ?_
      rintro e W11 ⟨rfl, hb⟩
      have R11 := Lib.hid (((R10.out.put (W10.heap.size) (by first | rfl | simp) (.cells #[.int .i64 u0, .int .i64 u1, .int .i64 u2, .int .i64 u3, .int .i64 u4, .int .i64 u5] 28)).put (W10.heap.size + 1) (by first | rfl | simp) (.cells #[.int .i64 v0, .int .i64 v1, .int .i64 v2, .int .i64 v3, .int .i64 v4, .int .i64 v5] 28)).below hb rfl)
      clear hb R10
      have zq17 := R11.out.get 1 rfl
      have zc17 := fun j => cell_of_row W11 _ j _ _ _ zq17
      have zl17 := row_lt zq17
      clear zq17
      have zq18 := R11.out.get 0 rfl
      have zc18 := fun j => cell_of_row W11 _ j _ _ _ zq18
      have zl18 := row_lt zq18
      clear zq18
      go_wp2_with fail
      refine (L1.out _).mono ?_
      rintro e W12 ⟨rfl, hb⟩
      have R12 := Lib.hid (R11.out.below hb rfl)
      clear hb R11 zc17 zl17 zc18 zl18
      have zq3 := R12.out.get 7 rfl
      have zc3 := fun j => cell_of_row W12 _ j _ _ _ zq3
      have zl3 := row_lt zq3
      clear zq3
      have zq4 := R12.out.get 6 rfl
      have zc4 := fun j => cell_of_row W12 _ j _ _ _ zq4
      have zl4 := row_lt zq4
      clear zq4
      go_wp2_with fail
      refine (K8.out _).mono ?_
      rintro e W13 ⟨rfl, hb⟩
      have R13 := Lib.hid (R12.out.below hb rfl)
      clear hb R12 zc3 zl3 zc4 zl4
      have zq3 := R13.out.get 7 rfl
      have zc3 := fun j => cell_of_row W13 _ j _ _ _ zq3
      have zl3 := row_lt zq3
      clear zq3
      have zq4 := R13.out.get 6 rfl
      have zc4 := fun j => cell_of_row W13 _ j _ _ _ zq4
      have zl4 := row_lt zq4
      clear zq4
      go_wp2_with fail
      refine (K7.out _).mono ?_
      rintro e W14 ⟨rfl, hb⟩
      have R14 := Lib.hid ((R13.out.put (W13.heap.size) (by first | rfl | simp) (.cells #[.int .i64 l0, .int .i64 l1, .int .i64 l2, .int .i64 l3, .int .i64 l4, .int .i64 l5] 28)).below hb rfl)
      clear hb R13 zc3 zl3 zc4 zl4
      cases q
      · cases t
        · skip
          as_aux_lemma =>
            have zq5 := R14.out.get 6 rfl
            have zc5 := fun j => cell_of_row W14 _ j _ _ _ zq5
            have zl5 := row_lt zq5
            clear zq5
            have zq7 := R14.out.get 5 rfl
            have zc7 := fun j => cell_of_row W14 _ j _ _ _ zq7
            have zl7 := row_lt zq7
            clear zq7
            have zq9 := R14.out.get 4 rfl
            have zc9 := fun j => cell_of_row W14 _ j _ _ _ zq9
            have zl9 := row_lt zq9
            clear zq9
            have zq11 := R14.out.get 3 rfl
            have zc11 := fun j => cell_of_row W14 _ j _ _ _ zq11
            have zl11 := row_lt zq11
            clear zq11
            have zq24 := R14.out.get 0 rfl
            have zc24 := fun j => cell_of_row W14 _ j _ _ _ zq24
            have zl24 := row_lt zq24
            clear zq24
            go_wp2_with fail
            go_ret
            exact ⟨rfl, (R14.out.put (W14.heap.size) (by first | rfl | simp) (.cells #[.int .i64 l0, .int .i64 l1, .int .i64 l2, .int .i64 l3, .int .i64 l4, .int .i64 l5] 28)).1⟩
        · skip
          as_aux_lemma =>
            obtain ⟨h1, h2, h3, h4, ⟨y, z, h5, h6, hyz⟩, h7, hn⟩ := K9.out rfl
            have M1 := Lib.hid h1
            have M2 := Lib.hid h2
            have M3 := Lib.hid h3
            have M4 := Lib.hid h4
            have M5 := Lib.hid h5
            have M6 := Lib.hid h6
            have E4 := Lib.hid h7
            have HY := Lib.hid hyz
            have HN := Lib.hid hn
            clear h1 h2 h3 h4 h5 h6 h7 hyz hn
            clear K9
            have zq5 := R14.out.get 6 rfl
            have zc5 := fun j => cell_of_row W14 _ j _ _ _ zq5
            have zl5 := row_lt zq5
            clear zq5
            have zq7 := R14.out.get 5 rfl
            have zc7 := fun j => cell_of_row W14 _ j _ _ _ zq7
            have zl7 := row_lt zq7
            clear zq7
            have zq9 := R14.out.get 4 rfl
            have zc9 := fun j => cell_of_row W14 _ j _ _ _ zq9
            have zl9 := row_lt zq9
            clear zq9
            have zq11 := R14.out.get 3 rfl
            have zc11 := fun j => cell_of_row W14 _ j _ _ _ zq11
            have zl11 := row_lt zq11
            clear zq11
            have zq24 := R14.out.get 0 rfl
            have zc24 := fun j => cell_of_row W14 _ j _ _ _ zq24
            have zl24 := row_lt zq24
            clear zq24
            have zq4 := R14.out.get 7 rfl
            have zc4 := fun j => cell_of_row W14 _ j _ _ _ zq4
            have zl4 := row_lt zq4
            clear zq4
            go_wp2_with fail
            refine (M1.out _).mono ?_
            rintro e W15 ⟨rfl, hb⟩
            have R15 := Lib.hid ((R14.out.put (W14.heap.size) (by first | rfl | simp) (.cells #[.int .i64 l0, .int .i64 l1, .int .i64 l2, .int .i64 l3, .int .i64 l4, .int .i64 l5] 28)).below hb rfl)
            clear hb R14 zc5 zl5 zc7 zl7 zc9 zl9 zc11 zl11 zc24 zl24 zc4 zl4
            have zq9 := R15.out.get 5 rfl
            have zc9 := fun j => cell_of_row W15 _ j _ _ _ zq9
            have zl9 := row_lt zq9
            clear zq9
            have zq4 := R15.out.get 8 rfl
            have zc4 := fun j => cell_of_row W15 _ j _ _ _ zq4
            have zl4 := row_lt zq4
            clear zq4
            go_wp2_with fail
            refine (M2.out _).mono ?_
            rintro e W16 ⟨rfl, hb⟩
            have R16 := Lib.hid ((R15.out.put (W15.heap.size) (by first | rfl | simp) (.cells #[.int .i64 o0, .int .i64 o1, .int .i64 o2, .int .i64 o3, .int .i64 o4, .int .i64 o5] 28)).below hb rfl)
            clear hb R15 zc9 zl9 zc4 zl4
            have zq5 := R16.out.get 8 rfl
            have zc5 := fun j => cell_of_row W16 _ j _ _ _ zq5
            have zl5 := row_lt zq5
            clear zq5
            have zq3 := R16.out.get 10 rfl
            have zc3 := fun j => cell_of_row W16 _ j _ _ _ zq3
            have zl3 := row_lt zq3
            clear zq3
            go_wp2_with fail
            refine (M3.out _).mono ?_
            rintro e W17 ⟨rfl, hb⟩
            have R17 := Lib.hid ((R16.out.put (W16.heap.size) (by first | rfl | simp) (.cells #[.int .i64 c0, .int .i64 c1, .int .i64 c2, .int .i64 c3, .int .i64 c4, .int .i64 c5] 28)).below hb rfl)
            clear hb R16 zc5 zl5 zc3 zl3
            have zq3 := R17.out.get 11 rfl
            have zc3 := fun j => cell_of_row W17 _ j _ _ _ zq3
            have zl3 := row_lt zq3
            clear zq3
            have zq9 := R17.out.get 7 rfl
            have zc9 := fun j => cell_of_row W17 _ j _ _ _ zq9
            have zl9 := row_lt zq9
            clear zq9
            go_wp2_with fail
            refine (M4.out _).mono ?_
            rintro e W18 ⟨rfl, hb⟩
            have R18 := Lib.hid (R17.out.below hb rfl)
            clear hb R17 zc3 zl3 zc9 zl9
            have zq24 := R18.out.get 3 rfl
            have zc24 := fun j => cell_of_row W18 _ j _ _ _ zq24
            have zl24 := row_lt zq24
            clear zq24
            go_wp2_with fail
            refine (M5.out _).mono ?_
            rintro e W19 ⟨rfl, hb⟩
            have R19 := Lib.hid (R18.out.below hb rfl)
            clear hb R18 zc24 zl24
            have zq3 := R19.out.get 11 rfl
            have zc3 := fun j => cell_of_row W19 _ j _ _ _ zq3
            have zl3 := row_lt zq3
            clear zq3
            go_wp2_with fail
            refine (M6.out _).mono ?_
            rintro e W20 ⟨rfl, hb⟩
            have R20 := Lib.hid (R19.out.below hb rfl)
            clear hb R19 zc3 zl3
            have E4 := E4.out
            have hn := HN.out
            rcases HY.out with ⟨rfl, rfl⟩ | ⟨hy, hz⟩
            · skip
              have zq31 := R20.out.get 1 rfl
              have zc31 := fun j => cell_of_row W20 _ j _ _ _ zq31
              have zl31 := row_lt zq31
              clear zq31
              have zq5 := R20.out.get 9 rfl
              have zc5 := fun j => cell_of_row W20 _ j _ _ _ zq5
              have zl5 := row_lt zq5
              clear zq5
              have zq33 := R20.out.get 0 rfl
              have zc33 := fun j => cell_of_row W20 _ j _ _ _ zq33
              have zl33 := row_lt zq33
              clear zq33
              have zq9 := R20.out.get 7 rfl
              have zc9 := fun j => cell_of_row W20 _ j _ _ _ zq9
              have zl9 := row_lt zq9
              clear zq9
              have zq3 := R20.out.get 11 rfl
              have zc3 := fun j => cell_of_row W20 _ j _ _ _ zq3
              have zl3 := row_lt zq3
              clear zq3
              go_wp2_with fail
              go_ret
              exact ⟨rfl, R20.out.1⟩
            · skip
              have hyb : (y == 0) = false := beq_eq_false_iff_ne.mpr hy
              have hzb : (z == 0) = false := beq_eq_false_iff_ne.mpr hz
              have zq31 := R20.out.get 1 rfl
              have zc31 := fun j => cell_of_row W20 _ j _ _ _ zq31
              have zl31 := row_lt zq31
              clear zq31
              have zq5 := R20.out.get 9 rfl
              have zc5 := fun j => cell_of_row W20 _ j _ _ _ zq5
              have zl5 := row_lt zq5
              clear zq5
              have zq33 := R20.out.get 0 rfl
              have zc33 := fun j => cell_of_row W20 _ j _ _ _ zq33
              have zl33 := row_lt zq33
              clear zq33
              have zq9 := R20.out.get 7 rfl
              have zc9 := fun j => cell_of_row W20 _ j _ _ _ zq9
              have zl9 := row_lt zq9
              clear zq9
              have zq3 := R20.out.get 11 rfl
              have zc3 := fun j => cell_of_row W20 _ j _ _ _ zq3
              have zl3 := row_lt zq3
              clear zq3
              go_wp2_with fail
              go_ret
              exact ⟨by first | rfl | (rw [hyb, hzb]; rfl) | (simp [hyb, hzb]; done) | (simp [go_sem, hyb, hzb]; done), R20.out.1⟩
      · cases t
        · skip
          as_aux_lemma =>
            obtain ⟨d0, d1, d2, d3, d4, d5, h3, h4⟩ := L3.out rfl
            have L4 := Lib.hid h3
            have E3 := Lib.hid h4
            clear h3 h4 L3
            have zq5 := R14.out.get 6 rfl
            have zc5 := fun j => cell_of_row W14 _ j _ _ _ zq5
            have zl5 := row_lt zq5
            clear zq5
            have zq7 := R14.out.get 5 rfl
            have zc7 := fun j => cell_of_row W14 _ j _ _ _ zq7
            have zl7 := row_lt zq7
            clear zq7
            have zq9 := R14.out.get 4 rfl
            have zc9 := fun j => cell_of_row W14 _ j _ _ _ zq9
            have zl9 := row_lt zq9
            clear zq9
            have zq11 := R14.out.get 3 rfl
            have zc11 := fun j => cell_of_row W14 _ j _ _ _ zq11
            have zl11 := row_lt zq11
            clear zq11
            have zq24 := R14.out.get 0 rfl
            have zc24 := fun j => cell_of_row W14 _ j _ _ _ zq24
            have zl24 := row_lt zq24
            clear zq24
            have zq17 := R14.out.get 2 rfl
            have zc17 := fun j => cell_of_row W14 _ j _ _ _ zq17
            have zl17 := row_lt zq17
            clear zq17
            have zq18 := R14.out.get 1 rfl
            have zc18 := fun j => cell_of_row W14 _ j _ _ _ zq18
            have zl18 := row_lt zq18
            clear zq18
            go_wp2_with fail
            refine (L4.out _).mono ?_
            rintro e W15 ⟨rfl, hb⟩
            have R15 := Lib.hid ((R14.out.put (W14.heap.size) (by first | rfl | simp) (.cells #[.int .i64 l0, .int .i64 l1, .int .i64 l2, .int .i64 l3, .int .i64 l4, .int .i64 l5] 28)).below hb rfl)
            clear hb R14 zc5 zl5 zc7 zl7 zc9 zl9 zc11 zl11 zc24 zl24 zc17 zl17 zc18 zl18
            have E3 := E3.out
            have zq17 := R15.out.get 3 rfl
            have zc17 := fun j => cell_of_row W15 _ j _ _ _ zq17
            have zl17 := row_lt zq17
            clear zq17
            go_wp2_with fail
            go_ret
            exact ⟨rfl, (R15.out.put (W15.heap.size) (by first | rfl | simp) (.cells #[.int .i64 d0, .int .i64 d1, .int .i64 d2, .int .i64 d3, .int .i64 d4, .int .i64 d5] 28)).1⟩
        · skip
          as_aux_lemma =>
            obtain ⟨d0, d1, d2, d3, d4, d5, h3, h4⟩ := L3.out rfl
            have L4 := Lib.hid h3
            have E3 := Lib.hid h4
            clear h3 h4 L3
            obtain ⟨h1, h2, h3, h4, ⟨y, z, h5, h6, hyz⟩, h7, hn⟩ := K9.out rfl
            have M1 := Lib.hid h1
            have M2 := Lib.hid h2
            have M3 := Lib.hid h3
            have M4 := Lib.hid h4
            have M5 := Lib.hid h5
            have M6 := Lib.hid h6
            have E4 := Lib.hid h7
            have HY := Lib.hid hyz
            have HN := Lib.hid hn
            clear h1 h2 h3 h4 h5 h6 h7 hyz hn
            clear K9
            have zq5 := R14.out.get 6 rfl
            have zc5 := fun j => cell_of_row W14 _ j _ _ _ zq5
            have zl5 := row_lt zq5
            clear zq5
            have zq7 := R14.out.get 5 rfl
            have zc7 := fun j => cell_of_row W14 _ j _ _ _ zq7
            have zl7 := row_lt zq7
            clear zq7
            have zq9 := R14.out.get 4 rfl
            have zc9 := fun j => cell_of_row W14 _ j _ _ _ zq9
            have zl9 := row_lt zq9
            clear zq9
            have zq11 := R14.out.get 3 rfl
            have zc11 := fun j => cell_of_row W14 _ j _ _ _ zq11
            have zl11 := row_lt zq11
            clear zq11
            have zq24 := R14.out.get 0 rfl
            have zc24 := fun j => cell_of_row W14 _ j _ _ _ zq24
            have zl24 := row_lt zq24
            clear zq24
            have zq17 := R14.out.get 2 rfl
            have zc17 := fun j => cell_of_row W14 _ j _ _ _ zq17
            have zl17 := row_lt zq17
            clear zq17
            have zq18 := R14.out.get 1 rfl
            have zc18 := fun j => cell_of_row W14 _ j _ _ _ zq18
            have zl18 := row_lt zq18
            clear zq18
            go_wp2_with fail
            refine (L4.out _).mono ?_
            rintro e W15 ⟨rfl, hb⟩
            have R15 := Lib.hid ((R14.out.put (W14.heap.size) (by first | rfl | simp) (.cells #[.int .i64 l0, .int .i64 l1, .int .i64 l2, .int .i64 l3, .int .i64 l4, .int .i64 l5] 28)).below hb rfl)
            clear hb R14 zc5 zl5 zc7 zl7 zc9 zl9 zc11 zl11 zc24 zl24 zc17 zl17 zc18 zl18
            have E3 := E3.out
            have zq17 := R15.out.get 3 rfl
            have zc17 := fun j => cell_of_row W15 _ j _ _ _ zq17
            have zl17 := row_lt zq17
            clear zq17
            have zq5 := R15.out.get 7 rfl
            have zc5 := fun j => cell_of_row W15 _ j _ _ _ zq5
            have zl5 := row_lt zq5
            clear zq5
            have zq4 := R15.out.get 8 rfl
            have zc4 := fun j => cell_of_row W15 _ j _ _ _ zq4
            have zl4 := row_lt zq4
            clear zq4
            go_wp2_with fail
            refine (M1.out _).mono ?_
            rintro e W16 ⟨rfl, hb⟩
            have R16 := Lib.hid ((R15.out.put (W15.heap.size) (by first | rfl | simp) (.cells #[.int .i64 d0, .int .i64 d1, .int .i64 d2, .int .i64 d3, .int .i64 d4, .int .i64 d5] 28)).below hb rfl)
            clear hb R15 zc17 zl17 zc5 zl5 zc4 zl4
            have zq9 := R16.out.get 6 rfl
            have zc9 := fun j => cell_of_row W16 _ j _ _ _ zq9
            have zl9 := row_lt zq9
            clear zq9
            have zq4 := R16.out.get 9 rfl
            have zc4 := fun j => cell_of_row W16 _ j _ _ _ zq4
            have zl4 := row_lt zq4
            clear zq4
            go_wp2_with fail
            refine (M2.out _).mono ?_
            rintro e W17 ⟨rfl, hb⟩
            have R17 := Lib.hid ((R16.out.put (W16.heap.size) (by first | rfl | simp) (.cells #[.int .i64 o0, .int .i64 o1, .int .i64 o2, .int .i64 o3, .int .i64 o4, .int .i64 o5] 28)).below hb rfl)
            clear hb R16 zc9 zl9 zc4 zl4
            have zq5 := R17.out.get 9 rfl
            have zc5 := fun j => cell_of_row W17 _ j _ _ _ zq5
            have zl5 := row_lt zq5
            clear zq5
            have zq3 := R17.out.get 11 rfl
            have zc3 := fun j => cell_of_row W17 _ j _ _ _ zq3
            have zl3 := row_lt zq3
            clear zq3
            go_wp2_with fail
            refine (M3.out _).mono ?_
            rintro e W18 ⟨rfl, hb⟩
            have R18 := Lib.hid ((R17.out.put (W17.heap.size) (by first | rfl | simp) (.cells #[.int .i64 c0, .int .i64 c1, .int .i64 c2, .int .i64 c3, .int .i64 c4, .int .i64 c5] 28)).below hb rfl)
            clear hb R17 zc5 zl5 zc3 zl3
            have zq3 := R18.out.get 12 rfl
            have zc3 := fun j => cell_of_row W18 _ j _ _ _ zq3
            have zl3 := row_lt zq3
            clear zq3
            have zq9 := R18.out.get 8 rfl
            have zc9 := fun j => cell_of_row W18 _ j _ _ _ zq9
            have zl9 := row_lt zq9
            clear zq9
            go_wp2_with fail
            refine (M4.out _).mono ?_
            rintro e W19 ⟨rfl, hb⟩
            have R19 := Lib.hid (R18.out.below hb rfl)
            clear hb R18 zc3 zl3 zc9 zl9
            have zq24 := R19.out.get 4 rfl
            have zc24 := fun j => cell_of_row W19 _ j _ _ _ zq24
            have zl24 := row_lt zq24
            clear zq24
            go_wp2_with fail
            refine (M5.out _).mono ?_
            rintro e W20 ⟨rfl, hb⟩
            have R20 := Lib.hid (R19.out.below hb rfl)
            clear hb R19 zc24 zl24
            have zq3 := R20.out.get 12 rfl
            have zc3 := fun j => cell_of_row W20 _ j _ _ _ zq3
            have zl3 := row_lt zq3
            clear zq3
            go_wp2_with fail
            refine (M6.out _).mono ?_
            rintro e W21 ⟨rfl, hb⟩
            have R21 := Lib.hid (R20.out.below hb rfl)
            clear hb R20 zc3 zl3
            have E4 := E4.out
            have hn := HN.out
            rcases HY.out with ⟨rfl, rfl⟩ | ⟨hy, hz⟩
            · skip
              have zq31 := R21.out.get 1 rfl
              have zc31 := fun j => cell_of_row W21 _ j _ _ _ zq31
              have zl31 := row_lt zq31
              clear zq31
              have zq5 := R21.out.get 10 rfl
              have zc5 := fun j => cell_of_row W21 _ j _ _ _ zq5
              have zl5 := row_lt zq5
              clear zq5
              have zq33 := R21.out.get 0 rfl
              have zc33 := fun j => cell_of_row W21 _ j _ _ _ zq33
              have zl33 := row_lt zq33
              clear zq33
              have zq9 := R21.out.get 8 rfl
              have zc9 := fun j => cell_of_row W21 _ j _ _ _ zq9
              have zl9 := row_lt zq9
              clear zq9
              have zq3 := R21.out.get 12 rfl
              have zc3 := fun j => cell_of_row W21 _ j _ _ _ zq3
              have zl3 := row_lt zq3
              clear zq3
              go_wp2_with fail
              go_ret
              exact ⟨rfl, R21.out.1⟩
            · skip
              have hyb : (y == 0) = false := beq_eq_false_iff_ne.mpr hy
              have hzb : (z == 0) = false := beq_eq_false_iff_ne.mpr hz
              have zq31 := R21.out.get 1 rfl
              have zc31 := fun j => cell_of_row W21 _ j _ _ _ zq31
              have zl31 := row_lt zq31
              clear zq31
              have zq5 := R21.out.get 10 rfl
              have zc5 := fun j => cell_of_row W21 _ j _ _ _ zq5
              have zl5 := row_lt zq5
              clear zq5
              have zq33 := R21.out.get 0 rfl
              have zc33 := fun j => cell_of_row W21 _ j _ _ _ zq33
              have zl33 := row_lt zq33
              clear zq33
              have zq9 := R21.out.get 8 rfl
              have zc9 := fun j => cell_of_row W21 _ j _ _ _ zq9
              have zl9 := row_lt zq9
              clear zq9
              have zq3 := R21.out.get 12 rfl
              have zc3 := fun j => cell_of_row W21 _ j _ _ _ zq3
              have zl3 := row_lt zq3
              clear zq3
              go_wp2_with fail
              go_ret
              exact ⟨by first | rfl | (rw [hyb, hzb]; rfl) | (simp [hyb, hzb]; done) | (simp [go_sem, hyb, hzb]; done), R21.out.1⟩
end Go.Proofs.Ytbmfjcmlgndofaa
