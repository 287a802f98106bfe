/- THE WALK of FnClasses. -/
import Derived.Test.YtpmhnikilianoaaDk7
import Derived.Test.YtpmhnikilianoaaD7
import Derived.Test.YtpmhnikilianoaaVr
import Derived.Test.YtpmhnikilianoaaBg7
import Derived.WalkKit
import Derived.ProofKit
import Derived.OpenShut
import Derived.Lib.Hide
import Derived.WalkSpells
import Derived.Below
import Derived.BigQuiet
import Derived.LoopN
namespace Go.Proofs.Ytpmhnikilianoaa
open Go.ChangeShapes Go.WideShapes Go.ChangeAt Go.RowKit
set_option linter.unusedVariables false
theorem kz_sym : ∀ a b : Fin 6, ∀ s : Fin 37, kz a.val b.val (36 - s.val) = kz a.val b.val s.val := by decide +kernel
theorem kz_pos : ∀ a b : Fin 6, ∀ s : Fin 37, (0 < kz a.val b.val s.val ∧ s.val % vo a.val b.val = 0) ∨ (kz a.val b.val s.val = 0 ∧ s.val % vo a.val b.val ≠ 0) := by decide +kernel
theorem kz_fin : ∀ a b : Fin 6, ∀ s : Fin 37, kz a.val b.val s.val < 4611686018427387904 := by decide +kernel
theorem sk_36 : ∀ s : Fin 37, sk s.val 36 = 36 * (sk s.val 36 / 36) := by decide +kernel
theorem sk_sym : ∀ s : Fin 37, sk (36 - s.val) 36 = sk s.val 36 := by decide +kernel
theorem sk_one : sk 1 36 / 36 = 1 := by decide +kernel
/-- All that the law wants of the first draw. -/
theorem kept_all (x y s : Int) (hx : (Lit.int .i64 x).wf = true) (hy : (Lit.int .i64 y).wf = true) : ∃ (k o : Int) (t u : Bool), (∀ w, Calls Try.prog 58 #[.agg #[.int .i64 x, .int .i64 y], .int .i64 s] w fun e w' => e = .returned (.tuple #[.int .i64 k, .bool t]) ∧ Below w.heap.size w w') ∧ (∀ w, Calls Try.prog 57 #[.agg #[.int .i64 x, .int .i64 y], .int .i64 s] w fun e w' => e = .returned (.tuple #[.int .i64 k, .bool t]) ∧ Below w.heap.size w w') ∧ (∀ w, Calls Try.prog 56 #[.agg #[.int .i64 x, .int .i64 y]] w fun e w' => e = .returned (.tuple #[.int .i64 o, .bool u]) ∧ Below w.heap.size w w') ∧ (∀ w, Calls Try.prog 54 #[.agg #[.int .i64 x, .int .i64 y]] w fun e w' => e = .returned (.tuple #[.int .i64 o, .bool u]) ∧ Below w.heap.size w w') ∧ 0 ≤ k ∧ k < 4611686018427387904 ∧
    (t = true → u = true ∧ 0 ≤ s ∧ s ≤ 36 ∧ (∀ w, Calls Try.prog 58 #[.agg #[.int .i64 x, .int .i64 y], .int .i64 (36 - s)] w fun e w' => e = .returned (.tuple #[.int .i64 k, .bool true]) ∧ Below w.heap.size w w') ∧ ((0 < k ∧ s.tmod o = 0) ∨ (k = 0 ∧ s.tmod o ≠ 0))) ∧
    (u = true → 1 ≤ o ∧ o ≤ 6 ∧ (6 : Int).tmod o = 0 ∧ (wrap64 (o * x)).tmod 6 = 0 ∧ (wrap64 (o * y)).tmod 6 = 0) := by
  cases hv : okc x y
  · refine ⟨0, 0, false, false, ikeptof_no0 x y s hx hy hv, skept_no0 x y s hx hy hv, iorderof_no0 x y hx hy hv, sorder_no0 x y hx hy hv, by omega, by omega, fun h => absurd h (by decide), fun h => absurd h (by decide)⟩
  · obtain ⟨a, b, rfl, rfl, ha, hb⟩ := okc_nat hv
    have hg := vo_ge ha hb
    have hd := vo_div ⟨a, ha⟩ ⟨b, hb⟩
    have hy2 := vo_yes ha hb
    have U : 1 ≤ (vo a b : Int) ∧ (vo a b : Int) ≤ 6 ∧ (6 : Int).tmod (vo a b : Int) = 0 ∧ (wrap64 ((vo a b : Int) * (a : Int))).tmod 6 = 0 ∧ (wrap64 ((vo a b : Int) * (b : Int))).tmod 6 = 0 := by
      refine ⟨by omega, by omega, ?_, ?_, ?_⟩
      · rw [Int.tmod_eq_emod_of_nonneg (by omega)]
        have : 6 % vo a b = 0 := hd
        rw [show ((6 : Int) % (vo a b : Int)) = ((6 % vo a b : Nat) : Int) from rfl, this]; rfl
      · have h5 : vo a b * a ≤ 6 * 5 := Nat.mul_le_mul hg.2 (by omega)
        rw [show wrap64 ((vo a b : Int) * (a : Int)) = ((vo a b * a : Nat) : Int) by rw [← Int.natCast_mul]; generalize vo a b * a = m at *; unfold wrap64; omega]
        rw [Int.tmod_eq_emod_of_nonneg (by omega)]
        have := hy2.1
        omega
      · have h5 : vo a b * b ≤ 6 * 5 := Nat.mul_le_mul hg.2 (by omega)
        rw [show wrap64 ((vo a b : Int) * (b : Int)) = ((vo a b * b : Nat) : Int) by rw [← Int.natCast_mul]; generalize vo a b * b = m at *; unfold wrap64; omega]
        rw [Int.tmod_eq_emod_of_nonneg (by omega)]
        have := hy2.2
        omega
    cases hs : (decide (0 ≤ s) && decide (s ≤ 36))
    · exact ⟨0, _, false, true, ikeptof_no1 a b s hx hy hv hs, skept_no1 a b s hx hy hv hs, iorderof_yes a b ha hb, sorder_yes a b ha hb, by omega, by omega, fun h => absurd h (by decide), fun _ => U⟩
    · obtain ⟨s, rfl, h36⟩ := s36_nat hs
      have hk := kz_fin ⟨a, ha⟩ ⟨b, hb⟩ ⟨s, by omega⟩
      have hp := kz_pos ⟨a, ha⟩ ⟨b, hb⟩ ⟨s, by omega⟩
      have hm := kz_sym ⟨a, ha⟩ ⟨b, hb⟩ ⟨s, by omega⟩
      dsimp only at hk hp hm
      have hr := ikeptof_yes a b (36 - s) ha hb (by omega)
      rw [hm, show ((36 - s : Nat) : Int) = 36 - (s : Int) by omega] at hr
      have ht : (s : Int).tmod (vo a b : Int) = ((s % vo a b : Nat) : Int) := by rw [Int.tmod_eq_emod_of_nonneg (by omega)]; rfl
      refine ⟨_, _, true, true, ikeptof_yes a b s ha hb h36, skept_yes a b s ha hb h36, iorderof_yes a b ha hb, sorder_yes a b ha hb, by omega, by omega, fun _ => ⟨rfl, by omega, by omega, hr, ?_⟩, fun _ => U⟩
      rw [ht]
      omega
/-- All that the law wants of the second draw. -/
theorem classes_all (n : Int) : ∃ (m : Int) (q : Bool), (∀ w, Calls Try.prog 60 #[.int .i64 n] w fun e w' => e = .returned (.tuple #[.int .i64 m, .bool q]) ∧ Below w.heap.size w w') ∧ (∀ w, Calls Try.prog 59 #[.int .i64 n] w fun e w' => e = .returned (.tuple #[.int .i64 m, .bool q]) ∧ Below w.heap.size w w') ∧ 0 ≤ m ∧ m < 4611686018427387904 ∧ (q = true → ∃ s : Nat, n = s ∧ s ≤ 36 ∧ (∀ w, Calls Try.prog 60 #[.int .i64 (36 - n)] w fun e w' => e = .returned (.tuple #[.int .i64 m, .bool true]) ∧ Below w.heap.size w w') ∧ 36 * m < 4611686018427387904 ∧ ((sk s 36 : Nat) : Int) = 36 * m ∧ (s = 1 → m = 1)) := by
  cases hs : (decide (0 ≤ n) && decide (n ≤ 36))
  · exact ⟨0, false, iclasses_no n hs, sclasses_no n hs, by omega, by omega, fun h => absurd h (by decide)⟩
  · obtain ⟨s, rfl, h36⟩ := s36_nat hs
    have hl := sk_lt h36 (Nat.le_refl 36)
    have h1 := sk_36 ⟨s, by omega⟩
    have h2 := sk_sym ⟨s, by omega⟩
    dsimp only at h1 h2
    have hr := iclasses_yes (36 - s) (by omega)
    rw [h2, show ((36 - s : Nat) : Int) = 36 - (s : Int) by omega] at hr
    refine ⟨_, true, iclasses_yes s h36, sclasses_yes s h36, by omega, by omega, fun _ => ⟨s, rfl, h36, hr, by omega, by omega, fun e => ?_⟩⟩
    subst e
    rw [sk_one]; rfl
def ov7 (x y : Int) : Obj := .cells #[.int .i64 x, .int .i64 y] 37 (0, 0)
set_option maxRecDepth 8000 in
set_option maxHeartbeats 16000000 in
theorem classes_law (A : Option Addr) (len cap : Nat) (zs : List Int) (w : World) (hcode : CodeIn w w.heap.size A len zs) (hsl : SlOk A len cap) (hl : len ≤ 65536) : Calls Try.prog 18 #[.slice A len cap] w fun e w' => e = .returned (.bool true) ∧ Below w.heap.size w w' := by
  have HC := Lib.hid hcode
  have HB0 := Lib.hid (fun w => big_no A len cap hl w)
  go_enter Try.func18, Try.ntmps18
  go_wp2_with fail
  refine (HB0.out _).mono ?_
  rintro e w1 ⟨rfl, hw⟩
  obtain rfl := hw.symm
  clear hw HB0
  go_wp2_with fail
  refine (draw_kept w.heap.size A len cap zs w HC.out (Nat.le_refl _) hl).mono ?_
  rintro e W1 ⟨x, y, s, rfl, hx, hy, hs, hb⟩
  obtain ⟨k, o, t, u, h1, h2, h3, h4, hk0, hk1, h5, h6⟩ := kept_all x y s hx hy
  have K1 := Lib.hid h1
  have K2 := Lib.hid h2
  have K3 := Lib.hid h3
  have K4 := Lib.hid h4
  have K5 := Lib.hid h5
  have K6 := Lib.hid h6
  clear h1 h2 h3 h4 h5 h6
  go_wp2_with fail
  have Q1 : Hid ((W1.alloc (.cells #[.int .i64 x, .int .i64 y] 37)).heap[W1.heap.size]? = some (ov7 x y) ∧ W1.heap.size < (W1.alloc (.cells #[.int .i64 x, .int .i64 y] 37)).heap.size ∧ Below w.heap.size w (W1.alloc (.cells #[.int .i64 x, .int .i64 y] 37))) := Lib.hid ⟨alloc_at rfl, by simp, hb.alloc hb.size _⟩
  clear hb
  have QS := fun (W W' : World) (g N : Nat) (h : W.heap[g]? = some (ov7 x y) ∧ g < W.heap.size ∧ Below w.heap.size w W) (hb : Below N W W') (hN : N = W.heap.size) => show W'.heap[g]? = some (ov7 x y) ∧ g < W'.heap.size ∧ Below w.heap.size w W' from ⟨row_keep hb (hN ▸ h.2.1) h.1, Nat.lt_of_lt_of_le h.2.1 hb.size, below_of h.2.2 hb (hN ▸ h.2.2.size)⟩
  have QS := Lib.hid QS
  generalize (World.alloc _ _ : World) = X1 at Q1 ⊢
  generalize W1.heap.size = g at Q1 ⊢
  refine (K1.out _).mono ?_
  rintro e W2 ⟨rfl, hb⟩
  have Q2 := Lib.hid (QS.out _ _ _ _ Q1.out hb rfl)
  clear hb Q1
  have c_c := fun j => cell_of_row W2 _ j _ _ _ Q2.out.1
  go_wp2_with fail
  clear c_c K1
  refine (K2.out _).mono ?_
  rintro e W3 ⟨rfl, hb⟩
  have Q3 := Lib.hid (QS.out _ _ _ _ Q2.out hb rfl)
  clear hb Q2
  have c_c := fun j => cell_of_row W3 _ j _ _ _ Q3.out.1
  go_wp2_with fail
  clear c_c K2
  refine (K3.out _).mono ?_
  rintro e W4 ⟨rfl, hb⟩
  have Q4 := Lib.hid (QS.out _ _ _ _ Q3.out hb rfl)
  clear hb Q3
  have c_c := fun j => cell_of_row W4 _ j _ _ _ Q4.out.1
  go_wp2_with fail
  clear c_c K3
  refine (K4.out _).mono ?_
  rintro e W5 ⟨rfl, hb⟩
  have Q5 := Lib.hid (QS.out _ _ _ _ Q4.out hb rfl)
  clear hb Q4
  clear K4
  go_wp2_with fail
  refine (vcut_all A len cap zs w HC.out hsl hl 1 (by omega) (by omega) W5 Q5.out.2.2).mono ?_
  rintro e W6 ⟨g1, c1, zs1, hzl, hcd, rfl, hb⟩
  have Q6 := Lib.hid (QS.out _ _ _ _ Q5.out hb rfl)
  clear hb Q5 HC
  go_wp2_with fail
  refine (draw_classes W6.heap.size (some ⟨g1, 0, none⟩) zs1.length c1 zs1 W6 hcd (Nat.le_refl _) hzl).mono ?_
  rintro e W7 ⟨n, rfl, hn, hb⟩
  have Q7 := Lib.hid (QS.out _ _ _ _ Q6.out hb rfl)
  clear hb Q6 hcd hzl
  obtain ⟨m, q, h1, h2, hm0, hm1, h3⟩ := classes_all n
  have L1 := Lib.hid h1
  have L2 := Lib.hid h2
  have L3 := Lib.hid h3
  clear h1 h2 h3
  go_wp2_with fail
  refine (L1.out _).mono ?_
  rintro e W8 ⟨rfl, hb⟩
  have Q8 := Lib.hid (QS.out _ _ _ _ Q7.out hb rfl)
  clear hb Q7
  clear L1
  go_wp2_with fail
  refine (L2.out _).mono ?_
  rintro e W9 ⟨rfl, hb⟩
  have Q9 := Lib.hid (QS.out _ _ _ _ Q8.out hb rfl)
  clear hb Q8
  have c_c := fun j => cell_of_row W9 _ j _ _ _ Q9.out.1
  clear L2
  cases t
  · cases u
    · cases q
      · as_aux_lemma =>
          clear c_c L3
          go_wp2_with fail
          go_ret
          exact ⟨rfl, Q9.out.2.2⟩
      · as_aux_lemma =>
          obtain ⟨sn, rfl, h36, h7, hmb, hsum, h1⟩ := L3.out rfl
          have L4 := Lib.hid h7
          have HSUM := Lib.hid hsum
          have H1 := Lib.hid h1
          clear h7 hsum h1 L3 c_c
          go_wp2_with fail
          refine (L4.out _).mono ?_
          rintro e W11 ⟨rfl, hb⟩
          have Q11 := Lib.hid (QS.out _ _ _ _ Q9.out hb rfl)
          clear hb Q9
          clear L4
          have HB := Lib.hid Q11.out.2.2
          clear Q11 QS
          have HLT := fun k hk => @sk_lt sn k h36 hk
          have HLT := Lib.hid HLT
          have HKK := fun a b ha hb => ikeptof_yes a b sn ha hb h36
          have HKK := Lib.hid HKK
          go_wp2_with fail
          go_loopw [22, 23] (fun v c wr => ∃ a : Nat, a ≤ 6 ∧ c = .int .i64 a ∧ v = .int .i64 ((sk sn (6 * a) : Nat) : Int) ∧ Hid (Below w.heap.size w wr)) (fun _ c _ => 6 - (intOf c).toNat)
          case atStart => exact ⟨0, by omega, rfl, rfl, HB⟩
          case round =>
            obtain ⟨a, ha, rfl, rfl, HX⟩ := hrel
            by_cases hla : a < 6
            · have hla' : (a : Int) < 6 := by omega
              have hla2 : decide ((a : Int) < (6 : Int)) = true := decide_eq_true hla'
              go_wp2_with fail
              try rw [hla2]
              clear hla2
              go_loopw [22, 24] (fun v c wr => ∃ b : Nat, b ≤ 6 ∧ c = .int .i64 b ∧ v = .int .i64 ((sk sn (6 * a + b) : Nat) : Int) ∧ Hid (Below w.heap.size w wr)) (fun _ c _ => 6 - (intOf c).toNat)
              case atStart => exact ⟨0, by omega, rfl, rfl, HX⟩
              case round =>
                obtain ⟨b, hb, rfl, rfl, HY⟩ := hrel
                by_cases hlb : b < 6
                · have hlb' : (b : Int) < 6 := by omega
                  have HKxy := Lib.hid (HKK.out a b hla hlb)
                  have h1 := @sk_xy sn a b hlb
                  have h2 := HLT.out (6 * a + b + 1) (by omega)
                  rw [h1] at h2
                  have HE := Lib.hid h1
                  generalize sk sn (6 * a + b) = c at h2 HE ⊢
                  generalize kz a b sn = d at h2 HE HKxy ⊢
                  clear h1
                  go_wp2_with fail
                  refine (HKxy.out _).mono ?_
                  rintro e w' ⟨rfl, hbb⟩
                  have HZ := Lib.hid (below_of HY.out hbb HY.out.size)
                  clear hbb HY
                  go_wp2_with fail
                  go_roundw
                  case rel => exact ⟨b + 1, by omega, by go_num, by rw [show 6 * a + (b + 1) = 6 * a + b + 1 from rfl, HE.out]; go_num, HZ⟩
                  case measure => simp [intOf]; omega
                · obtain rfl : b = 6 := by omega
                  go_wp2_with fail
                  go_roundw
                  case rel => exact ⟨a + 1, by omega, by go_num, rfl, HY⟩
                  case measure => simp [intOf]; omega
            · obtain rfl : a = 6 := by omega
              have hsum : ((sk sn (6 * 6) : Nat) : Int) = 36 * m := HSUM.out
              by_cases h11 : sn = 1
              · have hm1' := H1.out h11
                subst h11
                subst hm1'
                rw [hsum]
                clear HSUM H1 hsum
                go_wp2_with fail
                go_ret
                exact ⟨rfl, HX.out⟩
              · rw [hsum]
                have h11' : ¬ ((sn : Int) = 1) := by omega
                clear HSUM H1 hsum
                go_wp2_with fail
                go_ret
                exact ⟨rfl, HX.out⟩
    · obtain ⟨ho1, ho6, hd6, hx6, hy6⟩ := K6.out rfl
      have ho : ¬ (o = 0) := by omega
      clear K5 K6
      cases q
      · as_aux_lemma =>
          clear L3
          go_wp2_with fail
          go_ret
          exact ⟨rfl, Q9.out.2.2⟩
      · as_aux_lemma =>
          obtain ⟨sn, rfl, h36, h7, hmb, hsum, h1⟩ := L3.out rfl
          have L4 := Lib.hid h7
          have HSUM := Lib.hid hsum
          have H1 := Lib.hid h1
          clear h7 hsum h1 L3
          go_wp2_with fail
          refine (L4.out _).mono ?_
          rintro e W11 ⟨rfl, hb⟩
          have Q11 := Lib.hid (QS.out _ _ _ _ Q9.out hb rfl)
          clear hb Q9
          clear L4
          have HB := Lib.hid Q11.out.2.2
          clear Q11 QS
          have HLT := fun k hk => @sk_lt sn k h36 hk
          have HLT := Lib.hid HLT
          have HKK := fun a b ha hb => ikeptof_yes a b sn ha hb h36
          have HKK := Lib.hid HKK
          go_wp2_with fail
          go_loopw [22, 23] (fun v c wr => ∃ a : Nat, a ≤ 6 ∧ c = .int .i64 a ∧ v = .int .i64 ((sk sn (6 * a) : Nat) : Int) ∧ Hid (Below w.heap.size w wr)) (fun _ c _ => 6 - (intOf c).toNat)
          case atStart => exact ⟨0, by omega, rfl, rfl, HB⟩
          case round =>
            obtain ⟨a, ha, rfl, rfl, HX⟩ := hrel
            by_cases hla : a < 6
            · have hla' : (a : Int) < 6 := by omega
              have hla2 : decide ((a : Int) < (6 : Int)) = true := decide_eq_true hla'
              go_wp2_with fail
              try rw [hla2]
              clear hla2
              go_loopw [22, 24] (fun v c wr => ∃ b : Nat, b ≤ 6 ∧ c = .int .i64 b ∧ v = .int .i64 ((sk sn (6 * a + b) : Nat) : Int) ∧ Hid (Below w.heap.size w wr)) (fun _ c _ => 6 - (intOf c).toNat)
              case atStart => exact ⟨0, by omega, rfl, rfl, HX⟩
              case round =>
                obtain ⟨b, hb, rfl, rfl, HY⟩ := hrel
                by_cases hlb : b < 6
                · have hlb' : (b : Int) < 6 := by omega
                  have HKxy := Lib.hid (HKK.out a b hla hlb)
                  have h1 := @sk_xy sn a b hlb
                  have h2 := HLT.out (6 * a + b + 1) (by omega)
                  rw [h1] at h2
                  have HE := Lib.hid h1
                  generalize sk sn (6 * a + b) = c at h2 HE ⊢
                  generalize kz a b sn = d at h2 HE HKxy ⊢
                  clear h1
                  go_wp2_with fail
                  refine (HKxy.out _).mono ?_
                  rintro e w' ⟨rfl, hbb⟩
                  have HZ := Lib.hid (below_of HY.out hbb HY.out.size)
                  clear hbb HY
                  go_wp2_with fail
                  go_roundw
                  case rel => exact ⟨b + 1, by omega, by go_num, by rw [show 6 * a + (b + 1) = 6 * a + b + 1 from rfl, HE.out]; go_num, HZ⟩
                  case measure => simp [intOf]; omega
                · obtain rfl : b = 6 := by omega
                  go_wp2_with fail
                  go_roundw
                  case rel => exact ⟨a + 1, by omega, by go_num, rfl, HY⟩
                  case measure => simp [intOf]; omega
            · obtain rfl : a = 6 := by omega
              have hsum : ((sk sn (6 * 6) : Nat) : Int) = 36 * m := HSUM.out
              by_cases h11 : sn = 1
              · have hm1' := H1.out h11
                subst h11
                subst hm1'
                rw [hsum]
                clear HSUM H1 hsum
                go_wp2_with fail
                go_ret
                exact ⟨rfl, HX.out⟩
              · rw [hsum]
                have h11' : ¬ ((sn : Int) = 1) := by omega
                clear HSUM H1 hsum
                go_wp2_with fail
                go_ret
                exact ⟨rfl, HX.out⟩
  · obtain ⟨rfl, _⟩ := K5.out rfl
    obtain ⟨_, hs0, hs1, h7, h8⟩ := K5.out rfl
    obtain ⟨ho1, ho6, hd6, hx6, hy6⟩ := K6.out rfl
    have K7 := Lib.hid h7
    have ho : ¬ (o = 0) := by omega
    clear h7 K5 K6
    have hd6 := Lib.hid hd6
    have hx6 := Lib.hid hx6
    have hy6 := Lib.hid hy6
    have h8 := Lib.hid h8
    go_wp2_with fail
    clear c_c
    refine (K7.out _).mono ?_
    rintro e W10 ⟨rfl, hb⟩
    have Q10 := Lib.hid (QS.out _ _ _ _ Q9.out hb rfl)
    clear hb Q9
    have c_c := fun j => cell_of_row W10 _ j _ _ _ Q10.out.1
    clear K7
    have hd6 := hd6.out
    have hx6 := hx6.out
    have hy6 := hy6.out
    rcases h8.out with ⟨hkp, hm8⟩ | ⟨rfl, hm8⟩
    · cases q
      · as_aux_lemma =>
          clear L3
          go_wp2_with fail
          go_ret
          exact ⟨rfl, Q10.out.2.2⟩
      · as_aux_lemma =>
          obtain ⟨sn, rfl, h36, h7, hmb, hsum, h1⟩ := L3.out rfl
          have L4 := Lib.hid h7
          have HSUM := Lib.hid hsum
          have H1 := Lib.hid h1
          clear h7 hsum h1 L3
          go_wp2_with fail
          refine (L4.out _).mono ?_
          rintro e W11 ⟨rfl, hb⟩
          have Q11 := Lib.hid (QS.out _ _ _ _ Q10.out hb rfl)
          clear hb Q10
          clear L4
          have HB := Lib.hid Q11.out.2.2
          clear Q11 QS
          have HLT := fun k hk => @sk_lt sn k h36 hk
          have HLT := Lib.hid HLT
          have HKK := fun a b ha hb => ikeptof_yes a b sn ha hb h36
          have HKK := Lib.hid HKK
          go_wp2_with fail
          go_loopw [22, 23] (fun v c wr => ∃ a : Nat, a ≤ 6 ∧ c = .int .i64 a ∧ v = .int .i64 ((sk sn (6 * a) : Nat) : Int) ∧ Hid (Below w.heap.size w wr)) (fun _ c _ => 6 - (intOf c).toNat)
          case atStart => exact ⟨0, by omega, rfl, rfl, HB⟩
          case round =>
            obtain ⟨a, ha, rfl, rfl, HX⟩ := hrel
            by_cases hla : a < 6
            · have hla' : (a : Int) < 6 := by omega
              have hla2 : decide ((a : Int) < (6 : Int)) = true := decide_eq_true hla'
              go_wp2_with fail
              try rw [hla2]
              clear hla2
              go_loopw [22, 24] (fun v c wr => ∃ b : Nat, b ≤ 6 ∧ c = .int .i64 b ∧ v = .int .i64 ((sk sn (6 * a + b) : Nat) : Int) ∧ Hid (Below w.heap.size w wr)) (fun _ c _ => 6 - (intOf c).toNat)
              case atStart => exact ⟨0, by omega, rfl, rfl, HX⟩
              case round =>
                obtain ⟨b, hb, rfl, rfl, HY⟩ := hrel
                by_cases hlb : b < 6
                · have hlb' : (b : Int) < 6 := by omega
                  have HKxy := Lib.hid (HKK.out a b hla hlb)
                  have h1 := @sk_xy sn a b hlb
                  have h2 := HLT.out (6 * a + b + 1) (by omega)
                  rw [h1] at h2
                  have HE := Lib.hid h1
                  generalize sk sn (6 * a + b) = c at h2 HE ⊢
                  generalize kz a b sn = d at h2 HE HKxy ⊢
                  clear h1
                  go_wp2_with fail
                  refine (HKxy.out _).mono ?_
                  rintro e w' ⟨rfl, hbb⟩
                  have HZ := Lib.hid (below_of HY.out hbb HY.out.size)
                  clear hbb HY
                  go_wp2_with fail
                  go_roundw
                  case rel => exact ⟨b + 1, by omega, by go_num, by rw [show 6 * a + (b + 1) = 6 * a + b + 1 from rfl, HE.out]; go_num, HZ⟩
                  case measure => simp [intOf]; omega
                · obtain rfl : b = 6 := by omega
                  go_wp2_with fail
                  go_roundw
                  case rel => exact ⟨a + 1, by omega, by go_num, rfl, HY⟩
                  case measure => simp [intOf]; omega
            · obtain rfl : a = 6 := by omega
              have hsum : ((sk sn (6 * 6) : Nat) : Int) = 36 * m := HSUM.out
              by_cases h11 : sn = 1
              · have hm1' := H1.out h11
                subst h11
                subst hm1'
                rw [hsum]
                clear HSUM H1 hsum
                go_wp2_with fail
                go_ret
                exact ⟨rfl, HX.out⟩
              · rw [hsum]
                have h11' : ¬ ((sn : Int) = 1) := by omega
                clear HSUM H1 hsum
                go_wp2_with fail
                go_ret
                exact ⟨rfl, HX.out⟩
    · obtain ⟨rr, hrr⟩ : ∃ rr, s.tmod o = rr := ⟨_, rfl⟩
      rw [hrr] at hm8
      have hm9 : ¬ (rr = 0) := hm8
      have hm10 : (rr == 0) = false := beq_eq_false_iff_ne.mpr hm8
      clear hm8
      cases q
      · as_aux_lemma =>
          clear L3
          go_wp2_with fail
          go_ret
          exact ⟨rfl, Q10.out.2.2⟩
      · as_aux_lemma =>
          obtain ⟨sn, rfl, h36, h7, hmb, hsum, h1⟩ := L3.out rfl
          have L4 := Lib.hid h7
          have HSUM := Lib.hid hsum
          have H1 := Lib.hid h1
          clear h7 hsum h1 L3
          go_wp2_with fail
          refine (L4.out _).mono ?_
          rintro e W11 ⟨rfl, hb⟩
          have Q11 := Lib.hid (QS.out _ _ _ _ Q10.out hb rfl)
          clear hb Q10
          clear L4
          have HB := Lib.hid Q11.out.2.2
          clear Q11 QS
          have HLT := fun k hk => @sk_lt sn k h36 hk
          have HLT := Lib.hid HLT
          have HKK := fun a b ha hb => ikeptof_yes a b sn ha hb h36
          have HKK := Lib.hid HKK
          go_wp2_with fail
          go_loopw [22, 23] (fun v c wr => ∃ a : Nat, a ≤ 6 ∧ c = .int .i64 a ∧ v = .int .i64 ((sk sn (6 * a) : Nat) : Int) ∧ Hid (Below w.heap.size w wr)) (fun _ c _ => 6 - (intOf c).toNat)
          case atStart => exact ⟨0, by omega, rfl, rfl, HB⟩
          case round =>
            obtain ⟨a, ha, rfl, rfl, HX⟩ := hrel
            by_cases hla : a < 6
            · have hla' : (a : Int) < 6 := by omega
              have hla2 : decide ((a : Int) < (6 : Int)) = true := decide_eq_true hla'
              go_wp2_with fail
              try rw [hla2]
              clear hla2
              go_loopw [22, 24] (fun v c wr => ∃ b : Nat, b ≤ 6 ∧ c = .int .i64 b ∧ v = .int .i64 ((sk sn (6 * a + b) : Nat) : Int) ∧ Hid (Below w.heap.size w wr)) (fun _ c _ => 6 - (intOf c).toNat)
              case atStart => exact ⟨0, by omega, rfl, rfl, HX⟩
              case round =>
                obtain ⟨b, hb, rfl, rfl, HY⟩ := hrel
                by_cases hlb : b < 6
                · have hlb' : (b : Int) < 6 := by omega
                  have HKxy := Lib.hid (HKK.out a b hla hlb)
                  have h1 := @sk_xy sn a b hlb
                  have h2 := HLT.out (6 * a + b + 1) (by omega)
                  rw [h1] at h2
                  have HE := Lib.hid h1
                  generalize sk sn (6 * a + b) = c at h2 HE ⊢
                  generalize kz a b sn = d at h2 HE HKxy ⊢
                  clear h1
                  go_wp2_with fail
                  refine (HKxy.out _).mono ?_
                  rintro e w' ⟨rfl, hbb⟩
                  have HZ := Lib.hid (below_of HY.out hbb HY.out.size)
                  clear hbb HY
                  go_wp2_with fail
                  go_roundw
                  case rel => exact ⟨b + 1, by omega, by go_num, by rw [show 6 * a + (b + 1) = 6 * a + b + 1 from rfl, HE.out]; go_num, HZ⟩
                  case measure => simp [intOf]; omega
                · obtain rfl : b = 6 := by omega
                  go_wp2_with fail
                  go_roundw
                  case rel => exact ⟨a + 1, by omega, by go_num, rfl, HY⟩
                  case measure => simp [intOf]; omega
            · obtain rfl : a = 6 := by omega
              have hsum : ((sk sn (6 * 6) : Nat) : Int) = 36 * m := HSUM.out
              by_cases h11 : sn = 1
              · have hm1' := H1.out h11
                subst h11
                subst hm1'
                rw [hsum]
                clear HSUM H1 hsum
                go_wp2_with fail
                go_ret
                exact ⟨rfl, HX.out⟩
              · rw [hsum]
                have h11' : ¬ ((sn : Int) = 1) := by omega
                clear HSUM H1 hsum
                go_wp2_with fail
                go_ret
                exact ⟨rfl, HX.out⟩
end Go.Proofs.Ytpmhnikilianoaa
