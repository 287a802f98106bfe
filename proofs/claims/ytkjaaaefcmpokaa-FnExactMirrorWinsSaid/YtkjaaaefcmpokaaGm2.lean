/- CONTRACTS: all free cells and FreeCells, the model's and the code's. -/
import Derived.Test.YtkjaaaefcmpokaaGm1
import Derived.Test.YtkjaaaefcmpokaaSf
import Derived.WalkKit
import Derived.ProofKit
import Derived.OpenShut
import Derived.Lib.Hide
import Derived.WalkSpells
import Derived.Below
import Derived.BigQuiet
import Derived.LoopN
namespace Go.Proofs.Ytkjaaaefcmpokaa
open Go.ChangeShapes Go.WideShapes Go.ChangeAt Go.RowKit
set_option linter.unusedVariables false
theorem wfull_f (s : Fn6) (w : World) : Calls Try.prog 254 #[.agg #[.int .i64 63, .int .i64 63, .int .i64 63, .int .i64 63, .int .i64 63, .int .i64 63], .agg #[.int .i64 (rowv (s 0)), .int .i64 (rowv (s 1)), .int .i64 (rowv (s 2)), .int .i64 (rowv (s 3)), .int .i64 (rowv (s 4)), .int .i64 (rowv (s 5))]] w fun e w' => e = .returned (.agg #[.int .i64 (rowv (nf s 0)), .int .i64 (rowv (nf s 1)), .int .i64 (rowv (nf s 2)), .int .i64 (rowv (nf s 3)), .int .i64 (rowv (nf s 4)), .int .i64 (rowv (nf s 5))]) ∧ Below w.heap.size w w' := by
  have h := without_any 63 63 63 63 63 63 (rowv (s 0)) (rowv (s 1)) (rowv (s 2)) (rowv (s 3)) (rowv (s 4)) (rowv (s 5)) w
  simp only [row_no] at h
  exact h
theorem ishared_f (s p : Fn6) (w : World) : Calls Try.prog 170 #[.agg #[.int .i64 (rowv (s 0)), .int .i64 (rowv (s 1)), .int .i64 (rowv (s 2)), .int .i64 (rowv (s 3)), .int .i64 (rowv (s 4)), .int .i64 (rowv (s 5))], .agg #[.int .i64 (rowv (p 0)), .int .i64 (rowv (p 1)), .int .i64 (rowv (p 2)), .int .i64 (rowv (p 3)), .int .i64 (rowv (p 4)), .int .i64 (rowv (p 5))]] w fun e w' => e = .returned (.agg #[.int .i64 (rowv (af s p 0)), .int .i64 (rowv (af s p 1)), .int .i64 (rowv (af s p 2)), .int .i64 (rowv (af s p 3)), .int .i64 (rowv (af s p 4)), .int .i64 (rowv (af s p 5))]) ∧ Below w.heap.size w w' := by
  have h := shared_any (rowv (s 0)) (rowv (s 1)) (rowv (s 2)) (rowv (s 3)) (rowv (s 4)) (rowv (s 5)) (rowv (p 0)) (rowv (p 1)) (rowv (p 2)) (rowv (p 3)) (rowv (p 4)) (rowv (p 5)) w
  simp only [row_af] at h
  exact h
theorem ijoin_f (s p : Fn6) (w : World) : Calls Try.prog 156 #[.agg #[.int .i64 (rowv (s 0)), .int .i64 (rowv (s 1)), .int .i64 (rowv (s 2)), .int .i64 (rowv (s 3)), .int .i64 (rowv (s 4)), .int .i64 (rowv (s 5))], .agg #[.int .i64 (rowv (p 0)), .int .i64 (rowv (p 1)), .int .i64 (rowv (p 2)), .int .i64 (rowv (p 3)), .int .i64 (rowv (p 4)), .int .i64 (rowv (p 5))]] w fun e w' => e = .returned (.agg #[.int .i64 (rowv (jf s p 0)), .int .i64 (rowv (jf s p 1)), .int .i64 (rowv (jf s p 2)), .int .i64 (rowv (jf s p 3)), .int .i64 (rowv (jf s p 4)), .int .i64 (rowv (jf s p 5))]) ∧ Below w.heap.size w w' := by
  have h := or_any (rowv (s 0)) (rowv (s 1)) (rowv (s 2)) (rowv (s 3)) (rowv (s 4)) (rowv (s 5)) (rowv (p 0)) (rowv (p 1)) (rowv (p 2)) (rowv (p 3)) (rowv (p 4)) (rowv (p 5)) w
  simp only [row_jf] at h
  exact h
theorem lor_f (s p : Fn6) (w : World) : Calls Try.prog 152 #[.agg #[.int .i64 (rowv (s 0)), .int .i64 (rowv (s 1)), .int .i64 (rowv (s 2)), .int .i64 (rowv (s 3)), .int .i64 (rowv (s 4)), .int .i64 (rowv (s 5))], .agg #[.int .i64 (rowv (p 0)), .int .i64 (rowv (p 1)), .int .i64 (rowv (p 2)), .int .i64 (rowv (p 3)), .int .i64 (rowv (p 4)), .int .i64 (rowv (p 5))]] w fun e w' => e = .returned (.agg #[.int .i64 (rowv (jf s p 0)), .int .i64 (rowv (jf s p 1)), .int .i64 (rowv (jf s p 2)), .int .i64 (rowv (jf s p 3)), .int .i64 (rowv (jf s p 4)), .int .i64 (rowv (jf s p 5))]) ∧ Below w.heap.size w w' := by
  have h := l2or_any (rowv (s 0)) (rowv (s 1)) (rowv (s 2)) (rowv (s 3)) (rowv (s 4)) (rowv (s 5)) (rowv (p 0)) (rowv (p 1)) (rowv (p 2)) (rowv (p 3)) (rowv (p 4)) (rowv (p 5)) w
  simp only [row_jf] at h
  exact h
theorem shby_f (f : Nat → Nat → Bool) {x y : Nat} (hx : x < 6) (hy : y < 6) (w : World) : Calls Try.prog 157 #[.agg #[.int .i64 (rowv (f 0)), .int .i64 (rowv (f 1)), .int .i64 (rowv (f 2)), .int .i64 (rowv (f 3)), .int .i64 (rowv (f 4)), .int .i64 (rowv (f 5))], .agg #[.int .i64 (x : Int), .int .i64 (y : Int)]] w fun e w' => e = .returned (.agg #[.int .i64 (rowv (sf x y f 0)), .int .i64 (rowv (sf x y f 1)), .int .i64 (rowv (sf x y f 2)), .int .i64 (rowv (sf x y f 3)), .int .i64 (rowv (sf x y f 4)), .int .i64 (rowv (sf x y f 5))]) ∧ Below w.heap.size w w' := by
  have HF := Lib.hid (shifted_m f hx hy)
  go_enter Try.func157, Try.ntmps157
  go_wp2_with fail
  generalize hW : (World.alloc _ _ : World) = W0
  have hB0 : Below w.heap.size w W0 := by rw [← hW]; (repeat (first | exact Below.refl _ _ | assumption | refine Below.setCell ?_ (by first | (simp; done) | (simp; omega)) _ | refine Below.alloc ?_ (by first | (simp; done) | (simp; omega)) _ | refine Below.drew ?_))
  have qz : W0.heap[(w.heap.size + 1 + 1 : Nat)]? = some oz := by
    rw [← hW]
    repeat (first | (refine alloc_at ?_; first | (simp; done) | (simp; omega)) | refine drew_row ?_ | refine alloc_past ?_ | assumption)
  clear hW
  refine (HF.out _).mono ?_
  rintro e W1 ⟨rfl, hb⟩
  have qz1 := rowk qz hb rfl
  have hB1 := below_of hB0 hb hB0.size
  clear hb hB0 qz
  unfold oz at qz1
  have z_c := fun j => cell_of_row W1 _ j _ _ _ qz1
  have z_f := fun j => frozen_of_row W1 _ j _ _ qz1
  go_wp2_with fail
  have qr := set6a (.int .i64 (rowv (sf x y f 0))) (.int .i64 (rowv (sf x y f 1))) (.int .i64 (rowv (sf x y f 2))) (.int .i64 (rowv (sf x y f 3))) (.int .i64 (rowv (sf x y f 4))) (.int .i64 (rowv (sf x y f 5))) qz1
  have hB2 := below6 (v0 := .int .i64 (rowv (sf x y f 0))) (v1 := .int .i64 (rowv (sf x y f 1))) (v2 := .int .i64 (rowv (sf x y f 2))) (v3 := .int .i64 (rowv (sf x y f 3))) (v4 := .int .i64 (rowv (sf x y f 4))) (v5 := .int .i64 (rowv (sf x y f 5))) hB1 (show w.heap.size ≤ w.heap.size + 1 + 1 by omega)
  clear z_c z_f qz1 hB1
  generalize (World.setCell _ _ _ : World) = X at qr hB2 ⊢
  have x_c := fun j => cell_of_row X _ j _ _ _ qr
  exact bodyPost_ret (v := .agg #[.int .i64 (rowv (sf x y f 0)), .int .i64 (rowv (sf x y f 1)), .int .i64 (rowv (sf x y f 2)), .int .i64 (rowv (sf x y f 3)), .int .i64 (rowv (sf x y f 4)), .int .i64 (rowv (sf x y f 5))]) (by simp [results, Try.results157, go_sem, x_c]) rfl ⟨rfl, hB2⟩
set_option maxHeartbeats 1000000 in
set_option maxHeartbeats 4000000 in
theorem lfree_f (f p : Fn6) (w : World) : Calls Try.prog 138 #[.agg #[.int .i64 (rowv (f 0)), .int .i64 (rowv (f 1)), .int .i64 (rowv (f 2)), .int .i64 (rowv (f 3)), .int .i64 (rowv (f 4)), .int .i64 (rowv (f 5))], .agg #[.int .i64 (rowv (p 0)), .int .i64 (rowv (p 1)), .int .i64 (rowv (p 2)), .int .i64 (rowv (p 3)), .int .i64 (rowv (p 4)), .int .i64 (rowv (p 5))]] w (LP (bl (frf f p) 36) w) := by
  obtain ⟨i0, hi, hz0, hz1, hz2⟩ := info_parts info44
  go_enter Try.func138, Try.ntmps138
  go_wp2_with fail
  generalize hW : (World.alloc (World.alloc w _) _ : World) = W0
  have hsz : W0.heap.size = w.heap.size + 1 + 1 := by rw [← hW]; simp
  have K0 : KR 2 [(w.heap.size, o6 f), (w.heap.size + 1, o6 p)] w W0 := by
    rw [← hW]
    exact two_boxes w _ _ (by (repeat (first | exact Below.refl _ _ | assumption | refine Below.setCell ?_ (by first | (simp; done) | (simp; omega)) _ | refine Below.alloc ?_ (by first | (simp; done) | (simp; omega)) _ | refine Below.drew ?_))) (alloc_past (alloc_at rfl)) (alloc_at (by simp)) (by simp)
  have S0 := Lib.hid (Rl.start K0)
  rw [hsz] at S0
  clear hsz
  clear hW K0
  generalize (World.alloc _ _ : World) = W1 at S0 ⊢
  generalize hv0 : (Value.slice (some ⟨_, 0, none⟩) 0 0) = v0 at S0 ⊢
  clear hv0
  go_loopw [5, 6] (fun v n wr => ∃ k : Nat, k ≤ 36 ∧ n = .int .i64 k ∧ Hid (Rl 2 [(w.heap.size, o6 f), (w.heap.size + 1, o6 p)] w (bl (frf f p) k) v wr)) (fun _ n _ => 36 - (intOf n).toNat)
  case atStart => exact ⟨0, by omega, rfl, S0⟩
  case round =>
    obtain ⟨k, hk, rfl, HS⟩ := hrel
    by_cases hlt : k < 36
    · have hlt' : (k : Int) < 36 := by omega
      have hk0 : (0 : Int) ≤ k := by omega
      have hx : k % 6 < 6 := Nat.mod_lt _ (by decide)
      have hy : k / 6 < 6 := by omega
      have HF := Lib.hid (lisfree_f f p hx hy)
      have HX := Lib.hid (show (k : Int) % 6 = ((k % 6 : Nat) : Int) by omega)
      have HY := Lib.hid (show (k : Int) / 6 = ((k / 6 : Nat) : Int) by omega)
      have H0 := Lib.hid (@bl_k0 (frf f p) k)
      have H1 := Lib.hid (@bl_k1 (frf f p) k)
      have c0 := fun (o : Obj) j => cell_of_row (wr.alloc o) _ j _ _ _ (alloc_past (HS.out.1.row (g := w.heap.size) (o := o6 f) (by simp)))
      have c1 := fun (o : Obj) j => cell_of_row (wr.alloc o) _ j _ _ _ (alloc_past (HS.out.1.row (g := w.heap.size + 1) (o := o6 p) (by simp)))
      go_wp2_with fail
      rw [HX.out, HY.out]
      clear HX HY
      generalize k % 6 = x at *
      generalize k / 6 = y at *
      obtain ⟨g, cap, rfl, ho⟩ := HS.out.2
      clear ho
      refine (HF.out _).mono ?_
      rintro e W2 ⟨rfl, hb⟩
      have HS2 := Lib.hid ((HS.out.alloc (oc x y)).below hb rfl)
      have hq : W2.heap[wr.heap.size]? = some (oc x y) := rowk (alloc_at rfl) hb rfl
      clear hb HS HF c0 c1
      generalize wr.heap.size = gc at hq ⊢
      obtain ⟨u, hu⟩ : ∃ u, u = frf f p y x := ⟨_, rfl⟩
      rw [← hu] at H0 H1 ⊢
      clear hu
      cases u
      · go_wp2_with fail
        go_roundw
        case rel => exact ⟨k + 1, by omega, by go_num, by rw [H0.out (by first | rfl | trivial)]; exact HS2⟩
        case measure => simp [intOf]; omega
      · obtain ⟨hK, _, _, hv, ho⟩ := HS2.out
        have HO := ho.kept (grown_below ((Below.refl _ _).alloc (Nat.le_refl _) (.cells #[.int .i64 (x : Int), .int .i64 (y : Int)] 47)) rfl) (.inr (by simp [Value.ownBlock]))
        have HY := Lib.hid (HS2.out.alloc (.cells #[.int .i64 (x : Int), .int .i64 (y : Int)] 47))
        have HL := bl_len (frf f p) k
        have hks := hK.2.1
        have g_c := fun j => cell_of_row W2 _ j _ _ _ hq
        clear ho HS2 hv hK
        go_wp2_with (at_builtin; refine wpList_append_own _ rfl _ _ 25 rfl (w.heap.size + 2) 47 i0 (.agg #[.int .i64 0, .int .i64 0]) 2 16 Try.underlying25 hi hz0 hz1 hz2 rfl (by decide) _ _ _ rfl HO ⟨W2.heap.size, 0, none⟩ 1 1 [.int .i64 (x : Int), .int .i64 (y : Int)] rfl rfl (two_new _ _ _ _) (ints_one _ _) (by have := HL; unfold maxLen; omega) (by have := HL; omega) (by have := hks; simp; omega) ?_; intro v' w1 hown' hgrow hnn; have R := Lib.hid (HY.out.snoc hown' hgrow hnn); clear hown' hgrow hnn HY HO HL hks g_c)
        go_roundw
        case rel => exact ⟨k + 1, by omega, by go_num, by rw [H1.out (by first | rfl | trivial)]; exact R⟩
        case measure => simp [intOf]; omega
    · obtain rfl : k = 36 := by omega
      obtain ⟨g, cap, rfl, h2, h3⟩ := HS.out.post
      have H2 := Lib.hid h2
      have H3 := Lib.hid h3
      clear h2 h3 HS
      go_wp2_with fail
      go_ret
      exact ⟨g, cap, rfl, H2.out, H3.out⟩
set_option maxHeartbeats 1000000 in
theorem sfree_no (a0 a1 a2 a3 a4 a5 : Int) (b0 b1 b2 b3 b4 b5 : Int) (H0 : Hid (∀ w, Calls Try.prog 137 #[.agg #[.int .i64 a0, .int .i64 a1, .int .i64 a2, .int .i64 a3, .int .i64 a4, .int .i64 a5], .agg #[.int .i64 b0, .int .i64 b1, .int .i64 b2, .int .i64 b3, .int .i64 b4, .int .i64 b5]] w fun e w' => e = .returned (.bool false) ∧ Below w.heap.size w w')) (w : World) : Calls Try.prog 22 #[.agg #[.int .i64 a0, .int .i64 a1, .int .i64 a2, .int .i64 a3, .int .i64 a4, .int .i64 a5], .agg #[.int .i64 b0, .int .i64 b1, .int .i64 b2, .int .i64 b3, .int .i64 b4, .int .i64 b5]] w (LPb [] false w) := by
  go_enter Try.func22, Try.ntmps22
  go_wp2_with fail
  generalize hW : (World.alloc _ _ : World) = W0
  have K0 : KR 2 [(w.heap.size, os a0 a1 a2 a3 a4 a5), (w.heap.size + 1, os b0 b1 b2 b3 b4 b5)] w W0 := by
    rw [← hW]
    exact two_boxes w _ _ (by (repeat (first | exact Below.refl _ _ | assumption | refine Below.setCell ?_ (by first | (simp; done) | (simp; omega)) _ | refine Below.alloc ?_ (by first | (simp; done) | (simp; omega)) _ | refine Below.drew ?_))) (alloc_past (alloc_at rfl)) (alloc_at (by simp)) (by simp)
  clear hW
  have a_c := fun j => cell_of_row W0 _ j _ _ _ (K0.row (g := w.heap.size) (o := os a0 a1 a2 a3 a4 a5) (by simp))
  have b_c := fun j => cell_of_row W0 _ j _ _ _ (K0.row (g := w.heap.size + 1) (o := os b0 b1 b2 b3 b4 b5) (by simp))
  go_wp2_with fail
  refine (H0.out _).mono ?_
  rintro e W1 ⟨rfl, hb⟩
  have K1 := K0.far hb rfl
  clear hb K0 a_c b_c
  go_wp2_with fail
  go_ret2
  exact ⟨W1.heap.size, 0, rfl, World.ownsRow_lit (base := w.heap.size) (e := 47) (size := 2) W1 #[] 0 K1.2.2.size (by unfold maxLen; omega) rfl, K1.2.2.alloc K1.2.2.size _⟩
set_option maxHeartbeats 1000000 in
theorem sfree_yes (f p : Fn6) (H0 : Hid (∀ w, Calls Try.prog 137 #[.agg #[.int .i64 (rowv (f 0)), .int .i64 (rowv (f 1)), .int .i64 (rowv (f 2)), .int .i64 (rowv (f 3)), .int .i64 (rowv (f 4)), .int .i64 (rowv (f 5))], .agg #[.int .i64 (rowv (p 0)), .int .i64 (rowv (p 1)), .int .i64 (rowv (p 2)), .int .i64 (rowv (p 3)), .int .i64 (rowv (p 4)), .int .i64 (rowv (p 5))]] w fun e w' => e = .returned (.bool true) ∧ Below w.heap.size w w')) (w : World) : Calls Try.prog 22 #[.agg #[.int .i64 (rowv (f 0)), .int .i64 (rowv (f 1)), .int .i64 (rowv (f 2)), .int .i64 (rowv (f 3)), .int .i64 (rowv (f 4)), .int .i64 (rowv (f 5))], .agg #[.int .i64 (rowv (p 0)), .int .i64 (rowv (p 1)), .int .i64 (rowv (p 2)), .int .i64 (rowv (p 3)), .int .i64 (rowv (p 4)), .int .i64 (rowv (p 5))]] w (LPb (bl (frf f p) 36) true w) := by
  have HF := Lib.hid (lfree_f f p)
  go_enter Try.func22, Try.ntmps22
  go_wp2_with fail
  generalize hW : (World.alloc _ _ : World) = W0
  have K0 : KR 2 [(w.heap.size, o6 f), (w.heap.size + 1, o6 p)] w W0 := by
    rw [← hW]
    exact two_boxes w _ _ (by (repeat (first | exact Below.refl _ _ | assumption | refine Below.setCell ?_ (by first | (simp; done) | (simp; omega)) _ | refine Below.alloc ?_ (by first | (simp; done) | (simp; omega)) _ | refine Below.drew ?_))) (alloc_past (alloc_at rfl)) (alloc_at (by simp)) (by simp)
  clear hW
  have a_c := fun j => cell_of_row W0 _ j _ _ _ (K0.row (g := w.heap.size) (o := o6 f) (by simp))
  have b_c := fun j => cell_of_row W0 _ j _ _ _ (K0.row (g := w.heap.size + 1) (o := o6 p) (by simp))
  go_wp2_with fail
  refine (H0.out _).mono ?_
  rintro e W1 ⟨rfl, hb⟩
  have K1 := K0.far hb rfl
  clear hb K0 a_c b_c
  have a_c := fun j => cell_of_row W1 _ j _ _ _ (K1.row (g := w.heap.size) (o := o6 f) (by simp))
  have b_c := fun j => cell_of_row W1 _ j _ _ _ (K1.row (g := w.heap.size + 1) (o := o6 p) (by simp))
  go_wp2_with fail
  refine (HF.out _).mono ?_
  rintro e W3 ⟨g, cap, rfl, ho, hb⟩
  have HO := Lib.hid (own_mono ho (K1.2.2.size))
  have HB := Lib.hid (below_of K1.2.2 hb K1.2.2.size)
  clear hb ho K1 a_c b_c
  go_wp2_with fail
  go_ret2
  exact ⟨g, cap, rfl, HO.out, HB.out⟩
theorem other_f (f : Fn6) (w : World) : Calls Try.prog 140 #[.agg #[.int .i64 (rowv (f 0)), .int .i64 (rowv (f 1)), .int .i64 (rowv (f 2)), .int .i64 (rowv (f 3)), .int .i64 (rowv (f 4)), .int .i64 (rowv (f 5))]] w fun e w' => e = .returned (.tuple #[.agg #[.int .i64 (rowv (nf f 0)), .int .i64 (rowv (nf f 1)), .int .i64 (rowv (nf f 2)), .int .i64 (rowv (nf f 3)), .int .i64 (rowv (nf f 4)), .int .i64 (rowv (nf f 5))], .bool true]) ∧ Below w.heap.size w w' := iother_yes (rowv (f 0)) (rowv (f 1)) (rowv (f 2)) (rowv (f 3)) (rowv (f 4)) (rowv (f 5)) (rowv (nf f 0)) (rowv (nf f 1)) (rowv (nf f 2)) (rowv (nf f 3)) (rowv (nf f 4)) (rowv (nf f 5)) (sh_ai _ _ _ _ _ _ (sh_of f)) (Lib.hid (wfull_f f)) w
set_option maxHeartbeats 1000000 in
theorem ifree_yes (f p : Fn6) (HS : Hid (∀ w, Calls Try.prog 141 #[.agg #[.int .i64 (rowv (p 0)), .int .i64 (rowv (p 1)), .int .i64 (rowv (p 2)), .int .i64 (rowv (p 3)), .int .i64 (rowv (p 4)), .int .i64 (rowv (p 5))]] w fun e w' => e = .returned (.bool true) ∧ Below w.heap.size w w')) (w : World) : Calls Try.prog 24 #[.agg #[.int .i64 (rowv (f 0)), .int .i64 (rowv (f 1)), .int .i64 (rowv (f 2)), .int .i64 (rowv (f 3)), .int .i64 (rowv (f 4)), .int .i64 (rowv (f 5))], .agg #[.int .i64 (rowv (p 0)), .int .i64 (rowv (p 1)), .int .i64 (rowv (p 2)), .int .i64 (rowv (p 3)), .int .i64 (rowv (p 4)), .int .i64 (rowv (p 5))]] w (LPb (bl (frf f p) 36) true w) := by
  have HO := Lib.hid (other_f f)
  have HG := iopen6_yes p (nf f)
  rw [← bl_cong (frf_ag f p) 36 (Nat.le_refl _)] at HG
  have HG := Lib.hid HG
  go_enter Try.func24, Try.ntmps24
  go_wp2_with fail
  generalize hW : (World.alloc _ _ : World) = W0
  have K0 : KR 2 [(w.heap.size, o6 f), (w.heap.size + 1, o6 p)] w W0 := by
    rw [← hW]
    exact two_boxes w _ _ (by (repeat (first | exact Below.refl _ _ | assumption | refine Below.setCell ?_ (by first | (simp; done) | (simp; omega)) _ | refine Below.alloc ?_ (by first | (simp; done) | (simp; omega)) _ | refine Below.drew ?_))) (alloc_past (alloc_at rfl)) (alloc_at (by simp)) (by simp)
  clear hW
  have a_c := fun j => cell_of_row W0 _ j _ _ _ (K0.row (g := w.heap.size) (o := o6 f) (by simp))
  go_wp2_with fail
  refine (HO.out _).mono ?_
  rintro e W1 ⟨rfl, hb⟩
  have K1 := K0.far hb rfl
  clear hb K0 a_c
  have K2 := K1.al (o := .cells #[.int .i64 (rowv (nf f 0)), .int .i64 (rowv (nf f 1)), .int .i64 (rowv (nf f 2)), .int .i64 (rowv (nf f 3)), .int .i64 (rowv (nf f 4)), .int .i64 (rowv (nf f 5))] 28)
  have b_c := fun j => cell_of_row (W1.alloc (.cells #[.int .i64 (rowv (nf f 0)), .int .i64 (rowv (nf f 1)), .int .i64 (rowv (nf f 2)), .int .i64 (rowv (nf f 3)), .int .i64 (rowv (nf f 4)), .int .i64 (rowv (nf f 5))] 28)) _ j _ _ _ (K2.row (g := w.heap.size + 1) (o := o6 p) (by simp))
  have hq : (W1.alloc (.cells #[.int .i64 (rowv (nf f 0)), .int .i64 (rowv (nf f 1)), .int .i64 (rowv (nf f 2)), .int .i64 (rowv (nf f 3)), .int .i64 (rowv (nf f 4)), .int .i64 (rowv (nf f 5))] 28)).heap[W1.heap.size]? = some (o6 (nf f)) := alloc_at rfl
  have HQ := Lib.hid hq
  clear hq
  go_wp2_with fail
  generalize W1.heap.size = gn at HQ ⊢
  generalize hX : (World.alloc _ _ : World) = W2 at HQ K2 b_c ⊢
  clear hX
  refine (HS.out _).mono ?_
  rintro e W3 ⟨rfl, hb⟩
  have K3 := K2.far hb rfl
  have HQ3 := Lib.hid (rowk HQ.out hb rfl)
  clear hb K2 b_c HQ
  have b_c := fun j => cell_of_row W3 _ j _ _ _ (K3.row (g := w.heap.size + 1) (o := o6 p) (by simp))
  have n_c := fun j => cell_of_row W3 _ j _ _ _ HQ3.out
  go_wp2_with fail
  refine (HG.out _).mono ?_
  rintro e W4 ⟨g, cap, rfl, ho, hb⟩
  have HO2 := Lib.hid (own_mono ho K3.2.2.size)
  have HB3 := Lib.hid (below_of K3.2.2 hb K3.2.2.size)
  clear hb ho K3 b_c n_c
  go_wp2_with fail
  go_ret2
  exact ⟨g, cap, rfl, HO2.out, HB3.out⟩
set_option maxHeartbeats 1000000 in
theorem ifree_no0 (a0 a1 a2 a3 a4 a5 : Int) (b0 b1 b2 b3 b4 b5 : Int) (HF : Hid (∀ w, Calls Try.prog 140 #[.agg #[.int .i64 a0, .int .i64 a1, .int .i64 a2, .int .i64 a3, .int .i64 a4, .int .i64 a5]] w fun e w' => e = .returned (.tuple #[.agg #[.int .i64 0, .int .i64 0, .int .i64 0, .int .i64 0, .int .i64 0, .int .i64 0], .bool false]) ∧ Below w.heap.size w w')) (w : World) : Calls Try.prog 24 #[.agg #[.int .i64 a0, .int .i64 a1, .int .i64 a2, .int .i64 a3, .int .i64 a4, .int .i64 a5], .agg #[.int .i64 b0, .int .i64 b1, .int .i64 b2, .int .i64 b3, .int .i64 b4, .int .i64 b5]] w (LPb [] false w) := by
  go_enter Try.func24, Try.ntmps24
  go_wp2_with fail
  generalize hW : (World.alloc _ _ : World) = W0
  have K0 : KR 2 [(w.heap.size, os a0 a1 a2 a3 a4 a5), (w.heap.size + 1, os b0 b1 b2 b3 b4 b5)] w W0 := by
    rw [← hW]
    exact two_boxes w _ _ (by (repeat (first | exact Below.refl _ _ | assumption | refine Below.setCell ?_ (by first | (simp; done) | (simp; omega)) _ | refine Below.alloc ?_ (by first | (simp; done) | (simp; omega)) _ | refine Below.drew ?_))) (alloc_past (alloc_at rfl)) (alloc_at (by simp)) (by simp)
  clear hW
  have a_c := fun j => cell_of_row W0 _ j _ _ _ (K0.row (g := w.heap.size) (o := os a0 a1 a2 a3 a4 a5) (by simp))
  go_wp2_with fail
  refine (HF.out _).mono ?_
  rintro e W1 ⟨rfl, hb⟩
  have HB := Lib.hid (K0.far hb rfl).2.2
  clear hb K0 a_c
  go_wp2_with fail
  have HB2 := HB.out.alloc HB.out.size (.cells #[.int .i64 0, .int .i64 0, .int .i64 0, .int .i64 0, .int .i64 0, .int .i64 0] 28)
  go_ret2
  have h := World.ownsRow_lit (base := w.heap.size) (e := 47) (size := 2) (W1.alloc (.cells #[.int .i64 0, .int .i64 0, .int .i64 0, .int .i64 0, .int .i64 0, .int .i64 0] 28)) #[] 0 HB2.size (by unfold maxLen; omega) rfl
  rw [show (W1.alloc (.cells #[.int .i64 0, .int .i64 0, .int .i64 0, .int .i64 0, .int .i64 0, .int .i64 0] 28)).heap.size = W1.heap.size + 1 by simp] at h
  exact ⟨W1.heap.size + 1, 0, rfl, h, HB2.alloc HB2.size _⟩
set_option maxHeartbeats 1000000 in
theorem ifree_no1 (f : Fn6) (b0 b1 b2 b3 b4 b5 : Int) (HS : Hid (∀ w, Calls Try.prog 141 #[.agg #[.int .i64 b0, .int .i64 b1, .int .i64 b2, .int .i64 b3, .int .i64 b4, .int .i64 b5]] w fun e w' => e = .returned (.bool false) ∧ Below w.heap.size w w')) (w : World) : Calls Try.prog 24 #[.agg #[.int .i64 (rowv (f 0)), .int .i64 (rowv (f 1)), .int .i64 (rowv (f 2)), .int .i64 (rowv (f 3)), .int .i64 (rowv (f 4)), .int .i64 (rowv (f 5))], .agg #[.int .i64 b0, .int .i64 b1, .int .i64 b2, .int .i64 b3, .int .i64 b4, .int .i64 b5]] w (LPb [] false w) := by
  have HO := Lib.hid (other_f f)
  go_enter Try.func24, Try.ntmps24
  go_wp2_with fail
  generalize hW : (World.alloc _ _ : World) = W0
  have K0 : KR 2 [(w.heap.size, o6 f), (w.heap.size + 1, os b0 b1 b2 b3 b4 b5)] w W0 := by
    rw [← hW]
    exact two_boxes w _ _ (by (repeat (first | exact Below.refl _ _ | assumption | refine Below.setCell ?_ (by first | (simp; done) | (simp; omega)) _ | refine Below.alloc ?_ (by first | (simp; done) | (simp; omega)) _ | refine Below.drew ?_))) (alloc_past (alloc_at rfl)) (alloc_at (by simp)) (by simp)
  clear hW
  have a_c := fun j => cell_of_row W0 _ j _ _ _ (K0.row (g := w.heap.size) (o := o6 f) (by simp))
  go_wp2_with fail
  refine (HO.out _).mono ?_
  rintro e W1 ⟨rfl, hb⟩
  have K1 := K0.far hb rfl
  clear hb K0 a_c
  have K2 := K1.al (o := .cells #[.int .i64 (rowv (nf f 0)), .int .i64 (rowv (nf f 1)), .int .i64 (rowv (nf f 2)), .int .i64 (rowv (nf f 3)), .int .i64 (rowv (nf f 4)), .int .i64 (rowv (nf f 5))] 28)
  have b_c := fun j => cell_of_row (W1.alloc (.cells #[.int .i64 (rowv (nf f 0)), .int .i64 (rowv (nf f 1)), .int .i64 (rowv (nf f 2)), .int .i64 (rowv (nf f 3)), .int .i64 (rowv (nf f 4)), .int .i64 (rowv (nf f 5))] 28)) _ j _ _ _ (K2.row (g := w.heap.size + 1) (o := os b0 b1 b2 b3 b4 b5) (by simp))
  go_wp2_with fail
  generalize hX : (World.alloc _ _ : World) = W2 at K2 b_c ⊢
  clear hX
  refine (HS.out _).mono ?_
  rintro e W3 ⟨rfl, hb⟩
  have K3 := K2.far hb rfl
  clear hb K2 b_c
  go_wp2_with fail
  go_ret2
  exact ⟨W3.heap.size, 0, rfl, World.ownsRow_lit (base := w.heap.size) (e := 47) (size := 2) W3 #[] 0 K3.2.2.size (by unfold maxLen; omega) rfl, K3.2.2.alloc K3.2.2.size _⟩
/-- A game's sheet and stamp: not valid, or rows of bits with a black cell. -/
theorem good_ways (a0 a1 a2 a3 a4 a5 : Int) (b0 b1 b2 b3 b4 b5 : Int) : (gd6 a0 a1 a2 a3 a4 a5 b0 b1 b2 b3 b4 b5 = false ∧ (ok a0 && ok a1 && ok a2 && ok a3 && ok a4 && ok a5) = false) ∨ (gd6 a0 a1 a2 a3 a4 a5 b0 b1 b2 b3 b4 b5 = false ∧ (ok a0 && ok a1 && ok a2 && ok a3 && ok a4 && ok a5) = true ∧ ((ok b0 && ok b1 && ok b2 && ok b3 && ok b4 && ok b5) && nz6 b0 b1 b2 b3 b4 b5) = false) ∨ (gd6 a0 a1 a2 a3 a4 a5 b0 b1 b2 b3 b4 b5 = true ∧ (ok a0 && ok a1 && ok a2 && ok a3 && ok a4 && ok a5) = true ∧ (ok b0 && ok b1 && ok b2 && ok b3 && ok b4 && ok b5) = true ∧ nz6 b0 b1 b2 b3 b4 b5 = true) := by
  unfold gd6
  cases hv : (ok a0 && ok a1 && ok a2 && ok a3 && ok a4 && ok a5)
  · exact .inl ⟨rfl, rfl⟩
  · cases hc : (ok b0 && ok b1 && ok b2 && ok b3 && ok b4 && ok b5)
    · exact .inr (.inl ⟨rfl, rfl, rfl⟩)
    · cases hn : nz6 b0 b1 b2 b3 b4 b5
      · exact .inr (.inl ⟨rfl, rfl, rfl⟩)
      · exact .inr (.inr ⟨rfl, rfl, rfl, rfl⟩)
theorem free_pair (a0 a1 a2 a3 a4 a5 : Int) (b0 b1 b2 b3 b4 b5 : Int) : ∃ (l : List (Nat × Nat)) (t : Bool), l.length ≤ 36 ∧ (∀ w, Calls Try.prog 22 #[.agg #[.int .i64 a0, .int .i64 a1, .int .i64 a2, .int .i64 a3, .int .i64 a4, .int .i64 a5], .agg #[.int .i64 b0, .int .i64 b1, .int .i64 b2, .int .i64 b3, .int .i64 b4, .int .i64 b5]] w (LPb l t w)) ∧ (∀ w, Calls Try.prog 24 #[.agg #[.int .i64 a0, .int .i64 a1, .int .i64 a2, .int .i64 a3, .int .i64 a4, .int .i64 a5], .agg #[.int .i64 b0, .int .i64 b1, .int .i64 b2, .int .i64 b3, .int .i64 b4, .int .i64 b5]] w (LPb l t w)) := by
  have HG := lgood_any a0 a1 a2 a3 a4 a5 b0 b1 b2 b3 b4 b5
  have HS := istamp_any b0 b1 b2 b3 b4 b5
  rcases good_ways a0 a1 a2 a3 a4 a5 b0 b1 b2 b3 b4 b5 with ⟨h, hv⟩ | ⟨h, hv, hs⟩ | ⟨h, hv, hc, hn⟩
  · rw [h] at HG
    exact ⟨[], false, by simp, sfree_no a0 a1 a2 a3 a4 a5 b0 b1 b2 b3 b4 b5 (Lib.hid HG), ifree_no0 a0 a1 a2 a3 a4 a5 b0 b1 b2 b3 b4 b5 (Lib.hid (iother_no0 a0 a1 a2 a3 a4 a5 (sh_ai a0 a1 a2 a3 a4 a5 hv)))⟩
  · rw [h] at HG
    rw [hs] at HS
    obtain ⟨f, rfl, rfl, rfl, rfl, rfl, rfl⟩ := sheet_bits a0 a1 a2 a3 a4 a5 hv
    exact ⟨[], false, by simp, sfree_no _ _ _ _ _ _ b0 b1 b2 b3 b4 b5 (Lib.hid HG), ifree_no1 f b0 b1 b2 b3 b4 b5 (Lib.hid HS)⟩
  · rw [h] at HG
    rw [hc, hn] at HS
    obtain ⟨f, rfl, rfl, rfl, rfl, rfl, rfl⟩ := sheet_bits a0 a1 a2 a3 a4 a5 hv
    obtain ⟨p, rfl, rfl, rfl, rfl, rfl, rfl⟩ := sheet_bits b0 b1 b2 b3 b4 b5 hc
    exact ⟨bl (frf f p) 36, true, bl_len _ 36, sfree_yes f p (Lib.hid HG), ifree_yes f p (Lib.hid HS)⟩
end Go.Proofs.Ytkjaaaefcmpokaa
