/- MERGED, for one claim's sake: Ca6, Wm5, Sl5, Om5, Rw5, Ck5, Bh5, Bw5, Pm5, Cb6, Cc6. -/
import Derived.Test.YthphkhcppljdlaaRl6
import Derived.Test.YthphkhcppljdlaaSc
import Derived.Test.YthphkhcppljdlaaKp
import Derived.Test.YthphkhcppljdlaaRh
import Derived.Test.YthphkhcppljdlaaSj5
import Derived.Test.YthphkhcppljdlaaPa4
import Derived.Test.YthphkhcppljdlaaSh5
import Derived.Test.YthphkhcppljdlaaSw5
import Derived.Test.YthphkhcppljdlaaCs5
import Derived.Test.YthphkhcppljdlaaPb
import Derived.Test.YthphkhcppljdlaaFs
import Derived.Deep.RegionHeld3
import Derived.WalkKit
import Derived.ProofKit
import Derived.OpenShut
import Derived.Lib.Hide
import Derived.WalkSpells
import Derived.Below
import Derived.BigQuiet
import Derived.LoopN
import Derived.RegionTactic
namespace Go.Proofs.Ythphkhcppljdlaa
open Go.ChangeShapes Go.WideShapes Go.ChangeAt Go.RowKit
set_option linter.unusedVariables false
/- Ca6 -/
/-- Midway, with the cell that is looked at in a block. -/
def Qo (w : World) (p s : Fn6) (xs : List (Nat × Nat)) (v : Value) (gc x y : Nat) (U : World) : Prop := Rl 2 [(w.heap.size, o6 p), (w.heap.size + 1, o6 s)] w xs v U ∧ U.heap[gc]? = some (oc x y)
theorem Qo.below {w U U' : World} {p s : Fn6} {xs : List (Nat × Nat)} {v : Value} {gc x y M : Nat} (h : Qo w p s xs v gc x y U) (hb : Below M U U') (hM : M = U.heap.size) : Qo w p s xs v gc x y U' := ⟨h.1.below hb hM, rowk h.2 hb hM⟩
theorem Qo.drew {w U : World} {p s : Fn6} {xs : List (Nat × Nat)} {v : Value} {gc x y : Nat} (h : Qo w p s xs v gc x y U) : Qo w p s xs v gc x y U.drew := h.below (M := U.heap.size) (Below.refl _ _).drew rfl
theorem SKo {w U : World} {p s : Fn6} {xs : List (Nat × Nat)} {v : Value} {gc x y : Nat} (h : Qo w p s xs v gc x y U) : U.cell? ⟨w.heap.size, 0, none⟩ = some (.int .i64 (rowv (p 0))) ∧ U.cell? ⟨w.heap.size, 1, none⟩ = some (.int .i64 (rowv (p 1))) ∧ U.cell? ⟨w.heap.size, 2, none⟩ = some (.int .i64 (rowv (p 2))) ∧ U.cell? ⟨w.heap.size, 3, none⟩ = some (.int .i64 (rowv (p 3))) ∧ U.cell? ⟨w.heap.size, 4, none⟩ = some (.int .i64 (rowv (p 4))) ∧ U.cell? ⟨w.heap.size, 5, none⟩ = some (.int .i64 (rowv (p 5))) ∧ U.cell? ⟨w.heap.size + 1, 0, none⟩ = some (.int .i64 (rowv (s 0))) ∧ U.cell? ⟨w.heap.size + 1, 1, none⟩ = some (.int .i64 (rowv (s 1))) ∧ U.cell? ⟨w.heap.size + 1, 2, none⟩ = some (.int .i64 (rowv (s 2))) ∧ U.cell? ⟨w.heap.size + 1, 3, none⟩ = some (.int .i64 (rowv (s 3))) ∧ U.cell? ⟨w.heap.size + 1, 4, none⟩ = some (.int .i64 (rowv (s 4))) ∧ U.cell? ⟨w.heap.size + 1, 5, none⟩ = some (.int .i64 (rowv (s 5))) ∧ U.cell? ⟨gc, 0, none⟩ = some (.int .i64 (x : Int)) ∧ U.cell? ⟨gc, 1, none⟩ = some (.int .i64 (y : Int)) ∧ Qo w p s xs v gc x y U :=
  have h0 := fun j => cell_of_row U _ j _ _ _ (h.1.1.row (g := w.heap.size) (o := o6 p) (List.mem_cons_self ..))
  have h1 := fun j => cell_of_row U _ j _ _ _ (h.1.1.row (g := w.heap.size + 1) (o := o6 s) (List.mem_cons_of_mem _ (List.mem_cons_self ..)))
  have h2 := fun j => cell_of_row U _ j _ _ _ h.2
  ⟨h0 0, h0 1, h0 2, h0 3, h0 4, h0 5, h1 0, h1 1, h1 2, h1 3, h1 4, h1 5, h2 0, h2 1, h⟩
set_option maxHeartbeats 4000000 in
theorem lopen6_f (p s : Fn6) (w : World) : Calls Try.prog 153 #[.agg #[.int .i64 (rowv (p 0)), .int .i64 (rowv (p 1)), .int .i64 (rowv (p 2)), .int .i64 (rowv (p 3)), .int .i64 (rowv (p 4)), .int .i64 (rowv (p 5))], .agg #[.int .i64 (rowv (s 0)), .int .i64 (rowv (s 1)), .int .i64 (rowv (s 2)), .int .i64 (rowv (s 3)), .int .i64 (rowv (s 4)), .int .i64 (rowv (s 5))]] w (LP (bl (shr s p) 36) w) := by
  obtain ⟨i0, hi, hz0, hz1, hz2⟩ := info_parts info44
  go_enter Try.func153, Try.ntmps153
  go_wp2_with fail
  generalize hW : (World.alloc (World.alloc w _) _ : World) = W0
  have hsz : W0.heap.size = w.heap.size + 1 + 1 := by rw [← hW]; simp
  have hB0 : Below w.heap.size w W0 := by rw [← hW]; (repeat (first | exact Below.refl _ _ | assumption | refine Below.setCell ?_ (by first | (simp; done) | (simp; omega)) _ | refine Below.alloc ?_ (by first | (simp; done) | (simp; omega)) _ | refine Below.drew ?_))
  have q0 : W0.heap[(w.heap.size : Nat)]? = some (o6 p) := by
    rw [← hW]
    repeat (first | (refine alloc_at ?_; first | (simp; done) | (simp; omega)) | refine drew_row ?_ | refine alloc_past ?_ | assumption)
  have q1 : W0.heap[(w.heap.size + 1 : Nat)]? = some (o6 s) := by
    rw [← hW]
    repeat (first | (refine alloc_at ?_; first | (simp; done) | (simp; omega)) | refine drew_row ?_ | refine alloc_past ?_ | assumption)
  have K0 : KR 2 [(w.heap.size, o6 p), (w.heap.size + 1, o6 s)] w W0 := ⟨by simp [q0, q1], by rw [← hW]; simp, hB0⟩
  have S0 := Lib.hid (Rl.start K0)
  rw [hsz] at S0
  clear hsz
  clear hW hB0 q0 q1 K0
  generalize (World.alloc _ _ : World) = W1 at S0 ⊢
  generalize hv0 : (Value.slice (some ⟨_, 0, none⟩) 0 0) = v0 at S0 ⊢
  clear hv0
  go_loopw [5, 6] (fun v n wr => ∃ k : Nat, k ≤ 36 ∧ n = .int .i64 k ∧ Hid (Rl 2 [(w.heap.size, o6 p), (w.heap.size + 1, o6 s)] w (bl (shr s p) k) v wr)) (fun _ n _ => 36 - (intOf n).toNat)
  case atStart => exact ⟨0, by omega, rfl, S0⟩
  case round =>
    obtain ⟨k, hk, rfl, HS⟩ := hrel
    by_cases hlt : k < 36
    · have hlt' : (k : Int) < 36 := by omega
      have hk0 : (0 : Int) ≤ k := by omega
      have hx : k % 6 < 6 := Nat.mod_lt _ (by decide)
      have hy : k / 6 < 6 := by omega
      have HF := Lib.hid (l2at_n p hx hy)
      have HP := Lib.hid (l2part_f s p hx hy)
      have HX := Lib.hid (show (k : Int) % 6 = ((k % 6 : Nat) : Int) by omega)
      have HY := Lib.hid (show (k : Int) / 6 = ((k / 6 : Nat) : Int) by omega)
      have H0 := Lib.hid (@bl_k0 (shr s p) k)
      have H1 := Lib.hid (@bl_k1 (shr s p) k)
      go_wp2_with fail
      rw [HX.out, HY.out]
      clear HX HY
      generalize k % 6 = x at *
      generalize k / 6 = y at *
      obtain ⟨g, cap, rfl, ho⟩ := HS.out.2
      clear ho
      have hq : Qo w p s (bl (shr s p) k) (.slice (some ⟨g, 0, none⟩) (bl (shr s p) k).length cap) wr.heap.size x y (wr.alloc (.cells #[.int .i64 (x : Int), .int .i64 (y : Int)] 25)) := ⟨HS.out.alloc _, alloc_at rfl⟩
      clear HS
      generalize (World.alloc _ _ : World) = W1 at hq ⊢
      generalize wr.heap.size = gc at hq ⊢
      set_option maxRecDepth 8000 in
      go_region_held3 (fun U => U.cell? ⟨w.heap.size, 0, none⟩ = some (.int .i64 (rowv (p 0))) ∧ U.cell? ⟨w.heap.size, 1, none⟩ = some (.int .i64 (rowv (p 1))) ∧ U.cell? ⟨w.heap.size, 2, none⟩ = some (.int .i64 (rowv (p 2))) ∧ U.cell? ⟨w.heap.size, 3, none⟩ = some (.int .i64 (rowv (p 3))) ∧ U.cell? ⟨w.heap.size, 4, none⟩ = some (.int .i64 (rowv (p 4))) ∧ U.cell? ⟨w.heap.size, 5, none⟩ = some (.int .i64 (rowv (p 5))) ∧ U.cell? ⟨w.heap.size + 1, 0, none⟩ = some (.int .i64 (rowv (s 0))) ∧ U.cell? ⟨w.heap.size + 1, 1, none⟩ = some (.int .i64 (rowv (s 1))) ∧ U.cell? ⟨w.heap.size + 1, 2, none⟩ = some (.int .i64 (rowv (s 2))) ∧ U.cell? ⟨w.heap.size + 1, 3, none⟩ = some (.int .i64 (rowv (s 3))) ∧ U.cell? ⟨w.heap.size + 1, 4, none⟩ = some (.int .i64 (rowv (s 4))) ∧ U.cell? ⟨w.heap.size + 1, 5, none⟩ = some (.int .i64 (rowv (s 5))) ∧ U.cell? ⟨gc, 0, none⟩ = some (.int .i64 (x : Int)) ∧ U.cell? ⟨gc, 1, none⟩ = some (.int .i64 (y : Int)) ∧ Qo w p s (bl (shr s p) k) (.slice (some ⟨g, 0, none⟩) (bl (shr s p) k).length cap) gc x y U) (with_reducible refine SKo ?_; (first | with_reducible assumption | (with_reducible refine Qo.drew ?_; with_reducible assumption))) (first | (go_at_call 155; with_reducible refine (HF.out _).mono ?_; rintro e w' ⟨rfl, hb'⟩; have hq : Qo w p s (bl (shr s p) k) (.slice (some ⟨g, 0, none⟩) (bl (shr s p) k).length cap) gc x y w' := Qo.below (by (first | with_reducible assumption | (with_reducible refine Qo.drew ?_; with_reducible assumption))) hb' rfl) | (go_at_call 199; with_reducible refine (HP.out _).mono ?_; rintro e w' ⟨rfl, hb'⟩; have hq : Qo w p s (bl (shr s p) k) (.slice (some ⟨g, 0, none⟩) (bl (shr s p) k).length cap) gc x y w' := Qo.below (by (first | with_reducible assumption | (with_reducible refine Qo.drew ?_; with_reducible assumption))) hb' rfl))
      all_goals
        have HJ := Lib.hid hq
        rename_i hS
        clear hS hq HF HP
        obtain ⟨u, hu⟩ : ∃ u, u = shr s p y x := ⟨_, rfl⟩
        rw [← hu] at H0 H1 ⊢
        clear hu
        cases u
        · go_wp2_with fail
          go_roundw
          case rel => exact ⟨k + 1, by omega, by go_num, by rw [H0.out rfl]; exact Lib.hid HJ.out.1⟩
          case measure => simp [intOf]; omega
        · obtain ⟨hK, _, _, hv, ho⟩ := HJ.out.1
          have HO := ho.kept (grown_below ((Below.refl _ _).alloc (Nat.le_refl _) (.cells #[.int .i64 (x : Int), .int .i64 (y : Int)] 25)) rfl) (.inr (by simp [Value.ownBlock]))
          have HY := Lib.hid (HJ.out.1.alloc (.cells #[.int .i64 (x : Int), .int .i64 (y : Int)] 25))
          have HL := bl_len (shr s p) k
          have hks := hK.2.1
          have g_c := fun j => cell_of_row w' _ j _ _ _ HJ.out.2
          clear ho HJ hv hK
          go_wp2_with (at_builtin; refine wpList_append_own _ rfl _ _ 52 rfl (w.heap.size + 2) 25 i0 (.agg #[.int .i64 0, .int .i64 0]) 2 16 Try.underlying52 hi hz0 hz1 hz2 rfl (by decide) _ _ _ rfl HO ⟨w'.heap.size, 0, none⟩ 1 1 [.int .i64 (x : Int), .int .i64 (y : Int)] rfl rfl (two_new _ _ _ _) (ints_one _ _) (by have := HL; unfold maxLen; omega) (by have := HL; omega) (by have := hks; simp; omega) ?_; intro v' w1 hown' hgrow hnn; have R := Lib.hid (HY.out.snoc hown' hgrow hnn); clear hown' hgrow hnn HY HO HL hks g_c)
          go_roundw
          case rel => exact ⟨k + 1, by omega, by go_num, by rw [H1.out rfl]; exact R⟩
          case measure => simp [intOf]; omega
    · obtain rfl : k = 36 := by omega
      obtain ⟨g, cap, rfl, h2, h3⟩ := HS.out.post
      have H2 := Lib.hid h2
      have H3 := Lib.hid h3
      clear h2 h3 HS
      go_wp2_with fail
      go_ret
      exact ⟨g, cap, rfl, H2.out, H3.out⟩
/- Wm5 -/

/- Sl5 -/
set_option maxHeartbeats 4000000 in
theorem lspread_f (s p : Nat → Nat → Bool) (w : World) : Calls Try.prog 175 #[.agg #[.int .i64 (rowv (s 0)), .int .i64 (rowv (s 1)), .int .i64 (rowv (s 2)), .int .i64 (rowv (s 3)), .int .i64 (rowv (s 4)), .int .i64 (rowv (s 5))], .agg #[.int .i64 (rowv (p 0)), .int .i64 (rowv (p 1)), .int .i64 (rowv (p 2)), .int .i64 (rowv (p 3)), .int .i64 (rowv (p 4)), .int .i64 (rowv (p 5))]] w fun e w' => e = .returned (.agg #[.int .i64 (rowv (spd s p 0)), .int .i64 (rowv (spd s p 1)), .int .i64 (rowv (spd s p 2)), .int .i64 (rowv (spd s p 3)), .int .i64 (rowv (spd s p 4)), .int .i64 (rowv (spd s p 5))]) ∧ Below w.heap.size w w' := by
  go_enter Try.func175, Try.ntmps175
  go_wp2_with fail
  generalize hW : (World.alloc _ _ : World) = W0
  have hB0 : Below w.heap.size w W0 := by rw [← hW]; (repeat (first | exact Below.refl _ _ | assumption | refine Below.setCell ?_ (by first | (simp; done) | (simp; omega)) _ | refine Below.alloc ?_ (by first | (simp; done) | (simp; omega)) _ | refine Below.drew ?_))
  have qa : W0.heap[(w.heap.size : Nat)]? = some (o6 s) := by
    rw [← hW]
    repeat (first | (refine alloc_at ?_; first | (simp; done) | (simp; omega)) | refine drew_row ?_ | refine alloc_past ?_ | assumption)
  have qb : W0.heap[(w.heap.size + 1 : Nat)]? = some (o6 p) := by
    rw [← hW]
    repeat (first | (refine alloc_at ?_; first | (simp; done) | (simp; omega)) | refine drew_row ?_ | refine alloc_past ?_ | assumption)
  have qz : W0.heap[(w.heap.size + 2 : Nat)]? = some oz := by
    rw [← hW]
    repeat (first | (refine alloc_at ?_; first | (simp; done) | (simp; omega)) | refine drew_row ?_ | refine alloc_past ?_ | assumption)
  have K0 : KR 3 [(w.heap.size, o6 s), (w.heap.size + 1, o6 p), (w.heap.size + 2, oz)] w W0 := ⟨by simp [qa, qb, qz], by rw [← hW]; simp, hB0⟩
  clear hW hB0 qa qb qz
  refine (lcells_f p _).mono ?_
  rintro e W1 ⟨g, cap, rfl, ho, hb⟩
  have K1 := K0.far hb rfl
  have hg := (ho.lt g rfl).2
  have ho0 := own_mono ho (Nat.zero_le _)
  clear hb K0 ho
  obtain ⟨l, hl⟩ : ∃ l, l = bl p 36 := ⟨_, rfl⟩
  have hl36 : l.length ≤ 36 := by rw [hl]; exact bl_len p 36
  have HLm := Lib.hid (show ∀ c ∈ l, c.1 < 6 ∧ c.2 < 6 by rw [hl]; exact bl_lt p 36 (Nat.le_refl _))
  have HPf := Lib.hid (show spd s p = spo s l zf by rw [hl]; rfl)
  rw [← hl] at ho0 ⊢
  clear hl
  go_wp2_with fail
  have S0 : Hid (Rs5 w s p l g cap W1.heap.size 0 (W1.alloc oz)) := Lib.hid ⟨K1.al, ho0.alloc _, alloc_at rfl, K1.le, by simp, by omega⟩
  clear K1 ho0 hg
  generalize hgb : W1.heap.size = gb at S0 ⊢
  unfold oz at S0
  generalize (World.alloc _ _ : World) = W2 at S0 ⊢
  clear hgb
  go_loopw [7] (fun c wr => ∃ i : Nat, i ≤ l.length ∧ c = .int .i64 i ∧ Hid (Rs5 w s p l g cap gb i wr)) (fun c _ => l.length - (intOf c).toNat)
  case atStart => exact ⟨0, by omega, rfl, S0⟩
  case round =>
    obtain ⟨i, hi, rfl, HS⟩ := hrel
    by_cases hlt : i < l.length
    · have hlt' : (i : Int) < l.length := by omega
      have hi0 : (0 : Int) ≤ i := by omega
      have hi2 : i ≤ 36 := by omega
      obtain ⟨p1, p2⟩ := cv_at l i hlt
      have HD := Lib.hid (HS.out.below (M := wr.heap.size) (Below.refl _ _).drew rfl)
      have a1 := own_at HD.out.2.1 p1
      have a2 := own_at HD.out.2.1 p2
      clear p1 p2
      obtain ⟨m1, m2⟩ := HLm.out _ (List.getElem_mem hlt)
      have HF := Lib.hid (l2at_n s m1 m2)
      have HXr := Lib.hid (row_jf (spo s (l.take i) zf) (sf (l[i]).1 (l[i]).2 s))
      have HP := Lib.hid (fun (W : World) (h : Rs5 w s p l g cap gb i W) => h.put hlt)
      generalize l[i] = c at a1 a2 HF HP HXr
      obtain ⟨x, y⟩ := c
      dsimp only at HP HXr HF a1 a2
      have HX := Lib.hid (l2or_any (rowv (spo s (l.take i) zf 0)) (rowv (spo s (l.take i) zf 1)) (rowv (spo s (l.take i) zf 2)) (rowv (spo s (l.take i) zf 3)) (rowv (spo s (l.take i) zf 4)) (rowv (spo s (l.take i) zf 5)) (rowv (sf x y s 0)) (rowv (sf x y s 1)) (rowv (sf x y s 2)) (rowv (sf x y s 3)) (rowv (sf x y s 4)) (rowv (sf x y s 5)))
      simp only [HXr.out] at HX
      go_wp2_with fail
      have d_c := Rs5_c HD.out
      have s_c := fun j => cell_of_row wr.drew _ j _ _ _ (HD.out.1.row (g := w.heap.size) (o := o6 s) (by simp))
      set_option maxRecDepth 8000 in
      go_region_with (first | (go_at_call 155; with_reducible refine (HF.out _).mono ?_; rintro e w' ⟨rfl, hb'⟩; have HE := Lib.hid (HD.out.below hb' rfl); have e_c := Rs5_c HE.out) | (go_at_call 154; with_reducible refine (HX.out _).mono ?_; rintro e w' ⟨rfl, hb'⟩; have HG := Lib.hid (HE.out.below hb' rfl); clear e_c d_c; have b_f := Rs5_f HG.out; have b_c := Rs5_c HG.out))
      all_goals
        have HI2 := Lib.hid (HP.out _ HG.out)
        clear HG HE HD b_f b_c s_c a1 a2
        go_wp2_with fail
        go_roundw
        case rel => exact ⟨i + 1, by omega, by go_num, HI2⟩
        case measure => simp [intOf]; omega
    · obtain rfl : i = l.length := by omega
      have hgb3 := HS.out.2.2.2.1
      have d_c := Rs5_c HS.out
      rw [List.take_length] at d_c
      have z_c := fun j => cell_of_row wr _ j _ _ _ (HS.out.1.row (g := w.heap.size + 2) (o := oz) (by simp))
      have z_f := fun j => frozen_of_row wr _ j _ _ (HS.out.1.row (g := w.heap.size + 2) (o := oz) (by simp))
      go_wp2_with fail
      have qx : ((((((wr.setCell ⟨w.heap.size + 2, 0, none⟩ (.int .i64 (rowv (spo s l zf 0)))).setCell ⟨w.heap.size + 2, 1, none⟩ (.int .i64 (rowv (spo s l zf 1)))).setCell ⟨w.heap.size + 2, 2, none⟩ (.int .i64 (rowv (spo s l zf 2)))).setCell ⟨w.heap.size + 2, 3, none⟩ (.int .i64 (rowv (spo s l zf 3)))).setCell ⟨w.heap.size + 2, 4, none⟩ (.int .i64 (rowv (spo s l zf 4)))).setCell ⟨w.heap.size + 2, 5, none⟩ (.int .i64 (rowv (spo s l zf 5)))).heap[w.heap.size + 2]? = _ := set6a _ _ _ _ _ _ (HS.out.1.row (g := w.heap.size + 2) (o := oz) (by simp))
      have hB := below6 (g := w.heap.size + 2) (v0 := .int .i64 (rowv (spo s l zf 0))) (v1 := .int .i64 (rowv (spo s l zf 1))) (v2 := .int .i64 (rowv (spo s l zf 2))) (v3 := .int .i64 (rowv (spo s l zf 3))) (v4 := .int .i64 (rowv (spo s l zf 4))) (v5 := .int .i64 (rowv (spo s l zf 5))) HS.out.1.2.2 (by omega)
      generalize (World.setCell _ _ _ : World) = X at qx hB ⊢
      have x_c := fun j => cell_of_row X _ j _ _ _ qx
      rw [HPf.out]
      exact bodyPost_ret (v := .agg #[.int .i64 (rowv (spo s l zf 0)), .int .i64 (rowv (spo s l zf 1)), .int .i64 (rowv (spo s l zf 2)), .int .i64 (rowv (spo s l zf 3)), .int .i64 (rowv (spo s l zf 4)), .int .i64 (rowv (spo s l zf 5))]) (by simp [results, Try.results175, go_sem, x_c]) rfl ⟨rfl, hB⟩
/- Om5 -/
theorem oz_c {U : World} {g : Nat} (h : U.heap[g]? = some oz) : ∀ j, U.cell? ⟨g, j, none⟩ = (#[.int .i64 0, .int .i64 0, .int .i64 0, .int .i64 0, .int .i64 0, .int .i64 0] : Array Value)[j]? := fun j => cell_of_row U _ j _ _ _ h
theorem oz_f {U : World} {g : Nat} (h : U.heap[g]? = some oz) : ∀ j, U.frozen? ⟨g, j, none⟩ = false := fun j => frozen_of_row U _ j _ _ h
theorem SK1 {w U : World} {s : Fn6} (h : KR 1 [(w.heap.size, o6 s)] w U) : U.cell? ⟨w.heap.size, 0, none⟩ = some (.int .i64 (rowv (s 0))) ∧ U.cell? ⟨w.heap.size, 1, none⟩ = some (.int .i64 (rowv (s 1))) ∧ U.cell? ⟨w.heap.size, 2, none⟩ = some (.int .i64 (rowv (s 2))) ∧ U.cell? ⟨w.heap.size, 3, none⟩ = some (.int .i64 (rowv (s 3))) ∧ U.cell? ⟨w.heap.size, 4, none⟩ = some (.int .i64 (rowv (s 4))) ∧ U.cell? ⟨w.heap.size, 5, none⟩ = some (.int .i64 (rowv (s 5))) ∧ KR 1 [(w.heap.size, o6 s)] w U :=
  have h0 := fun j => cell_of_row U _ j _ _ _ (h.row (g := w.heap.size) (o := o6 s) (List.mem_cons_self ..))
  ⟨h0 0, h0 1, h0 2, h0 3, h0 4, h0 5, h⟩
theorem SK2 {w U : World} {s p : Fn6} (h : KR 2 [(w.heap.size, o6 s), (w.heap.size + 1, o6 p)] w U) : U.cell? ⟨w.heap.size, 0, none⟩ = some (.int .i64 (rowv (s 0))) ∧ U.cell? ⟨w.heap.size, 1, none⟩ = some (.int .i64 (rowv (s 1))) ∧ U.cell? ⟨w.heap.size, 2, none⟩ = some (.int .i64 (rowv (s 2))) ∧ U.cell? ⟨w.heap.size, 3, none⟩ = some (.int .i64 (rowv (s 3))) ∧ U.cell? ⟨w.heap.size, 4, none⟩ = some (.int .i64 (rowv (s 4))) ∧ U.cell? ⟨w.heap.size, 5, none⟩ = some (.int .i64 (rowv (s 5))) ∧ U.cell? ⟨w.heap.size + 1, 0, none⟩ = some (.int .i64 (rowv (p 0))) ∧ U.cell? ⟨w.heap.size + 1, 1, none⟩ = some (.int .i64 (rowv (p 1))) ∧ U.cell? ⟨w.heap.size + 1, 2, none⟩ = some (.int .i64 (rowv (p 2))) ∧ U.cell? ⟨w.heap.size + 1, 3, none⟩ = some (.int .i64 (rowv (p 3))) ∧ U.cell? ⟨w.heap.size + 1, 4, none⟩ = some (.int .i64 (rowv (p 4))) ∧ U.cell? ⟨w.heap.size + 1, 5, none⟩ = some (.int .i64 (rowv (p 5))) ∧ KR 2 [(w.heap.size, o6 s), (w.heap.size + 1, o6 p)] w U :=
  have h0 := fun j => cell_of_row U _ j _ _ _ (h.row (g := w.heap.size) (o := o6 s) (List.mem_cons_self ..))
  have h1 := fun j => cell_of_row U _ j _ _ _ (h.row (g := w.heap.size + 1) (o := o6 p) (List.mem_cons_of_mem _ (List.mem_cons_self ..)))
  ⟨h0 0, h0 1, h0 2, h0 3, h0 4, h0 5, h1 0, h1 1, h1 2, h1 3, h1 4, h1 5, h⟩
theorem SK3 {w U : World} {s p q : Fn6} (h : KR 3 [(w.heap.size, o6 s), (w.heap.size + 1, o6 p), (w.heap.size + 2, o6 q)] w U) : U.cell? ⟨w.heap.size, 0, none⟩ = some (.int .i64 (rowv (s 0))) ∧ U.cell? ⟨w.heap.size, 1, none⟩ = some (.int .i64 (rowv (s 1))) ∧ U.cell? ⟨w.heap.size, 2, none⟩ = some (.int .i64 (rowv (s 2))) ∧ U.cell? ⟨w.heap.size, 3, none⟩ = some (.int .i64 (rowv (s 3))) ∧ U.cell? ⟨w.heap.size, 4, none⟩ = some (.int .i64 (rowv (s 4))) ∧ U.cell? ⟨w.heap.size, 5, none⟩ = some (.int .i64 (rowv (s 5))) ∧ U.cell? ⟨w.heap.size + 1, 0, none⟩ = some (.int .i64 (rowv (p 0))) ∧ U.cell? ⟨w.heap.size + 1, 1, none⟩ = some (.int .i64 (rowv (p 1))) ∧ U.cell? ⟨w.heap.size + 1, 2, none⟩ = some (.int .i64 (rowv (p 2))) ∧ U.cell? ⟨w.heap.size + 1, 3, none⟩ = some (.int .i64 (rowv (p 3))) ∧ U.cell? ⟨w.heap.size + 1, 4, none⟩ = some (.int .i64 (rowv (p 4))) ∧ U.cell? ⟨w.heap.size + 1, 5, none⟩ = some (.int .i64 (rowv (p 5))) ∧ U.cell? ⟨w.heap.size + 2, 0, none⟩ = some (.int .i64 (rowv (q 0))) ∧ U.cell? ⟨w.heap.size + 2, 1, none⟩ = some (.int .i64 (rowv (q 1))) ∧ U.cell? ⟨w.heap.size + 2, 2, none⟩ = some (.int .i64 (rowv (q 2))) ∧ U.cell? ⟨w.heap.size + 2, 3, none⟩ = some (.int .i64 (rowv (q 3))) ∧ U.cell? ⟨w.heap.size + 2, 4, none⟩ = some (.int .i64 (rowv (q 4))) ∧ U.cell? ⟨w.heap.size + 2, 5, none⟩ = some (.int .i64 (rowv (q 5))) ∧ KR 3 [(w.heap.size, o6 s), (w.heap.size + 1, o6 p), (w.heap.size + 2, o6 q)] w U :=
  have h0 := fun j => cell_of_row U _ j _ _ _ (h.row (g := w.heap.size) (o := o6 s) (List.mem_cons_self ..))
  have h1 := fun j => cell_of_row U _ j _ _ _ (h.row (g := w.heap.size + 1) (o := o6 p) (List.mem_cons_of_mem _ (List.mem_cons_self ..)))
  have h2 := fun j => cell_of_row U _ j _ _ _ (h.row (g := w.heap.size + 2) (o := o6 q) (List.mem_cons_of_mem _ (List.mem_cons_of_mem _ (List.mem_cons_self ..))))
  ⟨h0 0, h0 1, h0 2, h0 3, h0 4, h0 5, h1 0, h1 1, h1 2, h1 3, h1 4, h1 5, h2 0, h2 1, h2 2, h2 3, h2 4, h2 5, h⟩
theorem lnot_f (s : Fn6) (w : World) : Calls Try.prog 193 #[.agg #[.int .i64 (rowv (s 0)), .int .i64 (rowv (s 1)), .int .i64 (rowv (s 2)), .int .i64 (rowv (s 3)), .int .i64 (rowv (s 4)), .int .i64 (rowv (s 5))]] w fun e w' => e = .returned (.agg #[.int .i64 (rowv (nf s 0)), .int .i64 (rowv (nf s 1)), .int .i64 (rowv (nf s 2)), .int .i64 (rowv (nf s 3)), .int .i64 (rowv (nf s 4)), .int .i64 (rowv (nf s 5))]) ∧ Below w.heap.size w w' := by
  have h := l2not_any (rowv (s 0)) (rowv (s 1)) (rowv (s 2)) (rowv (s 3)) (rowv (s 4)) (rowv (s 5)) w
  simp only [row_nf] at h
  exact h
theorem land_f (s p : Fn6) (w : World) : Calls Try.prog 114 #[.agg #[.int .i64 (rowv (s 0)), .int .i64 (rowv (s 1)), .int .i64 (rowv (s 2)), .int .i64 (rowv (s 3)), .int .i64 (rowv (s 4)), .int .i64 (rowv (s 5))], .agg #[.int .i64 (rowv (p 0)), .int .i64 (rowv (p 1)), .int .i64 (rowv (p 2)), .int .i64 (rowv (p 3)), .int .i64 (rowv (p 4)), .int .i64 (rowv (p 5))]] w fun e w' => e = .returned (.agg #[.int .i64 (rowv (af s p 0)), .int .i64 (rowv (af s p 1)), .int .i64 (rowv (af s p 2)), .int .i64 (rowv (af s p 3)), .int .i64 (rowv (af s p 4)), .int .i64 (rowv (af s p 5))]) ∧ Below w.heap.size w w' := by
  have h := l2and_any (rowv (s 0)) (rowv (s 1)) (rowv (s 2)) (rowv (s 3)) (rowv (s 4)) (rowv (s 5)) (rowv (p 0)) (rowv (p 1)) (rowv (p 2)) (rowv (p 3)) (rowv (p 4)) (rowv (p 5)) w
  simp only [row_af] at h
  exact h
/- Rw5 -/
/-- A fold over the first sheets of a list. -/
def fo5 (J : Fn6 → Fn6 → Fn6) (L : List Fn6) (i : Nat) (o : Fn6) : Fn6 := (L.take i).foldl J o
theorem fo5_succ (J : Fn6 → Fn6 → Fn6) (L : List Fn6) (o : Fn6) {i : Nat} (h : i < L.length) : fo5 J L (i + 1) o = J (fo5 J L i o) L[i] := by
  unfold fo5
  rw [List.take_add_one, List.getElem?_eq_getElem h, List.foldl_append]
  rfl
theorem fo5_end (J : Fn6 → Fn6 → Fn6) (L : List Fn6) (o : Fn6) : fo5 J L L.length o = L.foldl J o := by
  unfold fo5
  rw [List.take_length]
theorem fo5_spo (s : Fn6) (l : List (Nat × Nat)) (o : Fn6) : (l.map (fun c => sf c.1 c.2 s)).foldl jf o = spo s l o := by
  rw [List.foldl_map]; rfl
theorem fo5_sho (s : Fn6) (l : List (Nat × Nat)) (o : Fn6) : (l.map (fun c => sf c.1 c.2 s)).foldl af o = sho s l o := by
  rw [List.foldl_map]; rfl
/-- Midway: what is made so far lies in the block gb; the sheets in a row of their own. -/
def Rw5 (w : World) (n : Nat) (rows : List (Nat × Obj)) (L : List Fn6) (g cap gb : Nat) (F : Fn6) (W : World) : Prop :=
  KR n rows w W ∧ W.ownsRow 0 28 6 (.slice (some ⟨g, 0, none⟩) L.length cap) L.length (sv L) ∧ W.heap[gb]? = some (o6 F) ∧ w.heap.size + n ≤ gb ∧ gb < W.heap.size ∧ g ≠ gb
theorem Rw5.below {w W W' : World} {n : Nat} {rows : List (Nat × Obj)} {L : List Fn6} {g cap gb M : Nat} {F : Fn6} (h : Rw5 w n rows L g cap gb F W) (hb : Below M W W') (hM : M = W.heap.size) : Rw5 w n rows L g cap gb F W' := by
  obtain ⟨h1, h2, h3, h4, h5, h6⟩ := h
  exact ⟨h1.far hb hM, h2.kept (grown_below hb hM) (.inr (by simp [Value.ownBlock])), rowk h3 hb hM, h4, Nat.lt_of_lt_of_le h5 hb.size, h6⟩
theorem Rw5.put {w W : World} {n : Nat} {rows : List (Nat × Obj)} {L : List Fn6} {g cap gb : Nat} {F : Fn6} (G : Fn6) (h : Rw5 w n rows L g cap gb F W) : Rw5 w n rows L g cap gb G ((((((W.setCell ⟨gb, 0, none⟩ (.int .i64 (rowv (G 0)))).setCell ⟨gb, 1, none⟩ (.int .i64 (rowv (G 1)))).setCell ⟨gb, 2, none⟩ (.int .i64 (rowv (G 2)))).setCell ⟨gb, 3, none⟩ (.int .i64 (rowv (G 3)))).setCell ⟨gb, 4, none⟩ (.int .i64 (rowv (G 4)))).setCell ⟨gb, 5, none⟩ (.int .i64 (rowv (G 5)))) := by
  obtain ⟨h1, h2, h3, h4, h5, h6⟩ := h
  exact ⟨h1.set h4 |>.set h4 |>.set h4 |>.set h4 |>.set h4 |>.set h4, own_set6 _ _ _ _ _ _ h2 h6, set6a _ _ _ _ _ _ h3, h4, by simpa using h5, h6⟩
theorem Rw5_c {w U : World} {n : Nat} {rows : List (Nat × Obj)} {L : List Fn6} {g cap gb : Nat} {F : Fn6} (h : Rw5 w n rows L g cap gb F U) : ∀ j, U.cell? ⟨gb, j, none⟩ = (#[.int .i64 (rowv (F 0)), .int .i64 (rowv (F 1)), .int .i64 (rowv (F 2)), .int .i64 (rowv (F 3)), .int .i64 (rowv (F 4)), .int .i64 (rowv (F 5))] : Array Value)[j]? := fun j => cell_of_row U _ j _ _ _ h.2.2.1
theorem Rw5_f {w U : World} {n : Nat} {rows : List (Nat × Obj)} {L : List Fn6} {g cap gb : Nat} {F : Fn6} (h : Rw5 w n rows L g cap gb F U) : ∀ j, U.frozen? ⟨gb, j, none⟩ = false := fun j => frozen_of_row U _ j _ _ h.2.2.1
theorem Rw5_s {w U : World} {n : Nat} {rows : List (Nat × Obj)} {L : List Fn6} {g cap gb : Nat} {F : Fn6} (h : Rw5 w n rows L g cap gb F U) {i : Nat} (hi : i < L.length) : U.cell? ⟨g, i * 6, none⟩ = some (.int .i64 (rowv (L[i] 0))) ∧ U.cell? ⟨g, i * 6 + 1, none⟩ = some (.int .i64 (rowv (L[i] 1))) ∧ U.cell? ⟨g, i * 6 + 2, none⟩ = some (.int .i64 (rowv (L[i] 2))) ∧ U.cell? ⟨g, i * 6 + 3, none⟩ = some (.int .i64 (rowv (L[i] 3))) ∧ U.cell? ⟨g, i * 6 + 4, none⟩ = some (.int .i64 (rowv (L[i] 4))) ∧ U.cell? ⟨g, i * 6 + 5, none⟩ = some (.int .i64 (rowv (L[i] 5))) := by
  obtain ⟨p0, p1, p2, p3, p4, p5⟩ := sv_at L i hi
  exact ⟨own_at h.2.1 p0, own_at h.2.1 p1, own_at h.2.1 p2, own_at h.2.1 p3, own_at h.2.1 p4, own_at h.2.1 p5⟩
/-- Reflected by two quarters and a shift. -/
theorem rf_move (p : Fn6) {j : Nat} (hj : j < 6) : rowv (sf 1 1 (tf 2 p) j) = rowv (rf p j) := rowv_congr fun i hi => by
  have e1 : 5 - (j + 6 - 1) % 6 = (6 - j) % 6 := by omega
  have e2 : 5 - (i + 6 - 1) % 6 = (6 - i) % 6 := by omega
  show p (5 - (j + 6 - 1) % 6) (5 - (i + 6 - 1) % 6) = p ((6 - j) % 6) ((6 - i) % 6)
  rw [e1, e2]
/- Ck5 -/
theorem reflected_f (p : Fn6) (w : World) : Calls Try.prog 179 #[.agg #[.int .i64 (rowv (p 0)), .int .i64 (rowv (p 1)), .int .i64 (rowv (p 2)), .int .i64 (rowv (p 3)), .int .i64 (rowv (p 4)), .int .i64 (rowv (p 5))]] w fun e w' => e = .returned (.agg #[.int .i64 (rowv (rf p 0)), .int .i64 (rowv (rf p 1)), .int .i64 (rowv (rf p 2)), .int .i64 (rowv (rf p 3)), .int .i64 (rowv (rf p 4)), .int .i64 (rowv (rf p 5))]) ∧ Below w.heap.size w w' := by
  have HM : Hid (∀ w, Calls Try.prog 209 #[.agg #[.int .i64 (rowv (p 0)), .int .i64 (rowv (p 1)), .int .i64 (rowv (p 2)), .int .i64 (rowv (p 3)), .int .i64 (rowv (p 4)), .int .i64 (rowv (p 5))], .agg #[.int .i64 2, .int .i64 1, .int .i64 1]] w fun e w' => e = .returned (.agg #[.int .i64 (rowv (rf p 0)), .int .i64 (rowv (rf p 1)), .int .i64 (rowv (rf p 2)), .int .i64 (rowv (rf p 3)), .int .i64 (rowv (rf p 4)), .int .i64 (rowv (rf p 5))]) ∧ Below w.heap.size w w') := Lib.hid (fun w => by
    have h := moved_f p (k := 2) (x := 1) (y := 1) (by decide) (by decide) (by decide) w
    rw [rf_move p (show 0 < 6 by decide), rf_move p (show 1 < 6 by decide), rf_move p (show 2 < 6 by decide), rf_move p (show 3 < 6 by decide), rf_move p (show 4 < 6 by decide), rf_move p (show 5 < 6 by decide)] at h
    exact h)
  go_enter Try.func179, Try.ntmps179
  go_wp2_with fail
  generalize hW : (World.alloc _ _ : World) = W0
  have hB0 : Below w.heap.size w W0 := by rw [← hW]; (repeat (first | exact Below.refl _ _ | assumption | refine Below.setCell ?_ (by first | (simp; done) | (simp; omega)) _ | refine Below.alloc ?_ (by first | (simp; done) | (simp; omega)) _ | refine Below.drew ?_))
  have q0 : W0.heap[(w.heap.size : Nat)]? = some (o6 p) := by
    rw [← hW]
    repeat (first | (refine alloc_at ?_; first | (simp; done) | (simp; omega)) | refine drew_row ?_ | refine alloc_past ?_ | assumption)
  have q1 : W0.heap[(w.heap.size + 1 : Nat)]? = some (oz) := by
    rw [← hW]
    repeat (first | (refine alloc_at ?_; first | (simp; done) | (simp; omega)) | refine drew_row ?_ | refine alloc_past ?_ | assumption)
  have hk : KR 1 [(w.heap.size, o6 p)] w W0 := ⟨by simp [q0], by rw [← hW]; simp, hB0⟩
  have hq := q1
  clear hW hB0 q0 q1
  refine (HM.out _).mono ?_
  rintro e W1 ⟨rfl, hb⟩
  have hk1 := hk.far hb rfl
  have hq1 := rowk hq hb rfl
  have z_c := fun j => cell_of_row _ _ j _ _ _ hq1
  have z_f := fun j => frozen_of_row _ _ j _ _ hq1
  clear hb hk hq
  go_wp2_with fail
  refine bodyPost_ret (v := .agg #[.int .i64 (rowv (rf p 0)), .int .i64 (rowv (rf p 1)), .int .i64 (rowv (rf p 2)), .int .i64 (rowv (rf p 3)), .int .i64 (rowv (rf p 4)), .int .i64 (rowv (rf p 5))]) (by simp [results, Try.results179, go_sem, z_c]) rfl ⟨rfl, ?_⟩
  exact below6 hk1.2.2 (by omega)
/-- A closure over a stamp. -/
theorem spreading_f (p : Fn6) (w : World) : Calls Try.prog 217 #[.agg #[.int .i64 (rowv (p 0)), .int .i64 (rowv (p 1)), .int .i64 (rowv (p 2)), .int .i64 (rowv (p 3)), .int .i64 (rowv (p 4)), .int .i64 (rowv (p 5))]] w fun e w' => ∃ g, e = .returned (.func (.func 224) #[] #[.pointer (some ⟨g, 0, none⟩)]) ∧ w'.heap[g]? = some (o6 p) ∧ Below w.heap.size w w' := by
  have hmf : ∀ (fn : Fn) (first cap : Array Value) (w : World), (Instr.makeFunc fn first cap).run Try.prog w = .ok (.func fn first cap) w := fun _ _ _ _ => rfl
  go_enter Try.func217, Try.ntmps217
  go_wp2_with fail
  go_ret
  exact ⟨_, rfl, alloc_at rfl, by (repeat (first | exact Below.refl _ _ | assumption | refine Below.setCell ?_ (by first | (simp; done) | (simp; omega)) _ | refine Below.alloc ?_ (by first | (simp; done) | (simp; omega)) _ | refine Below.drew ?_))⟩
theorem shrinking_f (p : Fn6) (w : World) : Calls Try.prog 131 #[.agg #[.int .i64 (rowv (p 0)), .int .i64 (rowv (p 1)), .int .i64 (rowv (p 2)), .int .i64 (rowv (p 3)), .int .i64 (rowv (p 4)), .int .i64 (rowv (p 5))]] w fun e w' => ∃ g, e = .returned (.func (.func 180) #[] #[.pointer (some ⟨g, 0, none⟩)]) ∧ w'.heap[g]? = some (o6 (rf p)) ∧ Below w.heap.size w w' := by
  have hmf : ∀ (fn : Fn) (first cap : Array Value) (w : World), (Instr.makeFunc fn first cap).run Try.prog w = .ok (.func fn first cap) w := fun _ _ _ _ => rfl
  have HR := Lib.hid (reflected_f p)
  go_enter Try.func131, Try.ntmps131
  go_wp2_with fail
  refine (HR.out _).mono ?_
  rintro e W1 ⟨rfl, hb⟩
  have hB : Below w.heap.size w W1 := below_of (by (repeat (first | exact Below.refl _ _ | assumption | refine Below.setCell ?_ (by first | (simp; done) | (simp; omega)) _ | refine Below.alloc ?_ (by first | (simp; done) | (simp; omega)) _ | refine Below.drew ?_))) hb (by simp)
  clear hb
  go_wp2_with fail
  go_ret
  exact ⟨_, rfl, alloc_at rfl, hB.alloc hB.size _⟩
set_option maxHeartbeats 4000000 in
theorem spread1_f (s q : Fn6) (gp : Nat) (w : World) (hp : w.heap[gp]? = some (o6 q)) : Calls Try.prog 224 #[.agg #[.int .i64 (rowv (s 0)), .int .i64 (rowv (s 1)), .int .i64 (rowv (s 2)), .int .i64 (rowv (s 3)), .int .i64 (rowv (s 4)), .int .i64 (rowv (s 5))], .pointer (some ⟨gp, 0, none⟩)] w fun e w' => e = .returned (.agg #[.int .i64 (rowv (((bl q 36).map (fun c => sf c.1 c.2 s)).foldl jf zf 0)), .int .i64 (rowv (((bl q 36).map (fun c => sf c.1 c.2 s)).foldl jf zf 1)), .int .i64 (rowv (((bl q 36).map (fun c => sf c.1 c.2 s)).foldl jf zf 2)), .int .i64 (rowv (((bl q 36).map (fun c => sf c.1 c.2 s)).foldl jf zf 3)), .int .i64 (rowv (((bl q 36).map (fun c => sf c.1 c.2 s)).foldl jf zf 4)), .int .i64 (rowv (((bl q 36).map (fun c => sf c.1 c.2 s)).foldl jf zf 5))]) ∧ Below w.heap.size w w' := by
  have hmf : ∀ (fn : Fn) (first cap : Array Value) (w : World), (Instr.makeFunc fn first cap).run Try.prog w = .ok (.func fn first cap) w := fun _ _ _ _ => rfl
  have hgl := row_lt hp
  have hgl1 := Nat.lt_succ_of_lt hgl
  have hgl2 := Nat.lt_succ_of_lt hgl1
  have hgl3 := Nat.lt_succ_of_lt hgl2
  have hn0 := Nat.ne_of_lt hgl
  have hn1 := Nat.ne_of_lt hgl1
  have hn2 := Nat.ne_of_lt hgl2
  have p_c := fun j => cell_of_row w _ j _ _ _ hp
  go_enter Try.func224, Try.ntmps224
  go_wp2_with fail
  generalize hW : (World.alloc _ _ : World) = W0
  have q0 : W0.heap[(w.heap.size : Nat)]? = some (o6 s) := by
    rw [← hW]
    repeat (first | (refine alloc_at ?_; first | (simp; done) | (simp; omega)) | refine drew_row ?_ | refine alloc_past ?_ | assumption)
  have q1 : W0.heap[(w.heap.size + 1 : Nat)]? = some oz := by
    rw [← hW]
    repeat (first | (refine alloc_at ?_; first | (simp; done) | (simp; omega)) | refine drew_row ?_ | refine alloc_past ?_ | assumption)
  have q2 : W0.heap[(w.heap.size + 2 : Nat)]? = some (o6 zf) := by
    rw [← hW]
    repeat (first | (refine alloc_at ?_; first | (simp; done) | (simp; omega)) | refine drew_row ?_ | refine alloc_past ?_ | assumption)
  have K0 : KR 2 [(w.heap.size, o6 s), (w.heap.size + 1, oz)] w W0 := ⟨by simp [q0, q1], by rw [← hW]; simp, by rw [← hW]; (repeat (first | exact Below.refl _ _ | assumption | refine Below.setCell ?_ (by first | (simp; done) | (simp; omega)) _ | refine Below.alloc ?_ (by first | (simp; done) | (simp; omega)) _ | refine Below.drew ?_))⟩
  clear hW q0 q1 p_c hgl1 hgl2 hgl3 hn0 hn1 hn2
  have hge : w.heap.size + 2 ≤ w.heap.size + 2 := Nat.le_refl _
  refine (shifts_f s q _).mono ?_
  rintro e W2 ⟨l, g, cap, hl, rfl, ho, hb⟩
  have K1 := K0.far hb rfl
  have q3 := rowk q2 hb rfl
  have hgn : g ≠ w.heap.size + 2 := by have h1 := (ho.lt g rfl).1; have h2 := row_lt q2; omega
  have ho0 := own_mono ho (Nat.zero_le _)
  clear hb K0 ho q2
  obtain ⟨L, hL⟩ : ∃ L, L = l.map (fun c => sf c.1 c.2 s) := ⟨_, rfl⟩
  have hLn : l.length = L.length := by rw [hL, List.length_map]
  have hL36 : L.length ≤ 36 := by rw [← hLn, hl]; exact bl_len q 36
  have HL := Lib.hid (show ((bl q 36).map (fun c => sf c.1 c.2 s)).foldl jf zf = fo5 jf L L.length zf by rw [fo5_end, hL, hl])
  rw [← hL, hLn] at ho0
  rw [hLn]
  clear hl hL hLn
  have S0 : Hid (Rw5 w 2 [(w.heap.size, o6 s), (w.heap.size + 1, oz)] L g cap (w.heap.size + 2) (fo5 jf L 0 zf) W2) := Lib.hid ⟨K1, ho0, q3, hge, row_lt q3, hgn⟩
  clear K1 ho0 q3 hge hgn
  go_wp2_with fail
  go_loopw [12] (fun c wr => ∃ i : Nat, i ≤ L.length ∧ c = .int .i64 i ∧ Hid (Rw5 w 2 [(w.heap.size, o6 s), (w.heap.size + 1, oz)] L g cap (w.heap.size + 2) (fo5 jf L i zf) wr)) (fun c _ => L.length - (intOf c).toNat)
  case atStart => exact ⟨0, by omega, rfl, S0⟩
  case round =>
    obtain ⟨i, hi, rfl, HS⟩ := hrel
    by_cases hlt : i < L.length
    · have hlt' : (i : Int) < L.length := by omega
      have hi0 : (0 : Int) ≤ i := by omega
      have hi2 : i ≤ 36 := by omega
      have HE := Lib.hid (fo5_succ jf L zf hlt)
      obtain ⟨a0, a1, a2, a3, a4, a5⟩ := Rw5_s HS.out hlt
      obtain ⟨F, hF⟩ : ∃ F, F = fo5 jf L i zf := ⟨_, rfl⟩
      rw [← hF] at HE HS
      clear hF
      generalize L[i] = c at HE a0 a1 a2 a3 a4 a5
      have HX : Hid (∀ w, Calls Try.prog 195 #[.agg #[.int .i64 (rowv (F 0)), .int .i64 (rowv (F 1)), .int .i64 (rowv (F 2)), .int .i64 (rowv (F 3)), .int .i64 (rowv (F 4)), .int .i64 (rowv (F 5))], .agg #[.int .i64 (rowv (c 0)), .int .i64 (rowv (c 1)), .int .i64 (rowv (c 2)), .int .i64 (rowv (c 3)), .int .i64 (rowv (c 4)), .int .i64 (rowv (c 5))]] w fun e w' => e = .returned (.agg #[.int .i64 (rowv (jf F c 0)), .int .i64 (rowv (jf F c 1)), .int .i64 (rowv (jf F c 2)), .int .i64 (rowv (jf F c 3)), .int .i64 (rowv (jf F c 4)), .int .i64 (rowv (jf F c 5))]) ∧ Below w.heap.size w w') := Lib.hid (fun w => by
        have h := or_any (rowv (F 0)) (rowv (F 1)) (rowv (F 2)) (rowv (F 3)) (rowv (F 4)) (rowv (F 5)) (rowv (c 0)) (rowv (c 1)) (rowv (c 2)) (rowv (c 3)) (rowv (c 4)) (rowv (c 5)) w
        simp only [row_jf] at h
        exact h)
      have d_c := Rw5_c HS.out
      have hg5 := HS.out.2.2.2.2.1
      have hg6 := Nat.lt_succ_of_lt hg5
      have hg7 := Nat.ne_of_lt hg5
      go_wp2_with fail
      refine (HX.out _).mono ?_
      rintro e W3 ⟨rfl, hb⟩
      have HE2 := Lib.hid ((HS.out.below (M := wr.heap.size) ((Below.refl _ _).alloc (Nat.le_refl _) _) rfl).below hb rfl)
      clear hb a0 a1 a2 a3 a4 a5 HS d_c hg5 hg6 hg7
      have b_c := Rw5_c HE2.out
      have b_f := Rw5_f HE2.out
      go_wp2_with fail
      have HI2 := Lib.hid (HE2.out.put (jf F c))
      clear b_c b_f HE2
      go_roundw
      case rel => exact ⟨i + 1, by omega, by go_num, by rw [HE.out]; exact HI2⟩
      case measure => simp [intOf]; omega
    · obtain rfl : i = L.length := by omega
      have d_c := Rw5_c HS.out
      have z_c := fun j => cell_of_row wr _ j _ _ _ (HS.out.1.row (g := w.heap.size + 1) (o := oz) (by simp))
      have z_f := fun j => frozen_of_row wr _ j _ _ (HS.out.1.row (g := w.heap.size + 1) (o := oz) (by simp))
      go_wp2_with fail
      rw [HL.out]
      refine bodyPost_ret (v := .agg #[.int .i64 (rowv (fo5 jf L L.length zf 0)), .int .i64 (rowv (fo5 jf L L.length zf 1)), .int .i64 (rowv (fo5 jf L L.length zf 2)), .int .i64 (rowv (fo5 jf L L.length zf 3)), .int .i64 (rowv (fo5 jf L L.length zf 4)), .int .i64 (rowv (fo5 jf L L.length zf 5))]) (by simp [results, Try.results224, go_sem, z_c]) rfl ⟨rfl, ?_⟩
      exact below6 HS.out.1.2.2 (by omega)
set_option maxHeartbeats 4000000 in
theorem shrink1_f (s q : Fn6) (gp : Nat) (w : World) (hp : w.heap[gp]? = some (o6 q)) : Calls Try.prog 180 #[.agg #[.int .i64 (rowv (s 0)), .int .i64 (rowv (s 1)), .int .i64 (rowv (s 2)), .int .i64 (rowv (s 3)), .int .i64 (rowv (s 4)), .int .i64 (rowv (s 5))], .pointer (some ⟨gp, 0, none⟩)] w fun e w' => e = .returned (.agg #[.int .i64 (rowv (((bl q 36).map (fun c => sf c.1 c.2 s)).foldl af onf 0)), .int .i64 (rowv (((bl q 36).map (fun c => sf c.1 c.2 s)).foldl af onf 1)), .int .i64 (rowv (((bl q 36).map (fun c => sf c.1 c.2 s)).foldl af onf 2)), .int .i64 (rowv (((bl q 36).map (fun c => sf c.1 c.2 s)).foldl af onf 3)), .int .i64 (rowv (((bl q 36).map (fun c => sf c.1 c.2 s)).foldl af onf 4)), .int .i64 (rowv (((bl q 36).map (fun c => sf c.1 c.2 s)).foldl af onf 5))]) ∧ Below w.heap.size w w' := by
  have hmf : ∀ (fn : Fn) (first cap : Array Value) (w : World), (Instr.makeFunc fn first cap).run Try.prog w = .ok (.func fn first cap) w := fun _ _ _ _ => rfl
  have hgl := row_lt hp
  have hgl1 := Nat.lt_succ_of_lt hgl
  have hgl2 := Nat.lt_succ_of_lt hgl1
  have hgl3 := Nat.lt_succ_of_lt hgl2
  have hn0 := Nat.ne_of_lt hgl
  have hn1 := Nat.ne_of_lt hgl1
  have hn2 := Nat.ne_of_lt hgl2
  have p_c := fun j => cell_of_row w _ j _ _ _ hp
  go_enter Try.func180, Try.ntmps180
  go_wp2_with fail
  generalize hW : (World.alloc _ _ : World) = W0
  have q0 : W0.heap[(w.heap.size : Nat)]? = some (o6 s) := by
    rw [← hW]
    repeat (first | (refine alloc_at ?_; first | (simp; done) | (simp; omega)) | refine drew_row ?_ | refine alloc_past ?_ | assumption)
  have q1 : W0.heap[(w.heap.size + 1 : Nat)]? = some oz := by
    rw [← hW]
    repeat (first | (refine alloc_at ?_; first | (simp; done) | (simp; omega)) | refine drew_row ?_ | refine alloc_past ?_ | assumption)
  have hB0 : Below w.heap.size w W0 := by rw [← hW]; (repeat (first | exact Below.refl _ _ | assumption | refine Below.setCell ?_ (by first | (simp; done) | (simp; omega)) _ | refine Below.alloc ?_ (by first | (simp; done) | (simp; omega)) _ | refine Below.drew ?_))
  have qp := rowk hp hB0 rfl
  have K0 : KR 2 [(w.heap.size, o6 s), (w.heap.size + 1, oz)] w W0 := ⟨by simp [q0, q1], by rw [← hW]; simp, hB0⟩
  clear hW hB0 q0 q1 p_c hgl1 hgl2 hgl3 hn0 hn1 hn2
  refine (full_any _).mono ?_
  rintro e W1 ⟨rfl, hb⟩
  have K1 := K0.far hb rfl
  have qp1 := rowk qp hb rfl
  clear hb K0 qp
  have hge : w.heap.size + 2 ≤ W1.heap.size := K1.le
  have m0 := row_lt qp1
  have m1 := Nat.lt_succ_of_lt m0
  have m2 := Nat.ne_of_lt m0
  have m3 : w.heap.size < W1.heap.size := by omega
  have m4 := Nat.lt_succ_of_lt m3
  have m5 := Nat.ne_of_lt m3
  have p_c := fun j => cell_of_row W1 _ j _ _ _ qp1
  have s_c := fun j => cell_of_row W1 _ j _ _ _ (K1.row (g := w.heap.size) (o := o6 s) (by simp))
  go_wp2_with fail
  have K0 := K1.al (o := .cells #[.int .i64 63, .int .i64 63, .int .i64 63, .int .i64 63, .int .i64 63, .int .i64 63] 28)
  have q2 : (W1.alloc (.cells #[.int .i64 63, .int .i64 63, .int .i64 63, .int .i64 63, .int .i64 63, .int .i64 63] 28)).heap[W1.heap.size]? = some (o6 onf) := alloc_at rfl
  clear K1 qp1 p_c s_c m0 m1 m2 m3 m4 m5
  generalize (World.alloc _ _ : World) = W0 at K0 q2 ⊢
  generalize W1.heap.size = gb at q2 hge ⊢
  refine (shifts_f s q _).mono ?_
  rintro e W2 ⟨l, g, cap, hl, rfl, ho, hb⟩
  have K1 := K0.far hb rfl
  have q3 := rowk q2 hb rfl
  have hgn : g ≠ gb := by have h1 := (ho.lt g rfl).1; have h2 := row_lt q2; omega
  have ho0 := own_mono ho (Nat.zero_le _)
  clear hb K0 ho q2
  obtain ⟨L, hL⟩ : ∃ L, L = l.map (fun c => sf c.1 c.2 s) := ⟨_, rfl⟩
  have hLn : l.length = L.length := by rw [hL, List.length_map]
  have hL36 : L.length ≤ 36 := by rw [← hLn, hl]; exact bl_len q 36
  have HL := Lib.hid (show ((bl q 36).map (fun c => sf c.1 c.2 s)).foldl af onf = fo5 af L L.length onf by rw [fo5_end, hL, hl])
  rw [← hL, hLn] at ho0
  rw [hLn]
  clear hl hL hLn
  have S0 : Hid (Rw5 w 2 [(w.heap.size, o6 s), (w.heap.size + 1, oz)] L g cap gb (fo5 af L 0 onf) W2) := Lib.hid ⟨K1, ho0, q3, hge, row_lt q3, hgn⟩
  clear K1 ho0 q3 hge hgn
  go_wp2_with fail
  go_loopw [13] (fun c wr => ∃ i : Nat, i ≤ L.length ∧ c = .int .i64 i ∧ Hid (Rw5 w 2 [(w.heap.size, o6 s), (w.heap.size + 1, oz)] L g cap gb (fo5 af L i onf) wr)) (fun c _ => L.length - (intOf c).toNat)
  case atStart => exact ⟨0, by omega, rfl, S0⟩
  case round =>
    obtain ⟨i, hi, rfl, HS⟩ := hrel
    by_cases hlt : i < L.length
    · have hlt' : (i : Int) < L.length := by omega
      have hi0 : (0 : Int) ≤ i := by omega
      have hi2 : i ≤ 36 := by omega
      have HE := Lib.hid (fo5_succ af L onf hlt)
      obtain ⟨a0, a1, a2, a3, a4, a5⟩ := Rw5_s HS.out hlt
      obtain ⟨F, hF⟩ : ∃ F, F = fo5 af L i onf := ⟨_, rfl⟩
      rw [← hF] at HE HS
      clear hF
      generalize L[i] = c at HE a0 a1 a2 a3 a4 a5
      have HX : Hid (∀ w, Calls Try.prog 132 #[.agg #[.int .i64 (rowv (F 0)), .int .i64 (rowv (F 1)), .int .i64 (rowv (F 2)), .int .i64 (rowv (F 3)), .int .i64 (rowv (F 4)), .int .i64 (rowv (F 5))], .agg #[.int .i64 (rowv (c 0)), .int .i64 (rowv (c 1)), .int .i64 (rowv (c 2)), .int .i64 (rowv (c 3)), .int .i64 (rowv (c 4)), .int .i64 (rowv (c 5))]] w fun e w' => e = .returned (.agg #[.int .i64 (rowv (af F c 0)), .int .i64 (rowv (af F c 1)), .int .i64 (rowv (af F c 2)), .int .i64 (rowv (af F c 3)), .int .i64 (rowv (af F c 4)), .int .i64 (rowv (af F c 5))]) ∧ Below w.heap.size w w') := Lib.hid (fun w => by
        have h := shared_any (rowv (F 0)) (rowv (F 1)) (rowv (F 2)) (rowv (F 3)) (rowv (F 4)) (rowv (F 5)) (rowv (c 0)) (rowv (c 1)) (rowv (c 2)) (rowv (c 3)) (rowv (c 4)) (rowv (c 5)) w
        simp only [row_af] at h
        exact h)
      have d_c := Rw5_c HS.out
      have hg5 := HS.out.2.2.2.2.1
      have hg6 := Nat.lt_succ_of_lt hg5
      have hg7 := Nat.ne_of_lt hg5
      go_wp2_with fail
      refine (HX.out _).mono ?_
      rintro e W3 ⟨rfl, hb⟩
      have HE2 := Lib.hid ((HS.out.below (M := wr.heap.size) ((Below.refl _ _).alloc (Nat.le_refl _) _) rfl).below hb rfl)
      clear hb a0 a1 a2 a3 a4 a5 HS d_c hg5 hg6 hg7
      have b_c := Rw5_c HE2.out
      have b_f := Rw5_f HE2.out
      go_wp2_with fail
      have HI2 := Lib.hid (HE2.out.put (af F c))
      clear b_c b_f HE2
      go_roundw
      case rel => exact ⟨i + 1, by omega, by go_num, by rw [HE.out]; exact HI2⟩
      case measure => simp [intOf]; omega
    · obtain rfl : i = L.length := by omega
      have d_c := Rw5_c HS.out
      have z_c := fun j => cell_of_row wr _ j _ _ _ (HS.out.1.row (g := w.heap.size + 1) (o := oz) (by simp))
      have z_f := fun j => frozen_of_row wr _ j _ _ (HS.out.1.row (g := w.heap.size + 1) (o := oz) (by simp))
      go_wp2_with fail
      rw [HL.out]
      refine bodyPost_ret (v := .agg #[.int .i64 (rowv (fo5 af L L.length onf 0)), .int .i64 (rowv (fo5 af L L.length onf 1)), .int .i64 (rowv (fo5 af L L.length onf 2)), .int .i64 (rowv (fo5 af L L.length onf 3)), .int .i64 (rowv (fo5 af L L.length onf 4)), .int .i64 (rowv (fo5 af L L.length onf 5))]) (by simp [results, Try.results180, go_sem, z_c]) rfl ⟨rfl, ?_⟩
      exact below6 HS.out.1.2.2 (by omega)
/- Bh5 -/
/-- What steps make of a sheet: true is shrinking, false spreading. -/
def st5 (b : Bool) (s p : Fn6) : Fn6 := if b then shr s p else spd s p
def be5 (T : List Bool) (s p : Fn6) : Fn6 := T.foldl (fun s b => st5 b s p) s
theorem be5_succ (T : List Bool) (s p : Fn6) {i : Nat} (h : i < T.length) : be5 (T.take (i + 1)) s p = st5 T[i] (be5 (T.take i) s p) p := by
  unfold be5
  rw [List.take_add_one, List.getElem?_eq_getElem h, List.foldl_append]
  rfl
def fv5 (b : Bool) : Value := .func (.func (if b then 131 else 217)) #[] #[]
theorem spread_1 (s p : Fn6) (gp : Nat) (w : World) (hp : w.heap[gp]? = some (o6 p)) : Calls Try.prog 224 #[.agg #[.int .i64 (rowv (s 0)), .int .i64 (rowv (s 1)), .int .i64 (rowv (s 2)), .int .i64 (rowv (s 3)), .int .i64 (rowv (s 4)), .int .i64 (rowv (s 5))], .pointer (some ⟨gp, 0, none⟩)] w fun e w' => e = .returned (.agg #[.int .i64 (rowv (spd s p 0)), .int .i64 (rowv (spd s p 1)), .int .i64 (rowv (spd s p 2)), .int .i64 (rowv (spd s p 3)), .int .i64 (rowv (spd s p 4)), .int .i64 (rowv (spd s p 5))]) ∧ Below w.heap.size w w' := by
  have h := spread1_f s p gp w hp
  rw [fo5_spo] at h
  exact h
theorem shrink_1 (s p : Fn6) (gp : Nat) (w : World) (hp : w.heap[gp]? = some (o6 (rf p))) : Calls Try.prog 180 #[.agg #[.int .i64 (rowv (s 0)), .int .i64 (rowv (s 1)), .int .i64 (rowv (s 2)), .int .i64 (rowv (s 3)), .int .i64 (rowv (s 4)), .int .i64 (rowv (s 5))], .pointer (some ⟨gp, 0, none⟩)] w fun e w' => e = .returned (.agg #[.int .i64 (rowv (shr s p 0)), .int .i64 (rowv (shr s p 1)), .int .i64 (rowv (shr s p 2)), .int .i64 (rowv (shr s p 3)), .int .i64 (rowv (shr s p 4)), .int .i64 (rowv (shr s p 5))]) ∧ Below w.heap.size w w' := by
  have h := shrink1_f s (rf p) gp w hp
  rw [fo5_sho] at h
  exact h
/-- Midway: what came of the sheet lies in its own block. -/
def Bh5 (w : World) (p F : Fn6) (W : World) : Prop := W.heap[w.heap.size]? = some (o6 F) ∧ W.heap[w.heap.size + 1]? = some (o6 p) ∧ W.heap[w.heap.size + 2]? = some oz ∧ w.heap.size + 3 ≤ W.heap.size ∧ Below w.heap.size w W
theorem Bh5.far {w W V : World} {p F : Fn6} {M : Nat} (h : Bh5 w p F W) (hb : Below M W V) (hM : M = W.heap.size) : Bh5 w p F V :=
  ⟨rowk h.1 hb hM, rowk h.2.1 hb hM, rowk h.2.2.1 hb hM, Nat.le_trans h.2.2.2.1 hb.size, below_of h.2.2.2.2 hb (by have := h.2.2.2.1; omega)⟩
theorem Bh5.put {w W : World} {p F : Fn6} (G : Fn6) (h : Bh5 w p F W) : Bh5 w p G ((((((W.setCell ⟨w.heap.size, 0, none⟩ (.int .i64 (rowv (G 0)))).setCell ⟨w.heap.size, 1, none⟩ (.int .i64 (rowv (G 1)))).setCell ⟨w.heap.size, 2, none⟩ (.int .i64 (rowv (G 2)))).setCell ⟨w.heap.size, 3, none⟩ (.int .i64 (rowv (G 3)))).setCell ⟨w.heap.size, 4, none⟩ (.int .i64 (rowv (G 4)))).setCell ⟨w.heap.size, 5, none⟩ (.int .i64 (rowv (G 5)))) := by
  obtain ⟨h1, h2, h3, h4, h5⟩ := h
  exact ⟨set6a _ _ _ _ _ _ h1, set6o _ _ _ _ _ _ (by omega) h2, set6o _ _ _ _ _ _ (by omega) h3, by simpa using h4, below6 h5 (by omega)⟩
theorem Bh5_s {w W : World} {p F : Fn6} (h : Bh5 w p F W) : ∀ j, W.cell? ⟨w.heap.size, j, none⟩ = (#[.int .i64 (rowv (F 0)), .int .i64 (rowv (F 1)), .int .i64 (rowv (F 2)), .int .i64 (rowv (F 3)), .int .i64 (rowv (F 4)), .int .i64 (rowv (F 5))] : Array Value)[j]? := fun j => cell_of_row W _ j _ _ _ h.1
theorem Bh5_sf {w W : World} {p F : Fn6} (h : Bh5 w p F W) : ∀ j, W.frozen? ⟨w.heap.size, j, none⟩ = false := fun j => frozen_of_row W _ j _ _ h.1
theorem Bh5_p {w W : World} {p F : Fn6} (h : Bh5 w p F W) : ∀ j, W.cell? ⟨w.heap.size + 1, j, none⟩ = (#[.int .i64 (rowv (p 0)), .int .i64 (rowv (p 1)), .int .i64 (rowv (p 2)), .int .i64 (rowv (p 3)), .int .i64 (rowv (p 4)), .int .i64 (rowv (p 5))] : Array Value)[j]? := fun j => cell_of_row W _ j _ _ _ h.2.1
set_option maxHeartbeats 4000000 in
theorem behind_f (T : List Bool) (hT : T.length ≤ 12) (s p : Fn6) (g cap : Nat) (w : World) (hgw : g < w.heap.size) (hc : ∀ (i : Nat) (h : i < T.length), w.cell? ⟨g, i, none⟩ = some (fv5 T[i])) (H0 : Hid (∀ w, Calls Try.prog 102 #[.agg #[.int .i64 (rowv (s 0)), .int .i64 (rowv (s 1)), .int .i64 (rowv (s 2)), .int .i64 (rowv (s 3)), .int .i64 (rowv (s 4)), .int .i64 (rowv (s 5))]] w fun e w' => e = .returned (.bool true) ∧ Below w.heap.size w w')) (H1 : Hid (∀ w, Calls Try.prog 102 #[.agg #[.int .i64 (rowv (p 0)), .int .i64 (rowv (p 1)), .int .i64 (rowv (p 2)), .int .i64 (rowv (p 3)), .int .i64 (rowv (p 4)), .int .i64 (rowv (p 5))]] w fun e w' => e = .returned (.bool true) ∧ Below w.heap.size w w')) : Calls Try.prog 130 #[.agg #[.int .i64 (rowv (s 0)), .int .i64 (rowv (s 1)), .int .i64 (rowv (s 2)), .int .i64 (rowv (s 3)), .int .i64 (rowv (s 4)), .int .i64 (rowv (s 5))], .agg #[.int .i64 (rowv (p 0)), .int .i64 (rowv (p 1)), .int .i64 (rowv (p 2)), .int .i64 (rowv (p 3)), .int .i64 (rowv (p 4)), .int .i64 (rowv (p 5))], .slice (some ⟨g, 0, none⟩) T.length cap] w fun e w' => e = .returned (.tuple #[.agg #[.int .i64 (rowv (be5 T s p 0)), .int .i64 (rowv (be5 T s p 1)), .int .i64 (rowv (be5 T s p 2)), .int .i64 (rowv (be5 T s p 3)), .int .i64 (rowv (be5 T s p 4)), .int .i64 (rowv (be5 T s p 5))], .bool true]) ∧ Below w.heap.size w w' := by
  have HC := Lib.hid hc
  clear hc
  go_enter Try.func130, Try.ntmps130
  go_wp2_with fail
  generalize hW : (World.alloc _ _ : World) = W0
  have hB0 : Below w.heap.size w W0 := by rw [← hW]; (repeat (first | exact Below.refl _ _ | assumption | refine Below.setCell ?_ (by first | (simp; done) | (simp; omega)) _ | refine Below.alloc ?_ (by first | (simp; done) | (simp; omega)) _ | refine Below.drew ?_))
  have q0 : W0.heap[(w.heap.size : Nat)]? = some (o6 s) := by
    rw [← hW]
    repeat (first | (refine alloc_at ?_; first | (simp; done) | (simp; omega)) | refine drew_row ?_ | refine alloc_past ?_ | assumption)
  have q1 : W0.heap[(w.heap.size + 1 : Nat)]? = some (o6 p) := by
    rw [← hW]
    repeat (first | (refine alloc_at ?_; first | (simp; done) | (simp; omega)) | refine drew_row ?_ | refine alloc_past ?_ | assumption)
  have q2 : W0.heap[(w.heap.size + 2 : Nat)]? = some (oz) := by
    rw [← hW]
    repeat (first | (refine alloc_at ?_; first | (simp; done) | (simp; omega)) | refine drew_row ?_ | refine alloc_past ?_ | assumption)
  have hk : KR 2 [(w.heap.size, o6 s), (w.heap.size + 1, o6 p)] w W0 := ⟨by simp [q0, q1], by rw [← hW]; simp, hB0⟩
  have hq := q2
  clear hW hB0 q0 q1 q2
  have HS : Hid (Bh5 w p s W0) := Lib.hid ⟨hk.row (g := w.heap.size) (o := o6 s) (by simp), hk.row (g := w.heap.size + 1) (o := o6 p) (by simp), hq, row_lt hq, hk.2.2⟩
  clear hk hq
  have s_c := Bh5_s HS.out
  go_wp2_with fail
  refine (H0.out _).mono ?_
  rintro e W1 ⟨rfl, hb⟩
  have HS1 := Lib.hid (HS.out.far hb rfl)
  clear hb HS s_c
  have p_c := Bh5_p HS1.out
  go_wp2_with fail
  refine (H1.out _).mono ?_
  rintro e W2 ⟨rfl, hb⟩
  have S0 : Hid (Bh5 w p (be5 (T.take 0) s p) W2) := Lib.hid (HS1.out.far hb rfl)
  clear hb HS1 p_c H0 H1
  go_wp2_with fail
  go_loopw [21] (fun c wr => ∃ i : Nat, i ≤ T.length ∧ c = .int .i64 i ∧ Hid (Bh5 w p (be5 (T.take i) s p) wr)) (fun c _ => T.length - (intOf c).toNat)
  case atStart => exact ⟨0, by omega, rfl, S0⟩
  case round =>
    obtain ⟨i, hi, rfl, HS⟩ := hrel
    by_cases hlt : i < T.length
    · have hlt' : (i : Int) < T.length := by omega
      have hi0 : (0 : Int) ≤ i := by omega
      have hi2 : i ≤ 12 := by omega
      have HE := Lib.hid (be5_succ T s p hlt)
      obtain ⟨F, hF⟩ : ∃ F, F = be5 (T.take i) s p := ⟨_, rfl⟩
      rw [← hF] at HE HS
      have hcw : wr.cell? ⟨g, i, none⟩ = some (fv5 T[i]) := (HS.out.2.2.2.2.cell (p := ⟨g, i, none⟩) hgw).trans (HC.out i hlt)
      clear hF
      cases hb : T[i]
      · rw [hb] at hcw HE
        simp only [fv5, Bool.false_eq_true, if_false] at hcw
        go_wp2_with fail
        have HD := Lib.hid (HS.out.far (M := wr.heap.size) (Below.refl _ _).drew rfl)
        clear HS hcw
        have s_c := Bh5_s HD.out
        have p_c := Bh5_p HD.out
        have HP := Lib.hid (spreading_f p)
        have HQ := Lib.hid (spread_1 F p)
        set_option maxRecDepth 8000 in
        go_region_with (first | (go_at_call 217; with_reducible refine (HP.out _).mono ?_; rintro e w1 ⟨g1, rfl, hq1, hb1⟩; have HA := Lib.hid (HD.out.far hb1 rfl); have e_c := Bh5_s HA.out) | (go_at_call 224; with_reducible refine (HQ.out g1 _ hq1).mono ?_; rintro e w2 ⟨rfl, hb2⟩; have HB := Lib.hid (HA.out.far hb2 rfl); clear e_c s_c p_c; have t_c := Bh5_s HB.out; have t_f := Bh5_sf HB.out))
        all_goals
          have HI := Lib.hid (HB.out.put (spd F p))
          clear HB HA HD HP HQ t_c t_f hq1 hb1 hb2
          go_wp2_with fail
          go_roundw
          case rel => exact ⟨i + 1, by omega, by go_num, by rw [HE.out]; exact HI⟩
          case measure => simp [intOf]; omega
      · rw [hb] at hcw HE
        simp only [fv5, if_true] at hcw
        go_wp2_with fail
        have HD := Lib.hid (HS.out.far (M := wr.heap.size) (Below.refl _ _).drew rfl)
        clear HS hcw
        have s_c := Bh5_s HD.out
        have p_c := Bh5_p HD.out
        have HP := Lib.hid (shrinking_f p)
        have HQ := Lib.hid (shrink_1 F p)
        set_option maxRecDepth 8000 in
        go_region_with (first | (go_at_call 131; with_reducible refine (HP.out _).mono ?_; rintro e w1 ⟨g1, rfl, hq1, hb1⟩; have HA := Lib.hid (HD.out.far hb1 rfl); have e_c := Bh5_s HA.out) | (go_at_call 180; with_reducible refine (HQ.out g1 _ hq1).mono ?_; rintro e w2 ⟨rfl, hb2⟩; have HB := Lib.hid (HA.out.far hb2 rfl); clear e_c s_c p_c; have t_c := Bh5_s HB.out; have t_f := Bh5_sf HB.out))
        all_goals
          have HI := Lib.hid (HB.out.put (shr F p))
          clear HB HA HD HP HQ t_c t_f hq1 hb1 hb2
          go_wp2_with fail
          go_roundw
          case rel => exact ⟨i + 1, by omega, by go_num, by rw [HE.out]; exact HI⟩
          case measure => simp [intOf]; omega
    · obtain rfl : i = T.length := by omega
      rw [List.take_length] at HS
      have s_c := Bh5_s HS.out
      have z_c := fun j => cell_of_row wr _ j _ _ _ HS.out.2.2.1
      have z_f := fun j => frozen_of_row wr _ j _ _ HS.out.2.2.1
      go_wp2_with fail
      refine bodyPost_ret (v := .tuple #[.agg #[.int .i64 (rowv (be5 T s p 0)), .int .i64 (rowv (be5 T s p 1)), .int .i64 (rowv (be5 T s p 2)), .int .i64 (rowv (be5 T s p 3)), .int .i64 (rowv (be5 T s p 4)), .int .i64 (rowv (be5 T s p 5))], .bool true]) (by simp [results, Try.results130, go_sem, z_c]) rfl ⟨rfl, ?_⟩
      exact below6 HS.out.2.2.2.2 (by omega)
/- Bw5 -/
set_option maxHeartbeats 1000000 in
theorem behind_no0 (a0 a1 a2 a3 a4 a5 : Int) (b0 b1 b2 b3 b4 b5 : Int) (v : Value) (H0 : Hid (∀ w, Calls Try.prog 102 #[.agg #[.int .i64 a0, .int .i64 a1, .int .i64 a2, .int .i64 a3, .int .i64 a4, .int .i64 a5]] w fun e w' => e = .returned (.bool false) ∧ Below w.heap.size w w')) (w : World) : Calls Try.prog 130 #[.agg #[.int .i64 a0, .int .i64 a1, .int .i64 a2, .int .i64 a3, .int .i64 a4, .int .i64 a5], .agg #[.int .i64 b0, .int .i64 b1, .int .i64 b2, .int .i64 b3, .int .i64 b4, .int .i64 b5], v] w fun e w' => e = .returned (.tuple #[.agg #[.int .i64 0, .int .i64 0, .int .i64 0, .int .i64 0, .int .i64 0, .int .i64 0], .bool false]) ∧ Below w.heap.size w w' := by
  go_enter Try.func130, Try.ntmps130
  go_wp2_with fail
  generalize hW : (World.alloc _ _ : World) = W0
  have hB0 : Below w.heap.size w W0 := by rw [← hW]; (repeat (first | exact Below.refl _ _ | assumption | refine Below.setCell ?_ (by first | (simp; done) | (simp; omega)) _ | refine Below.alloc ?_ (by first | (simp; done) | (simp; omega)) _ | refine Below.drew ?_))
  have qa : W0.heap[(w.heap.size : Nat)]? = some (Obj.cells (#[.int .i64 a0, .int .i64 a1, .int .i64 a2, .int .i64 a3, .int .i64 a4, .int .i64 a5]) 28 (0, 0)) := by
    rw [← hW]
    repeat (first | (refine alloc_at ?_; first | (simp; done) | (simp; omega)) | refine drew_row ?_ | refine alloc_past ?_ | assumption)
  have qb : W0.heap[(w.heap.size + 1 : Nat)]? = some (Obj.cells (#[.int .i64 b0, .int .i64 b1, .int .i64 b2, .int .i64 b3, .int .i64 b4, .int .i64 b5]) 28 (0, 0)) := by
    rw [← hW]
    repeat (first | (refine alloc_at ?_; first | (simp; done) | (simp; omega)) | refine drew_row ?_ | refine alloc_past ?_ | assumption)
  have qz : W0.heap[(w.heap.size + 1 + 1 : Nat)]? = some (Obj.cells (#[.int .i64 0, .int .i64 0, .int .i64 0, .int .i64 0, .int .i64 0, .int .i64 0]) 28 (0, 0)) := by
    rw [← hW]
    repeat (first | (refine alloc_at ?_; first | (simp; done) | (simp; omega)) | refine drew_row ?_ | refine alloc_past ?_ | assumption)
  clear hW
  refine (H0.out _).mono ?_
  rintro e W1 ⟨rfl, hb⟩
  have nqa := rowk qa hb rfl
  have nqb := rowk qb hb rfl
  have nqz := rowk qz hb rfl
  have hB1 := below_of hB0 hb hB0.size
  clear hb hB0 qa qb qz
  have qa := nqa
  have qb := nqb
  have qz := nqz
  clear nqa nqb nqz
  have qa_c := fun j => cell_of_row W1 _ j _ _ _ qa
  have qa_f := fun j => frozen_of_row W1 _ j _ _ qa
  have qb_c := fun j => cell_of_row W1 _ j _ _ _ qb
  have qb_f := fun j => frozen_of_row W1 _ j _ _ qb
  have qz_c := fun j => cell_of_row W1 _ j _ _ _ qz
  have qz_f := fun j => frozen_of_row W1 _ j _ _ qz
  go_wp2_with fail
  refine bodyPost_ret (v := .tuple #[.agg #[.int .i64 0, .int .i64 0, .int .i64 0, .int .i64 0, .int .i64 0, .int .i64 0], .bool false]) (by simp [results, Try.results130, go_sem, qz_c]) rfl ⟨rfl, ?_⟩
  exact below6 hB1 (by omega)
set_option maxHeartbeats 1000000 in
theorem behind_no1 (a0 a1 a2 a3 a4 a5 : Int) (b0 b1 b2 b3 b4 b5 : Int) (v : Value) (H0 : Hid (∀ w, Calls Try.prog 102 #[.agg #[.int .i64 a0, .int .i64 a1, .int .i64 a2, .int .i64 a3, .int .i64 a4, .int .i64 a5]] w fun e w' => e = .returned (.bool true) ∧ Below w.heap.size w w')) (H1 : Hid (∀ w, Calls Try.prog 102 #[.agg #[.int .i64 b0, .int .i64 b1, .int .i64 b2, .int .i64 b3, .int .i64 b4, .int .i64 b5]] w fun e w' => e = .returned (.bool false) ∧ Below w.heap.size w w')) (w : World) : Calls Try.prog 130 #[.agg #[.int .i64 a0, .int .i64 a1, .int .i64 a2, .int .i64 a3, .int .i64 a4, .int .i64 a5], .agg #[.int .i64 b0, .int .i64 b1, .int .i64 b2, .int .i64 b3, .int .i64 b4, .int .i64 b5], v] w fun e w' => e = .returned (.tuple #[.agg #[.int .i64 0, .int .i64 0, .int .i64 0, .int .i64 0, .int .i64 0, .int .i64 0], .bool false]) ∧ Below w.heap.size w w' := by
  go_enter Try.func130, Try.ntmps130
  go_wp2_with fail
  generalize hW : (World.alloc _ _ : World) = W0
  have hB0 : Below w.heap.size w W0 := by rw [← hW]; (repeat (first | exact Below.refl _ _ | assumption | refine Below.setCell ?_ (by first | (simp; done) | (simp; omega)) _ | refine Below.alloc ?_ (by first | (simp; done) | (simp; omega)) _ | refine Below.drew ?_))
  have qa : W0.heap[(w.heap.size : Nat)]? = some (Obj.cells (#[.int .i64 a0, .int .i64 a1, .int .i64 a2, .int .i64 a3, .int .i64 a4, .int .i64 a5]) 28 (0, 0)) := by
    rw [← hW]
    repeat (first | (refine alloc_at ?_; first | (simp; done) | (simp; omega)) | refine drew_row ?_ | refine alloc_past ?_ | assumption)
  have qb : W0.heap[(w.heap.size + 1 : Nat)]? = some (Obj.cells (#[.int .i64 b0, .int .i64 b1, .int .i64 b2, .int .i64 b3, .int .i64 b4, .int .i64 b5]) 28 (0, 0)) := by
    rw [← hW]
    repeat (first | (refine alloc_at ?_; first | (simp; done) | (simp; omega)) | refine drew_row ?_ | refine alloc_past ?_ | assumption)
  have qz : W0.heap[(w.heap.size + 1 + 1 : Nat)]? = some (Obj.cells (#[.int .i64 0, .int .i64 0, .int .i64 0, .int .i64 0, .int .i64 0, .int .i64 0]) 28 (0, 0)) := by
    rw [← hW]
    repeat (first | (refine alloc_at ?_; first | (simp; done) | (simp; omega)) | refine drew_row ?_ | refine alloc_past ?_ | assumption)
  clear hW
  refine (H0.out _).mono ?_
  rintro e W1 ⟨rfl, hb⟩
  have nqa := rowk qa hb rfl
  have nqb := rowk qb hb rfl
  have nqz := rowk qz hb rfl
  have hB1 := below_of hB0 hb hB0.size
  clear hb hB0 qa qb qz
  have qa := nqa
  have qb := nqb
  have qz := nqz
  clear nqa nqb nqz
  have qa_c := fun j => cell_of_row W1 _ j _ _ _ qa
  have qa_f := fun j => frozen_of_row W1 _ j _ _ qa
  have qb_c := fun j => cell_of_row W1 _ j _ _ _ qb
  have qb_f := fun j => frozen_of_row W1 _ j _ _ qb
  have qz_c := fun j => cell_of_row W1 _ j _ _ _ qz
  have qz_f := fun j => frozen_of_row W1 _ j _ _ qz
  go_wp2_with fail
  refine (H1.out _).mono ?_
  rintro e W2 ⟨rfl, hb⟩
  have nqa := rowk qa hb rfl
  have nqb := rowk qb hb rfl
  have nqz := rowk qz hb rfl
  have hB2 := below_of hB1 hb hB1.size
  clear hb hB1 qa qb qz qa_c qa_f qb_c qb_f qz_c qz_f
  have qa := nqa
  have qb := nqb
  have qz := nqz
  clear nqa nqb nqz
  have qa_c := fun j => cell_of_row W2 _ j _ _ _ qa
  have qa_f := fun j => frozen_of_row W2 _ j _ _ qa
  have qb_c := fun j => cell_of_row W2 _ j _ _ _ qb
  have qb_f := fun j => frozen_of_row W2 _ j _ _ qb
  have qz_c := fun j => cell_of_row W2 _ j _ _ _ qz
  have qz_f := fun j => frozen_of_row W2 _ j _ _ qz
  go_wp2_with fail
  refine bodyPost_ret (v := .tuple #[.agg #[.int .i64 0, .int .i64 0, .int .i64 0, .int .i64 0, .int .i64 0, .int .i64 0], .bool false]) (by simp [results, Try.results130, go_sem, qz_c]) rfl ⟨rfl, ?_⟩
  exact below6 hB2 (by omega)
set_option maxHeartbeats 1000000 in
theorem ispr_any (a0 a1 a2 a3 a4 a5 : Int) (b0 b1 b2 b3 b4 b5 : Int) (r0 r1 r2 r3 r4 r5 : Int) (t : Bool) (HB : Hid (∀ (w : World) (g : Nat), w.heap[g]? = some (.cells #[.func (.func 217) #[] #[]] 131 (0, 0)) → Calls Try.prog 130 #[.agg #[.int .i64 a0, .int .i64 a1, .int .i64 a2, .int .i64 a3, .int .i64 a4, .int .i64 a5], .agg #[.int .i64 b0, .int .i64 b1, .int .i64 b2, .int .i64 b3, .int .i64 b4, .int .i64 b5], .slice (some ⟨g, 0, none⟩) 1 1] w fun e w' => e = .returned (.tuple #[.agg #[.int .i64 r0, .int .i64 r1, .int .i64 r2, .int .i64 r3, .int .i64 r4, .int .i64 r5], .bool t]) ∧ Below w.heap.size w w')) (w : World) : Calls Try.prog 204 #[.agg #[.int .i64 a0, .int .i64 a1, .int .i64 a2, .int .i64 a3, .int .i64 a4, .int .i64 a5], .agg #[.int .i64 b0, .int .i64 b1, .int .i64 b2, .int .i64 b3, .int .i64 b4, .int .i64 b5]] w fun e w' => e = .returned (.tuple #[.agg #[.int .i64 r0, .int .i64 r1, .int .i64 r2, .int .i64 r3, .int .i64 r4, .int .i64 r5], .bool t]) ∧ Below w.heap.size w w' := by
  go_enter Try.func204, Try.ntmps204
  go_wp2_with fail
  generalize hW : (World.alloc _ _ : World) = W0
  have q : W0.heap[w.heap.size + 1 + 1 + 1]? = some (.cells #[.func (.func 217) #[] #[]] 131 (0, 0)) := by rw [← hW]; exact alloc_at (by simp)
  have qz : W0.heap[w.heap.size + 1 + 1]? = some (.cells #[.int .i64 0, .int .i64 0, .int .i64 0, .int .i64 0, .int .i64 0, .int .i64 0] 28 (0, 0)) := by
    rw [← hW]
    exact alloc_past (alloc_at (by simp))
  have hB0 : Below w.heap.size w W0 := by rw [← hW]; (repeat (first | exact Below.refl _ _ | assumption | refine Below.setCell ?_ (by first | (simp; done) | (simp; omega)) _ | refine Below.alloc ?_ (by first | (simp; done) | (simp; omega)) _ | refine Below.drew ?_))
  clear hW
  refine (HB.out _ _ q).mono ?_
  rintro e W1 ⟨rfl, hb⟩
  have qz1 := rowk qz hb rfl
  have hB1 := below_of hB0 hb hB0.size
  clear hb hB0 q qz
  have z_c := fun j => cell_of_row W1 _ j _ _ _ qz1
  have z_f := fun j => frozen_of_row W1 _ j _ _ qz1
  go_wp2_with fail
  refine bodyPost_ret (v := .tuple #[.agg #[.int .i64 r0, .int .i64 r1, .int .i64 r2, .int .i64 r3, .int .i64 r4, .int .i64 r5], .bool t]) (by simp [results, Try.results204, go_sem, z_c]) rfl ⟨rfl, ?_⟩
  exact below6 hB1 (by omega)
set_option maxHeartbeats 1000000 in
theorem ishr_any (a0 a1 a2 a3 a4 a5 : Int) (b0 b1 b2 b3 b4 b5 : Int) (r0 r1 r2 r3 r4 r5 : Int) (t : Bool) (HB : Hid (∀ (w : World) (g : Nat), w.heap[g]? = some (.cells #[.func (.func 131) #[] #[]] 131 (0, 0)) → Calls Try.prog 130 #[.agg #[.int .i64 a0, .int .i64 a1, .int .i64 a2, .int .i64 a3, .int .i64 a4, .int .i64 a5], .agg #[.int .i64 b0, .int .i64 b1, .int .i64 b2, .int .i64 b3, .int .i64 b4, .int .i64 b5], .slice (some ⟨g, 0, none⟩) 1 1] w fun e w' => e = .returned (.tuple #[.agg #[.int .i64 r0, .int .i64 r1, .int .i64 r2, .int .i64 r3, .int .i64 r4, .int .i64 r5], .bool t]) ∧ Below w.heap.size w w')) (w : World) : Calls Try.prog 61 #[.agg #[.int .i64 a0, .int .i64 a1, .int .i64 a2, .int .i64 a3, .int .i64 a4, .int .i64 a5], .agg #[.int .i64 b0, .int .i64 b1, .int .i64 b2, .int .i64 b3, .int .i64 b4, .int .i64 b5]] w fun e w' => e = .returned (.tuple #[.agg #[.int .i64 r0, .int .i64 r1, .int .i64 r2, .int .i64 r3, .int .i64 r4, .int .i64 r5], .bool t]) ∧ Below w.heap.size w w' := by
  go_enter Try.func61, Try.ntmps61
  go_wp2_with fail
  generalize hW : (World.alloc _ _ : World) = W0
  have q : W0.heap[w.heap.size + 1 + 1 + 1]? = some (.cells #[.func (.func 131) #[] #[]] 131 (0, 0)) := by rw [← hW]; exact alloc_at (by simp)
  have qz : W0.heap[w.heap.size + 1 + 1]? = some (.cells #[.int .i64 0, .int .i64 0, .int .i64 0, .int .i64 0, .int .i64 0, .int .i64 0] 28 (0, 0)) := by
    rw [← hW]
    exact alloc_past (alloc_at (by simp))
  have hB0 : Below w.heap.size w W0 := by rw [← hW]; (repeat (first | exact Below.refl _ _ | assumption | refine Below.setCell ?_ (by first | (simp; done) | (simp; omega)) _ | refine Below.alloc ?_ (by first | (simp; done) | (simp; omega)) _ | refine Below.drew ?_))
  clear hW
  refine (HB.out _ _ q).mono ?_
  rintro e W1 ⟨rfl, hb⟩
  have qz1 := rowk qz hb rfl
  have hB1 := below_of hB0 hb hB0.size
  clear hb hB0 q qz
  have z_c := fun j => cell_of_row W1 _ j _ _ _ qz1
  have z_f := fun j => frozen_of_row W1 _ j _ _ qz1
  go_wp2_with fail
  refine bodyPost_ret (v := .tuple #[.agg #[.int .i64 r0, .int .i64 r1, .int .i64 r2, .int .i64 r3, .int .i64 r4, .int .i64 r5], .bool t]) (by simp [results, Try.results61, go_sem, z_c]) rfl ⟨rfl, ?_⟩
  exact below6 hB1 (by omega)
set_option maxHeartbeats 1000000 in
theorem iope_any (a0 a1 a2 a3 a4 a5 : Int) (b0 b1 b2 b3 b4 b5 : Int) (r0 r1 r2 r3 r4 r5 : Int) (t : Bool) (HB : Hid (∀ (w : World) (g : Nat), w.heap[g]? = some (.cells #[.func (.func 131) #[] #[], .func (.func 217) #[] #[]] 131 (0, 0)) → Calls Try.prog 130 #[.agg #[.int .i64 a0, .int .i64 a1, .int .i64 a2, .int .i64 a3, .int .i64 a4, .int .i64 a5], .agg #[.int .i64 b0, .int .i64 b1, .int .i64 b2, .int .i64 b3, .int .i64 b4, .int .i64 b5], .slice (some ⟨g, 0, none⟩) 2 2] w fun e w' => e = .returned (.tuple #[.agg #[.int .i64 r0, .int .i64 r1, .int .i64 r2, .int .i64 r3, .int .i64 r4, .int .i64 r5], .bool t]) ∧ Below w.heap.size w w')) (w : World) : Calls Try.prog 223 #[.agg #[.int .i64 a0, .int .i64 a1, .int .i64 a2, .int .i64 a3, .int .i64 a4, .int .i64 a5], .agg #[.int .i64 b0, .int .i64 b1, .int .i64 b2, .int .i64 b3, .int .i64 b4, .int .i64 b5]] w fun e w' => e = .returned (.tuple #[.agg #[.int .i64 r0, .int .i64 r1, .int .i64 r2, .int .i64 r3, .int .i64 r4, .int .i64 r5], .bool t]) ∧ Below w.heap.size w w' := by
  go_enter Try.func223, Try.ntmps223
  go_wp2_with fail
  generalize hW : (World.alloc _ _ : World) = W0
  have q : W0.heap[w.heap.size + 1 + 1 + 1]? = some (.cells #[.func (.func 131) #[] #[], .func (.func 217) #[] #[]] 131 (0, 0)) := by rw [← hW]; exact alloc_at (by simp)
  have qz : W0.heap[w.heap.size + 1 + 1]? = some (.cells #[.int .i64 0, .int .i64 0, .int .i64 0, .int .i64 0, .int .i64 0, .int .i64 0] 28 (0, 0)) := by
    rw [← hW]
    exact alloc_past (alloc_at (by simp))
  have hB0 : Below w.heap.size w W0 := by rw [← hW]; (repeat (first | exact Below.refl _ _ | assumption | refine Below.setCell ?_ (by first | (simp; done) | (simp; omega)) _ | refine Below.alloc ?_ (by first | (simp; done) | (simp; omega)) _ | refine Below.drew ?_))
  clear hW
  refine (HB.out _ _ q).mono ?_
  rintro e W1 ⟨rfl, hb⟩
  have qz1 := rowk qz hb rfl
  have hB1 := below_of hB0 hb hB0.size
  clear hb hB0 q qz
  have z_c := fun j => cell_of_row W1 _ j _ _ _ qz1
  have z_f := fun j => frozen_of_row W1 _ j _ _ qz1
  go_wp2_with fail
  refine bodyPost_ret (v := .tuple #[.agg #[.int .i64 r0, .int .i64 r1, .int .i64 r2, .int .i64 r3, .int .i64 r4, .int .i64 r5], .bool t]) (by simp [results, Try.results223, go_sem, z_c]) rfl ⟨rfl, ?_⟩
  exact below6 hB1 (by omega)
set_option maxHeartbeats 1000000 in
theorem iio_no (a0 a1 a2 a3 a4 a5 : Int) (b0 b1 b2 b3 b4 b5 : Int) (HF : Hid (∀ w, Calls Try.prog 223 #[.agg #[.int .i64 a0, .int .i64 a1, .int .i64 a2, .int .i64 a3, .int .i64 a4, .int .i64 a5], .agg #[.int .i64 b0, .int .i64 b1, .int .i64 b2, .int .i64 b3, .int .i64 b4, .int .i64 b5]] w fun e w' => e = .returned (.tuple #[.agg #[.int .i64 0, .int .i64 0, .int .i64 0, .int .i64 0, .int .i64 0, .int .i64 0], .bool false]) ∧ Below w.heap.size w w')) (w : World) : Calls Try.prog 216 #[.agg #[.int .i64 a0, .int .i64 a1, .int .i64 a2, .int .i64 a3, .int .i64 a4, .int .i64 a5], .agg #[.int .i64 b0, .int .i64 b1, .int .i64 b2, .int .i64 b3, .int .i64 b4, .int .i64 b5]] w fun e w' => e = .returned (.tuple #[.bool false, .bool false]) ∧ Below w.heap.size w w' := by
  go_enter Try.func216, Try.ntmps216
  go_wp2_with fail
  generalize hW : (World.alloc _ _ : World) = W0
  have hB0 : Below w.heap.size w W0 := by rw [← hW]; (repeat (first | exact Below.refl _ _ | assumption | refine Below.setCell ?_ (by first | (simp; done) | (simp; omega)) _ | refine Below.alloc ?_ (by first | (simp; done) | (simp; omega)) _ | refine Below.drew ?_))
  have qa : W0.heap[(w.heap.size : Nat)]? = some (.cells #[.int .i64 a0, .int .i64 a1, .int .i64 a2, .int .i64 a3, .int .i64 a4, .int .i64 a5] 28 (0, 0)) := by
    rw [← hW]
    repeat (first | (refine alloc_at ?_; first | (simp; done) | (simp; omega)) | refine drew_row ?_ | refine alloc_past ?_ | assumption)
  clear hW
  refine (HF.out _).mono ?_
  rintro e W1 ⟨rfl, hb⟩
  have qa1 := rowk qa hb rfl
  have hB1 := below_of hB0 hb hB0.size
  clear hb hB0 qa
  have hla := row_lt qa1
  have hna := Nat.ne_of_lt hla
  have a_c := fun j => cell_of_row W1 _ j _ _ _ qa1
  go_wp2_with fail
  go_ret2
  exact ⟨rfl, hB1.alloc hB1.size _⟩
set_option maxHeartbeats 1000000 in
theorem iio_yes (a0 a1 a2 a3 a4 a5 : Int) (b0 b1 b2 b3 b4 b5 : Int) (r0 r1 r2 r3 r4 r5 : Int) (HF : Hid (∀ w, Calls Try.prog 223 #[.agg #[.int .i64 a0, .int .i64 a1, .int .i64 a2, .int .i64 a3, .int .i64 a4, .int .i64 a5], .agg #[.int .i64 b0, .int .i64 b1, .int .i64 b2, .int .i64 b3, .int .i64 b4, .int .i64 b5]] w fun e w' => e = .returned (.tuple #[.agg #[.int .i64 r0, .int .i64 r1, .int .i64 r2, .int .i64 r3, .int .i64 r4, .int .i64 r5], .bool true]) ∧ Below w.heap.size w w')) (w : World) : Calls Try.prog 216 #[.agg #[.int .i64 a0, .int .i64 a1, .int .i64 a2, .int .i64 a3, .int .i64 a4, .int .i64 a5], .agg #[.int .i64 b0, .int .i64 b1, .int .i64 b2, .int .i64 b3, .int .i64 b4, .int .i64 b5]] w fun e w' => e = .returned (.tuple #[.bool (r0 == a0 && r1 == a1 && r2 == a2 && r3 == a3 && r4 == a4 && r5 == a5), .bool true]) ∧ Below w.heap.size w w' := by
  have he := eq26 r0 r1 r2 r3 r4 r5 a0 a1 a2 a3 a4 a5
  go_enter Try.func216, Try.ntmps216
  go_wp2_with fail
  generalize hW : (World.alloc _ _ : World) = W0
  have hB0 : Below w.heap.size w W0 := by rw [← hW]; (repeat (first | exact Below.refl _ _ | assumption | refine Below.setCell ?_ (by first | (simp; done) | (simp; omega)) _ | refine Below.alloc ?_ (by first | (simp; done) | (simp; omega)) _ | refine Below.drew ?_))
  have qa : W0.heap[(w.heap.size : Nat)]? = some (.cells #[.int .i64 a0, .int .i64 a1, .int .i64 a2, .int .i64 a3, .int .i64 a4, .int .i64 a5] 28 (0, 0)) := by
    rw [← hW]
    repeat (first | (refine alloc_at ?_; first | (simp; done) | (simp; omega)) | refine drew_row ?_ | refine alloc_past ?_ | assumption)
  clear hW
  refine (HF.out _).mono ?_
  rintro e W1 ⟨rfl, hb⟩
  have qa1 := rowk qa hb rfl
  have hB1 := below_of hB0 hb hB0.size
  clear hb hB0 qa
  have hla := row_lt qa1
  have hna := Nat.ne_of_lt hla
  have a_c := fun j => cell_of_row W1 _ j _ _ _ qa1
  go_wp2_with fail
  go_ret2
  exact ⟨rfl, hB1.alloc hB1.size _⟩
/- Pm5 -/
theorem fv_cells (T : List Bool) (w : World) (g : Nat) (hg : w.heap[g]? = some (.cells (T.map fv5).toArray 131 (0, 0))) : ∀ (i : Nat) (h : i < T.length), w.cell? ⟨g, i, none⟩ = some (fv5 T[i]) := by
  intro i h
  have e := cell_of_row w g i _ _ _ hg
  rw [e]
  simp [h]
theorem be_f (s p : Fn6) : be5 [false] s p = spd s p := by simp [be5, st5]
theorem be_t (s p : Fn6) : be5 [true] s p = shr s p := by simp [be5, st5]
theorem be_tf (s p : Fn6) : be5 [true, false] s p = spd (shr s p) p := by simp [be5, st5]
theorem be_ft (s p : Fn6) : be5 [false, true] s p = shr (spd s p) p := by simp [be5, st5]
/-- As behind_f, with equations for what the walk has. -/
theorem behind_g (T : List Bool) (n : Nat) (hn : T.length = n) (h12 : n ≤ 12) (cs : Array Value) (hcs : cs = (T.map fv5).toArray) (F s p : Fn6) (hF : be5 T s p = F) (w : World) (g : Nat) (hg : w.heap[g]? = some (.cells cs 131 (0, 0))) : Calls Try.prog 130 #[.agg #[.int .i64 (rowv (s 0)), .int .i64 (rowv (s 1)), .int .i64 (rowv (s 2)), .int .i64 (rowv (s 3)), .int .i64 (rowv (s 4)), .int .i64 (rowv (s 5))], .agg #[.int .i64 (rowv (p 0)), .int .i64 (rowv (p 1)), .int .i64 (rowv (p 2)), .int .i64 (rowv (p 3)), .int .i64 (rowv (p 4)), .int .i64 (rowv (p 5))], .slice (some ⟨g, 0, none⟩) n n] w fun e w' => e = .returned (.tuple #[.agg #[.int .i64 (rowv (F 0)), .int .i64 (rowv (F 1)), .int .i64 (rowv (F 2)), .int .i64 (rowv (F 3)), .int .i64 (rowv (F 4)), .int .i64 (rowv (F 5))], .bool true]) ∧ Below w.heap.size w w' := by
  subst hn
  subst hcs
  subst hF
  exact behind_f T h12 s p g _ w (row_lt hg) (fv_cells T w g hg) (sh_ai (rowv (s 0)) (rowv (s 1)) (rowv (s 2)) (rowv (s 3)) (rowv (s 4)) (rowv (s 5)) (sh_of s)) (sh_ai (rowv (p 0)) (rowv (p 1)) (rowv (p 2)) (rowv (p 3)) (rowv (p 4)) (rowv (p 5)) (sh_of p))
theorem ispread_c (s p : Fn6) (w : World) : Calls Try.prog 204 #[.agg #[.int .i64 (rowv (s 0)), .int .i64 (rowv (s 1)), .int .i64 (rowv (s 2)), .int .i64 (rowv (s 3)), .int .i64 (rowv (s 4)), .int .i64 (rowv (s 5))], .agg #[.int .i64 (rowv (p 0)), .int .i64 (rowv (p 1)), .int .i64 (rowv (p 2)), .int .i64 (rowv (p 3)), .int .i64 (rowv (p 4)), .int .i64 (rowv (p 5))]] w fun e w' => e = .returned (.tuple #[.agg #[.int .i64 (rowv (spd s p 0)), .int .i64 (rowv (spd s p 1)), .int .i64 (rowv (spd s p 2)), .int .i64 (rowv (spd s p 3)), .int .i64 (rowv (spd s p 4)), .int .i64 (rowv (spd s p 5))], .bool true]) ∧ Below w.heap.size w w' :=
  ispr_any (rowv (s 0)) (rowv (s 1)) (rowv (s 2)) (rowv (s 3)) (rowv (s 4)) (rowv (s 5)) (rowv (p 0)) (rowv (p 1)) (rowv (p 2)) (rowv (p 3)) (rowv (p 4)) (rowv (p 5)) _ _ _ _ _ _ true (Lib.hid fun w g hg => behind_g [false] 1 rfl (by decide) _ rfl (spd s p) s p (be_f s p) w g hg) w
theorem ishrink_c (s p : Fn6) (w : World) : Calls Try.prog 61 #[.agg #[.int .i64 (rowv (s 0)), .int .i64 (rowv (s 1)), .int .i64 (rowv (s 2)), .int .i64 (rowv (s 3)), .int .i64 (rowv (s 4)), .int .i64 (rowv (s 5))], .agg #[.int .i64 (rowv (p 0)), .int .i64 (rowv (p 1)), .int .i64 (rowv (p 2)), .int .i64 (rowv (p 3)), .int .i64 (rowv (p 4)), .int .i64 (rowv (p 5))]] w fun e w' => e = .returned (.tuple #[.agg #[.int .i64 (rowv (shr s p 0)), .int .i64 (rowv (shr s p 1)), .int .i64 (rowv (shr s p 2)), .int .i64 (rowv (shr s p 3)), .int .i64 (rowv (shr s p 4)), .int .i64 (rowv (shr s p 5))], .bool true]) ∧ Below w.heap.size w w' :=
  ishr_any (rowv (s 0)) (rowv (s 1)) (rowv (s 2)) (rowv (s 3)) (rowv (s 4)) (rowv (s 5)) (rowv (p 0)) (rowv (p 1)) (rowv (p 2)) (rowv (p 3)) (rowv (p 4)) (rowv (p 5)) _ _ _ _ _ _ true (Lib.hid fun w g hg => behind_g [true] 1 rfl (by decide) _ rfl (shr s p) s p (be_t s p) w g hg) w
theorem iopen_c (s p : Fn6) (w : World) : Calls Try.prog 223 #[.agg #[.int .i64 (rowv (s 0)), .int .i64 (rowv (s 1)), .int .i64 (rowv (s 2)), .int .i64 (rowv (s 3)), .int .i64 (rowv (s 4)), .int .i64 (rowv (s 5))], .agg #[.int .i64 (rowv (p 0)), .int .i64 (rowv (p 1)), .int .i64 (rowv (p 2)), .int .i64 (rowv (p 3)), .int .i64 (rowv (p 4)), .int .i64 (rowv (p 5))]] w fun e w' => e = .returned (.tuple #[.agg #[.int .i64 (rowv (spd (shr s p) p 0)), .int .i64 (rowv (spd (shr s p) p 1)), .int .i64 (rowv (spd (shr s p) p 2)), .int .i64 (rowv (spd (shr s p) p 3)), .int .i64 (rowv (spd (shr s p) p 4)), .int .i64 (rowv (spd (shr s p) p 5))], .bool true]) ∧ Below w.heap.size w w' :=
  iope_any (rowv (s 0)) (rowv (s 1)) (rowv (s 2)) (rowv (s 3)) (rowv (s 4)) (rowv (s 5)) (rowv (p 0)) (rowv (p 1)) (rowv (p 2)) (rowv (p 3)) (rowv (p 4)) (rowv (p 5)) _ _ _ _ _ _ true (Lib.hid fun w g hg => behind_g [true, false] 2 rfl (by decide) _ rfl (spd (shr s p) p) s p (be_tf s p) w g hg) w
theorem ispread_n0 (a0 a1 a2 a3 a4 a5 : Int) (b0 b1 b2 b3 b4 b5 : Int) (hv : (ok a0 && ok a1 && ok a2 && ok a3 && ok a4 && ok a5) = false) (w : World) : Calls Try.prog 204 #[.agg #[.int .i64 a0, .int .i64 a1, .int .i64 a2, .int .i64 a3, .int .i64 a4, .int .i64 a5], .agg #[.int .i64 b0, .int .i64 b1, .int .i64 b2, .int .i64 b3, .int .i64 b4, .int .i64 b5]] w fun e w' => e = .returned (.tuple #[.agg #[.int .i64 0, .int .i64 0, .int .i64 0, .int .i64 0, .int .i64 0, .int .i64 0], .bool false]) ∧ Below w.heap.size w w' := ispr_any a0 a1 a2 a3 a4 a5 b0 b1 b2 b3 b4 b5 0 0 0 0 0 0 false (Lib.hid fun w g _ => behind_no0 a0 a1 a2 a3 a4 a5 b0 b1 b2 b3 b4 b5 _ (sh_ai a0 a1 a2 a3 a4 a5 hv) w) w
theorem ispread_n1 (a0 a1 a2 a3 a4 a5 : Int) (b0 b1 b2 b3 b4 b5 : Int) (hv : (ok a0 && ok a1 && ok a2 && ok a3 && ok a4 && ok a5) = true) (hc : (ok b0 && ok b1 && ok b2 && ok b3 && ok b4 && ok b5) = false) (w : World) : Calls Try.prog 204 #[.agg #[.int .i64 a0, .int .i64 a1, .int .i64 a2, .int .i64 a3, .int .i64 a4, .int .i64 a5], .agg #[.int .i64 b0, .int .i64 b1, .int .i64 b2, .int .i64 b3, .int .i64 b4, .int .i64 b5]] w fun e w' => e = .returned (.tuple #[.agg #[.int .i64 0, .int .i64 0, .int .i64 0, .int .i64 0, .int .i64 0, .int .i64 0], .bool false]) ∧ Below w.heap.size w w' := ispr_any a0 a1 a2 a3 a4 a5 b0 b1 b2 b3 b4 b5 0 0 0 0 0 0 false (Lib.hid fun w g _ => behind_no1 a0 a1 a2 a3 a4 a5 b0 b1 b2 b3 b4 b5 _ (sh_ai a0 a1 a2 a3 a4 a5 hv) (sh_ai b0 b1 b2 b3 b4 b5 hc) w) w
theorem ishrink_n0 (a0 a1 a2 a3 a4 a5 : Int) (b0 b1 b2 b3 b4 b5 : Int) (hv : (ok a0 && ok a1 && ok a2 && ok a3 && ok a4 && ok a5) = false) (w : World) : Calls Try.prog 61 #[.agg #[.int .i64 a0, .int .i64 a1, .int .i64 a2, .int .i64 a3, .int .i64 a4, .int .i64 a5], .agg #[.int .i64 b0, .int .i64 b1, .int .i64 b2, .int .i64 b3, .int .i64 b4, .int .i64 b5]] w fun e w' => e = .returned (.tuple #[.agg #[.int .i64 0, .int .i64 0, .int .i64 0, .int .i64 0, .int .i64 0, .int .i64 0], .bool false]) ∧ Below w.heap.size w w' := ishr_any a0 a1 a2 a3 a4 a5 b0 b1 b2 b3 b4 b5 0 0 0 0 0 0 false (Lib.hid fun w g _ => behind_no0 a0 a1 a2 a3 a4 a5 b0 b1 b2 b3 b4 b5 _ (sh_ai a0 a1 a2 a3 a4 a5 hv) w) w
theorem ishrink_n1 (a0 a1 a2 a3 a4 a5 : Int) (b0 b1 b2 b3 b4 b5 : Int) (hv : (ok a0 && ok a1 && ok a2 && ok a3 && ok a4 && ok a5) = true) (hc : (ok b0 && ok b1 && ok b2 && ok b3 && ok b4 && ok b5) = false) (w : World) : Calls Try.prog 61 #[.agg #[.int .i64 a0, .int .i64 a1, .int .i64 a2, .int .i64 a3, .int .i64 a4, .int .i64 a5], .agg #[.int .i64 b0, .int .i64 b1, .int .i64 b2, .int .i64 b3, .int .i64 b4, .int .i64 b5]] w fun e w' => e = .returned (.tuple #[.agg #[.int .i64 0, .int .i64 0, .int .i64 0, .int .i64 0, .int .i64 0, .int .i64 0], .bool false]) ∧ Below w.heap.size w w' := ishr_any a0 a1 a2 a3 a4 a5 b0 b1 b2 b3 b4 b5 0 0 0 0 0 0 false (Lib.hid fun w g _ => behind_no1 a0 a1 a2 a3 a4 a5 b0 b1 b2 b3 b4 b5 _ (sh_ai a0 a1 a2 a3 a4 a5 hv) (sh_ai b0 b1 b2 b3 b4 b5 hc) w) w
theorem iopen_n0 (a0 a1 a2 a3 a4 a5 : Int) (b0 b1 b2 b3 b4 b5 : Int) (hv : (ok a0 && ok a1 && ok a2 && ok a3 && ok a4 && ok a5) = false) (w : World) : Calls Try.prog 223 #[.agg #[.int .i64 a0, .int .i64 a1, .int .i64 a2, .int .i64 a3, .int .i64 a4, .int .i64 a5], .agg #[.int .i64 b0, .int .i64 b1, .int .i64 b2, .int .i64 b3, .int .i64 b4, .int .i64 b5]] w fun e w' => e = .returned (.tuple #[.agg #[.int .i64 0, .int .i64 0, .int .i64 0, .int .i64 0, .int .i64 0, .int .i64 0], .bool false]) ∧ Below w.heap.size w w' := iope_any a0 a1 a2 a3 a4 a5 b0 b1 b2 b3 b4 b5 0 0 0 0 0 0 false (Lib.hid fun w g _ => behind_no0 a0 a1 a2 a3 a4 a5 b0 b1 b2 b3 b4 b5 _ (sh_ai a0 a1 a2 a3 a4 a5 hv) w) w
theorem iopen_n1 (a0 a1 a2 a3 a4 a5 : Int) (b0 b1 b2 b3 b4 b5 : Int) (hv : (ok a0 && ok a1 && ok a2 && ok a3 && ok a4 && ok a5) = true) (hc : (ok b0 && ok b1 && ok b2 && ok b3 && ok b4 && ok b5) = false) (w : World) : Calls Try.prog 223 #[.agg #[.int .i64 a0, .int .i64 a1, .int .i64 a2, .int .i64 a3, .int .i64 a4, .int .i64 a5], .agg #[.int .i64 b0, .int .i64 b1, .int .i64 b2, .int .i64 b3, .int .i64 b4, .int .i64 b5]] w fun e w' => e = .returned (.tuple #[.agg #[.int .i64 0, .int .i64 0, .int .i64 0, .int .i64 0, .int .i64 0, .int .i64 0], .bool false]) ∧ Below w.heap.size w w' := iope_any a0 a1 a2 a3 a4 a5 b0 b1 b2 b3 b4 b5 0 0 0 0 0 0 false (Lib.hid fun w g _ => behind_no1 a0 a1 a2 a3 a4 a5 b0 b1 b2 b3 b4 b5 _ (sh_ai a0 a1 a2 a3 a4 a5 hv) (sh_ai b0 b1 b2 b3 b4 b5 hc) w) w
/- Cb6 -/
theorem row_as (f : Fn6) (w : World) : Calls Try.prog 98 #[.agg #[.int .i64 (rowv (f 0)), .int .i64 (rowv (f 1)), .int .i64 (rowv (f 2)), .int .i64 (rowv (f 3)), .int .i64 (rowv (f 4)), .int .i64 (rowv (f 5))]] w fun e w' => e = .returned (.bool true) ∧ Below w.heap.size w w' := (sh_as _ _ _ _ _ _ (show (ok (rowv (f 0)) && ok (rowv (f 1)) && ok (rowv (f 2)) && ok (rowv (f 3)) && ok (rowv (f 4)) && ok (rowv (f 5))) = true by simp only [rowv_ok, Bool.and_self])).out w
/-- Rows of the two boxes and what the walk leaves below. -/
theorem two_boxes (w : World) (o o2 : Obj) {W0 : World} (hB0 : Below w.heap.size w W0) (q0 : W0.heap[w.heap.size]? = some o) (q1 : W0.heap[w.heap.size + 1]? = some o2) (hs : w.heap.size + 2 ≤ W0.heap.size) : KR 2 [(w.heap.size, o), (w.heap.size + 1, o2)] w W0 := ⟨by simp [q0, q1], hs, hB0⟩
def os (a0 a1 a2 a3 a4 a5 : Int) : Obj := .cells #[.int .i64 a0, .int .i64 a1, .int .i64 a2, .int .i64 a3, .int .i64 a4, .int .i64 a5] 28 (0, 0)
set_option maxHeartbeats 1000000 in
theorem iopen6_yes (p s : Fn6) (w : World) : Calls Try.prog 162 #[.agg #[.int .i64 (rowv (p 0)), .int .i64 (rowv (p 1)), .int .i64 (rowv (p 2)), .int .i64 (rowv (p 3)), .int .i64 (rowv (p 4)), .int .i64 (rowv (p 5))], .agg #[.int .i64 (rowv (s 0)), .int .i64 (rowv (s 1)), .int .i64 (rowv (s 2)), .int .i64 (rowv (s 3)), .int .i64 (rowv (s 4)), .int .i64 (rowv (s 5))]] w (LPb (bl (shr s p) 36) true w) := by
  have HF := Lib.hid (ishrink_c s p)
  have HG := Lib.hid (icells_f (shr s p))
  go_enter Try.func162, Try.ntmps162
  go_wp2_with fail
  generalize hW : (World.alloc _ _ : World) = W0
  have K0 : KR 2 [(w.heap.size, o6 p), (w.heap.size + 1, o6 s)] w W0 := by
    rw [← hW]
    exact two_boxes w _ _ (by (repeat (first | exact Below.refl _ _ | assumption | refine Below.setCell ?_ (by first | (simp; done) | (simp; omega)) _ | refine Below.alloc ?_ (by first | (simp; done) | (simp; omega)) _ | refine Below.drew ?_))) (alloc_past (alloc_at rfl)) (alloc_at (by simp)) (by simp)
  clear hW
  have a_c := fun j => cell_of_row W0 _ j _ _ _ (K0.row (g := w.heap.size) (o := o6 p) (by simp))
  have b_c := fun j => cell_of_row W0 _ j _ _ _ (K0.row (g := w.heap.size + 1) (o := o6 s) (by simp))
  go_wp2_with fail
  refine (HF.out _).mono ?_
  rintro e W1 ⟨rfl, hb⟩
  have HB := Lib.hid (K0.far hb rfl).2.2
  clear hb K0 a_c b_c
  go_wp2_with fail
  have HB2 := Lib.hid (HB.out.alloc HB.out.size (.cells #[.int .i64 (rowv (shr s p 0)), .int .i64 (rowv (shr s p 1)), .int .i64 (rowv (shr s p 2)), .int .i64 (rowv (shr s p 3)), .int .i64 (rowv (shr s p 4)), .int .i64 (rowv (shr s p 5))] 28))
  refine (HG.out _).mono ?_
  rintro e W3 ⟨g, cap, rfl, ho, hb⟩
  have HO := Lib.hid (own_mono ho HB2.out.size)
  have HB3 := Lib.hid (below_of HB2.out hb HB2.out.size)
  clear hb ho HB HB2
  go_wp2_with fail
  go_ret2
  exact ⟨g, cap, rfl, HO.out, HB3.out⟩
set_option maxHeartbeats 1000000 in
theorem iopen6_no (a0 a1 a2 a3 a4 a5 : Int) (b0 b1 b2 b3 b4 b5 : Int) (HF : Hid (∀ w, Calls Try.prog 61 #[.agg #[.int .i64 b0, .int .i64 b1, .int .i64 b2, .int .i64 b3, .int .i64 b4, .int .i64 b5], .agg #[.int .i64 a0, .int .i64 a1, .int .i64 a2, .int .i64 a3, .int .i64 a4, .int .i64 a5]] w fun e w' => e = .returned (.tuple #[.agg #[.int .i64 0, .int .i64 0, .int .i64 0, .int .i64 0, .int .i64 0, .int .i64 0], .bool false]) ∧ Below w.heap.size w w')) (w : World) : Calls Try.prog 162 #[.agg #[.int .i64 a0, .int .i64 a1, .int .i64 a2, .int .i64 a3, .int .i64 a4, .int .i64 a5], .agg #[.int .i64 b0, .int .i64 b1, .int .i64 b2, .int .i64 b3, .int .i64 b4, .int .i64 b5]] w (LPb [] false w) := by
  go_enter Try.func162, Try.ntmps162
  go_wp2_with fail
  generalize hW : (World.alloc _ _ : World) = W0
  have K0 : KR 2 [(w.heap.size, os a0 a1 a2 a3 a4 a5), (w.heap.size + 1, os b0 b1 b2 b3 b4 b5)] w W0 := by
    rw [← hW]
    exact two_boxes w _ _ (by (repeat (first | exact Below.refl _ _ | assumption | refine Below.setCell ?_ (by first | (simp; done) | (simp; omega)) _ | refine Below.alloc ?_ (by first | (simp; done) | (simp; omega)) _ | refine Below.drew ?_))) (alloc_past (alloc_at rfl)) (alloc_at (by simp)) (by simp)
  clear hW
  have a_c := fun j => cell_of_row W0 _ j _ _ _ (K0.row (g := w.heap.size) (o := os a0 a1 a2 a3 a4 a5) (by simp))
  have b_c := fun j => cell_of_row W0 _ j _ _ _ (K0.row (g := w.heap.size + 1) (o := os b0 b1 b2 b3 b4 b5) (by simp))
  go_wp2_with fail
  refine (HF.out _).mono ?_
  rintro e W1 ⟨rfl, hb⟩
  have HB := Lib.hid (K0.far hb rfl).2.2
  clear hb K0 a_c b_c
  go_wp2_with fail
  have HB2 := HB.out.alloc HB.out.size (.cells #[.int .i64 0, .int .i64 0, .int .i64 0, .int .i64 0, .int .i64 0, .int .i64 0] 28)
  go_ret2
  have h := World.ownsRow_lit (base := w.heap.size) (e := 25) (size := 2) (W1.alloc (.cells #[.int .i64 0, .int .i64 0, .int .i64 0, .int .i64 0, .int .i64 0, .int .i64 0] 28)) #[] 0 HB2.size (by unfold maxLen; omega) rfl
  rw [show (W1.alloc (.cells #[.int .i64 0, .int .i64 0, .int .i64 0, .int .i64 0, .int .i64 0, .int .i64 0] 28)).heap.size = W1.heap.size + 1 by simp] at h
  exact ⟨W1.heap.size + 1, 0, rfl, h, HB2.alloc HB2.size _⟩
/- Cc6 -/
/-- Midway in a loop over a row of pairs: what is made so far lies in the block gb. -/
def Rg6 (n : Nat) (R : List (Nat × Obj)) (w : World) (l : List (Nat × Nat)) (g cap gb : Nat) (F : Fn6) (W : World) : Prop :=
  KR n R w W ∧ W.ownsRow 0 25 2 (.slice (some ⟨g, 0, none⟩) l.length cap) l.length (cv l) ∧ W.heap[gb]? = some (o6 F) ∧ w.heap.size + n ≤ gb ∧ gb < W.heap.size ∧ g ≠ gb
theorem Rg6.below {n : Nat} {R : List (Nat × Obj)} {w W W' : World} {l : List (Nat × Nat)} {g cap gb M : Nat} {F : Fn6} (h : Rg6 n R w l g cap gb F W) (hb : Below M W W') (hM : M = W.heap.size) : Rg6 n R w l g cap gb F W' := by
  obtain ⟨h1, h2, h3, h4, h5, h6⟩ := h
  exact ⟨h1.far hb hM, h2.kept (grown_below hb hM) (.inr (by simp [Value.ownBlock])), rowk h3 hb hM, h4, Nat.lt_of_lt_of_le h5 hb.size, h6⟩
theorem Rg6.put {n : Nat} {R : List (Nat × Obj)} {w W : World} {l : List (Nat × Nat)} {g cap gb : Nat} {F : Fn6} (G : Fn6) (h : Rg6 n R w l g cap gb F W) : Rg6 n R w l g cap gb G ((((((W.setCell ⟨gb, 0, none⟩ (.int .i64 (rowv (G 0)))).setCell ⟨gb, 1, none⟩ (.int .i64 (rowv (G 1)))).setCell ⟨gb, 2, none⟩ (.int .i64 (rowv (G 2)))).setCell ⟨gb, 3, none⟩ (.int .i64 (rowv (G 3)))).setCell ⟨gb, 4, none⟩ (.int .i64 (rowv (G 4)))).setCell ⟨gb, 5, none⟩ (.int .i64 (rowv (G 5)))) := by
  obtain ⟨h1, h2, h3, h4, h5, h6⟩ := h
  exact ⟨h1.set h4 |>.set h4 |>.set h4 |>.set h4 |>.set h4 |>.set h4, own_set6 _ _ _ _ _ _ h2 h6, set6a _ _ _ _ _ _ h3, h4, by simpa using h5, h6⟩
theorem Rg6_c {n : Nat} {R : List (Nat × Obj)} {w U : World} {l : List (Nat × Nat)} {g cap gb : Nat} {F : Fn6} (h : Rg6 n R w l g cap gb F U) : ∀ j, U.cell? ⟨gb, j, none⟩ = (#[.int .i64 (rowv (F 0)), .int .i64 (rowv (F 1)), .int .i64 (rowv (F 2)), .int .i64 (rowv (F 3)), .int .i64 (rowv (F 4)), .int .i64 (rowv (F 5))] : Array Value)[j]? := fun j => cell_of_row U _ j _ _ _ h.2.2.1
theorem Rg6_f {n : Nat} {R : List (Nat × Obj)} {w U : World} {l : List (Nat × Nat)} {g cap gb : Nat} {F : Fn6} (h : Rg6 n R w l g cap gb F U) : ∀ j, U.frozen? ⟨gb, j, none⟩ = false := fun j => frozen_of_row U _ j _ _ h.2.2.1
set_option maxHeartbeats 4000000 in
theorem link6_f (p : Fn6) (l : List (Nat × Nat)) (hlm : ∀ c ∈ l, c.1 < 6 ∧ c.2 < 6) (hlen : l.length ≤ 1048576) (g cap : Nat) (w : World) (hO : w.ownsRow 0 25 2 (.slice (some ⟨g, 0, none⟩) l.length cap) l.length (cv l)) : Calls Try.prog 161 #[.agg #[.int .i64 (rowv (p 0)), .int .i64 (rowv (p 1)), .int .i64 (rowv (p 2)), .int .i64 (rowv (p 3)), .int .i64 (rowv (p 4)), .int .i64 (rowv (p 5))], .slice (some ⟨g, 0, none⟩) l.length cap] w fun e w' => e = .returned (.agg #[.int .i64 (rowv (spo p l zf 0)), .int .i64 (rowv (spo p l zf 1)), .int .i64 (rowv (spo p l zf 2)), .int .i64 (rowv (spo p l zf 3)), .int .i64 (rowv (spo p l zf 4)), .int .i64 (rowv (spo p l zf 5))]) ∧ Below w.heap.size w w' := by
  have hg := (hO.lt g rfl).2
  have HLm := Lib.hid hlm
  have HO := Lib.hid hO
  clear hlm hO
  go_enter Try.func161, Try.ntmps161
  go_wp2_with fail
  generalize hW : (World.alloc _ _ : World) = W0
  have hB0 : Below w.heap.size w W0 := by rw [← hW]; (repeat (first | exact Below.refl _ _ | assumption | refine Below.setCell ?_ (by first | (simp; done) | (simp; omega)) _ | refine Below.alloc ?_ (by first | (simp; done) | (simp; omega)) _ | refine Below.drew ?_))
  have qa : W0.heap[(w.heap.size : Nat)]? = some (o6 p) := by
    rw [← hW]
    repeat (first | (refine alloc_at ?_; first | (simp; done) | (simp; omega)) | refine drew_row ?_ | refine alloc_past ?_ | assumption)
  have qb : W0.heap[(w.heap.size + 1 : Nat)]? = some oz := by
    rw [← hW]
    repeat (first | (refine alloc_at ?_; first | (simp; done) | (simp; omega)) | refine drew_row ?_ | refine alloc_past ?_ | assumption)
  have qz : W0.heap[(w.heap.size + 2 : Nat)]? = some (o6 (spo p (l.take 0) zf)) := by
    rw [← hW]
    refine alloc_at (o := .cells #[.int .i64 0, .int .i64 0, .int .i64 0, .int .i64 0, .int .i64 0, .int .i64 0] 28) ?_
    simp
  have S0 : Hid (Rg6 2 [(w.heap.size, o6 p), (w.heap.size + 1, oz)] w l g cap (w.heap.size + 2) (spo p (l.take 0) zf) W0) := Lib.hid ⟨two_boxes w _ _ hB0 qa qb (by rw [← hW]; simp), HO.out.kept (grown_below hB0 rfl) (.inr (by simp [Value.ownBlock])), qz, Nat.le_refl _, row_lt qz, by omega⟩
  clear hW hB0 qa qb qz HO hg
  obtain ⟨gb, hgb⟩ : ∃ gb, gb = w.heap.size + 2 := ⟨_, rfl⟩
  rw [← hgb] at S0 ⊢
  clear hgb
  go_loopw [6] (fun c wr => ∃ i : Nat, i ≤ l.length ∧ c = .int .i64 i ∧ Hid (Rg6 2 [(w.heap.size, o6 p), (w.heap.size + 1, oz)] w l g cap gb (spo p (l.take i) zf) wr)) (fun c _ => l.length - (intOf c).toNat)
  case atStart => exact ⟨0, by omega, rfl, S0⟩
  case round =>
    obtain ⟨i, hi, rfl, HS⟩ := hrel
    by_cases hlt : i < l.length
    · have hlt' : (i : Int) < l.length := by omega
      have hi0 : (0 : Int) ≤ i := by omega
      have hi2 : i ≤ 1048576 := by omega
      obtain ⟨p1, p2⟩ := cv_at l i hlt
      have HD := Lib.hid (HS.out.below (M := wr.heap.size) (Below.refl _ _).drew rfl)
      have a1 := own_at HD.out.2.1 p1
      have a2 := own_at HD.out.2.1 p2
      clear p1 p2
      obtain ⟨m1, m2⟩ := HLm.out _ (List.getElem_mem hlt)
      have HF := Lib.hid (l2at_n p m1 m2)
      have HXr := Lib.hid (row_jf (spo p (l.take i) zf) (sf (l[i]).1 (l[i]).2 p))
      have HP : Hid (spo p (l.take (i + 1)) zf = jf (spo p (l.take i) zf) (sf (l[i]).1 (l[i]).2 p)) := Lib.hid (spo_succ p l zf hlt)
      generalize l[i] = c at a1 a2 HF HP HXr
      obtain ⟨x, y⟩ := c
      dsimp only at HP HXr HF a1 a2
      have HX := Lib.hid (l2or_any (rowv (spo p (l.take i) zf 0)) (rowv (spo p (l.take i) zf 1)) (rowv (spo p (l.take i) zf 2)) (rowv (spo p (l.take i) zf 3)) (rowv (spo p (l.take i) zf 4)) (rowv (spo p (l.take i) zf 5)) (rowv (sf x y p 0)) (rowv (sf x y p 1)) (rowv (sf x y p 2)) (rowv (sf x y p 3)) (rowv (sf x y p 4)) (rowv (sf x y p 5)))
      simp only [HXr.out] at HX
      generalize spo p (l.take i) zf = F at HS HD HP HX
      go_wp2_with fail
      have d_c := Rg6_c HD.out
      have s_c := fun j => cell_of_row wr.drew _ j _ _ _ (HD.out.1.row (g := w.heap.size) (o := o6 p) (by simp))
      set_option maxRecDepth 8000 in
      go_region_with (first | (go_at_call 155; with_reducible refine (HF.out _).mono ?_; rintro e w' ⟨rfl, hb'⟩; have HE := Lib.hid (HD.out.below hb' rfl); have e_c := Rg6_c HE.out) | (go_at_call 154; with_reducible refine (HX.out _).mono ?_; rintro e w' ⟨rfl, hb'⟩; have HG := Lib.hid (HE.out.below hb' rfl); clear e_c d_c; have b_f := Rg6_f HG.out; have b_c := Rg6_c HG.out))
      all_goals
        have HI2 := Lib.hid (HG.out.put (jf F (sf x y p)))
        clear HG HE HD b_f b_c s_c a1 a2
        go_wp2_with fail
        go_roundw
        case rel => exact ⟨i + 1, by omega, by go_num, by rw [HP.out]; exact HI2⟩
        case measure => simp [intOf]; omega
    · obtain rfl : i = l.length := by omega
      have hgb3 := HS.out.2.2.2.1
      have d_c := Rg6_c HS.out
      rw [List.take_length] at d_c
      have z_c := fun j => cell_of_row wr _ j _ _ _ (HS.out.1.row (g := w.heap.size + 1) (o := oz) (by simp))
      have z_f := fun j => frozen_of_row wr _ j _ _ (HS.out.1.row (g := w.heap.size + 1) (o := oz) (by simp))
      go_wp2_with fail
      have qx : ((((((wr.setCell ⟨w.heap.size + 1, 0, none⟩ (.int .i64 (rowv (spo p l zf 0)))).setCell ⟨w.heap.size + 1, 1, none⟩ (.int .i64 (rowv (spo p l zf 1)))).setCell ⟨w.heap.size + 1, 2, none⟩ (.int .i64 (rowv (spo p l zf 2)))).setCell ⟨w.heap.size + 1, 3, none⟩ (.int .i64 (rowv (spo p l zf 3)))).setCell ⟨w.heap.size + 1, 4, none⟩ (.int .i64 (rowv (spo p l zf 4)))).setCell ⟨w.heap.size + 1, 5, none⟩ (.int .i64 (rowv (spo p l zf 5)))).heap[w.heap.size + 1]? = _ := set6a _ _ _ _ _ _ (HS.out.1.row (g := w.heap.size + 1) (o := oz) (by simp))
      have hB := below6 (g := w.heap.size + 1) (v0 := .int .i64 (rowv (spo p l zf 0))) (v1 := .int .i64 (rowv (spo p l zf 1))) (v2 := .int .i64 (rowv (spo p l zf 2))) (v3 := .int .i64 (rowv (spo p l zf 3))) (v4 := .int .i64 (rowv (spo p l zf 4))) (v5 := .int .i64 (rowv (spo p l zf 5))) HS.out.1.2.2 (by omega)
      generalize (World.setCell _ _ _ : World) = X at qx hB ⊢
      have x_c := fun j => cell_of_row X _ j _ _ _ qx
      exact bodyPost_ret (v := .agg #[.int .i64 (rowv (spo p l zf 0)), .int .i64 (rowv (spo p l zf 1)), .int .i64 (rowv (spo p l zf 2)), .int .i64 (rowv (spo p l zf 3)), .int .i64 (rowv (spo p l zf 4)), .int .i64 (rowv (spo p l zf 5))]) (by simp [results, Try.results161, go_sem, x_c]) rfl ⟨rfl, hB⟩
def eqf (f g : Fn6) : Bool := rowv (f 0) == rowv (g 0) && rowv (f 1) == rowv (g 1) && rowv (f 2) == rowv (g 2) && rowv (f 3) == rowv (g 3) && rowv (f 4) == rowv (g 4) && rowv (f 5) == rowv (g 5)
theorem eqf_iff (f g : Fn6) : eqf f g = true ↔ Ag f g := by
  unfold eqf
  simp only [Bool.and_eq_true, beq_iff_eq]
  constructor
  · rintro ⟨⟨⟨⟨⟨h0, h1⟩, h2⟩, h3⟩, h4⟩, h5⟩ j i hj hi
    rcases six_n hj with rfl | rfl | rfl | rfl | rfl | rfl
    · exact rowv_inj h0 i hi
    · exact rowv_inj h1 i hi
    · exact rowv_inj h2 i hi
    · exact rowv_inj h3 i hi
    · exact rowv_inj h4 i hi
    · exact rowv_inj h5 i hi
  · intro h
    exact ⟨⟨⟨⟨⟨rowv_congr fun i hi => h 0 i (by decide) hi, rowv_congr fun i hi => h 1 i (by decide) hi⟩, rowv_congr fun i hi => h 2 i (by decide) hi⟩, rowv_congr fun i hi => h 3 i (by decide) hi⟩, rowv_congr fun i hi => h 4 i (by decide) hi⟩, rowv_congr fun i hi => h 5 i (by decide) hi⟩
theorem eqf_ag {f f' g g' : Fn6} (h : Ag f f') (k : Ag g g') : eqf f g = eqf f' g' := by
  rw [Bool.eq_iff_iff, eqf_iff, eqf_iff]
  exact ⟨fun q => h.symm.trans (q.trans k), fun q => h.trans (q.trans k.symm)⟩
theorem bl_lt36 (f : Fn6) : ∀ c ∈ bl f 36, c.1 < 6 ∧ c.2 < 6 := bl_lt f 36 (Nat.le_refl _)
set_option maxHeartbeats 4000000 in
theorem lcan6_f (p s : Fn6) (w : World) : Calls Try.prog 152 #[.agg #[.int .i64 (rowv (p 0)), .int .i64 (rowv (p 1)), .int .i64 (rowv (p 2)), .int .i64 (rowv (p 3)), .int .i64 (rowv (p 4)), .int .i64 (rowv (p 5))], .agg #[.int .i64 (rowv (s 0)), .int .i64 (rowv (s 1)), .int .i64 (rowv (s 2)), .int .i64 (rowv (s 3)), .int .i64 (rowv (s 4)), .int .i64 (rowv (s 5))]] w fun e w' => e = .returned (.bool (eqf (spd p (shr s p)) s)) ∧ Below w.heap.size w w' := by
  have H1 := Lib.hid (lopen6_f p s)
  have hlen := bl_len (shr s p) 36
  have H2 := Lib.hid (link6_f p (bl (shr s p) 36) (bl_lt36 _) (by omega))
  have HE := Lib.hid (eq26 (rowv (spd p (shr s p) 0)) (rowv (spd p (shr s p) 1)) (rowv (spd p (shr s p) 2)) (rowv (spd p (shr s p) 3)) (rowv (spd p (shr s p) 4)) (rowv (spd p (shr s p) 5)) (rowv (s 0)) (rowv (s 1)) (rowv (s 2)) (rowv (s 3)) (rowv (s 4)) (rowv (s 5)))
  rw [show spo p (bl (shr s p) 36) zf = spd p (shr s p) from rfl] at H2
  generalize bl (shr s p) 36 = l at H1 H2 hlen
  clear hlen
  go_enter Try.func152, Try.ntmps152
  go_wp2_with fail
  generalize hW : (World.alloc _ _ : World) = W0
  have hk : KR 2 [(w.heap.size, o6 p), (w.heap.size + 1, o6 s)] w W0 := by
    rw [← hW]
    exact two_boxes w _ _ (by (repeat (first | exact Below.refl _ _ | assumption | refine Below.setCell ?_ (by first | (simp; done) | (simp; omega)) _ | refine Below.alloc ?_ (by first | (simp; done) | (simp; omega)) _ | refine Below.drew ?_))) (alloc_past (alloc_at rfl)) (alloc_at (by simp)) (by simp)
  clear hW
  have hz0 := KR.le hk
  have he := HE.out
  set_option maxRecDepth 8000 in
  go_region_held3 (fun U => U.cell? ⟨w.heap.size, 0, none⟩ = some (.int .i64 (rowv (p 0))) ∧ U.cell? ⟨w.heap.size, 1, none⟩ = some (.int .i64 (rowv (p 1))) ∧ U.cell? ⟨w.heap.size, 2, none⟩ = some (.int .i64 (rowv (p 2))) ∧ U.cell? ⟨w.heap.size, 3, none⟩ = some (.int .i64 (rowv (p 3))) ∧ U.cell? ⟨w.heap.size, 4, none⟩ = some (.int .i64 (rowv (p 4))) ∧ U.cell? ⟨w.heap.size, 5, none⟩ = some (.int .i64 (rowv (p 5))) ∧ U.cell? ⟨w.heap.size + 1, 0, none⟩ = some (.int .i64 (rowv (s 0))) ∧ U.cell? ⟨w.heap.size + 1, 1, none⟩ = some (.int .i64 (rowv (s 1))) ∧ U.cell? ⟨w.heap.size + 1, 2, none⟩ = some (.int .i64 (rowv (s 2))) ∧ U.cell? ⟨w.heap.size + 1, 3, none⟩ = some (.int .i64 (rowv (s 3))) ∧ U.cell? ⟨w.heap.size + 1, 4, none⟩ = some (.int .i64 (rowv (s 4))) ∧ U.cell? ⟨w.heap.size + 1, 5, none⟩ = some (.int .i64 (rowv (s 5))) ∧ KR 2 [(w.heap.size, o6 p), (w.heap.size + 1, o6 s)] w U) (with_reducible refine SK2 ?_; (repeat (first | with_reducible assumption | with_reducible refine KR.al ?_ | with_reducible refine KR.drew ?_))) (first | (go_at_call 153; with_reducible refine (H1.out _).mono ?_; rintro e w' hp; obtain ⟨g, cap, rfl, ho, hb'⟩ := LP.out hp; have hk : KR 2 [(w.heap.size, o6 p), (w.heap.size + 1, o6 s)] w w' := KR.far (by (repeat (first | with_reducible assumption | with_reducible refine KR.al ?_ | with_reducible refine KR.drew ?_))) hb' rfl; have ho0 := Lib.hid (own_mono ho (Nat.zero_le _))) | (go_at_call 161; with_reducible refine (H2.out _ _ _ ho0.out).mono ?_; rintro e w' ⟨rfl, hb'⟩; have hk : KR 2 [(w.heap.size, o6 p), (w.heap.size + 1, o6 s)] w w' := KR.far (by (repeat (first | with_reducible assumption | with_reducible refine KR.al ?_ | with_reducible refine KR.drew ?_))) hb' rfl))
  all_goals
    go_wp2_with fail
    go_ret
    exact ⟨rfl, hk.2.2⟩
/-- The code's: IsOpened with the arguments exchanged. -/
theorem ican6_any (a0 a1 a2 a3 a4 a5 : Int) (b0 b1 b2 b3 b4 b5 : Int) (r t : Bool) (HF : Hid (∀ w, Calls Try.prog 216 #[.agg #[.int .i64 b0, .int .i64 b1, .int .i64 b2, .int .i64 b3, .int .i64 b4, .int .i64 b5], .agg #[.int .i64 a0, .int .i64 a1, .int .i64 a2, .int .i64 a3, .int .i64 a4, .int .i64 a5]] w fun e w' => e = .returned (.tuple #[.bool r, .bool t]) ∧ Below w.heap.size w w')) (w : World) : Calls Try.prog 200 #[.agg #[.int .i64 a0, .int .i64 a1, .int .i64 a2, .int .i64 a3, .int .i64 a4, .int .i64 a5], .agg #[.int .i64 b0, .int .i64 b1, .int .i64 b2, .int .i64 b3, .int .i64 b4, .int .i64 b5]] w fun e w' => e = .returned (.tuple #[.bool r, .bool t]) ∧ Below w.heap.size w w' := by
  go_enter Try.func200, Try.ntmps200
  go_wp2_with fail
  generalize hW : (World.alloc _ _ : World) = W0
  have K0 : KR 2 [(w.heap.size, os a0 a1 a2 a3 a4 a5), (w.heap.size + 1, os b0 b1 b2 b3 b4 b5)] w W0 := by
    rw [← hW]
    exact two_boxes w _ _ (by (repeat (first | exact Below.refl _ _ | assumption | refine Below.setCell ?_ (by first | (simp; done) | (simp; omega)) _ | refine Below.alloc ?_ (by first | (simp; done) | (simp; omega)) _ | refine Below.drew ?_))) (alloc_past (alloc_at rfl)) (alloc_at (by simp)) (by simp)
  clear hW
  have a_c := fun j => cell_of_row W0 _ j _ _ _ (K0.row (g := w.heap.size) (o := os a0 a1 a2 a3 a4 a5) (by simp))
  have b_c := fun j => cell_of_row W0 _ j _ _ _ (K0.row (g := w.heap.size + 1) (o := os b0 b1 b2 b3 b4 b5) (by simp))
  go_wp2_with fail
  refine (HF.out _).mono ?_
  rintro e W1 ⟨rfl, hb⟩
  have HB := Lib.hid (K0.far hb rfl).2.2
  clear hb K0 a_c b_c
  go_wp2_with fail
  go_ret2
  exact ⟨rfl, HB.out⟩
/-- The code's IsOpened: not valid. -/
theorem iisop_n0 (a0 a1 a2 a3 a4 a5 : Int) (b0 b1 b2 b3 b4 b5 : Int) (hv : (ok a0 && ok a1 && ok a2 && ok a3 && ok a4 && ok a5) = false) (w : World) : Calls Try.prog 216 #[.agg #[.int .i64 a0, .int .i64 a1, .int .i64 a2, .int .i64 a3, .int .i64 a4, .int .i64 a5], .agg #[.int .i64 b0, .int .i64 b1, .int .i64 b2, .int .i64 b3, .int .i64 b4, .int .i64 b5]] w fun e w' => e = .returned (.tuple #[.bool false, .bool false]) ∧ Below w.heap.size w w' := iio_no a0 a1 a2 a3 a4 a5 b0 b1 b2 b3 b4 b5 (Lib.hid (iopen_n0 a0 a1 a2 a3 a4 a5 b0 b1 b2 b3 b4 b5 hv)) w
theorem iisop_n1 (a0 a1 a2 a3 a4 a5 : Int) (b0 b1 b2 b3 b4 b5 : Int) (hv : (ok a0 && ok a1 && ok a2 && ok a3 && ok a4 && ok a5) = true) (hc : (ok b0 && ok b1 && ok b2 && ok b3 && ok b4 && ok b5) = false) (w : World) : Calls Try.prog 216 #[.agg #[.int .i64 a0, .int .i64 a1, .int .i64 a2, .int .i64 a3, .int .i64 a4, .int .i64 a5], .agg #[.int .i64 b0, .int .i64 b1, .int .i64 b2, .int .i64 b3, .int .i64 b4, .int .i64 b5]] w fun e w' => e = .returned (.tuple #[.bool false, .bool false]) ∧ Below w.heap.size w w' := iio_no a0 a1 a2 a3 a4 a5 b0 b1 b2 b3 b4 b5 (Lib.hid (iopen_n1 a0 a1 a2 a3 a4 a5 b0 b1 b2 b3 b4 b5 hv hc)) w
theorem can_opn (s p : Fn6) : eqf (spd p (shr s p)) s = eqf (spd (shr s p) p) s := eqf_ag (spd_comm _ _) (Ag.refl _)
theorem ican6_yes (p s : Fn6) (w : World) : Calls Try.prog 200 #[.agg #[.int .i64 (rowv (p 0)), .int .i64 (rowv (p 1)), .int .i64 (rowv (p 2)), .int .i64 (rowv (p 3)), .int .i64 (rowv (p 4)), .int .i64 (rowv (p 5))], .agg #[.int .i64 (rowv (s 0)), .int .i64 (rowv (s 1)), .int .i64 (rowv (s 2)), .int .i64 (rowv (s 3)), .int .i64 (rowv (s 4)), .int .i64 (rowv (s 5))]] w fun e w' => e = .returned (.tuple #[.bool (eqf (spd p (shr s p)) s), .bool true]) ∧ Below w.heap.size w w' := by
  rw [can_opn]
  exact ican6_any (rowv (p 0)) (rowv (p 1)) (rowv (p 2)) (rowv (p 3)) (rowv (p 4)) (rowv (p 5)) (rowv (s 0)) (rowv (s 1)) (rowv (s 2)) (rowv (s 3)) (rowv (s 4)) (rowv (s 5)) _ true (Lib.hid (fun w => iio_yes (rowv (s 0)) (rowv (s 1)) (rowv (s 2)) (rowv (s 3)) (rowv (s 4)) (rowv (s 5)) (rowv (p 0)) (rowv (p 1)) (rowv (p 2)) (rowv (p 3)) (rowv (p 4)) (rowv (p 5)) (rowv (spd (shr s p) p 0)) (rowv (spd (shr s p) p 1)) (rowv (spd (shr s p) p 2)) (rowv (spd (shr s p) p 3)) (rowv (spd (shr s p) p 4)) (rowv (spd (shr s p) p 5)) (Lib.hid (iopen_c s p)) w)) w
end Go.Proofs.Ythphkhcppljdlaa
