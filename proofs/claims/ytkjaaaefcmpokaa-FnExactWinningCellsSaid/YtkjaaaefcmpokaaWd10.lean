/- CONTRACTS: WinningCells of the code, and the pair. -/
import Derived.Test.YtkjaaaefcmpokaaWc10
import Derived.WalkKit
import Derived.ProofKit
import Derived.OpenShut
import Derived.Lib.Hide
import Derived.WalkSpells
import Derived.Below
import Derived.BigQuiet
import Derived.LoopN
namespace Go.Proofs.Ytkjaaaefcmpokaa
open Go.ChangeShapes Go.WideShapes Go.ChangeAt Go.RowKit
set_option linter.unusedVariables false
open Go.Maps Go.ChangeMaps Go.MapKept
/-- Midway: as the model's, and the map of numbers. -/
def Sc10 (w : World) (f p : Fn6) (l : List (Nat × Nat)) (g cap : Nat) (out : List (Nat × Nat)) (v : Value) (b : Nat) (U : World) : Prop := Sw10 w f p l g cap out v U ∧ Mo10 (vt6 Tlast p) b U ∧ w.heap.size + 2 ≤ b ∧ b ≠ g ∧ v.ownBlock ≠ some b
theorem Sc10.below {w U U' : World} {f p : Fn6} {l out : List (Nat × Nat)} {g cap b M : Nat} {v : Value} (h : Sc10 w f p l g cap out v b U) (hb : Below M U U') (hM : M = U.heap.size) : Sc10 w f p l g cap out v b U' := ⟨h.1.below hb hM, h.2.1.kept (grown_below hb hM) (by simp), h.2.2⟩
theorem Sc10.alloc {w U : World} {f p : Fn6} {l out : List (Nat × Nat)} {g cap b : Nat} {v : Value} (h : Sc10 w f p l g cap out v b U) (o : Obj) : Sc10 w f p l g cap out v b (U.alloc o) := h.below (M := U.heap.size) ((Below.refl _ _).alloc (Nat.le_refl _) o) rfl
theorem Sc10.snoc {w U U' : World} {f p : Fn6} {l out : List (Nat × Nat)} {g cap b x y : Nat} {v v' : Value} (h : Sc10 w f p l g cap out v b U) (hown : U'.ownsRow (w.heap.size + 2) 47 2 v' (out.length + 1) (cv out ++ [.int .i64 (x : Int), .int .i64 (y : Int)])) (hg : U.grownBy U' v.ownBlock) (hn : v' = .slice none 0 0 ↔ v = .slice none 0 0 ∧ 1 = 0) (hat : v'.ownBlock = v.ownBlock ∨ v'.ownBlock = some U.heap.size) : Sc10 w f p l g cap (out ++ [(x, y)]) v' b U' := by
  refine ⟨h.1.snoc hown hg hn hat, h.2.1.kept hg (fun q => h.2.2.2.2 q.symm), h.2.2.1, h.2.2.2.1, ?_⟩
  have g1 := h.2.1.lt
  rcases hat with q | q
  · rw [q]; exact h.2.2.2.2
  · rw [q]; simp; omega
/-- .. and the box of a cell. -/
def Bc10 (w : World) (f p : Fn6) (l : List (Nat × Nat)) (g cap : Nat) (out : List (Nat × Nat)) (v : Value) (b gc x y : Nat) (U : World) : Prop := Sc10 w f p l g cap out v b U ∧ U.heap[gc]? = some (oc x y) ∧ gc ≠ b
theorem Bc10.below {w U U' : World} {f p : Fn6} {l out : List (Nat × Nat)} {g cap b gc x y M : Nat} {v : Value} (h : Bc10 w f p l g cap out v b gc x y U) (hb : Below M U U') (hM : M = U.heap.size) : Bc10 w f p l g cap out v b gc x y U' := ⟨h.1.below hb hM, rowk h.2.1 hb hM, h.2.2⟩
theorem Bc10.drew {w U : World} {f p : Fn6} {l out : List (Nat × Nat)} {g cap b gc x y : Nat} {v : Value} (h : Bc10 w f p l g cap out v b gc x y U) : Bc10 w f p l g cap out v b gc x y U.drew := h.below (M := U.heap.size) (Below.refl _ _).drew rfl
theorem Bc10.mo {w U : World} {f p : Fn6} {l out : List (Nat × Nat)} {g cap b gc x y : Nat} {v : Value} (h : Bc10 w f p l g cap out v b gc x y U) : Mo10 (vt6 Tlast p) b U := h.1.2.1
theorem Bc10.map {w U U' : World} {f p : Fn6} {l out : List (Nat × Nat)} {g cap b gc x y : Nat} {v : Value} (h : Bc10 w f p l g cap out v b gc x y U) (hg : U.grownBy U' (some b)) (hm : Mo10 (vt6 Tlast p) b U') : Bc10 w f p l g cap out v b gc x y U' := by
  obtain ⟨⟨⟨⟨h1, g0, c0, h2, h3⟩, h4, h5⟩, h6, h7, h8, h9⟩, h10, h11⟩ := h
  exact ⟨⟨⟨⟨h1.grown hg (fun k hk => by cases hk; exact h7), g0, c0, h2, h3.kept hg (.inr h9)⟩, h4.kept hg (.inr (by simp [Value.ownBlock]; omega)), h5⟩, hm, h7, h8, h9⟩, by rw [hg.block _ (row_lt h10) (by simp; omega)]; exact h10, h11⟩
theorem SKc {w U : World} {f p : Fn6} {l out : List (Nat × Nat)} {g cap b gc x y : Nat} {v : Value} (h : Bc10 w f p l g cap out v b gc x y U) : U.cell? ⟨w.heap.size, 0, none⟩ = some (.int .i64 (rowv (f 0))) ∧ U.cell? ⟨w.heap.size, 1, none⟩ = some (.int .i64 (rowv (f 1))) ∧ U.cell? ⟨w.heap.size, 2, none⟩ = some (.int .i64 (rowv (f 2))) ∧ U.cell? ⟨w.heap.size, 3, none⟩ = some (.int .i64 (rowv (f 3))) ∧ U.cell? ⟨w.heap.size, 4, none⟩ = some (.int .i64 (rowv (f 4))) ∧ U.cell? ⟨w.heap.size, 5, none⟩ = some (.int .i64 (rowv (f 5))) ∧ U.cell? ⟨w.heap.size + 1, 0, none⟩ = some (.int .i64 (rowv (p 0))) ∧ U.cell? ⟨w.heap.size + 1, 1, none⟩ = some (.int .i64 (rowv (p 1))) ∧ U.cell? ⟨w.heap.size + 1, 2, none⟩ = some (.int .i64 (rowv (p 2))) ∧ U.cell? ⟨w.heap.size + 1, 3, none⟩ = some (.int .i64 (rowv (p 3))) ∧ U.cell? ⟨w.heap.size + 1, 4, none⟩ = some (.int .i64 (rowv (p 4))) ∧ U.cell? ⟨w.heap.size + 1, 5, none⟩ = some (.int .i64 (rowv (p 5))) ∧ U.cell? ⟨gc, 0, none⟩ = some (.int .i64 (x : Int)) ∧ U.cell? ⟨gc, 1, none⟩ = some (.int .i64 (y : Int)) ∧ Bc10 w f p l g cap out v b gc x y U := by
  have a_c := fun j => cell_of_row U _ j _ _ _ (h.1.1.1.1.row (g := w.heap.size) (o := o6 f) (by simp))
  have b_c := fun j => cell_of_row U _ j _ _ _ (h.1.1.1.1.row (g := w.heap.size + 1) (o := o6 p) (by simp))
  have g_c := fun j => cell_of_row U _ j _ _ _ h.2.1
  exact ⟨a_c 0, a_c 1, a_c 2, a_c 3, a_c 4, a_c 5, b_c 0, b_c 1, b_c 2, b_c 3, b_c 4, b_c 5, g_c 0, g_c 1, h⟩
set_option maxHeartbeats 4000000 in
theorem iwin_yes (f p : Fn6) (hp : eqf p zf = false) (HS1 : Hid (∀ w, Calls Try.prog 141 #[.agg #[.int .i64 (rowv (p 0)), .int .i64 (rowv (p 1)), .int .i64 (rowv (p 2)), .int .i64 (rowv (p 3)), .int .i64 (rowv (p 4)), .int .i64 (rowv (p 5))]] w fun e w' => e = .returned (.bool true) ∧ Below w.heap.size w w')) (HG : Hid (∀ w, Calls Try.prog 154 #[.agg #[.int .i64 (rowv (f 0)), .int .i64 (rowv (f 1)), .int .i64 (rowv (f 2)), .int .i64 (rowv (f 3)), .int .i64 (rowv (f 4)), .int .i64 (rowv (f 5))], .agg #[.int .i64 (rowv (p 0)), .int .i64 (rowv (p 1)), .int .i64 (rowv (p 2)), .int .i64 (rowv (p 3)), .int .i64 (rowv (p 4)), .int .i64 (rowv (p 5))]] w fun e w' => e = .returned (.bool true) ∧ Below w.heap.size w w')) (w : World) : Calls Try.prog 40 #[.agg #[.int .i64 (rowv (f 0)), .int .i64 (rowv (f 1)), .int .i64 (rowv (f 2)), .int .i64 (rowv (f 3)), .int .i64 (rowv (f 4)), .int .i64 (rowv (f 5))], .agg #[.int .i64 (rowv (p 0)), .int .i64 (rowv (p 1)), .int .i64 (rowv (p 2)), .int .i64 (rowv (p 3)), .int .i64 (rowv (p 4)), .int .i64 (rowv (p 5))]] w (LPb (wl f p (bl (frf f p) 36) (bl (frf f p) 36).length) true w) := by
  obtain ⟨i0, hinf, hz0, hz1, hz2⟩ := info_parts info44
  have HFr := Lib.hid (ifree_yes f p HS1)
  have HLm := Lib.hid (bl_lt (frf f p) 36 (Nat.le_refl _))
  have hl36 := bl_len (frf f p) 36
  have hmm := run_makeMap10
  have HM := Lib.hid (Mo10.start (vt6 Tlast p))
  generalize bl (frf f p) 36 = l at HFr HLm hl36 ⊢
  go_enter Try.func40, Try.ntmps40
  go_wp2_with fail
  generalize hW : (World.alloc (World.alloc w _) _ : World) = W0
  have hsz : W0.heap.size = w.heap.size + 1 + 1 := by rw [← hW]; simp
  have K0 : KR 2 [(w.heap.size, o6 f), (w.heap.size + 1, o6 p)] w W0 := by
    rw [← hW]
    exact two_b w _ _ (by (repeat (first | exact Below.refl _ _ | assumption | refine Below.setCell ?_ (by first | (simp; done) | (simp; omega)) _ | refine Below.alloc ?_ (by first | (simp; done) | (simp; omega)) _ | refine Below.drew ?_))) (alloc_past (alloc_at rfl)) (alloc_at (by simp)) (by simp)
  have S0 := Lib.hid (Rl.start K0)
  rw [hsz] at S0
  clear hsz
  clear hW K0
  generalize (World.alloc _ _ : World) = W1 at S0 ⊢
  generalize hv0 : (Value.slice (some ⟨_, 0, none⟩) 0 0) = v0 at S0 ⊢
  clear hv0
  refine (HG.out _).mono ?_
  rintro e W2 ⟨rfl, hb⟩
  have S1 := S0.out.below hb rfl
  clear hb S0
  have S2 := Lib.hid (S1.alloc (.map #[] 0))
  have hM2 := Lib.hid (HM.out W2)
  have hvb : v0.ownBlock ≠ some W2.heap.size := by
    obtain ⟨_, g0, c0, hv, h3⟩ := S1
    have := (h3.lt g0 (by rw [hv]; rfl)).2
    rw [hv]
    simp [Value.ownBlock]
    omega
  have hb2 : w.heap.size + 2 ≤ W2.heap.size := S1.1.2.1
  clear S1
  have a_c := fun j => cell_of_row (W2.alloc (.map #[] 0)) _ j _ _ _ (S2.out.1.row (g := w.heap.size) (o := o6 f) (by simp))
  have b_c := fun j => cell_of_row (W2.alloc (.map #[] 0)) _ j _ _ _ (S2.out.1.row (g := w.heap.size + 1) (o := o6 p) (by simp))
  have HVb := Lib.hid hvb
  clear hvb HM
  go_wp2_with fail
  generalize W2.heap.size = b at hM2 HVb hb2 ⊢
  generalize (World.alloc _ _ : World) = W3 at S2 hM2 a_c b_c ⊢
  refine (HFr.out _).mono ?_
  rintro e W4 hp3
  obtain ⟨g, cap, rfl, ho, hb⟩ := LPb.out hp3
  have hgl := (ho.lt g rfl).1
  have hbl := hM2.out.lt
  have S3 : Hid (Sc10 w f p l g cap (wl f p l 0) v0 b W4) := by
    refine Lib.hid ⟨⟨S2.out.below hb rfl, own_mono ho S2.out.1.2.1, ?_⟩, hM2.out.kept (grown_below hb rfl) (by simp), hb2, by omega, HVb.out⟩
    obtain ⟨_, g0, c0, hv, h3⟩ := S2.out
    have := (h3.lt g0 (by rw [hv]; rfl)).2
    rw [hv]
    simp [Value.ownBlock]
    omega
  clear hp3 ho hb S2 a_c b_c hgl hbl hM2 HVb hmm HFr
  go_wp2_with fail
  go_loopw [6, 27] (fun v n wr => ∃ i : Nat, i ≤ l.length ∧ n = .int .i64 i ∧ Hid (Sc10 w f p l g cap (wl f p l i) v b wr)) (fun _ n _ => l.length - (intOf n).toNat)
  case atStart => exact ⟨0, by omega, rfl, S3⟩
  case round =>
    obtain ⟨i, hi, rfl, HS⟩ := hrel
    clear S3
    by_cases hlt : i < l.length
    · have hlt' : (i : Int) < l.length := by omega
      have hi0 : (0 : Int) ≤ i := by omega
      have hi2 : i ≤ 36 := by omega
      obtain ⟨hx, hy⟩ := HLm.out _ (List.getElem_mem hlt)
      have H0 := Lib.hid (@wl_k0 f p l i hlt)
      have H1 := Lib.hid (@wl_k1 f p l i hlt)
      have hwl := wl_len f p l i
      obtain ⟨x, y, hc⟩ : ∃ x y, l[i] = (x, y) := ⟨_, _, rfl⟩
      obtain ⟨p0, p1⟩ := cv_at l i hlt
      rw [hc] at hx hy H0 H1 p0 p1
      dsimp only at hx hy p0 p1
      have c0 := own_at HS.out.1.2.1 p0
      have c1 := own_at HS.out.1.2.1 p1
      clear p0 p1 hc
      have HA := Lib.hid (shby_f p hx hy)
      have HJ := Lib.hid (ijoin_f f (sf x y p))
      have HNm := Lib.hid (num_f 151 Tlast (Lib.hid tell_last) tb_last p hp HS1 b _ (jf f (sf x y p)) (Nat.lt_succ_self _))
      change Hid (vt6 Tlast p (t6 (jf f (sf x y p))) ≠ 0 → _) at H0
      change Hid (vt6 Tlast p (t6 (jf f (sf x y p))) = 0 → _) at H1
      generalize vt6 Tlast p (t6 (jf f (sf x y p))) = z at H0 H1 HNm
      obtain ⟨out', hw1⟩ : ∃ o, o = wl f p l (i + 1) := ⟨_, rfl⟩
      rw [← hw1] at H0 H1
      have HW1 := Lib.hid hw1.symm
      clear hw1
      generalize wl f p l i = out at H0 H1 HS hwl
      have HZ : Hid (out' = if z = 0 then out ++ [(x, y)] else out) := by
        by_cases hz : z = 0
        · rw [if_pos hz]; exact Lib.hid (H1.out hz)
        · rw [if_neg hz]; exact Lib.hid (H0.out hz)
      clear H0 H1
      have hbw := HS.out.2.1.lt
      have hS : Bc10 w f p l g cap out u6 b wr.heap.size x y (wr.alloc (.cells #[.int .i64 (x : Int), .int .i64 (y : Int)] 47)) := ⟨HS.out.alloc _, alloc_at rfl, by omega⟩
      have g_c := fun j => cell_of_row (wr.alloc (.cells #[.int .i64 (x : Int), .int .i64 (y : Int)] 47)) _ j _ _ _ hS.2.1
      clear HS
      go_wp2_with fail
      generalize (World.alloc _ _ : World) = X at hS g_c ⊢
      generalize wr.heap.size = gc at hS g_c ⊢
      clear c0 c1 g_c
      by_cases hz : z = 0
      · rw [if_pos hz] at HZ
        rw [hz] at HNm
        set_option maxRecDepth 8000 in
        go_region_held3 (fun U => U.cell? ⟨w.heap.size, 0, none⟩ = some (.int .i64 (rowv (f 0))) ∧ U.cell? ⟨w.heap.size, 1, none⟩ = some (.int .i64 (rowv (f 1))) ∧ U.cell? ⟨w.heap.size, 2, none⟩ = some (.int .i64 (rowv (f 2))) ∧ U.cell? ⟨w.heap.size, 3, none⟩ = some (.int .i64 (rowv (f 3))) ∧ U.cell? ⟨w.heap.size, 4, none⟩ = some (.int .i64 (rowv (f 4))) ∧ U.cell? ⟨w.heap.size, 5, none⟩ = some (.int .i64 (rowv (f 5))) ∧ U.cell? ⟨w.heap.size + 1, 0, none⟩ = some (.int .i64 (rowv (p 0))) ∧ U.cell? ⟨w.heap.size + 1, 1, none⟩ = some (.int .i64 (rowv (p 1))) ∧ U.cell? ⟨w.heap.size + 1, 2, none⟩ = some (.int .i64 (rowv (p 2))) ∧ U.cell? ⟨w.heap.size + 1, 3, none⟩ = some (.int .i64 (rowv (p 3))) ∧ U.cell? ⟨w.heap.size + 1, 4, none⟩ = some (.int .i64 (rowv (p 4))) ∧ U.cell? ⟨w.heap.size + 1, 5, none⟩ = some (.int .i64 (rowv (p 5))) ∧ U.cell? ⟨gc, 0, none⟩ = some (.int .i64 (x : Int)) ∧ U.cell? ⟨gc, 1, none⟩ = some (.int .i64 (y : Int)) ∧ Bc10 w f p l g cap out u6 b gc x y U) (with_reducible refine SKc ?_; (first | with_reducible assumption | (with_reducible refine Bc10.drew ?_; with_reducible assumption))) (first | (go_at_call 157; with_reducible refine (HA.out _).mono ?_; rintro e w' ⟨rfl, hb'⟩; have hk : Bc10 w f p l g cap out u6 b gc x y w' := Bc10.below (by (first | with_reducible assumption | (with_reducible refine Bc10.drew ?_; with_reducible assumption))) hb' rfl) | (go_at_call 156; with_reducible refine (HJ.out _).mono ?_; rintro e w' ⟨rfl, hb'⟩; have hk : Bc10 w f p l g cap out u6 b gc x y w' := Bc10.below (by (first | with_reducible assumption | (with_reducible refine Bc10.drew ?_; with_reducible assumption))) hb' rfl) | (go_at_call 155; with_reducible refine (HNm.out _ (Bc10.mo (w := w) (f := f) (l := l) (g := g) (cap := cap) (out := out) (v := u6) (gc := gc) (x := x) (y := y) (by (first | with_reducible assumption | (with_reducible refine Bc10.drew ?_; with_reducible assumption))))).mono ?_; rintro e w' ⟨rfl, hm', hg'⟩; have hk : Bc10 w f p l g cap out u6 b gc x y w' := Bc10.map (by (first | with_reducible assumption | (with_reducible refine Bc10.drew ?_; with_reducible assumption))) hg' hm'))
        all_goals
          obtain ⟨_, g0, cp0, hv, _⟩ := hk.1.1.1
          subst hv
          have HO := (hk.1.1.1.2.choose_spec.choose_spec.2).kept (grown_below ((Below.refl _ _).alloc (Nat.le_refl _) (.cells #[.int .i64 (x : Int), .int .i64 (y : Int)] 47)) rfl) (.inr (by simp [Value.ownBlock]))
          have HY := Lib.hid (hk.1.alloc (.cells #[.int .i64 (x : Int), .int .i64 (y : Int)] 47))
          have hks := hk.1.1.1.1.2.1
          have g_c := fun j => cell_of_row w' _ j _ _ _ hk.2.1
          clear hk hS
          go_wp2_with (at_builtin; refine wpList_append_own_at _ rfl _ _ 25 rfl (w.heap.size + 2) 47 i0 (.agg #[.int .i64 0, .int .i64 0]) 2 16 Try.underlying25 hinf hz0 hz1 hz2 rfl (by decide) _ _ _ rfl HO ⟨w'.heap.size, 0, none⟩ 1 1 [.int .i64 (x : Int), .int .i64 (y : Int)] rfl rfl (two_new _ _ _ _) (ints_one _ _) (by have := hwl; unfold maxLen; omega) (by have := hwl; omega) (by have := hks; simp; omega) ?_; intro v' w1 hown' hgrow hnn hat; have R := Lib.hid (HY.out.snoc hown' hgrow hnn hat); clear hown' hgrow hnn hat HY HO hks)
          go_roundw
          case rel => exact ⟨i + 1, by omega, by go_num, by rw [HW1.out, HZ.out]; exact R⟩
          case measure => simp [intOf]; omega
      · rw [if_neg hz] at HZ
        have hzd : decide (z = 0) = false := decide_eq_false hz
        set_option maxRecDepth 8000 in
        go_region_held3 (fun U => U.cell? ⟨w.heap.size, 0, none⟩ = some (.int .i64 (rowv (f 0))) ∧ U.cell? ⟨w.heap.size, 1, none⟩ = some (.int .i64 (rowv (f 1))) ∧ U.cell? ⟨w.heap.size, 2, none⟩ = some (.int .i64 (rowv (f 2))) ∧ U.cell? ⟨w.heap.size, 3, none⟩ = some (.int .i64 (rowv (f 3))) ∧ U.cell? ⟨w.heap.size, 4, none⟩ = some (.int .i64 (rowv (f 4))) ∧ U.cell? ⟨w.heap.size, 5, none⟩ = some (.int .i64 (rowv (f 5))) ∧ U.cell? ⟨w.heap.size + 1, 0, none⟩ = some (.int .i64 (rowv (p 0))) ∧ U.cell? ⟨w.heap.size + 1, 1, none⟩ = some (.int .i64 (rowv (p 1))) ∧ U.cell? ⟨w.heap.size + 1, 2, none⟩ = some (.int .i64 (rowv (p 2))) ∧ U.cell? ⟨w.heap.size + 1, 3, none⟩ = some (.int .i64 (rowv (p 3))) ∧ U.cell? ⟨w.heap.size + 1, 4, none⟩ = some (.int .i64 (rowv (p 4))) ∧ U.cell? ⟨w.heap.size + 1, 5, none⟩ = some (.int .i64 (rowv (p 5))) ∧ U.cell? ⟨gc, 0, none⟩ = some (.int .i64 (x : Int)) ∧ U.cell? ⟨gc, 1, none⟩ = some (.int .i64 (y : Int)) ∧ Bc10 w f p l g cap out u6 b gc x y U) (with_reducible refine SKc ?_; (first | with_reducible assumption | (with_reducible refine Bc10.drew ?_; with_reducible assumption))) (first | (go_at_call 157; with_reducible refine (HA.out _).mono ?_; rintro e w' ⟨rfl, hb'⟩; have hk : Bc10 w f p l g cap out u6 b gc x y w' := Bc10.below (by (first | with_reducible assumption | (with_reducible refine Bc10.drew ?_; with_reducible assumption))) hb' rfl) | (go_at_call 156; with_reducible refine (HJ.out _).mono ?_; rintro e w' ⟨rfl, hb'⟩; have hk : Bc10 w f p l g cap out u6 b gc x y w' := Bc10.below (by (first | with_reducible assumption | (with_reducible refine Bc10.drew ?_; with_reducible assumption))) hb' rfl) | (go_at_call 155; with_reducible refine (HNm.out _ (Bc10.mo (w := w) (f := f) (l := l) (g := g) (cap := cap) (out := out) (v := u6) (gc := gc) (x := x) (y := y) (by (first | with_reducible assumption | (with_reducible refine Bc10.drew ?_; with_reducible assumption))))).mono ?_; rintro e w' ⟨rfl, hm', hg'⟩; have hk : Bc10 w f p l g cap out u6 b gc x y w' := Bc10.map (by (first | with_reducible assumption | (with_reducible refine Bc10.drew ?_; with_reducible assumption))) hg' hm'))
        all_goals
          have HK := Lib.hid hk.1
          clear hk hS
          go_wp2_with fail
          go_roundw
          case rel => exact ⟨i + 1, by omega, by go_num, by rw [HW1.out, HZ.out]; exact HK⟩
          case measure => simp [intOf]; omega
    · obtain rfl : i = l.length := by omega
      obtain ⟨g2, cap2, rfl, h2, h3⟩ := HS.out.1.1.post
      have H2 := Lib.hid h2
      have H3 := Lib.hid h3
      clear h2 h3 HS
      go_wp2_with fail
      go_ret2
      exact ⟨g2, cap2, rfl, H2.out, H3.out⟩
set_option maxHeartbeats 1000000 in
theorem swin_no (a0 a1 a2 a3 a4 a5 : Int) (b0 b1 b2 b3 b4 b5 : Int) (HG : Hid (∀ w, Calls Try.prog 146 #[.agg #[.int .i64 a0, .int .i64 a1, .int .i64 a2, .int .i64 a3, .int .i64 a4, .int .i64 a5], .agg #[.int .i64 b0, .int .i64 b1, .int .i64 b2, .int .i64 b3, .int .i64 b4, .int .i64 b5]] w fun e w' => e = .returned (.bool false) ∧ Below w.heap.size w w')) (w : World) : Calls Try.prog 39 #[.agg #[.int .i64 a0, .int .i64 a1, .int .i64 a2, .int .i64 a3, .int .i64 a4, .int .i64 a5], .agg #[.int .i64 b0, .int .i64 b1, .int .i64 b2, .int .i64 b3, .int .i64 b4, .int .i64 b5]] w (LPb [] false w) := by
  go_enter Try.func39, Try.ntmps39
  go_wp2_with fail
  generalize hW : (World.alloc (World.alloc w _) _ : World) = W0
  have hsz : W0.heap.size = w.heap.size + 1 + 1 := by rw [← hW]; simp
  have K0 : KR 2 [(w.heap.size, bx6 a0 a1 a2 a3 a4 a5), (w.heap.size + 1, bx6 b0 b1 b2 b3 b4 b5)] w W0 := by
    rw [← hW]
    exact two_b w _ _ (by (repeat (first | exact Below.refl _ _ | assumption | refine Below.setCell ?_ (by first | (simp; done) | (simp; omega)) _ | refine Below.alloc ?_ (by first | (simp; done) | (simp; omega)) _ | refine Below.drew ?_))) (alloc_past (alloc_at rfl)) (alloc_at (by simp)) (by simp)
  have S0 := Lib.hid (Rl.start K0)
  rw [hsz] at S0
  clear hsz
  clear hW K0
  generalize (World.alloc _ _ : World) = W1 at S0 ⊢
  refine (HG.out _).mono ?_
  rintro e W2 ⟨rfl, hb⟩
  obtain ⟨g2, cap2, hv, h2, h3⟩ := (S0.out.below hb rfl).post
  have HV := Lib.hid hv
  have H2 := Lib.hid h2
  have H3 := Lib.hid h3
  clear hb S0 h2 h3 hv
  go_wp2_with fail
  go_ret2
  exact ⟨g2, cap2, by rw [← HV.out]; rfl, H2.out, H3.out⟩
set_option maxHeartbeats 1000000 in
theorem iwin_no (a0 a1 a2 a3 a4 a5 : Int) (b0 b1 b2 b3 b4 b5 : Int) (HG : Hid (∀ w, Calls Try.prog 154 #[.agg #[.int .i64 a0, .int .i64 a1, .int .i64 a2, .int .i64 a3, .int .i64 a4, .int .i64 a5], .agg #[.int .i64 b0, .int .i64 b1, .int .i64 b2, .int .i64 b3, .int .i64 b4, .int .i64 b5]] w fun e w' => e = .returned (.bool false) ∧ Below w.heap.size w w')) (w : World) : Calls Try.prog 40 #[.agg #[.int .i64 a0, .int .i64 a1, .int .i64 a2, .int .i64 a3, .int .i64 a4, .int .i64 a5], .agg #[.int .i64 b0, .int .i64 b1, .int .i64 b2, .int .i64 b3, .int .i64 b4, .int .i64 b5]] w (LPb [] false w) := by
  go_enter Try.func40, Try.ntmps40
  go_wp2_with fail
  generalize hW : (World.alloc (World.alloc w _) _ : World) = W0
  have hsz : W0.heap.size = w.heap.size + 1 + 1 := by rw [← hW]; simp
  have K0 : KR 2 [(w.heap.size, bx6 a0 a1 a2 a3 a4 a5), (w.heap.size + 1, bx6 b0 b1 b2 b3 b4 b5)] w W0 := by
    rw [← hW]
    exact two_b w _ _ (by (repeat (first | exact Below.refl _ _ | assumption | refine Below.setCell ?_ (by first | (simp; done) | (simp; omega)) _ | refine Below.alloc ?_ (by first | (simp; done) | (simp; omega)) _ | refine Below.drew ?_))) (alloc_past (alloc_at rfl)) (alloc_at (by simp)) (by simp)
  have S0 := Lib.hid (Rl.start K0)
  rw [hsz] at S0
  clear hsz
  clear hW K0
  generalize (World.alloc _ _ : World) = W1 at S0 ⊢
  refine (HG.out _).mono ?_
  rintro e W2 ⟨rfl, hb⟩
  obtain ⟨g2, cap2, hv, h2, h3⟩ := (S0.out.below hb rfl).post
  have HV := Lib.hid hv
  have H2 := Lib.hid h2
  have H3 := Lib.hid h3
  clear hb S0 h2 h3 hv
  go_wp2_with fail
  go_ret2
  exact ⟨g2, cap2, by rw [← HV.out]; rfl, H2.out, H3.out⟩
theorem win_pair (a0 a1 a2 a3 a4 a5 : Int) (b0 b1 b2 b3 b4 b5 : Int) : ∃ (l : List (Nat × Nat)) (t : Bool), l.length ≤ 36 ∧ (∀ w, Calls Try.prog 39 #[.agg #[.int .i64 a0, .int .i64 a1, .int .i64 a2, .int .i64 a3, .int .i64 a4, .int .i64 a5], .agg #[.int .i64 b0, .int .i64 b1, .int .i64 b2, .int .i64 b3, .int .i64 b4, .int .i64 b5]] w (LPb l t w)) ∧ (∀ w, Calls Try.prog 40 #[.agg #[.int .i64 a0, .int .i64 a1, .int .i64 a2, .int .i64 a3, .int .i64 a4, .int .i64 a5], .agg #[.int .i64 b0, .int .i64 b1, .int .i64 b2, .int .i64 b3, .int .i64 b4, .int .i64 b5]] w (LPb l t w)) := by
  rcases game_ways a0 a1 a2 a3 a4 a5 b0 b1 b2 b3 b4 b5 with ⟨HS, HI⟩ | ⟨f, p, rfl, rfl, rfl, rfl, rfl, rfl, rfl, rfl, rfl, rfl, rfl, rfl, hp, H1, HS, HI⟩
  · exact ⟨[], false, by simp, swin_no a0 a1 a2 a3 a4 a5 b0 b1 b2 b3 b4 b5 (Lib.hid HS), iwin_no a0 a1 a2 a3 a4 a5 b0 b1 b2 b3 b4 b5 (Lib.hid HI)⟩
  · exact ⟨_, true, Nat.le_trans (wl_len f p _ _) (bl_len _ 36), swin_yes f p hp (Lib.hid HS), iwin_yes f p hp (Lib.hid H1) (Lib.hid HI)⟩
end Go.Proofs.Ytkjaaaefcmpokaa
