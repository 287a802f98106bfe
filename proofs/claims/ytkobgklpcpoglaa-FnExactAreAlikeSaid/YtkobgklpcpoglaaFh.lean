/- CONTRACTS: FirstForm, the model's l3Form. -/
import Derived.Test.YtkobgklpcpoglaaFp
import Derived.Test.YtkobgklpcpoglaaFo
import Derived.Test.YtkobgklpcpoglaaRk
import Derived.Test.YtkobgklpcpoglaaPi
import Derived.Test.YtkobgklpcpoglaaRh
import Derived.Deep.RegionHeld3
import Derived.WalkKit
import Derived.ProofKit
import Derived.OpenShut
import Derived.Lib.Hide
import Derived.WalkSpells
import Derived.Below
import Derived.BigQuiet
import Derived.LoopN
namespace Go.Proofs.Ytkobgklpcpoglaa
open Go.ChangeShapes Go.WideShapes Go.ChangeAt Go.RowKit
set_option linter.unusedVariables false
theorem tf0 (g : Nat → Nat → Bool) : tf 0 g = g := rfl
theorem bs_zero (f : Nat → Nat → Bool) : ∃ x y, bs f (0, 0, 0) (L1 6 1) = (0, x, y) := by
  have h := bs_turn f 0 P6 (0, 0)
  rw [← L1_P6] at h
  generalize (bs (tf 0 f) (0, 0, 0) (L1 6 1)).2 = p at h
  obtain ⟨x, y⟩ := p
  exact ⟨x, y, h⟩
/-- Midway: the sheet and the answers' room; in block g the first so far, two blocks behind it its motion. -/
def Rg (w : World) (f : Nat → Nat → Bool) (g : Nat) (d : Nat × Nat × Nat) (W : World) : Prop :=
  KR 3 [(w.heap.size, o6 f), (w.heap.size + 1, oz), (w.heap.size + 2, .cells #[.int .i64 0, .int .i64 0, .int .i64 0] 62 (0, 0))] w W ∧ W.heap[g]? = some (.cells #[.int .i64 (rowv (sf d.2.1 d.2.2 (tf d.1 f) 0)), .int .i64 (rowv (sf d.2.1 d.2.2 (tf d.1 f) 1)), .int .i64 (rowv (sf d.2.1 d.2.2 (tf d.1 f) 2)), .int .i64 (rowv (sf d.2.1 d.2.2 (tf d.1 f) 3)), .int .i64 (rowv (sf d.2.1 d.2.2 (tf d.1 f) 4)), .int .i64 (rowv (sf d.2.1 d.2.2 (tf d.1 f) 5))] 25 (0, 0)) ∧ W.heap[g + 1 + 1]? = some (o3 d) ∧ w.heap.size + 3 ≤ g ∧ g + 1 + 1 < W.heap.size
theorem Rg.below {w W W' : World} {f : Nat → Nat → Bool} {g : Nat} {d : Nat × Nat × Nat} {M : Nat} (h : Rg w f g d W) (hb : Below M W W') (hN : M = W.heap.size) : Rg w f g d W' := by
  obtain ⟨h1, h2, h3, h4, h5⟩ := h
  exact ⟨h1.far hb hN, rowk h2 hb hN, rowk h3 hb hN, h4, Nat.lt_of_lt_of_le h5 hb.size⟩
theorem Rg.put {w W : World} {f : Nat → Nat → Bool} {g : Nat} {d : Nat × Nat × Nat} (k x y : Nat) (h : Rg w f g d W) : Rg w f g (k, x, y) (((((((((W.setCell ⟨g, 0, none⟩ (.int .i64 (rowv (sf x y (tf k f) 0)))).setCell ⟨g, 1, none⟩ (.int .i64 (rowv (sf x y (tf k f) 1)))).setCell ⟨g, 2, none⟩ (.int .i64 (rowv (sf x y (tf k f) 2)))).setCell ⟨g, 3, none⟩ (.int .i64 (rowv (sf x y (tf k f) 3)))).setCell ⟨g, 4, none⟩ (.int .i64 (rowv (sf x y (tf k f) 4)))).setCell ⟨g, 5, none⟩ (.int .i64 (rowv (sf x y (tf k f) 5)))).setCell ⟨g + 1 + 1, 0, none⟩ (.int .i64 (k : Int))).setCell ⟨g + 1 + 1, 1, none⟩ (.int .i64 (x : Int))).setCell ⟨g + 1 + 1, 2, none⟩ (.int .i64 (y : Int))) := by
  obtain ⟨h1, h2, h3, h4, h5⟩ := h
  have h6 : w.heap.size + 3 ≤ g + 1 + 1 := by omega
  exact ⟨h1.set h4 |>.set h4 |>.set h4 |>.set h4 |>.set h4 |>.set h4 |>.set h6 |>.set h6 |>.set h6, set3o _ _ _ (by omega) (set6v _ _ _ _ _ _ h2), set3r _ _ _ (set6q _ _ _ _ _ _ (by omega) h3), h4, by simpa using h5⟩
set_option maxHeartbeats 1000000 in
theorem lform_f (f : Nat → Nat → Bool) (w : World) : Calls Try.prog 158 #[.agg #[.int .i64 (rowv (f 0)), .int .i64 (rowv (f 1)), .int .i64 (rowv (f 2)), .int .i64 (rowv (f 3)), .int .i64 (rowv (f 4)), .int .i64 (rowv (f 5))]] w fun e w' => e = .returned (.tuple #[img f (bs f (0, 0, 0) (L1 6 8)), mkey (bs f (0, 0, 0) (L1 6 8)).1 (bs f (0, 0, 0) (L1 6 8)).2.1 (bs f (0, 0, 0) (L1 6 8)).2.2]) ∧ Below w.heap.size w w' := by
  have HPL := Lib.hid lplace_f
  simp only [img] at HPL
  go_enter Try.func158, Try.ntmps158
  go_wp2_with fail
  generalize hW : (World.alloc _ _ : World) = W0
  have hB0 : Below w.heap.size w W0 := by rw [← hW]; (repeat (first | exact Below.refl _ _ | assumption | refine Below.setCell ?_ (by first | (simp; done) | (simp; omega)) _ | refine Below.alloc ?_ (by first | (simp; done) | (simp; omega)) _ | refine Below.drew ?_))
  have qa : W0.heap[(w.heap.size : Nat)]? = some (o6 f) := by
    rw [← hW]
    repeat (first | (refine alloc_at ?_; first | (simp; done) | (simp; omega)) | refine drew_row ?_ | refine alloc_past ?_ | assumption)
  have qz : W0.heap[(w.heap.size + 1 : Nat)]? = some oz := by
    rw [← hW]
    repeat (first | (refine alloc_at ?_; first | (simp; done) | (simp; omega)) | refine drew_row ?_ | refine alloc_past ?_ | assumption)
  have qy : W0.heap[(w.heap.size + 2 : Nat)]? = some (.cells #[.int .i64 0, .int .i64 0, .int .i64 0] 62 (0, 0)) := by
    rw [← hW]
    repeat (first | (refine alloc_at ?_; first | (simp; done) | (simp; omega)) | refine drew_row ?_ | refine alloc_past ?_ | assumption)
  have K0 : KR 3 [(w.heap.size, o6 f), (w.heap.size + 1, oz), (w.heap.size + 2, .cells #[.int .i64 0, .int .i64 0, .int .i64 0] 62 (0, 0))] w W0 := ⟨by simp [qa, qz, qy], by rw [← hW]; simp, hB0⟩
  clear hW hB0 qa qz qy
  refine (HPL.out _ _).mono ?_
  rintro e W1 ⟨rfl, hb⟩
  have K1 := K0.far hb rfl
  clear hb K0
  go_wp2_with fail
  obtain ⟨u, v, huv⟩ := bs_zero f
  rw [huv]
  have S1 : Hid (Rg w f W1.heap.size (bs f (0, 0, 0) (L1 6 1)) (((W1.alloc (.cells #[.int .i64 (rowv (sf u v f 0)), .int .i64 (rowv (sf u v f 1)), .int .i64 (rowv (sf u v f 2)), .int .i64 (rowv (sf u v f 3)), .int .i64 (rowv (sf u v f 4)), .int .i64 (rowv (sf u v f 5))] 25)).alloc (.cells #[.int .i64 (u : Int), .int .i64 (v : Int)] 132)).alloc (.cells #[.int .i64 0, .int .i64 (u : Int), .int .i64 (v : Int)] 62))) := Lib.hid (by
    rw [huv]
    exact ⟨K1.al.al.al, alloc_past (alloc_past (alloc_at rfl)), alloc_at (by simp), K1.le, by simp⟩)
  clear huv K1
  simp only [tf0]
  generalize (World.alloc _ _ : World) = W2 at S1 ⊢
  generalize W1.heap.size = gb at S1 ⊢
  go_loopw [7] (fun c wr => ∃ k : Nat, 1 ≤ k ∧ k ≤ 8 ∧ c = .int .i64 k ∧ Hid (Rg w f gb (bs f (0, 0, 0) (L1 6 k)) wr)) (fun c _ => 8 - (intOf c).toNat)
  case atStart => exact ⟨1, by omega, by omega, rfl, S1⟩
  case round =>
    obtain ⟨k, hk1, hk, rfl, HY⟩ := hrel
    by_cases hlt : k < 8
    · have hlt' : (k : Int) < 8 := by omega
      have hk0 : (1 : Int) ≤ k := by omega
      have HTb := Lib.hid (bs_blocks f k)
      obtain ⟨x, y, hxy⟩ := bs_zero (tf k f)
      have HP2 := Lib.hid (HPL.out (tf k f))
      rw [hxy] at HTb HP2
      simp only [tf0] at HP2
      clear hxy
      obtain ⟨d, hdd⟩ : ∃ d, d = bs f (0, 0, 0) (L1 6 k) := ⟨_, rfl⟩
      rw [← hdd] at HTb HY
      clear hdd
      have HTU := Lib.hid (turn_f f hlt)
      have hbe := before_lx (rowv (sf x y (tf k f) 0)) (rowv (sf x y (tf k f) 1)) (rowv (sf x y (tf k f) 2)) (rowv (sf x y (tf k f) 3)) (rowv (sf x y (tf k f) 4)) (rowv (sf x y (tf k f) 5)) (rowv (sf d.2.1 d.2.2 (tf d.1 f) 0)) (rowv (sf d.2.1 d.2.2 (tf d.1 f) 1)) (rowv (sf d.2.1 d.2.2 (tf d.1 f) 2)) (rowv (sf d.2.1 d.2.2 (tf d.1 f) 3)) (rowv (sf d.2.1 d.2.2 (tf d.1 f) 4)) (rowv (sf d.2.1 d.2.2 (tf d.1 f) 5))
      have hlm : lm f (k, x, y) d = lx (rowv (sf x y (tf k f) 0)) (rowv (sf x y (tf k f) 1)) (rowv (sf x y (tf k f) 2)) (rowv (sf x y (tf k f) 3)) (rowv (sf x y (tf k f) 4)) (rowv (sf x y (tf k f) 5)) (rowv (sf d.2.1 d.2.2 (tf d.1 f) 0)) (rowv (sf d.2.1 d.2.2 (tf d.1 f) 1)) (rowv (sf d.2.1 d.2.2 (tf d.1 f) 2)) (rowv (sf d.2.1 d.2.2 (tf d.1 f) 3)) (rowv (sf d.2.1 d.2.2 (tf d.1 f) 4)) (rowv (sf d.2.1 d.2.2 (tf d.1 f) 5)) := rfl
      generalize lx (rowv (sf x y (tf k f) 0)) (rowv (sf x y (tf k f) 1)) (rowv (sf x y (tf k f) 2)) (rowv (sf x y (tf k f) 3)) (rowv (sf x y (tf k f) 4)) (rowv (sf x y (tf k f) 5)) (rowv (sf d.2.1 d.2.2 (tf d.1 f) 0)) (rowv (sf d.2.1 d.2.2 (tf d.1 f) 1)) (rowv (sf d.2.1 d.2.2 (tf d.1 f) 2)) (rowv (sf d.2.1 d.2.2 (tf d.1 f) 3)) (rowv (sf d.2.1 d.2.2 (tf d.1 f) 4)) (rowv (sf d.2.1 d.2.2 (tf d.1 f) 5)) = t at hlm hbe
      have HBE := Lib.hid hbe
      have HLM := Lib.hid hlm
      clear hbe hlm
      have s_c := fun j => cell_of_row wr _ j _ _ _ (HY.out.1.row (g := w.heap.size) (o := o6 f) (by simp))
      go_wp2_with fail
      refine (HTU.out _).mono ?_
      rintro e W4 ⟨rfl, hb⟩
      have H0 := Lib.hid (HY.out.below hb rfl)
      clear s_c hb HY
      go_wp2_with fail
      refine (HP2.out _).mono ?_
      rintro e W5 ⟨rfl, hb⟩
      have H1 := H0.out.below hb rfl
      have hz := H1.2.2.2.2
      have H2 := (H1.below (M := W5.heap.size) ((Below.refl _ _).alloc (Nat.le_refl _) (.cells #[.int .i64 (rowv (sf x y (tf k f) 0)), .int .i64 (rowv (sf x y (tf k f) 1)), .int .i64 (rowv (sf x y (tf k f) 2)), .int .i64 (rowv (sf x y (tf k f) 3)), .int .i64 (rowv (sf x y (tf k f) 4)), .int .i64 (rowv (sf x y (tf k f) 5))] 25)) rfl).below (M := (W5.alloc (.cells #[.int .i64 (rowv (sf x y (tf k f) 0)), .int .i64 (rowv (sf x y (tf k f) 1)), .int .i64 (rowv (sf x y (tf k f) 2)), .int .i64 (rowv (sf x y (tf k f) 3)), .int .i64 (rowv (sf x y (tf k f) 4)), .int .i64 (rowv (sf x y (tf k f) 5))] 25)).heap.size) ((Below.refl _ _).alloc (Nat.le_refl _) (.cells #[.int .i64 (x : Int), .int .i64 (y : Int)] 132)) rfl
      have hn : ((W5.alloc (.cells #[.int .i64 (rowv (sf x y (tf k f) 0)), .int .i64 (rowv (sf x y (tf k f) 1)), .int .i64 (rowv (sf x y (tf k f) 2)), .int .i64 (rowv (sf x y (tf k f) 3)), .int .i64 (rowv (sf x y (tf k f) 4)), .int .i64 (rowv (sf x y (tf k f) 5))] 25)).alloc (.cells #[.int .i64 (x : Int), .int .i64 (y : Int)] 132)).heap[W5.heap.size]? = some (.cells #[.int .i64 (rowv (sf x y (tf k f) 0)), .int .i64 (rowv (sf x y (tf k f) 1)), .int .i64 (rowv (sf x y (tf k f) 2)), .int .i64 (rowv (sf x y (tf k f) 3)), .int .i64 (rowv (sf x y (tf k f) 4)), .int .i64 (rowv (sf x y (tf k f) 5))] 25 (0, 0)) := alloc_past (alloc_at rfl)
      have ha : ((W5.alloc (.cells #[.int .i64 (rowv (sf x y (tf k f) 0)), .int .i64 (rowv (sf x y (tf k f) 1)), .int .i64 (rowv (sf x y (tf k f) 2)), .int .i64 (rowv (sf x y (tf k f) 3)), .int .i64 (rowv (sf x y (tf k f) 4)), .int .i64 (rowv (sf x y (tf k f) 5))] 25)).alloc (.cells #[.int .i64 (x : Int), .int .i64 (y : Int)] 132)).heap[W5.heap.size + 1]? = some (.cells #[.int .i64 (x : Int), .int .i64 (y : Int)] 132 (0, 0)) := alloc_at (by simp)
      have b_c := fun j => cell_of_row W5 _ j _ _ _ H1.2.1
      have c_c := fun j => cell_of_row ((W5.alloc (.cells #[.int .i64 (rowv (sf x y (tf k f) 0)), .int .i64 (rowv (sf x y (tf k f) 1)), .int .i64 (rowv (sf x y (tf k f) 2)), .int .i64 (rowv (sf x y (tf k f) 3)), .int .i64 (rowv (sf x y (tf k f) 4)), .int .i64 (rowv (sf x y (tf k f) 5))] 25)).alloc (.cells #[.int .i64 (x : Int), .int .i64 (y : Int)] 132)) _ j _ _ _ H2.2.1
      have HD := Lib.hid (And.intro H2 (And.intro hn ha))
      clear hb H1 H2 hn ha H0
      go_wp2_with fail
      refine (HBE.out _).mono ?_
      rintro e W6 ⟨rfl, hb⟩
      have H3 := HD.out.1.below hb rfl
      have hn := rowk HD.out.2.1 hb rfl
      have ha := rowk HD.out.2.2 hb rfl
      have hzz : W5.heap.size + 1 < W6.heap.size := by have := hb.size; simp at this; omega
      have n_c := fun j => cell_of_row W6 _ j _ _ _ hn
      have a_c := fun j => cell_of_row W6 _ j _ _ _ ha
      have m_c := fun j => cell_of_row W6 _ j _ _ _ H3.2.1
      have m_f := fun j => frozen_of_row W6 _ j _ _ H3.2.1
      have q_c := fun j => cell_of_row W6 _ j _ _ _ H3.2.2.1
      have q_f := fun j => frozen_of_row W6 _ j _ _ H3.2.2.1
      have e1 : W5.heap.size ≠ gb := by omega
      have e2 : W5.heap.size + 1 ≠ gb := by omega
      have e3 : gb ≠ W5.heap.size := by omega
      have e4 : gb ≠ W5.heap.size + 1 := by omega
      have HE := Lib.hid H3
      clear b_c c_c hb H3 hn ha
      cases t
      · go_wp2_with fail
        go_roundw
        case rel => exact ⟨k + 1, by omega, by omega, by go_num, Lib.hid (by rw [HTb.out, HLM.out, if_neg (by decide)]; exact HE.out)⟩
        case measure => simp [intOf]; omega
      · go_wp2_with fail
        go_roundw
        case rel => exact ⟨k + 1, by omega, by omega, by go_num, Lib.hid (by rw [HTb.out, HLM.out, if_pos rfl]; exact HE.out.put k x y)⟩
        case measure => simp [intOf]; omega
    · obtain rfl : k = 8 := by omega
      have hyy := HY.out
      obtain ⟨d, hdd⟩ : ∃ d, bs f (0, 0, 0) (L1 6 8) = d := ⟨_, rfl⟩
      rw [hdd] at hyy
      have HDD := Lib.hid hdd
      clear hdd HY
      have hgb2 := hyy.2.2.2.1
      have m_c := fun j => cell_of_row wr _ j _ _ _ hyy.2.1
      have q_c := fun j => cell_of_row wr _ j _ _ _ hyy.2.2.1
      have z_c := fun j => cell_of_row wr _ j _ _ _ (hyy.1.row (g := w.heap.size + 1) (o := oz) (by simp))
      have z_f := fun j => frozen_of_row wr _ j _ _ (hyy.1.row (g := w.heap.size + 1) (o := oz) (by simp))
      have y_c := fun j => cell_of_row wr _ j _ _ _ (hyy.1.row (g := w.heap.size + 2) (o := .cells #[.int .i64 0, .int .i64 0, .int .i64 0] 62 (0, 0)) (by simp))
      have y_f := fun j => frozen_of_row wr _ j _ _ (hyy.1.row (g := w.heap.size + 2) (o := .cells #[.int .i64 0, .int .i64 0, .int .i64 0] 62 (0, 0)) (by simp))
      have HF := Lib.hid hyy
      clear hyy
      go_wp2_with fail
      set_option maxRecDepth 8000 in
      go_region
      all_goals
        clear m_c q_c z_c z_f y_c y_f
        generalize hX : World.drew _ = X
        have n1 : w.heap.size ≤ w.heap.size + 1 := by omega
        have n2 : w.heap.size ≤ w.heap.size + 2 := by omega
        have hB : Below w.heap.size w X := by rw [← hX]; exact ((((((((((HF.out.1.2.2.setCell n1 _).setCell n1 _).setCell n1 _).setCell n1 _).setCell n1 _).setCell n1 _).setCell n2 _).setCell n2 _).setCell n2 _)).drew
        have rx : X.heap[w.heap.size + 1]? = some (.cells #[.int .i64 (rowv (sf d.2.1 d.2.2 (tf d.1 f) 0)), .int .i64 (rowv (sf d.2.1 d.2.2 (tf d.1 f) 1)), .int .i64 (rowv (sf d.2.1 d.2.2 (tf d.1 f) 2)), .int .i64 (rowv (sf d.2.1 d.2.2 (tf d.1 f) 3)), .int .i64 (rowv (sf d.2.1 d.2.2 (tf d.1 f) 4)), .int .i64 (rowv (sf d.2.1 d.2.2 (tf d.1 f) 5))] 25 (0, 0)) := by rw [← hX]; exact drew_row (set3o _ _ _ (by omega) (row6 _ _ _ _ _ _ (HF.out.1.row (g := w.heap.size + 1) (o := oz) (by simp))))
        have ry : X.heap[w.heap.size + 1 + 1]? = some (.cells #[.int .i64 (d.1 : Int), .int .i64 (d.2.1 : Int), .int .i64 (d.2.2 : Int)] 62 (0, 0)) := by rw [← hX]; exact drew_row (set3r _ _ _ (set6q _ _ _ _ _ _ (by omega) (HF.out.1.row (g := w.heap.size + 2) (o := .cells #[.int .i64 0, .int .i64 0, .int .i64 0] 62 (0, 0)) (by simp))))
        clear hX
        have x_c := fun j => cell_of_row X _ j _ _ _ rx
        have y_c := fun j => cell_of_row X _ j _ _ _ ry
        go_wp2_with fail
        exact bodyPost_ret (v := .tuple #[.agg #[.int .i64 (rowv (sf d.2.1 d.2.2 (tf d.1 f) 0)), .int .i64 (rowv (sf d.2.1 d.2.2 (tf d.1 f) 1)), .int .i64 (rowv (sf d.2.1 d.2.2 (tf d.1 f) 2)), .int .i64 (rowv (sf d.2.1 d.2.2 (tf d.1 f) 3)), .int .i64 (rowv (sf d.2.1 d.2.2 (tf d.1 f) 4)), .int .i64 (rowv (sf d.2.1 d.2.2 (tf d.1 f) 5))], .agg #[.int .i64 (d.1 : Int), .int .i64 (d.2.1 : Int), .int .i64 (d.2.2 : Int)]]) (by simp [results, Try.results158, go_sem, x_c, y_c]) rfl ⟨by rw [HDD.out]; rfl, hB⟩
end Go.Proofs.Ytkobgklpcpoglaa
