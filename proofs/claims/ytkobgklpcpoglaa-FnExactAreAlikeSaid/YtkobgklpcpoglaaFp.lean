/- CONTRACTS: FirstPlace, the model's l3Place. -/
import Derived.Test.YtkobgklpcpoglaaFi1
import Derived.Test.YtkobgklpcpoglaaTc
import Derived.Test.YtkobgklpcpoglaaSv
import Derived.WalkKit
import Derived.ProofKit
import Derived.OpenShut
import Derived.Lib.Hide
import Derived.WalkSpells
import Derived.Below
import Derived.BigQuiet
import Derived.LoopN
namespace Go.Proofs.Ytkobgklpcpoglaa
open Go.ChangeShapes Go.WideShapes Go.ChangeAt Go.RowKit
set_option linter.unusedVariables false
theorem set6v {k : Nat} {W : World} {v0 v1 v2 v3 v4 v5 : Value} {t : TypeId} (u0 u1 u2 u3 u4 u5 : Value) (h : W.heap[k]? = some (Obj.cells #[v0, v1, v2, v3, v4, v5] t (0, 0))) : ((((((W.setCell ⟨k, 0, none⟩ u0).setCell ⟨k, 1, none⟩ u1).setCell ⟨k, 2, none⟩ u2).setCell ⟨k, 3, none⟩ u3).setCell ⟨k, 4, none⟩ u4).setCell ⟨k, 5, none⟩ u5).heap[k]? = some (Obj.cells #[u0, u1, u2, u3, u4, u5] t (0, 0)) := by
  have e0 : (W.setCell ⟨k, 0, none⟩ u0).heap[k]? = some (Obj.cells #[u0, v1, v2, v3, v4, v5] t (0, 0)) := heap_setCell_same W k 0 _ t u0 h
  have e1 : ((W.setCell ⟨k, 0, none⟩ u0).setCell ⟨k, 1, none⟩ u1).heap[k]? = some (Obj.cells #[u0, u1, v2, v3, v4, v5] t (0, 0)) := heap_setCell_same (W.setCell ⟨k, 0, none⟩ u0) k 1 _ t u1 e0
  have e2 : (((W.setCell ⟨k, 0, none⟩ u0).setCell ⟨k, 1, none⟩ u1).setCell ⟨k, 2, none⟩ u2).heap[k]? = some (Obj.cells #[u0, u1, u2, v3, v4, v5] t (0, 0)) := heap_setCell_same ((W.setCell ⟨k, 0, none⟩ u0).setCell ⟨k, 1, none⟩ u1) k 2 _ t u2 e1
  have e3 : ((((W.setCell ⟨k, 0, none⟩ u0).setCell ⟨k, 1, none⟩ u1).setCell ⟨k, 2, none⟩ u2).setCell ⟨k, 3, none⟩ u3).heap[k]? = some (Obj.cells #[u0, u1, u2, u3, v4, v5] t (0, 0)) := heap_setCell_same (((W.setCell ⟨k, 0, none⟩ u0).setCell ⟨k, 1, none⟩ u1).setCell ⟨k, 2, none⟩ u2) k 3 _ t u3 e2
  have e4 : (((((W.setCell ⟨k, 0, none⟩ u0).setCell ⟨k, 1, none⟩ u1).setCell ⟨k, 2, none⟩ u2).setCell ⟨k, 3, none⟩ u3).setCell ⟨k, 4, none⟩ u4).heap[k]? = some (Obj.cells #[u0, u1, u2, u3, u4, v5] t (0, 0)) := heap_setCell_same ((((W.setCell ⟨k, 0, none⟩ u0).setCell ⟨k, 1, none⟩ u1).setCell ⟨k, 2, none⟩ u2).setCell ⟨k, 3, none⟩ u3) k 4 _ t u4 e3
  have e5 : ((((((W.setCell ⟨k, 0, none⟩ u0).setCell ⟨k, 1, none⟩ u1).setCell ⟨k, 2, none⟩ u2).setCell ⟨k, 3, none⟩ u3).setCell ⟨k, 4, none⟩ u4).setCell ⟨k, 5, none⟩ u5).heap[k]? = some (Obj.cells #[u0, u1, u2, u3, u4, u5] t (0, 0)) := heap_setCell_same (((((W.setCell ⟨k, 0, none⟩ u0).setCell ⟨k, 1, none⟩ u1).setCell ⟨k, 2, none⟩ u2).setCell ⟨k, 3, none⟩ u3).setCell ⟨k, 4, none⟩ u4) k 5 _ t u5 e4
  exact e5
theorem set6q {k g : Nat} {W : World} {o : Obj} (u0 u1 u2 u3 u4 u5 : Value) (hne : g ≠ k) (h : W.heap[g]? = some o) : ((((((W.setCell ⟨k, 0, none⟩ u0).setCell ⟨k, 1, none⟩ u1).setCell ⟨k, 2, none⟩ u2).setCell ⟨k, 3, none⟩ u3).setCell ⟨k, 4, none⟩ u4).setCell ⟨k, 5, none⟩ u5).heap[g]? = some o := by
  rw [Below.heap_setCell _ _ _ _ hne, Below.heap_setCell _ _ _ _ hne, Below.heap_setCell _ _ _ _ hne, Below.heap_setCell _ _ _ _ hne, Below.heap_setCell _ _ _ _ hne, Below.heap_setCell _ _ _ _ hne]
  exact h
/-- Midway in the model: the sheet, the two answers, the first shift so far and its place. -/
def Rp (w : World) (f : Nat → Nat → Bool) (d : Nat × Nat × Nat) (W : World) : Prop :=
  W.heap[w.heap.size]? = some (.cells #[.int .i64 (rowv (f 0)), .int .i64 (rowv (f 1)), .int .i64 (rowv (f 2)), .int .i64 (rowv (f 3)), .int .i64 (rowv (f 4)), .int .i64 (rowv (f 5))] 25 (0, 0)) ∧ W.heap[w.heap.size + 1]? = some (.cells #[.int .i64 0, .int .i64 0, .int .i64 0, .int .i64 0, .int .i64 0, .int .i64 0] 25 (0, 0)) ∧ W.heap[w.heap.size + 1 + 1]? = some (.cells #[.int .i64 0, .int .i64 0] 132 (0, 0)) ∧ W.heap[w.heap.size + 1 + 1 + 1]? = some (.cells #[.int .i64 (rowv (sf d.2.1 d.2.2 (tf d.1 f) 0)), .int .i64 (rowv (sf d.2.1 d.2.2 (tf d.1 f) 1)), .int .i64 (rowv (sf d.2.1 d.2.2 (tf d.1 f) 2)), .int .i64 (rowv (sf d.2.1 d.2.2 (tf d.1 f) 3)), .int .i64 (rowv (sf d.2.1 d.2.2 (tf d.1 f) 4)), .int .i64 (rowv (sf d.2.1 d.2.2 (tf d.1 f) 5))] 25 (0, 0)) ∧ W.heap[w.heap.size + 1 + 1 + 1 + 1]? = some (.cells #[.int .i64 (d.2.1 : Int), .int .i64 (d.2.2 : Int)] 132 (0, 0)) ∧ Below w.heap.size w W ∧ w.heap.size + 5 ≤ W.heap.size
theorem Rp.below {w W W' : World} {f : Nat → Nat → Bool} {d : Nat × Nat × Nat} {M : Nat} (h : Rp w f d W) (hb : Below M W W') (hN : M = W.heap.size) : Rp w f d W' := by
  obtain ⟨h1, h2, h3, h4, h5, h6, h7⟩ := h
  exact ⟨rowk h1 hb hN, rowk h2 hb hN, rowk h3 hb hN, rowk h4 hb hN, rowk h5 hb hN, below_of h6 hb (by omega), Nat.le_trans h7 hb.size⟩
theorem Rp.put {w W : World} {f : Nat → Nat → Bool} {d : Nat × Nat × Nat} (x y : Nat) (h : Rp w f d W) : Rp w f (0, x, y) ((((((((W.setCell ⟨w.heap.size + 1 + 1 + 1, 0, none⟩ (.int .i64 (rowv (sf x y f 0)))).setCell ⟨w.heap.size + 1 + 1 + 1, 1, none⟩ (.int .i64 (rowv (sf x y f 1)))).setCell ⟨w.heap.size + 1 + 1 + 1, 2, none⟩ (.int .i64 (rowv (sf x y f 2)))).setCell ⟨w.heap.size + 1 + 1 + 1, 3, none⟩ (.int .i64 (rowv (sf x y f 3)))).setCell ⟨w.heap.size + 1 + 1 + 1, 4, none⟩ (.int .i64 (rowv (sf x y f 4)))).setCell ⟨w.heap.size + 1 + 1 + 1, 5, none⟩ (.int .i64 (rowv (sf x y f 5)))).setCell ⟨w.heap.size + 1 + 1 + 1 + 1, 0, none⟩ (.int .i64 (x : Int))).setCell ⟨w.heap.size + 1 + 1 + 1 + 1, 1, none⟩ (.int .i64 (y : Int))) := by
  obtain ⟨h1, h2, h3, h4, h5, h6, h7⟩ := h
  have n3 : w.heap.size ≤ w.heap.size + 1 + 1 + 1 := by omega
  have n4 : w.heap.size ≤ w.heap.size + 1 + 1 + 1 + 1 := by omega
  exact ⟨set2o _ _ (by omega) (set6q _ _ _ _ _ _ (by omega) h1), set2o _ _ (by omega) (set6q _ _ _ _ _ _ (by omega) h2), set2o _ _ (by omega) (set6q _ _ _ _ _ _ (by omega) h3), set2o _ _ (by omega) (set6v _ _ _ _ _ _ h4), set2r _ _ (set6q _ _ _ _ _ _ (by omega) h5), below2 ((((((h6.setCell n3 _).setCell n3 _).setCell n3 _).setCell n3 _).setCell n3 _).setCell n3 _) n4, by simpa using h7⟩
set_option maxHeartbeats 1000000 in
theorem lplace_f (f : Nat → Nat → Bool) (w : World) : Calls Try.prog 154 #[.agg #[.int .i64 (rowv (f 0)), .int .i64 (rowv (f 1)), .int .i64 (rowv (f 2)), .int .i64 (rowv (f 3)), .int .i64 (rowv (f 4)), .int .i64 (rowv (f 5))]] w fun e w' => e = .returned (.tuple #[img f (bs f (0, 0, 0) (L1 6 1)), .agg #[.int .i64 ((bs f (0, 0, 0) (L1 6 1)).2.1 : Int), .int .i64 ((bs f (0, 0, 0) (L1 6 1)).2.2 : Int)]]) ∧ Below w.heap.size w w' := by
  go_enter Try.func154, Try.ntmps154
  go_wp2_with fail
  generalize hW : (World.alloc _ _ : World) = W0
  have S0 : Hid (Rp w f (bs f (0, 0, 0) (L2 6 0 0)) W0) := Lib.hid (by
    rw [show bs f (0, 0, 0) (L2 6 0 0) = (0, 0, 0) from rfl, ← hW]
    exact ⟨alloc_past (alloc_past (alloc_past (alloc_past (alloc_at rfl)))), alloc_past (alloc_past (alloc_past (alloc_at (by simp)))), alloc_past (alloc_past (alloc_at (by simp))), by rw [show rowv (sf ((0, 0, 0) : Nat × Nat × Nat).2.1 ((0, 0, 0) : Nat × Nat × Nat).2.2 (tf ((0, 0, 0) : Nat × Nat × Nat).1 f) 0) = rowv (f 0) from rfl, show rowv (sf ((0, 0, 0) : Nat × Nat × Nat).2.1 ((0, 0, 0) : Nat × Nat × Nat).2.2 (tf ((0, 0, 0) : Nat × Nat × Nat).1 f) 1) = rowv (f 1) from rfl, show rowv (sf ((0, 0, 0) : Nat × Nat × Nat).2.1 ((0, 0, 0) : Nat × Nat × Nat).2.2 (tf ((0, 0, 0) : Nat × Nat × Nat).1 f) 2) = rowv (f 2) from rfl, show rowv (sf ((0, 0, 0) : Nat × Nat × Nat).2.1 ((0, 0, 0) : Nat × Nat × Nat).2.2 (tf ((0, 0, 0) : Nat × Nat × Nat).1 f) 3) = rowv (f 3) from rfl, show rowv (sf ((0, 0, 0) : Nat × Nat × Nat).2.1 ((0, 0, 0) : Nat × Nat × Nat).2.2 (tf ((0, 0, 0) : Nat × Nat × Nat).1 f) 4) = rowv (f 4) from rfl, show rowv (sf ((0, 0, 0) : Nat × Nat × Nat).2.1 ((0, 0, 0) : Nat × Nat × Nat).2.2 (tf ((0, 0, 0) : Nat × Nat × Nat).1 f) 5) = rowv (f 5) from rfl]; exact alloc_past (alloc_at (by simp)), alloc_at (by simp), by (repeat (first | exact Below.refl _ _ | assumption | refine Below.setCell ?_ (by first | (simp; done) | (simp; omega)) _ | refine Below.alloc ?_ (by first | (simp; done) | (simp; omega)) _ | refine Below.drew ?_)), by simp⟩)
  clear hW
  go_loopw [6, 7] (fun c u wr => ∃ x : Nat, x ≤ 6 ∧ c = .int .i64 x ∧ Hid (Rp w f (bs f (0, 0, 0) (L2 6 0 x)) wr)) (fun c _ _ => 6 - (intOf c).toNat)
  case atStart => exact ⟨0, by omega, rfl, S0⟩
  case round =>
    obtain ⟨x, hx, rfl, HX⟩ := hrel
    by_cases hlx : x < 6
    · have hlx' : (x : Int) < 6 := by omega
      have hlx2 : decide ((x : Int) < 6) = true := decide_eq_true hlx'
      go_wp2_with fail
      try rw [hlx2]
      clear hlx2
      go_loopw [7] (fun c wr => ∃ y : Nat, y ≤ 6 ∧ c = .int .i64 y ∧ Hid (Rp w f (bs f (0, 0, 0) (L2 6 0 x ++ L3 0 x y)) wr)) (fun c _ => 6 - (intOf c).toNat)
      case atStart => exact ⟨0, by omega, rfl, Lib.hid (by rw [show L3 0 x 0 = [] from rfl, List.append_nil]; exact HX.out)⟩
      case round =>
        obtain ⟨y, hy, rfl, HY⟩ := hrel
        by_cases hly : y < 6
        · have hly' : (y : Int) < 6 := by omega
          have HTb : Hid (bs f (0, 0, 0) (L2 6 0 x ++ L3 0 x (y + 1)) = if lm f (0, x, y) (bs f (0, 0, 0) (L2 6 0 x ++ L3 0 x y)) then (0, x, y) else bs f (0, 0, 0) (L2 6 0 x ++ L3 0 x y)) := Lib.hid (by rw [L3_succ, ← List.append_assoc, bs_snoc])
          obtain ⟨d, hdd⟩ : ∃ d, d = bs f (0, 0, 0) (L2 6 0 x ++ L3 0 x y) := ⟨_, rfl⟩
          rw [← hdd] at HTb HY
          clear hdd
          have HSH := Lib.hid (l2shift_f f (x : Int) (y : Int) (WalkArith.wf_i64 (by omega)) (WalkArith.wf_i64 (by omega)) hlx hly (by omega) (by omega))
          have hbe := before_lx (rowv (sf x y f 0)) (rowv (sf x y f 1)) (rowv (sf x y f 2)) (rowv (sf x y f 3)) (rowv (sf x y f 4)) (rowv (sf x y f 5)) (rowv (sf d.2.1 d.2.2 (tf d.1 f) 0)) (rowv (sf d.2.1 d.2.2 (tf d.1 f) 1)) (rowv (sf d.2.1 d.2.2 (tf d.1 f) 2)) (rowv (sf d.2.1 d.2.2 (tf d.1 f) 3)) (rowv (sf d.2.1 d.2.2 (tf d.1 f) 4)) (rowv (sf d.2.1 d.2.2 (tf d.1 f) 5))
          have hlm : lm f (0, x, y) d = lx (rowv (sf x y f 0)) (rowv (sf x y f 1)) (rowv (sf x y f 2)) (rowv (sf x y f 3)) (rowv (sf x y f 4)) (rowv (sf x y f 5)) (rowv (sf d.2.1 d.2.2 (tf d.1 f) 0)) (rowv (sf d.2.1 d.2.2 (tf d.1 f) 1)) (rowv (sf d.2.1 d.2.2 (tf d.1 f) 2)) (rowv (sf d.2.1 d.2.2 (tf d.1 f) 3)) (rowv (sf d.2.1 d.2.2 (tf d.1 f) 4)) (rowv (sf d.2.1 d.2.2 (tf d.1 f) 5)) := rfl
          generalize lx (rowv (sf x y f 0)) (rowv (sf x y f 1)) (rowv (sf x y f 2)) (rowv (sf x y f 3)) (rowv (sf x y f 4)) (rowv (sf x y f 5)) (rowv (sf d.2.1 d.2.2 (tf d.1 f) 0)) (rowv (sf d.2.1 d.2.2 (tf d.1 f) 1)) (rowv (sf d.2.1 d.2.2 (tf d.1 f) 2)) (rowv (sf d.2.1 d.2.2 (tf d.1 f) 3)) (rowv (sf d.2.1 d.2.2 (tf d.1 f) 4)) (rowv (sf d.2.1 d.2.2 (tf d.1 f) 5)) = t at hlm hbe
          have HBE := Lib.hid hbe
          have HLM := Lib.hid hlm
          clear hbe hlm
          have s_c := fun j => cell_of_row wr _ j _ _ _ HY.out.1
          go_wp2_with fail
          refine (HSH.out _).mono ?_
          rintro e W1 ⟨rfl, hb⟩
          have H1 := HY.out.below hb rfl
          have hz := H1.2.2.2.2.2.2
          have H2 := H1.below (M := W1.heap.size) ((Below.refl _ _).alloc (Nat.le_refl _) (.cells #[.int .i64 (rowv (sf x y f 0)), .int .i64 (rowv (sf x y f 1)), .int .i64 (rowv (sf x y f 2)), .int .i64 (rowv (sf x y f 3)), .int .i64 (rowv (sf x y f 4)), .int .i64 (rowv (sf x y f 5))] 25)) rfl
          have hn : (W1.alloc (.cells #[.int .i64 (rowv (sf x y f 0)), .int .i64 (rowv (sf x y f 1)), .int .i64 (rowv (sf x y f 2)), .int .i64 (rowv (sf x y f 3)), .int .i64 (rowv (sf x y f 4)), .int .i64 (rowv (sf x y f 5))] 25)).heap[W1.heap.size]? = some (.cells #[.int .i64 (rowv (sf x y f 0)), .int .i64 (rowv (sf x y f 1)), .int .i64 (rowv (sf x y f 2)), .int .i64 (rowv (sf x y f 3)), .int .i64 (rowv (sf x y f 4)), .int .i64 (rowv (sf x y f 5))] 25 (0, 0)) := alloc_at rfl
          have b_c := fun j => cell_of_row W1 _ j _ _ _ H1.2.2.2.1
          have c_c := fun j => cell_of_row (W1.alloc (.cells #[.int .i64 (rowv (sf x y f 0)), .int .i64 (rowv (sf x y f 1)), .int .i64 (rowv (sf x y f 2)), .int .i64 (rowv (sf x y f 3)), .int .i64 (rowv (sf x y f 4)), .int .i64 (rowv (sf x y f 5))] 25)) _ j _ _ _ H2.2.2.2.1
          have HD := Lib.hid (And.intro H2 hn)
          clear s_c hb H1 H2 hn
          go_wp2_with fail
          refine (HBE.out _).mono ?_
          rintro e W2 ⟨rfl, hb⟩
          have H3 := HD.out.1.below hb rfl
          have hn := rowk HD.out.2 hb rfl
          have hzz : W1.heap.size < W2.heap.size := by have := hb.size; simp at this; omega
          have n_c := fun j => cell_of_row W2 _ j _ _ _ hn
          have m_c := fun j => cell_of_row W2 _ j _ _ _ H3.2.2.2.1
          have m_f := fun j => frozen_of_row W2 _ j _ _ H3.2.2.2.1
          have p_c := fun j => cell_of_row W2 _ j _ _ _ H3.2.2.2.2.1
          have p_f := fun j => frozen_of_row W2 _ j _ _ H3.2.2.2.2.1
          have HE := Lib.hid H3
          clear b_c c_c hb H3 hn
          cases t
          · go_wp2_with fail
            go_roundw
            case rel => exact ⟨y + 1, by omega, by go_num, Lib.hid (by rw [HTb.out, HLM.out, if_neg (by decide)]; exact HE.out)⟩
            case measure => simp [intOf]; omega
          · go_wp2_with fail
            go_roundw
            case rel => exact ⟨y + 1, by omega, by go_num, Lib.hid (by rw [HTb.out, HLM.out, if_pos rfl]; exact HE.out.put x y)⟩
            case measure => simp [intOf]; omega
        · obtain rfl : y = 6 := by omega
          have hf6 : decide ((6 : Int) < 6) = false := rfl
          go_wp2_with fail
          go_roundw
          case rel => exact ⟨x + 1, by omega, by go_num, Lib.hid (by rw [L2_succ]; exact HY.out)⟩
          case measure => simp [intOf]; omega
    · obtain rfl : x = 6 := by omega
      have hl : L2 6 0 6 = L1 6 1 := by simp [L1_succ, show L1 6 0 = [] from rfl]
      rw [hl] at HX
      have HXX := HX.out
      obtain ⟨d, hdd⟩ : ∃ d, bs f (0, 0, 0) (L1 6 1) = d := ⟨_, rfl⟩
      rw [hdd] at HXX
      have HDD := Lib.hid hdd
      clear hdd
      have m_c := fun j => cell_of_row wr _ j _ _ _ HXX.2.2.2.1
      have p_c := fun j => cell_of_row wr _ j _ _ _ HXX.2.2.2.2.1
      have s_c := fun j => cell_of_row wr _ j _ _ _ HXX.2.1
      have s_f := fun j => frozen_of_row wr _ j _ _ HXX.2.1
      have q_c := fun j => cell_of_row wr _ j _ _ _ HXX.2.2.1
      have q_f := fun j => frozen_of_row wr _ j _ _ HXX.2.2.1
      have HF := Lib.hid HXX
      clear HXX HX
      go_wp2_with fail
      set_option maxRecDepth 8000 in
      go_region
      all_goals
        clear m_c p_c s_c s_f q_c q_f
        generalize hX : World.drew _ = X
        have n1 : w.heap.size ≤ w.heap.size + 1 := by omega
        have n2 : w.heap.size ≤ w.heap.size + 1 + 1 := by omega
        have hB : Below w.heap.size w X := by rw [← hX]; exact (below2 ((((((HF.out.2.2.2.2.2.1.setCell n1 _).setCell n1 _).setCell n1 _).setCell n1 _).setCell n1 _).setCell n1 _) n2).drew
        have rx : X.heap[w.heap.size + 1]? = some (.cells #[.int .i64 (rowv (sf d.2.1 d.2.2 (tf d.1 f) 0)), .int .i64 (rowv (sf d.2.1 d.2.2 (tf d.1 f) 1)), .int .i64 (rowv (sf d.2.1 d.2.2 (tf d.1 f) 2)), .int .i64 (rowv (sf d.2.1 d.2.2 (tf d.1 f) 3)), .int .i64 (rowv (sf d.2.1 d.2.2 (tf d.1 f) 4)), .int .i64 (rowv (sf d.2.1 d.2.2 (tf d.1 f) 5))] 25 (0, 0)) := by rw [← hX]; exact drew_row (set2o _ _ (by omega) (set6v _ _ _ _ _ _ HF.out.2.1))
        have ry : X.heap[w.heap.size + 1 + 1]? = some (.cells #[.int .i64 (d.2.1 : Int), .int .i64 (d.2.2 : Int)] 132 (0, 0)) := by rw [← hX]; exact drew_row (set2r _ _ (set6q _ _ _ _ _ _ (by omega) HF.out.2.2.1))
        clear hX
        have x_c := fun j => cell_of_row X _ j _ _ _ rx
        have y_c := fun j => cell_of_row X _ j _ _ _ ry
        go_wp2_with fail
        exact bodyPost_ret (v := .tuple #[.agg #[.int .i64 (rowv (sf d.2.1 d.2.2 (tf d.1 f) 0)), .int .i64 (rowv (sf d.2.1 d.2.2 (tf d.1 f) 1)), .int .i64 (rowv (sf d.2.1 d.2.2 (tf d.1 f) 2)), .int .i64 (rowv (sf d.2.1 d.2.2 (tf d.1 f) 3)), .int .i64 (rowv (sf d.2.1 d.2.2 (tf d.1 f) 4)), .int .i64 (rowv (sf d.2.1 d.2.2 (tf d.1 f) 5))], .agg #[.int .i64 (d.2.1 : Int), .int .i64 (d.2.2 : Int)]]) (by simp [results, Try.results154, go_sem, x_c, y_c]) rfl ⟨by rw [HDD.out]; rfl, hB⟩
end Go.Proofs.Ytkobgklpcpoglaa
