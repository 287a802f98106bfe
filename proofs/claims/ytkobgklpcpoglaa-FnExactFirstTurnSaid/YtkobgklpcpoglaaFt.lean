/- CONTRACTS: FirstTurn, the model's. -/
import Derived.Test.YtkobgklpcpoglaaFp
import Derived.Test.YtkobgklpcpoglaaRk
import Derived.Test.YtkobgklpcpoglaaFq3
import Derived.WalkKit
import Derived.ProofKit
import Derived.OpenShut
import Derived.Lib.Hide
import Derived.WalkSpells
import Derived.Below
import Derived.BigQuiet
import Derived.LoopN
namespace Go.Proofs.Ytkobgklpcpoglaa
open Go.ChangeShapes Go.WideShapes Go.ChangeAt Go.RowKit
set_option linter.unusedVariables false
/-- Midway: the sheet, the answer's room, and in block g the first turn so far. -/
def Rt (w : World) (f : Nat → Nat → Bool) (g : Nat) (d : Nat × Nat × Nat) (W : World) : Prop :=
  W.heap[w.heap.size]? = some (.cells #[.int .i64 (rowv (f 0)), .int .i64 (rowv (f 1)), .int .i64 (rowv (f 2)), .int .i64 (rowv (f 3)), .int .i64 (rowv (f 4)), .int .i64 (rowv (f 5))] 25 (0, 0)) ∧ W.heap[w.heap.size + 1]? = some (.cells #[.int .i64 0, .int .i64 0, .int .i64 0, .int .i64 0, .int .i64 0, .int .i64 0] 25 (0, 0)) ∧ W.heap[g]? = some (.cells #[.int .i64 (rowv (sf d.2.1 d.2.2 (tf d.1 f) 0)), .int .i64 (rowv (sf d.2.1 d.2.2 (tf d.1 f) 1)), .int .i64 (rowv (sf d.2.1 d.2.2 (tf d.1 f) 2)), .int .i64 (rowv (sf d.2.1 d.2.2 (tf d.1 f) 3)), .int .i64 (rowv (sf d.2.1 d.2.2 (tf d.1 f) 4)), .int .i64 (rowv (sf d.2.1 d.2.2 (tf d.1 f) 5))] 25 (0, 0)) ∧ Below w.heap.size w W ∧ w.heap.size + 2 ≤ g ∧ g < W.heap.size
theorem Rt.below {w W W' : World} {f : Nat → Nat → Bool} {g : Nat} {d : Nat × Nat × Nat} {M : Nat} (h : Rt w f g d W) (hb : Below M W W') (hN : M = W.heap.size) : Rt w f g d W' := by
  obtain ⟨h1, h2, h3, h4, h5, h6⟩ := h
  exact ⟨rowk h1 hb hN, rowk h2 hb hN, rowk h3 hb hN, below_of h4 hb (by omega), h5, Nat.lt_of_lt_of_le h6 hb.size⟩
theorem sf00 (h : Nat → Nat → Bool) {r : Nat} (hr : r < 6) : rowv (sf 0 0 h r) = rowv (h r) := rowv_congr fun i hi => by
  show h ((r + 6 - 0) % 6) ((i + 6 - 0) % 6) = h r i
  rw [show (r + 6 - 0) % 6 = r by omega, show (i + 6 - 0) % 6 = i by omega]
theorem Rt.put {w W : World} {f : Nat → Nat → Bool} {g : Nat} {d : Nat × Nat × Nat} (k : Nat) (h : Rt w f g d W) : Rt w f g (k, 0, 0) ((((((W.setCell ⟨g, 0, none⟩ (.int .i64 (rowv (tf k f 0)))).setCell ⟨g, 1, none⟩ (.int .i64 (rowv (tf k f 1)))).setCell ⟨g, 2, none⟩ (.int .i64 (rowv (tf k f 2)))).setCell ⟨g, 3, none⟩ (.int .i64 (rowv (tf k f 3)))).setCell ⟨g, 4, none⟩ (.int .i64 (rowv (tf k f 4)))).setCell ⟨g, 5, none⟩ (.int .i64 (rowv (tf k f 5)))) := by
  obtain ⟨h1, h2, h3, h4, h5, h6⟩ := h
  have n3 : w.heap.size ≤ g := by omega
  refine ⟨set6q _ _ _ _ _ _ (by omega) h1, set6q _ _ _ _ _ _ (by omega) h2, ?_, ((((((h4.setCell n3 _).setCell n3 _).setCell n3 _).setCell n3 _).setCell n3 _).setCell n3 _), h5, by simpa using h6⟩
  show _ = some (Obj.cells #[.int .i64 (rowv (sf 0 0 (tf k f) 0)), .int .i64 (rowv (sf 0 0 (tf k f) 1)), .int .i64 (rowv (sf 0 0 (tf k f) 2)), .int .i64 (rowv (sf 0 0 (tf k f) 3)), .int .i64 (rowv (sf 0 0 (tf k f) 4)), .int .i64 (rowv (sf 0 0 (tf k f) 5))] 25 (0, 0))
  rw [sf00 _ (show 0 < 6 by decide), sf00 _ (show 1 < 6 by decide), sf00 _ (show 2 < 6 by decide), sf00 _ (show 3 < 6 by decide), sf00 _ (show 4 < 6 by decide), sf00 _ (show 5 < 6 by decide)]
  exact set6v _ _ _ _ _ _ h3
set_option maxHeartbeats 1000000 in
theorem sft_yes (f : Nat → Nat → Bool) (H0 : Hid (∀ w, Calls Try.prog 117 #[.agg #[.int .i64 (rowv (f 0)), .int .i64 (rowv (f 1)), .int .i64 (rowv (f 2)), .int .i64 (rowv (f 3)), .int .i64 (rowv (f 4)), .int .i64 (rowv (f 5))]] w fun e w' => e = .returned (.bool true) ∧ Below w.heap.size w w')) (w : World) : Calls Try.prog 71 #[.agg #[.int .i64 (rowv (f 0)), .int .i64 (rowv (f 1)), .int .i64 (rowv (f 2)), .int .i64 (rowv (f 3)), .int .i64 (rowv (f 4)), .int .i64 (rowv (f 5))]] w fun e w' => e = .returned (.tuple #[img f (bs f (0, 0, 0) (L1 1 8)), .int .i64 ((bs f (0, 0, 0) (L1 1 8)).1 : Int), .bool true]) ∧ Below w.heap.size w w' := by
  go_enter Try.func71, Try.ntmps71
  go_wp2_with fail
  generalize hW : (World.alloc _ _ : World) = W0
  have hB0 : Below w.heap.size w W0 := by rw [← hW]; (repeat (first | exact Below.refl _ _ | assumption | refine Below.setCell ?_ (by first | (simp; done) | (simp; omega)) _ | refine Below.alloc ?_ (by first | (simp; done) | (simp; omega)) _ | refine Below.drew ?_))
  have qa : W0.heap[(w.heap.size : Nat)]? = some (Obj.cells (#[.int .i64 (rowv (f 0)), .int .i64 (rowv (f 1)), .int .i64 (rowv (f 2)), .int .i64 (rowv (f 3)), .int .i64 (rowv (f 4)), .int .i64 (rowv (f 5))]) 25 (0, 0)) := by
    rw [← hW]
    repeat (first | (refine alloc_at ?_; first | (simp; done) | (simp; omega)) | refine drew_row ?_ | refine alloc_past ?_ | assumption)
  have qz : W0.heap[(w.heap.size + 1 : Nat)]? = some (Obj.cells (#[.int .i64 0, .int .i64 0, .int .i64 0, .int .i64 0, .int .i64 0, .int .i64 0]) 25 (0, 0)) := by
    rw [← hW]
    repeat (first | (refine alloc_at ?_; first | (simp; done) | (simp; omega)) | refine drew_row ?_ | refine alloc_past ?_ | assumption)
  clear hW
  refine (H0.out _).mono ?_
  rintro e W1 ⟨rfl, hb⟩
  have nqa := rowk qa hb rfl
  have nqz := rowk qz hb rfl
  have hB1 := below_of hB0 hb hB0.size
  clear hb hB0 qa qz
  have qa_c := fun j => cell_of_row W1 _ j _ _ _ nqa
  have hz := row_lt nqz
  have hone : bs f (0, 0, 0) (L1 1 1) = (0, 0, 0) := by
    rw [show L1 1 1 = [(0, 0, 0)] from rfl]
    unfold bs
    simp only [List.foldl_cons, List.foldl_nil]
    split <;> rfl
  have hrow : (W1.alloc (.cells #[.int .i64 (rowv (f 0)), .int .i64 (rowv (f 1)), .int .i64 (rowv (f 2)), .int .i64 (rowv (f 3)), .int .i64 (rowv (f 4)), .int .i64 (rowv (f 5))] 25)).heap[W1.heap.size]? = some (.cells #[.int .i64 (rowv (sf 0 0 (tf 0 f) 0)), .int .i64 (rowv (sf 0 0 (tf 0 f) 1)), .int .i64 (rowv (sf 0 0 (tf 0 f) 2)), .int .i64 (rowv (sf 0 0 (tf 0 f) 3)), .int .i64 (rowv (sf 0 0 (tf 0 f) 4)), .int .i64 (rowv (sf 0 0 (tf 0 f) 5))] 25 (0, 0)) := by
    rw [sf00 _ (show 0 < 6 by decide), sf00 _ (show 1 < 6 by decide), sf00 _ (show 2 < 6 by decide), sf00 _ (show 3 < 6 by decide), sf00 _ (show 4 < 6 by decide), sf00 _ (show 5 < 6 by decide)]
    exact alloc_at rfl
  have S1 : Hid (Rt w f W1.heap.size (bs f (0, 0, 0) (L1 1 1)) (W1.alloc (.cells #[.int .i64 (rowv (f 0)), .int .i64 (rowv (f 1)), .int .i64 (rowv (f 2)), .int .i64 (rowv (f 3)), .int .i64 (rowv (f 4)), .int .i64 (rowv (f 5))] 25))) := Lib.hid (by
    rw [hone]
    exact ⟨alloc_past nqa, alloc_past nqz, hrow, hB1.alloc hB1.size _, by omega, by simp⟩)
  have HON := Lib.hid hone
  clear hrow hone
  clear hB1 nqz nqa
  go_wp2_with fail
  clear qa_c
  generalize (World.alloc _ _ : World) = W2 at S1 ⊢
  generalize W1.heap.size = gb at S1 hz ⊢
  go_loopw [7, 6] (fun c u wr => ∃ k : Nat, 1 ≤ k ∧ k ≤ 8 ∧ c = .int .i64 k ∧ u = .int .i64 ((bs f (0, 0, 0) (L1 1 k)).1 : Int) ∧ Hid (Rt w f gb (bs f (0, 0, 0) (L1 1 k)) wr)) (fun c _ _ => 8 - (intOf c).toNat)
  case atStart => exact ⟨1, by omega, by omega, rfl, by rw [HON.out]; rfl, S1⟩
  case round =>
    obtain ⟨k, hk1, hk, rfl, rfl, HY⟩ := hrel
    by_cases hlt : k < 8
    · have hlt' : (k : Int) < 8 := by omega
      have hk0 : (1 : Int) ≤ k := by omega
      have HTb : Hid (bs f (0, 0, 0) (L1 1 (k + 1)) = if lm f (k, 0, 0) (bs f (0, 0, 0) (L1 1 k)) then (k, 0, 0) else bs f (0, 0, 0) (L1 1 k)) := Lib.hid (by rw [L1_succ, show L2 1 k 1 = [(k, 0, 0)] from rfl, bs_snoc])
      obtain ⟨d, hdd⟩ : ∃ d, d = bs f (0, 0, 0) (L1 1 k) := ⟨_, rfl⟩
      rw [← hdd] at HTb HY ⊢
      clear hdd
      have HTU := Lib.hid (turn_f f hlt)
      have hbe := before_lx (rowv (tf k f 0)) (rowv (tf k f 1)) (rowv (tf k f 2)) (rowv (tf k f 3)) (rowv (tf k f 4)) (rowv (tf k f 5)) (rowv (sf d.2.1 d.2.2 (tf d.1 f) 0)) (rowv (sf d.2.1 d.2.2 (tf d.1 f) 1)) (rowv (sf d.2.1 d.2.2 (tf d.1 f) 2)) (rowv (sf d.2.1 d.2.2 (tf d.1 f) 3)) (rowv (sf d.2.1 d.2.2 (tf d.1 f) 4)) (rowv (sf d.2.1 d.2.2 (tf d.1 f) 5))
      have hlm : lm f (k, 0, 0) d = lx (rowv (tf k f 0)) (rowv (tf k f 1)) (rowv (tf k f 2)) (rowv (tf k f 3)) (rowv (tf k f 4)) (rowv (tf k f 5)) (rowv (sf d.2.1 d.2.2 (tf d.1 f) 0)) (rowv (sf d.2.1 d.2.2 (tf d.1 f) 1)) (rowv (sf d.2.1 d.2.2 (tf d.1 f) 2)) (rowv (sf d.2.1 d.2.2 (tf d.1 f) 3)) (rowv (sf d.2.1 d.2.2 (tf d.1 f) 4)) (rowv (sf d.2.1 d.2.2 (tf d.1 f) 5)) := by
        show lx (rowv (sf 0 0 (tf k f) 0)) (rowv (sf 0 0 (tf k f) 1)) (rowv (sf 0 0 (tf k f) 2)) (rowv (sf 0 0 (tf k f) 3)) (rowv (sf 0 0 (tf k f) 4)) (rowv (sf 0 0 (tf k f) 5)) (rowv (sf d.2.1 d.2.2 (tf d.1 f) 0)) (rowv (sf d.2.1 d.2.2 (tf d.1 f) 1)) (rowv (sf d.2.1 d.2.2 (tf d.1 f) 2)) (rowv (sf d.2.1 d.2.2 (tf d.1 f) 3)) (rowv (sf d.2.1 d.2.2 (tf d.1 f) 4)) (rowv (sf d.2.1 d.2.2 (tf d.1 f) 5)) = _
        rw [sf00 _ (show 0 < 6 by decide), sf00 _ (show 1 < 6 by decide), sf00 _ (show 2 < 6 by decide), sf00 _ (show 3 < 6 by decide), sf00 _ (show 4 < 6 by decide), sf00 _ (show 5 < 6 by decide)]
      generalize lx (rowv (tf k f 0)) (rowv (tf k f 1)) (rowv (tf k f 2)) (rowv (tf k f 3)) (rowv (tf k f 4)) (rowv (tf k f 5)) (rowv (sf d.2.1 d.2.2 (tf d.1 f) 0)) (rowv (sf d.2.1 d.2.2 (tf d.1 f) 1)) (rowv (sf d.2.1 d.2.2 (tf d.1 f) 2)) (rowv (sf d.2.1 d.2.2 (tf d.1 f) 3)) (rowv (sf d.2.1 d.2.2 (tf d.1 f) 4)) (rowv (sf d.2.1 d.2.2 (tf d.1 f) 5)) = t at hlm hbe
      have HBE := Lib.hid hbe
      have HLM := Lib.hid hlm
      clear hbe hlm
      have s_c := fun j => cell_of_row wr _ j _ _ _ HY.out.1
      go_wp2_with fail
      refine (HTU.out _).mono ?_
      rintro e W5 ⟨rfl, hb⟩
      have H1 := HY.out.below hb rfl
      have hz := H1.2.2.2.2.2
      have H2 := H1.below (M := W5.heap.size) ((Below.refl _ _).alloc (Nat.le_refl _) (.cells #[.int .i64 (rowv (tf k f 0)), .int .i64 (rowv (tf k f 1)), .int .i64 (rowv (tf k f 2)), .int .i64 (rowv (tf k f 3)), .int .i64 (rowv (tf k f 4)), .int .i64 (rowv (tf k f 5))] 25)) rfl
      have hn : (W5.alloc (.cells #[.int .i64 (rowv (tf k f 0)), .int .i64 (rowv (tf k f 1)), .int .i64 (rowv (tf k f 2)), .int .i64 (rowv (tf k f 3)), .int .i64 (rowv (tf k f 4)), .int .i64 (rowv (tf k f 5))] 25)).heap[W5.heap.size]? = some (.cells #[.int .i64 (rowv (tf k f 0)), .int .i64 (rowv (tf k f 1)), .int .i64 (rowv (tf k f 2)), .int .i64 (rowv (tf k f 3)), .int .i64 (rowv (tf k f 4)), .int .i64 (rowv (tf k f 5))] 25 (0, 0)) := alloc_at rfl
      have b_c := fun j => cell_of_row W5 _ j _ _ _ H1.2.2.1
      have c_c := fun j => cell_of_row (W5.alloc (.cells #[.int .i64 (rowv (tf k f 0)), .int .i64 (rowv (tf k f 1)), .int .i64 (rowv (tf k f 2)), .int .i64 (rowv (tf k f 3)), .int .i64 (rowv (tf k f 4)), .int .i64 (rowv (tf k f 5))] 25)) _ j _ _ _ H2.2.2.1
      have HD := Lib.hid (And.intro H2 hn)
      clear s_c hb H1 H2 hn
      go_wp2_with fail
      refine (HBE.out _).mono ?_
      rintro e W6 ⟨rfl, hb⟩
      have H3 := HD.out.1.below hb rfl
      have hn := rowk HD.out.2 hb rfl
      have hzz : W5.heap.size < W6.heap.size := by have := hb.size; simp at this; omega
      have n_c := fun j => cell_of_row W6 _ j _ _ _ hn
      have m_c := fun j => cell_of_row W6 _ j _ _ _ H3.2.2.1
      have m_f := fun j => frozen_of_row W6 _ j _ _ H3.2.2.1
      have HE := Lib.hid H3
      clear b_c c_c hb H3 hn
      cases t
      · go_wp2_with fail
        go_roundw
        case rel => exact ⟨k + 1, by omega, by omega, by go_num, by rw [HTb.out, HLM.out, if_neg (by decide)], Lib.hid (by rw [HTb.out, HLM.out, if_neg (by decide)]; exact HE.out)⟩
        case measure => simp [intOf]; omega
      · go_wp2_with fail
        go_roundw
        case rel => exact ⟨k + 1, by omega, by omega, by go_num, by rw [HTb.out, HLM.out, if_pos rfl], Lib.hid (by rw [HTb.out, HLM.out, if_pos rfl]; exact HE.out.put k)⟩
        case measure => simp [intOf]; omega
    · obtain rfl : k = 8 := by omega
      have hyy := HY.out
      obtain ⟨d, hdd⟩ : ∃ d, bs f (0, 0, 0) (L1 1 8) = d := ⟨_, rfl⟩
      rw [hdd] at hyy ⊢
      have HDD := Lib.hid hdd
      clear hdd HY
      have hgb2 := hyy.2.2.2.2.1
      have m_c := fun j => cell_of_row wr _ j _ _ _ hyy.2.2.1
      have z_c := fun j => cell_of_row wr _ j _ _ _ hyy.2.1
      have z_f := fun j => frozen_of_row wr _ j _ _ hyy.2.1
      have HF := Lib.hid hyy
      clear hyy
      go_wp2_with fail
      have qx := row6 (.int .i64 (rowv (sf d.2.1 d.2.2 (tf d.1 f) 0))) (.int .i64 (rowv (sf d.2.1 d.2.2 (tf d.1 f) 1))) (.int .i64 (rowv (sf d.2.1 d.2.2 (tf d.1 f) 2))) (.int .i64 (rowv (sf d.2.1 d.2.2 (tf d.1 f) 3))) (.int .i64 (rowv (sf d.2.1 d.2.2 (tf d.1 f) 4))) (.int .i64 (rowv (sf d.2.1 d.2.2 (tf d.1 f) 5))) HF.out.2.1
      have hB := below6 (g := w.heap.size + 1) (v0 := .int .i64 (rowv (sf d.2.1 d.2.2 (tf d.1 f) 0))) (v1 := .int .i64 (rowv (sf d.2.1 d.2.2 (tf d.1 f) 1))) (v2 := .int .i64 (rowv (sf d.2.1 d.2.2 (tf d.1 f) 2))) (v3 := .int .i64 (rowv (sf d.2.1 d.2.2 (tf d.1 f) 3))) (v4 := .int .i64 (rowv (sf d.2.1 d.2.2 (tf d.1 f) 4))) (v5 := .int .i64 (rowv (sf d.2.1 d.2.2 (tf d.1 f) 5))) HF.out.2.2.2.1 (by omega)
      generalize (World.setCell _ _ _ : World) = X at qx hB ⊢
      have x_c := fun j => cell_of_row X _ j _ _ _ qx
      exact bodyPost_ret (v := .tuple #[.agg #[.int .i64 (rowv (sf d.2.1 d.2.2 (tf d.1 f) 0)), .int .i64 (rowv (sf d.2.1 d.2.2 (tf d.1 f) 1)), .int .i64 (rowv (sf d.2.1 d.2.2 (tf d.1 f) 2)), .int .i64 (rowv (sf d.2.1 d.2.2 (tf d.1 f) 3)), .int .i64 (rowv (sf d.2.1 d.2.2 (tf d.1 f) 4)), .int .i64 (rowv (sf d.2.1 d.2.2 (tf d.1 f) 5))], .int .i64 (d.1 : Int), .bool true]) (by simp [results, Try.results71, go_sem, x_c]) rfl ⟨by rw [HDD.out]; rfl, hB⟩
end Go.Proofs.Ytkobgklpcpoglaa
