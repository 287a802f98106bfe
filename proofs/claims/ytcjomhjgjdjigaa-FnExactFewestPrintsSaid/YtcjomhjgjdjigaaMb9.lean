/- CONTRACTS: the picture behind one more print, in the code. -/
import Derived.Test.YtcjomhjgjdjigaaMa9
import Derived.WalkKit
import Derived.ProofKit
import Derived.OpenShut
import Derived.Lib.Hide
import Derived.WalkSpells
import Derived.Below
import Derived.BigQuiet
import Derived.LoopN
namespace Go.Proofs.Ytcjomhjgjdjigaa
open Go.ChangeShapes Go.WideShapes Go.ChangeAt Go.RowKit
set_option linter.unusedVariables false
theorem bl_in8 (f : Nat → Nat → Bool) : ∀ (p : Nat), p ≤ 36 → ∀ c ∈ bl f p, c.1 < 6 ∧ c.2 < 6
  | 0, _, c, hc => by simp [bl] at hc
  | p + 1, hp, c, hc => by
    rw [bl, List.mem_append] at hc
    rcases hc with hc | hc
    · exact bl_in8 f p (by omega) c hc
    · by_cases h : f (p / 6) (p % 6) = true
      · rw [if_pos h, List.mem_singleton] at hc
        subst hc
        exact ⟨Nat.mod_lt _ (by decide), by show p / 6 < 6; omega⟩
      · rw [if_neg h] at hc
        simp at hc
/-- The picture behind the presses of the ink k on the cells of a list. -/
def mq8 (m : Nat → Int) (k : Int) (L : List (Nat × Nat)) : Nat → Int := L.foldl (fun m c => uq m (c.2 * 6 + c.1) k) m
theorem mq8_succ (m : Nat → Int) (k : Int) (L : List (Nat × Nat)) {i : Nat} (hi : i < L.length) : mq8 m k (L.take (i + 1)) = uq (mq8 m k (L.take i)) ((L[i]).2 * 6 + (L[i]).1) k := by
  unfold mq8
  rw [List.take_add_one, List.getElem?_eq_getElem hi, Option.toList_some, List.foldl_append]
  rfl
theorem mq8_bl (m : Nat → Int) (k : Int) (G : Nat → Nat → Bool) : ∀ p, mq8 m k (bl G p) = mp8 m k G p
  | 0 => by rw [mp8_zero]; rfl
  | p + 1 => by
    have ih := mq8_bl m k G p
    have e : 6 * (p / 6) + p % 6 = p := by omega
    have hm : p % 6 < 6 := Nat.mod_lt _ (by decide)
    rw [bl]
    unfold mq8 at ih ⊢
    rw [List.foldl_append, ih]
    cases h : G (p / 6) (p % 6)
    · have := mp8_no (m := m) (k := k) hm h
      rw [e] at this
      rw [this]
      rfl
    · have := mp8_yes (m := m) (k := k) hm h
      rw [e] at this
      rw [this]
      rfl
/-- Midway in a print of the code: the picture, rows known, and the list of cells. -/
def Ro9 (w : World) (T : TypeId) (m : Nat → Int) (rows : List (Nat × Obj)) (L : List (Nat × Nat)) (g cap : Nat) (U : World) : Prop := Rn8 w T m rows U ∧ U.ownsRow 0 32 2 (.slice (some ⟨g, 0, none⟩) L.length cap) L.length (cv L) ∧ g ≠ w.heap.size
theorem Ro9.below {w U V : World} {T : TypeId} {m : Nat → Int} {rows : List (Nat × Obj)} {L : List (Nat × Nat)} {g cap M : Nat} (h : Ro9 w T m rows L g cap U) (hb : Below M U V) (hM : M = U.heap.size) : Ro9 w T m rows L g cap V :=
  ⟨h.1.below hb hM, h.2.1.kept (grown_below hb hM) (.inr (by simp [Value.ownBlock])), h.2.2⟩
theorem Ro9.put {w U : World} {T : TypeId} {m : Nat → Int} {rows : List (Nat × Obj)} {L : List (Nat × Nat)} {g cap j : Nat} (v : Int) (hj : j < 36) (h : Ro9 w T m rows L g cap U) : Ro9 w T (uq m j v) rows L g cap (U.setCell ⟨w.heap.size, j, none⟩ (.int .i64 v)) :=
  ⟨h.1.put v hj, h.2.1.kept (grow_set U ⟨w.heap.size, j, none⟩ _) (.inr (by simp only [Value.ownBlock, ne_eq, Option.some.injEq]; have := h.2.2; omega)), h.2.2⟩
theorem Cs1Post.out8 {f : Nat → Nat → Bool} {w w' : World} {e : Ending} (h : Cs1Post f w e w') : ∃ g cap, e = .returned (.tuple #[.slice (some ⟨g, 0, none⟩) (bl f 36).length cap, .bool true]) ∧ w'.ownsRow w.heap.size 32 2 (.slice (some ⟨g, 0, none⟩) (bl f 36).length cap) (bl f 36).length (cv (bl f 36)) ∧ Below w.heap.size w w' := h
set_option maxRecDepth 8000 in
set_option maxHeartbeats 1000000 in
theorem iprinted_f (m : Nat → Int) (k : Int) (f : Nat → Nat → Bool) {x y : Nat} (hx : x < 6) (hy : y < 6) (w : World) : Calls Try.prog 110 #[pv m, .agg #[.int .i64 k, .int .i64 (rowv (f 0)), .int .i64 (rowv (f 1)), .int .i64 (rowv (f 2)), .int .i64 (rowv (f 3)), .int .i64 (rowv (f 4)), .int .i64 (rowv (f 5)), .int .i64 (x : Int), .int .i64 (y : Int)]] w fun e w' => e = .returned (pv (mp8 m k (sf x y f) 36)) ∧ Below w.heap.size w w' := by
  have HS := Lib.hid (isheet_f k f hx hy)
  generalize sf x y f = G at HS ⊢
  have HC := Lib.hid (icells_f G)
  go_enter Try.func110, Try.ntmps110
  go_wp2_with ((with_reducible refine wpB36 m ?_ ?_); rfl)
  generalize hW : (World.alloc _ _ : World) = W1
  have K0 : Rn8 w 27 m [(w.heap.size + 1, pr9 k f x y), (w.heap.size + 1 + 1, pb 27 fun _ => 0)] W1 := by
    rw [← hW]
    refine ⟨alloc_past (alloc_past (alloc_at rfl)), ?_, by (repeat (first | exact Below.refl _ _ | assumption | refine Below.setCell ?_ (by first | (simp; done) | (simp; omega)) _ | refine Below.alloc ?_ (by first | (simp; done) | (simp; omega)) _ | refine Below.drew ?_)), by simp; omega⟩
    intro p hp
    simp only [List.mem_cons, List.mem_nil_iff, or_false] at hp
    rcases hp with rfl | rfl
    · exact ⟨by simp, by simp, alloc_past (alloc_at (by simp))⟩
    · exact ⟨by simp; omega, by simp, alloc_at (by simp)⟩
  clear hW
  have hr := K0.row (g := w.heap.size + 1) (o := pr9 k f x y) (by simp)
  have a_c := fun j => cell_of_row W1 _ j _ _ _ hr
  clear hr
  go_wp2_with fail
  refine (HS.out _).mono ?_
  rintro e W2 ⟨rfl, hb⟩
  have K1 := K0.below hb rfl
  clear hb K0 a_c
  go_wp2_with fail
  refine (HC.out _).mono ?_
  intro e W3 hp
  obtain ⟨g, cap, rfl, ho, hb⟩ := Cs1Post.out8 hp
  have hg := (ho.lt g rfl).1
  have hgw := K1.2.2.2
  have hin := bl_in8 G 36 (Nat.le_refl _)
  have hlen := bl_len G 36
  have HM := Lib.hid (mq8_bl m k G 36)
  generalize bl G 36 = L at ho hin hlen HM ⊢
  have S0 : Hid (Ro9 w 27 (mq8 m k (L.take 0)) [(w.heap.size + 1, pr9 k f x y), (w.heap.size + 1 + 1, pb 27 fun _ => 0)] L g cap W3) := Lib.hid ⟨K1.below hb rfl, own_mono ho (Nat.zero_le _), by omega⟩
  have HI := Lib.hid hin
  clear hp hb ho hg hgw K1 hin
  go_wp2_with fail
  go_loopw [17] (fun c wr => ∃ i : Nat, i ≤ L.length ∧ c = .int .i64 i ∧ Hid (Ro9 w 27 (mq8 m k (L.take i)) [(w.heap.size + 1, pr9 k f x y), (w.heap.size + 1 + 1, pb 27 fun _ => 0)] L g cap wr)) (fun c _ => L.length - (intOf c).toNat)
  case atStart => exact ⟨0, by omega, rfl, S0⟩
  case round =>
    obtain ⟨i, hi, rfl, HS2⟩ := hrel
    by_cases hlt : i < L.length
    · have hlt' : (i : Int) < L.length := by omega
      have hi0 : (0 : Int) ≤ i := by omega
      obtain ⟨p1, p2⟩ := cv_at L i hlt
      have a1 := own_at HS2.out.2.1 p1
      have a2 := own_at HS2.out.2.1 p2
      clear p1 p2
      have hc := HI.out L[i] (List.getElem_mem _)
      have HE := Lib.hid (mq8_succ m k L hlt)
      generalize mq8 m k (L.take i) = q at HS2 HE
      generalize L[i] = c at a1 a2 hc HE
      obtain ⟨cx, cy⟩ := c
      dsimp only at a1 a2 hc HE
      obtain ⟨hcx, hcy⟩ := hc
      have hcx' : (cx : Int) < 6 := by omega
      have hcy' : (cy : Int) < 6 := by omega
      have hcx0 : (0 : Int) ≤ cx := by omega
      have hcy0 : (0 : Int) ≤ cy := by omega
      go_wp2_with fail
      have HA := Lib.hid (HS2.out.below (M := wr.heap.size) ((Below.refl _ _).alloc (Nat.le_refl _) (.cells #[.int .i64 (cx : Int), .int .i64 (cy : Int)] 32)) rfl)
      have hcc : (wr.alloc (.cells #[.int .i64 (cx : Int), .int .i64 (cy : Int)] 32)).heap[wr.heap.size]? = some (.cells #[.int .i64 (cx : Int), .int .i64 (cy : Int)] 32 (0, 0)) := alloc_at rfl
      clear HS2 a1 a2
      generalize (World.alloc _ _ : World) = X at HA hcc ⊢
      generalize wr.heap.size = gc at hcc ⊢
      have HD := Lib.hid ((HA.out.below (M := X.heap.size) (Below.refl _ _).drew rfl).put k (show cy * 6 + cx < 36 by omega))
      have hr := HA.out.1.row (g := w.heap.size + 1) (o := pr9 k f x y) (by simp)
      have b_c := fun j => cell_of_row X _ j _ _ _ hr
      have c_c := fun j => cell_of_row X _ j _ _ _ hcc
      have p_c := pb_cell HA.out.1.1 (cy * 6 + cx)
      rw [if_pos (by omega)] at p_c
      have p_f := fun j => pb_frozen HA.out.1.1 j
      clear hr hcc
      refine wp_region_still_tail 9 (by kernel_rfl) (by kernel_rfl) ?_
      simp only [List.take_succ_cons, List.take_zero, List.drop_succ_cons, List.drop_zero]
      repeat still_step
      refine wpStill_nil ?_
      change wpList _ _ _ _ _ X.drew
      go_wp2_with fail
      clear b_c c_c p_c p_f HA
      go_roundw
      case rel => exact ⟨i + 1, by omega, by go_num, by rw [HE.out]; exact HD⟩
      case measure => simp [intOf]; omega
    · obtain rfl : i = L.length := by omega
      have h1 := HS2.out.1.1
      have h2 := Lib.hid (HS2.out.1.row (g := w.heap.size + 1 + 1) (o := pb 27 fun _ => 0) (by simp))
      have hB0 := Lib.hid HS2.out.1.2.2.1
      rw [List.take_length, HM.out] at h1
      have h1 := Lib.hid h1
      clear HS2 S0
      obtain ⟨q, hq⟩ : ∃ q, q = mp8 m k G 36 := ⟨_, rfl⟩
      rw [← hq] at h1
      have HQ := Lib.hid hq
      clear hq
      go_wp2_with (first | ((with_reducible refine wpL36 w.heap.size 27 q h1.out _ Try.underlying27 ?_ ?_ ?_ ?_); rfl; rfl; kernel_rfl) | ((with_reducible refine wpS36 (w.heap.size + 1 + 1) q 27 _ h2.out ?_ ?_ ?_ ?_); rfl; rfl; kernel_rfl))
      have hr := pb_sets q h2.out
      have hB := setCells_below (b := w.heap.size + 1 + 1) (cs36 q) 0 hB0.out (by omega)
      generalize (World.setCells _ _ _ _ : World) = X at hr hB ⊢
      exact bodyPost_ret (v := pv q) (res36 (a := 4) (t := 27) rfl rfl (run_load36 hr 27 _ Try.underlying27 rfl (by kernel_rfl))) rfl ⟨by have e := HQ.out; subst e; rfl, hB⟩
end Go.Proofs.Ytcjomhjgjdjigaa
