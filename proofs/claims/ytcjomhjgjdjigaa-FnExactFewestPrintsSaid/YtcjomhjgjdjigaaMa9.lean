/- CONTRACTS: the cells of a print and the picture behind one more print, in the model. -/
import Derived.Test.YtcjomhjgjdjigaaPa4
import Derived.Test.YtcjomhjgjdjigaaAp9
import Derived.RegionTactic
import Derived.StillTailTactics
import Derived.WalkKit
import Derived.ProofKit
import Derived.OpenShut
import Derived.Lib.Hide
import Derived.WalkSpells
import Derived.Below
import Derived.BigQuiet
import Derived.LoopN
namespace Go.Proofs.Ytcjomhjgjdjigaa
open Go.ChangeShapes Go.WideShapes Go.ChangeAt Go.RowKit
set_option linter.unusedVariables false
theorem shifted_v8 (f : Nat → Nat → Bool) {x y : Nat} (hx : x < 6) (hy : y < 6) (w : World) : Calls Try.prog 147 #[.agg #[.int .i64 (rowv (f 0)), .int .i64 (rowv (f 1)), .int .i64 (rowv (f 2)), .int .i64 (rowv (f 3)), .int .i64 (rowv (f 4)), .int .i64 (rowv (f 5))], .int .i64 (x : Int), .int .i64 (y : Int)] w fun e w' => e = .returned (.agg #[.int .i64 (rowv (sf x y f 0)), .int .i64 (rowv (sf x y f 1)), .int .i64 (rowv (sf x y f 2)), .int .i64 (rowv (sf x y f 3)), .int .i64 (rowv (sf x y f 4)), .int .i64 (rowv (sf x y f 5))]) ∧ Below w.heap.size w w' := shifted_f f (x : Int) (y : Int) (WalkArith.wf_i64 (by omega)) (WalkArith.wf_i64 (by omega)) hx hy (by omega) (by omega) w
set_option maxHeartbeats 1000000 in
theorem shiftedby_8 (f : Nat → Nat → Bool) {x y : Nat} (hx : x < 6) (hy : y < 6) (w : World) : Calls Try.prog 127 #[.agg #[.int .i64 (rowv (f 0)), .int .i64 (rowv (f 1)), .int .i64 (rowv (f 2)), .int .i64 (rowv (f 3)), .int .i64 (rowv (f 4)), .int .i64 (rowv (f 5))], .agg #[.int .i64 (x : Int), .int .i64 (y : Int)]] w fun e w' => e = .returned (.agg #[.int .i64 (rowv (sf x y f 0)), .int .i64 (rowv (sf x y f 1)), .int .i64 (rowv (sf x y f 2)), .int .i64 (rowv (sf x y f 3)), .int .i64 (rowv (sf x y f 4)), .int .i64 (rowv (sf x y f 5))]) ∧ Below w.heap.size w w' := by
  have HF := Lib.hid (shifted_v8 f hx hy)
  go_enter Try.func127, Try.ntmps127
  go_wp2_with fail
  generalize hW : (World.alloc _ _ : World) = W0
  have hB0 : Below w.heap.size w W0 := by rw [← hW]; (repeat (first | exact Below.refl _ _ | assumption | refine Below.setCell ?_ (by first | (simp; done) | (simp; omega)) _ | refine Below.alloc ?_ (by first | (simp; done) | (simp; omega)) _ | refine Below.drew ?_))
  have qz : W0.heap[(w.heap.size + 1 + 1 : Nat)]? = some oz := by
    rw [← hW]
    repeat (first | (refine alloc_at ?_; first | (simp; done) | (simp; omega)) | refine drew_row ?_ | refine alloc_past ?_ | assumption)
  clear hW
  refine (HF.out _).mono ?_
  rintro e W1 ⟨rfl, hb⟩
  have qz1 := rowk qz hb rfl
  have hB1 := below_of hB0 hb hB0.size
  clear hb hB0 qz
  unfold oz at qz1
  have z_c := fun j => cell_of_row W1 _ j _ _ _ qz1
  have z_f := fun j => frozen_of_row W1 _ j _ _ qz1
  go_wp2_with fail
  have qr := set6a (.int .i64 (rowv (sf x y f 0))) (.int .i64 (rowv (sf x y f 1))) (.int .i64 (rowv (sf x y f 2))) (.int .i64 (rowv (sf x y f 3))) (.int .i64 (rowv (sf x y f 4))) (.int .i64 (rowv (sf x y f 5))) qz1
  have hB2 := below6 (v0 := .int .i64 (rowv (sf x y f 0))) (v1 := .int .i64 (rowv (sf x y f 1))) (v2 := .int .i64 (rowv (sf x y f 2))) (v3 := .int .i64 (rowv (sf x y f 3))) (v4 := .int .i64 (rowv (sf x y f 4))) (v5 := .int .i64 (rowv (sf x y f 5))) hB1 (show w.heap.size ≤ w.heap.size + 1 + 1 by omega)
  clear z_c z_f qz1 hB1
  generalize (World.setCell _ _ _ : World) = X at qr hB2 ⊢
  have x_c := fun j => cell_of_row X _ j _ _ _ qr
  exact bodyPost_ret (v := .agg #[.int .i64 (rowv (sf x y f 0)), .int .i64 (rowv (sf x y f 1)), .int .i64 (rowv (sf x y f 2)), .int .i64 (rowv (sf x y f 3)), .int .i64 (rowv (sf x y f 4)), .int .i64 (rowv (sf x y f 5))]) (by simp [results, Try.results127, go_sem, x_c]) rfl ⟨rfl, hB2⟩
set_option maxHeartbeats 1000000 in
theorem isheet_f (k : Int) (f : Nat → Nat → Bool) {x y : Nat} (hx : x < 6) (hy : y < 6) (w : World) : Calls Try.prog 95 #[.agg #[.int .i64 k, .int .i64 (rowv (f 0)), .int .i64 (rowv (f 1)), .int .i64 (rowv (f 2)), .int .i64 (rowv (f 3)), .int .i64 (rowv (f 4)), .int .i64 (rowv (f 5)), .int .i64 (x : Int), .int .i64 (y : Int)]] w fun e w' => e = .returned (.agg #[.int .i64 (rowv (sf x y f 0)), .int .i64 (rowv (sf x y f 1)), .int .i64 (rowv (sf x y f 2)), .int .i64 (rowv (sf x y f 3)), .int .i64 (rowv (sf x y f 4)), .int .i64 (rowv (sf x y f 5))]) ∧ Below w.heap.size w w' := by
  have HF := Lib.hid (shiftedby_8 f hx hy)
  go_enter Try.func95, Try.ntmps95
  go_wp2_with fail
  generalize hW : (World.alloc _ _ : World) = W0
  have hB0 : Below w.heap.size w W0 := by rw [← hW]; (repeat (first | exact Below.refl _ _ | assumption | refine Below.setCell ?_ (by first | (simp; done) | (simp; omega)) _ | refine Below.alloc ?_ (by first | (simp; done) | (simp; omega)) _ | refine Below.drew ?_))
  have qz : W0.heap[(w.heap.size + 1 : Nat)]? = some oz := by
    rw [← hW]
    exact alloc_at (by simp)
  clear hW
  refine (HF.out _).mono ?_
  rintro e W1 ⟨rfl, hb⟩
  have qz1 := rowk qz hb rfl
  have hB1 := below_of hB0 hb hB0.size
  clear hb hB0 qz
  unfold oz at qz1
  have z_c := fun j => cell_of_row W1 _ j _ _ _ qz1
  have z_f := fun j => frozen_of_row W1 _ j _ _ qz1
  go_wp2_with fail
  have qr := set6a (.int .i64 (rowv (sf x y f 0))) (.int .i64 (rowv (sf x y f 1))) (.int .i64 (rowv (sf x y f 2))) (.int .i64 (rowv (sf x y f 3))) (.int .i64 (rowv (sf x y f 4))) (.int .i64 (rowv (sf x y f 5))) qz1
  have hB2 := below6 (v0 := .int .i64 (rowv (sf x y f 0))) (v1 := .int .i64 (rowv (sf x y f 1))) (v2 := .int .i64 (rowv (sf x y f 2))) (v3 := .int .i64 (rowv (sf x y f 3))) (v4 := .int .i64 (rowv (sf x y f 4))) (v5 := .int .i64 (rowv (sf x y f 5))) hB1 (show w.heap.size ≤ w.heap.size + 1 by omega)
  clear z_c z_f qz1 hB1
  generalize (World.setCell _ _ _ : World) = X at qr hB2 ⊢
  have x_c := fun j => cell_of_row X _ j _ _ _ qr
  exact bodyPost_ret (v := .agg #[.int .i64 (rowv (sf x y f 0)), .int .i64 (rowv (sf x y f 1)), .int .i64 (rowv (sf x y f 2)), .int .i64 (rowv (sf x y f 3)), .int .i64 (rowv (sf x y f 4)), .int .i64 (rowv (sf x y f 5))]) (by simp [results, Try.results95, go_sem, x_c]) rfl ⟨rfl, hB2⟩
set_option maxHeartbeats 1000000 in
theorem scell_f (k : Int) (f : Nat → Nat → Bool) {x y : Nat} (hx : x < 6) (hy : y < 6) (w : World) : Calls Try.prog 86 #[.agg #[.int .i64 k, .int .i64 (rowv (f 0)), .int .i64 (rowv (f 1)), .int .i64 (rowv (f 2)), .int .i64 (rowv (f 3)), .int .i64 (rowv (f 4)), .int .i64 (rowv (f 5)), .int .i64 (x : Int), .int .i64 (y : Int)]] w fun e w' => e = .returned (.agg #[.int .i64 (rowv (sf x y f 0)), .int .i64 (rowv (sf x y f 1)), .int .i64 (rowv (sf x y f 2)), .int .i64 (rowv (sf x y f 3)), .int .i64 (rowv (sf x y f 4)), .int .i64 (rowv (sf x y f 5))]) ∧ Below w.heap.size w w' := by
  have HF := Lib.hid (l2at_n f hx hy)
  go_enter Try.func86, Try.ntmps86
  go_wp2_with fail
  generalize hW : (World.alloc _ _ : World) = W0
  have hB0 : Below w.heap.size w W0 := by rw [← hW]; (repeat (first | exact Below.refl _ _ | assumption | refine Below.setCell ?_ (by first | (simp; done) | (simp; omega)) _ | refine Below.alloc ?_ (by first | (simp; done) | (simp; omega)) _ | refine Below.drew ?_))
  have qz : W0.heap[(w.heap.size + 1 : Nat)]? = some oz := by
    rw [← hW]
    exact alloc_at (by simp)
  clear hW
  refine (HF.out _).mono ?_
  rintro e W1 ⟨rfl, hb⟩
  have qz1 := rowk qz hb rfl
  have hB1 := below_of hB0 hb hB0.size
  clear hb hB0 qz
  unfold oz at qz1
  have z_c := fun j => cell_of_row W1 _ j _ _ _ qz1
  have z_f := fun j => frozen_of_row W1 _ j _ _ qz1
  go_wp2_with fail
  have qr := set6a (.int .i64 (rowv (sf x y f 0))) (.int .i64 (rowv (sf x y f 1))) (.int .i64 (rowv (sf x y f 2))) (.int .i64 (rowv (sf x y f 3))) (.int .i64 (rowv (sf x y f 4))) (.int .i64 (rowv (sf x y f 5))) qz1
  have hB2 := below6 (v0 := .int .i64 (rowv (sf x y f 0))) (v1 := .int .i64 (rowv (sf x y f 1))) (v2 := .int .i64 (rowv (sf x y f 2))) (v3 := .int .i64 (rowv (sf x y f 3))) (v4 := .int .i64 (rowv (sf x y f 4))) (v5 := .int .i64 (rowv (sf x y f 5))) hB1 (show w.heap.size ≤ w.heap.size + 1 by omega)
  clear z_c z_f qz1 hB1
  generalize (World.setCell _ _ _ : World) = X at qr hB2 ⊢
  have x_c := fun j => cell_of_row X _ j _ _ _ qr
  exact bodyPost_ret (v := .agg #[.int .i64 (rowv (sf x y f 0)), .int .i64 (rowv (sf x y f 1)), .int .i64 (rowv (sf x y f 2)), .int .i64 (rowv (sf x y f 3)), .int .i64 (rowv (sf x y f 4)), .int .i64 (rowv (sf x y f 5))]) (by simp [results, Try.results86, go_sem, x_c]) rfl ⟨rfl, hB2⟩

/-- The picture behind the first p cells of a print of the ink k on the sheet G. -/
def mp8 (m : Nat → Int) (k : Int) (G : Nat → Nat → Bool) (p : Nat) : Nat → Int := fun j => if j < p ∧ G (j / 6) (j % 6) = true then k else m j
theorem mp8_zero (m : Nat → Int) (k : Int) (G : Nat → Nat → Bool) : mp8 m k G 0 = m := by
  funext j
  unfold mp8
  rw [if_neg (by omega)]
theorem mp8_no {m : Nat → Int} {k : Int} {G : Nat → Nat → Bool} {y x : Nat} (hx : x < 6) (h : G y x = false) : mp8 m k G (6 * y + x + 1) = mp8 m k G (6 * y + x) := by
  funext j
  unfold mp8
  by_cases e : j = 6 * y + x
  · subst e
    rw [show (6 * y + x) / 6 = y by omega, show (6 * y + x) % 6 = x by omega, h]
    simp
  · have : (j < 6 * y + x + 1) = (j < 6 * y + x) := by apply propext; omega
    simp only [this]
theorem mp8_yes {m : Nat → Int} {k : Int} {G : Nat → Nat → Bool} {y x : Nat} (hx : x < 6) (h : G y x = true) : mp8 m k G (6 * y + x + 1) = uq (mp8 m k G (6 * y + x)) (y * 6 + x) k := by
  funext j
  unfold mp8 uq
  by_cases e : j = y * 6 + x
  · subst e
    rw [if_pos rfl, if_pos ⟨by omega, by rw [show (y * 6 + x) / 6 = y by omega, show (y * 6 + x) % 6 = x by omega]; exact h⟩]
  · have : (j < 6 * y + x + 1) = (j < 6 * y + x) := by apply propext; omega
    simp only [this]
    rw [if_neg e]
/-- Midway in a print: the picture in block g0, rows known (the print, the answer's block, the sheet). -/
def Rn8 (w : World) (T : TypeId) (m : Nat → Int) (rows : List (Nat × Obj)) (U : World) : Prop := U.heap[w.heap.size]? = some (pb T m) ∧ (∀ p ∈ rows, p.1 ≠ w.heap.size ∧ p.1 < U.heap.size ∧ U.heap[p.1]? = some p.2) ∧ Below w.heap.size w U ∧ w.heap.size < U.heap.size
theorem Rn8.below {w U V : World} {T : TypeId} {m : Nat → Int} {rows : List (Nat × Obj)} {M : Nat} (h : Rn8 w T m rows U) (hb : Below M U V) (hM : M = U.heap.size) : Rn8 w T m rows V :=
  ⟨rowk h.1 hb hM, fun p hp => ⟨(h.2.1 p hp).1, Nat.lt_of_lt_of_le (h.2.1 p hp).2.1 hb.size, rowk (h.2.1 p hp).2.2 hb hM⟩, below_of h.2.2.1 hb (by have := h.2.2.2; omega), Nat.lt_of_lt_of_le h.2.2.2 hb.size⟩
theorem Rn8.put {w U : World} {T : TypeId} {m : Nat → Int} {rows : List (Nat × Obj)} {j : Nat} (v : Int) (hj : j < 36) (h : Rn8 w T m rows U) : Rn8 w T (uq m j v) rows (U.setCell ⟨w.heap.size, j, none⟩ (.int .i64 v)) :=
  ⟨pb_set v hj h.1, fun p hp => ⟨(h.2.1 p hp).1, by simpa using (h.2.1 p hp).2.1, by rw [Below.heap_setCell _ _ _ _ (h.2.1 p hp).1]; exact (h.2.1 p hp).2.2⟩, h.2.2.1.setCell (Nat.le_refl _) _, by simpa using h.2.2.2⟩
theorem Rn8.row {w U : World} {T : TypeId} {m : Nat → Int} {rows : List (Nat × Obj)} {g : Nat} {o : Obj} (h : Rn8 w T m rows U) (hm : (g, o) ∈ rows) : U.heap[g]? = some o := (h.2.1 _ hm).2.2
/-- A print's box. -/
def pr9 (k : Int) (f : Nat → Nat → Bool) (x y : Nat) : Obj := .cells #[.int .i64 k, .int .i64 (rowv (f 0)), .int .i64 (rowv (f 1)), .int .i64 (rowv (f 2)), .int .i64 (rowv (f 3)), .int .i64 (rowv (f 4)), .int .i64 (rowv (f 5)), .int .i64 (x : Int), .int .i64 (y : Int)] 38 (0, 0)
set_option maxRecDepth 8000 in
set_option maxHeartbeats 1000000 in
theorem smade_f (m : Nat → Int) (k : Int) (f : Nat → Nat → Bool) {x y : Nat} (hx : x < 6) (hy : y < 6) (w : World) : Calls Try.prog 93 #[pv m, .agg #[.int .i64 k, .int .i64 (rowv (f 0)), .int .i64 (rowv (f 1)), .int .i64 (rowv (f 2)), .int .i64 (rowv (f 3)), .int .i64 (rowv (f 4)), .int .i64 (rowv (f 5)), .int .i64 (x : Int), .int .i64 (y : Int)]] w fun e w' => e = .returned (pv (mp8 m k (sf x y f) 36)) ∧ Below w.heap.size w w' := by
  have HS := Lib.hid (scell_f k f hx hy)
  have HG := Lib.hid (fun (j i : Nat) (hj : j < 6) (hi : i < 6) => get_f (sf x y f) hj hi)
  generalize sf x y f = G at HG HS ⊢
  go_enter Try.func93, Try.ntmps93
  go_wp2_with ((with_reducible refine wpB36 m ?_ ?_); rfl)
  generalize hW : (World.alloc _ _ : World) = W1
  have K0 : Rn8 w 27 m [(w.heap.size + 1, pr9 k f x y), (w.heap.size + 1 + 1, pb 27 fun _ => 0)] W1 := by
    rw [← hW]
    refine ⟨alloc_past (alloc_past (alloc_at rfl)), ?_, by (repeat (first | exact Below.refl _ _ | assumption | refine Below.setCell ?_ (by first | (simp; done) | (simp; omega)) _ | refine Below.alloc ?_ (by first | (simp; done) | (simp; omega)) _ | refine Below.drew ?_)), by simp; omega⟩
    intro p hp
    simp only [List.mem_cons, List.mem_nil_iff, or_false] at hp
    rcases hp with rfl | rfl
    · exact ⟨by simp, by simp, alloc_past (alloc_at (by simp))⟩
    · exact ⟨by simp; omega, by simp, alloc_at (by simp)⟩
  clear hW
  have hr := K0.row (g := w.heap.size + 1) (o := pr9 k f x y) (by simp)
  have a_c := fun j => cell_of_row W1 _ j _ _ _ hr
  clear hr
  go_wp2_with fail
  refine (HS.out _).mono ?_
  rintro e W2 ⟨rfl, hb⟩
  have K1 := K0.below hb rfl
  clear hb K0 a_c
  go_wp2_with fail
  have S0 : Hid (Rn8 w 27 (mp8 m k G (6 * 0)) [(W2.heap.size, o6 G), (w.heap.size + 1, pr9 k f x y), (w.heap.size + 1 + 1, pb 27 fun _ => 0)] (W2.alloc (o6 G))) := by
    have K2 := K1.below (M := W2.heap.size) ((Below.refl _ _).alloc (Nat.le_refl _) (o6 G)) rfl
    have hne := K1.2.2.2
    rw [Nat.mul_zero, mp8_zero]
    refine Lib.hid ⟨K2.1, ?_, K2.2.2⟩
    intro p hp
    rcases List.mem_cons.mp hp with rfl | hp
    · exact ⟨by simp; omega, by simp, alloc_at rfl⟩
    · exact K2.2.1 p hp
  unfold o6 at S0
  generalize (World.alloc _ _ : World) = W3 at S0 ⊢
  generalize W2.heap.size = gs at S0 ⊢
  change Hid (Rn8 w _ _ [(gs, o6 G), _, _] W3) at S0
  clear K1
  go_loopw [6] (fun c wr => ∃ j : Nat, j ≤ 6 ∧ c = .int .i64 j ∧ Hid (Rn8 w 27 (mp8 m k G (6 * j)) [(gs, o6 G), (w.heap.size + 1, pr9 k f x y), (w.heap.size + 1 + 1, pb 27 fun _ => 0)] wr)) (fun c _ => 6 - (intOf c).toNat)
  case atStart => exact ⟨0, by omega, rfl, S0⟩
  case round =>
    obtain ⟨j, hj, rfl, HS⟩ := hrel
    by_cases hlt : j < 6
    · have hlt' : (j : Int) < 6 := by omega
      have hlt2 : decide ((j : Int) < 6) = true := decide_eq_true hlt'
      go_wp2_with fail
      try rw [hlt2]
      clear hlt2
      go_loopw [7] (fun c wr => ∃ i : Nat, i ≤ 6 ∧ c = .int .i64 i ∧ Hid (Rn8 w 27 (mp8 m k G (6 * j + i)) [(gs, o6 G), (w.heap.size + 1, pr9 k f x y), (w.heap.size + 1 + 1, pb 27 fun _ => 0)] wr)) (fun c _ => 6 - (intOf c).toNat)
      case atStart => exact ⟨0, by omega, rfl, HS⟩
      case round =>
        obtain ⟨i, hi6, rfl, HT⟩ := hrel
        by_cases hli : i < 6
        · have hli' : (i : Int) < 6 := by omega
          have hj0 : (0 : Int) ≤ j := by omega
          have hi0 : (0 : Int) ≤ i := by omega
          have HG2 := Lib.hid (HG.out j i hlt hli)
          have hr := HT.out.row (g := gs) (o := o6 G) (by simp)
          have g_c := fun j => cell_of_row wr _ j _ _ _ hr
          clear hr
          go_wp2_with fail
          refine (HG2.out _).mono ?_
          rintro e W4 ⟨rfl, hb⟩
          have HE := Lib.hid (HT.out.below hb rfl)
          clear hb HT g_c HG2
          cases hg : G j i
          · have e1 := Lib.hid (mp8_no (m := m) (k := k) hli hg)
            clear hg
            go_wp2_with fail
            go_roundw
            case rel => exact ⟨i + 1, by omega, by go_num, by rw [show 6 * j + (i + 1) = 6 * j + i + 1 by omega, e1.out]; exact HE⟩
            case measure => simp [intOf]; omega
          · have e1 := Lib.hid (mp8_yes (m := m) (k := k) hli hg)
            clear hg
            have HD := Lib.hid ((HE.out.below (M := W4.heap.size) (Below.refl _ _).drew rfl).put k (show j * 6 + i < 36 by omega))
            have hr := HE.out.row (g := w.heap.size + 1) (o := pr9 k f x y) (by simp)
            have a_c := fun j => cell_of_row W4 _ j _ _ _ hr
            have p_c := pb_cell HE.out.1 (j * 6 + i)
            rw [if_pos (by omega)] at p_c
            have p_f := fun j => pb_frozen HE.out.1 j
            clear hr
            go_wp2_with fail
            refine wp_region_still_tail 7 (by kernel_rfl) (by kernel_rfl) ?_
            simp only [List.take_succ_cons, List.take_zero, List.drop_succ_cons, List.drop_zero]
            repeat still_step
            refine wpStill_nil ?_
            change wpList _ _ _ _ _ W4.drew
            go_wp2_with fail
            clear a_c p_c p_f HE
            go_roundw
            case rel => exact ⟨i + 1, by omega, by go_num, by rw [show 6 * j + (i + 1) = 6 * j + i + 1 by omega, e1.out]; exact HD⟩
            case measure => simp [intOf]; omega
        · obtain rfl : i = 6 := by omega
          go_wp2_with fail
          go_roundw
          case rel => exact ⟨j + 1, by omega, by go_num, Lib.hid HT.out⟩
          case measure => simp [intOf]; omega
    · obtain rfl : j = 6 := by omega
      have h1 := Lib.hid HS.out.1
      have h2 := Lib.hid (HS.out.row (g := w.heap.size + 1 + 1) (o := pb 27 fun _ => 0) (by simp))
      have hB0 := Lib.hid HS.out.2.2.1
      clear HS S0
      obtain ⟨q, hq⟩ : ∃ q, q = mp8 m k G (6 * 6) := ⟨_, rfl⟩
      rw [← hq] at h1
      have HQ := Lib.hid hq
      clear hq
      go_wp2_with (first | ((with_reducible refine wpL36 w.heap.size 27 q h1.out _ Try.underlying27 ?_ ?_ ?_ ?_); rfl; rfl; kernel_rfl) | ((with_reducible refine wpS36 (w.heap.size + 1 + 1) q 27 _ h2.out ?_ ?_ ?_ ?_); rfl; rfl; kernel_rfl))
      have hr := pb_sets q h2.out
      have hB := setCells_below (b := w.heap.size + 1 + 1) (cs36 q) 0 hB0.out (by omega)
      generalize (World.setCells _ _ _ _ : World) = X at hr hB ⊢
      exact bodyPost_ret (v := pv q) (res36 (a := 4) (t := 27) rfl rfl (run_load36 hr 27 _ Try.underlying27 rfl (by kernel_rfl))) rfl ⟨by have e := HQ.out; subst e; rfl, hB⟩
end Go.Proofs.Ytcjomhjgjdjigaa
