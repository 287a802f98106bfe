/- CONTRACTS: the map of images in the code. -/
import Derived.Test.YtkobgklpcpoglaaIm
import Derived.Maps.OwnOps
import Derived.Test.YtkobgklpcpoglaaKu
import Derived.Deep.RegionHeld3
import Derived.WalkKit
import Derived.ProofKit
import Derived.OpenShut
import Derived.Lib.Hide
import Derived.WalkSpells
import Derived.Below
import Derived.BigQuiet
import Derived.LoopN
namespace Go.Proofs.Ytkobgklpcpoglaa
open Go.ChangeShapes Go.WideShapes Go.ChangeAt Go.RowKit
set_option linter.unusedVariables false
open Go.Maps
theorem run_makeMap2 (n : Int) (w : World) : (Instr.makeMap 152 (some (.int .i64 n))).run Try.prog w = .ok (.map (some w.heap.size)) (w.alloc (.map #[] 0)) := by kernel_rfl
/-- All of a list are motions. -/
def Mos (l : List (Nat × Nat × Nat)) : Prop := ∀ c ∈ l, c.1 < 8 ∧ c.2.1 < 6 ∧ c.2.2 < 6
/-- Midway: the sheet, the motions' row, and the map of the images of the first i motions. -/
def Io (w : World) (f : Nat → Nat → Bool) (l : List (Nat × Nat × Nat)) (g cap i : Nat) (W : World) : Prop :=
  W.heap[w.heap.size]? = some (.cells #[.int .i64 (rowv (f 0)), .int .i64 (rowv (f 1)), .int .i64 (rowv (f 2)), .int .i64 (rowv (f 3)), .int .i64 (rowv (f 4)), .int .i64 (rowv (f 5))] 25 (0, 0)) ∧ W.ownsRow 0 62 3 (.slice (some ⟨g, 0, none⟩) l.length cap) l.length (tv l) ∧ Below w.heap.size w W ∧ w.heap.size + 2 ≤ W.heap.size ∧ ∃ D, W.ownsMap Try.prog 62 RV (w.heap.size + 1) i D ∧ Imgs f (l.take i) D
theorem Io.below {w W W' : World} {f : Nat → Nat → Bool} {l : List (Nat × Nat × Nat)} {g cap i N : Nat} (h : Io w f l g cap i W) (hb : Below N W W') (hN : N = W.heap.size) : Io w f l g cap i W' := by
  obtain ⟨h1, h2, h3, h4, D, h5, h6⟩ := h
  exact ⟨rowk h1 hb hN, h2.kept (grown_below hb hN) (.inr (by simp [Value.ownBlock])), below_of h3 hb (by omega), Nat.le_trans h4 hb.size, D, h5.kept (grown_below hb hN) (by simp), h6⟩
theorem Io.map {w W : World} {f : Nat → Nat → Bool} {l : List (Nat × Nat × Nat)} {g cap i : Nat} (h : Io w f l g cap i W) : ∃ D : DataW Value, W.ownsMap Try.prog 62 RV (w.heap.size + 1) i D ∧ Imgs f (l.take i) D := h.2.2.2.2
theorem Io.size {w W : World} {f : Nat → Nat → Bool} {l : List (Nat × Nat × Nat)} {g cap i : Nat} (h : Io w f l g cap i W) : w.heap.size + 2 ≤ W.heap.size := h.2.2.2.1
theorem Io.put {w W W' : World} {f : Nat → Nat → Bool} {l : List (Nat × Nat × Nat)} {g cap i : Nat} {D : DataW Value} {kl : Lit} (h : Io w f l g cap i W) (hi : i < l.length) (hg : g < w.heap.size) (hI : Imgs f (l.take i) D) (hk : keyOf Try.prog 62 (mkey (l[i]).1 (l[i]).2.1 (l[i]).2.2) = some kl) (ho : W'.ownsMap Try.prog 62 RV (w.heap.size + 1) (i + 1) (D.put kl (.held (img f l[i])))) (hgr : W.grownBy W' (some (w.heap.size + 1))) : Io w f l g cap (i + 1) W' := by
  obtain ⟨h1, h2, h3, h4, _⟩ := h
  refine ⟨?_, h2.kept hgr (.inr (by simp [Value.ownBlock]; omega)), h3.grown hgr (by omega) (fun k hk => by cases hk; omega), Nat.le_trans h4 hgr.size, _, ho, ?_⟩
  · rw [hgr.block _ (by omega) (by simp)]; exact h1
  · rw [List.take_add_one, List.getElem?_eq_getElem hi]
    exact hI.put hk
theorem Io.upd {w W : World} {f : Nat → Nat → Bool} {l : List (Nat × Nat × Nat)} {g cap i : Nat} (h : Io w f l g cap i W) (hi : i < l.length) (hl : l.length ≤ 600) (hg : g < w.heap.size) {kl : Lit} (hk : keyOf Try.prog 62 (mkey (l[i]).1 (l[i]).2.1 (l[i]).2.2) = some kl) : ∃ w2, (Instr.mapUpdate 152 (.map (some (w.heap.size + 1))) (mkey (l[i]).1 (l[i]).2.1 (l[i]).2.2) (img f l[i])).run Try.prog W = .ok () w2 ∧ Io w f l g cap (i + 1) w2 ∧ W.grownBy w2 (some (w.heap.size + 1)) := by
  obtain ⟨D, hD1, hD2⟩ := h.map
  obtain ⟨w2, hrun, ho, hgr⟩ := hD1.update keyed67 Try.underlying152 (by unfold maxLen; omega) hk (val := img f l[i]) (d := .held (img f l[i])) (ps := []) rfl
  exact ⟨w2, hrun, h.put hi hg hD2 hk ho hgr, hgr⟩
def IoPost (f : Nat → Nat → Bool) (l : List (Nat × Nat × Nat)) (g cap : Nat) (w : World) (e : Ending) (w' : World) : Prop := ∃ b D, e = .returned (.map (some b)) ∧ w.heap.size ≤ b ∧ w'.ownsMap Try.prog 62 RV b l.length D ∧ Imgs f l D ∧ Below w.heap.size w w'
set_option maxHeartbeats 4000000 in
theorem images_f (f : Nat → Nat → Bool) (l : List (Nat × Nat × Nat)) (hm : Mos l) (hl : l.length ≤ 600) (B g cap : Nat) (w : World) (hg : g < w.heap.size) (ho : w.ownsRow B 62 3 (.slice (some ⟨g, 0, none⟩) l.length cap) l.length (tv l)) : Calls Try.prog 181 #[.agg #[.int .i64 (rowv (f 0)), .int .i64 (rowv (f 1)), .int .i64 (rowv (f 2)), .int .i64 (rowv (f 3)), .int .i64 (rowv (f 4)), .int .i64 (rowv (f 5))], .slice (some ⟨g, 0, none⟩) l.length cap] w (IoPost f l g cap w) := by
  have HO := Lib.hid ho
  have HM := Lib.hid hm
  have hmm := run_makeMap2
  clear ho hm
  go_enter Try.func181, Try.ntmps181
  go_wp2_with fail
  have S0 : Hid (Io w f l g cap 0 ((w.alloc (.cells #[.int .i64 (rowv (f 0)), .int .i64 (rowv (f 1)), .int .i64 (rowv (f 2)), .int .i64 (rowv (f 3)), .int .i64 (rowv (f 4)), .int .i64 (rowv (f 5))] 25)).alloc (.map #[] 0))) := Lib.hid (by
    refine ⟨alloc_past (alloc_at rfl), own_mono (kept_alloc (kept_alloc HO.out _) _) (Nat.zero_le _), by (repeat (first | exact Below.refl _ _ | assumption | refine Below.setCell ?_ (by first | (simp; done) | (simp; omega)) _ | refine Below.alloc ?_ (by first | (simp; done) | (simp; omega)) _ | refine Below.drew ?_)), by simp, .map [], ?_, ⟨⟨[], rfl⟩, fun c hc => by simp at hc⟩⟩
    have h := World.ownsMap_made (w.alloc (.cells #[.int .i64 (rowv (f 0)), .int .i64 (rowv (f 1)), .int .i64 (rowv (f 2)), .int .i64 (rowv (f 3)), .int .i64 (rowv (f 4)), .int .i64 (rowv (f 5))] 25)) Try.prog 62 RV
    rw [show (w.alloc (.cells #[.int .i64 (rowv (f 0)), .int .i64 (rowv (f 1)), .int .i64 (rowv (f 2)), .int .i64 (rowv (f 3)), .int .i64 (rowv (f 4)), .int .i64 (rowv (f 5))] 25)).heap.size = w.heap.size + 1 by simp] at h
    exact h)
  clear HO
  generalize (World.alloc _ _ : World) = W0 at S0 ⊢
  go_loopw [13] (fun c wr => ∃ i : Nat, i ≤ l.length ∧ c = .int .i64 i ∧ Hid (Io w f l g cap i wr)) (fun c _ => l.length - (intOf c).toNat)
  case atStart => exact ⟨0, by omega, rfl, S0⟩
  case round =>
    obtain ⟨i, hi, rfl, HS⟩ := hrel
    by_cases hlt : i < l.length
    · have hlt' : (i : Int) < l.length := by omega
      have hi0 : (0 : Int) ≤ i := by omega
      have hi2 : i ≤ 600 := by omega
      obtain ⟨p1, p2, p3⟩ := tv_at l i hlt
      have a1 := own_at HS.out.2.1 p1
      have a2 := own_at HS.out.2.1 p2
      have a3 := own_at HS.out.2.1 p3
      clear p1 p2 p3
      obtain ⟨m1, m2, m3⟩ := HM.out _ (List.getElem_mem hlt)
      have HF := Lib.hid (moved_f f m1 m2 m3)
      obtain ⟨kl, hk⟩ := key_some m1 m2 m3
      have hpt : ∀ W, Io w f l g cap i W → ∃ w2, (Instr.mapUpdate 152 (.map (some (w.heap.size + 1))) (mkey (l[i]).1 (l[i]).2.1 (l[i]).2.2) (img f l[i])).run Try.prog W = .ok () w2 ∧ Io w f l g cap (i + 1) w2 ∧ W.grownBy w2 (some (w.heap.size + 1)) := fun W h => h.upd hlt hl hg hk
      generalize l[i] = c at a1 a2 a3 HF hk hpt
      obtain ⟨ck, cx, cy⟩ := c
      have HK := Lib.hid hk
      simp only [mkey, img] at hpt
      have HP := Lib.hid hpt
      clear m1 m2 m3 hk hpt
      go_wp2_with fail
      have HA := Lib.hid (HS.out.below (N := wr.heap.size) ((Below.refl _ _).alloc (Nat.le_refl _) (.cells #[.int .i64 (ck : Int), .int .i64 (cx : Int), .int .i64 (cy : Int)] 62)) rfl)
      have hc : (wr.alloc (.cells #[.int .i64 (ck : Int), .int .i64 (cx : Int), .int .i64 (cy : Int)] 62)).heap[wr.heap.size]? = some (.cells #[.int .i64 (ck : Int), .int .i64 (cx : Int), .int .i64 (cy : Int)] 62 (0, 0)) := alloc_at rfl
      have hgc := HS.out.size
      clear a1 a2 a3 HS
      generalize (World.alloc _ _ : World) = W1 at HA hc ⊢
      generalize wr.heap.size = gc at hc hgc ⊢
      have c0 : W1.cell? ⟨gc, 0, none⟩ = some (.int .i64 (ck : Int)) := cell_of_row W1 _ 0 _ _ _ hc
      have c1 : W1.cell? ⟨gc, 1, none⟩ = some (.int .i64 (cx : Int)) := cell_of_row W1 _ 1 _ _ _ hc
      have c2 : W1.cell? ⟨gc, 2, none⟩ = some (.int .i64 (cy : Int)) := cell_of_row W1 _ 2 _ _ _ hc
      have s0 : W1.cell? ⟨w.heap.size, 0, none⟩ = some (.int .i64 (rowv (f 0))) := cell_of_row W1 _ 0 _ _ _ HA.out.1
      have s1 : W1.cell? ⟨w.heap.size, 1, none⟩ = some (.int .i64 (rowv (f 1))) := cell_of_row W1 _ 1 _ _ _ HA.out.1
      have s2 : W1.cell? ⟨w.heap.size, 2, none⟩ = some (.int .i64 (rowv (f 2))) := cell_of_row W1 _ 2 _ _ _ HA.out.1
      have s3 : W1.cell? ⟨w.heap.size, 3, none⟩ = some (.int .i64 (rowv (f 3))) := cell_of_row W1 _ 3 _ _ _ HA.out.1
      have s4 : W1.cell? ⟨w.heap.size, 4, none⟩ = some (.int .i64 (rowv (f 4))) := cell_of_row W1 _ 4 _ _ _ HA.out.1
      have s5 : W1.cell? ⟨w.heap.size, 5, none⟩ = some (.int .i64 (rowv (f 5))) := cell_of_row W1 _ 5 _ _ _ HA.out.1
      clear hc
      have k0 : (fun U => U.cell? ⟨gc, 0, none⟩ = some (.int .i64 (ck : Int)) ∧ U.cell? ⟨gc, 1, none⟩ = some (.int .i64 (cx : Int)) ∧ U.cell? ⟨gc, 2, none⟩ = some (.int .i64 (cy : Int)) ∧ U.cell? ⟨w.heap.size, 0, none⟩ = some (.int .i64 (rowv (f 0))) ∧ U.cell? ⟨w.heap.size, 1, none⟩ = some (.int .i64 (rowv (f 1))) ∧ U.cell? ⟨w.heap.size, 2, none⟩ = some (.int .i64 (rowv (f 2))) ∧ U.cell? ⟨w.heap.size, 3, none⟩ = some (.int .i64 (rowv (f 3))) ∧ U.cell? ⟨w.heap.size, 4, none⟩ = some (.int .i64 (rowv (f 4))) ∧ U.cell? ⟨w.heap.size, 5, none⟩ = some (.int .i64 (rowv (f 5))) ∧ Below w.heap.size w U) W1 := ⟨c0, c1, c2, s0, s1, s2, s3, s4, s5, HA.out.2.2.1⟩
      dsimp only at k0
      have HD := Lib.hid (HA.out.below (N := W1.heap.size) (Below.refl _ _).drew rfl)
      clear c0 c1 c2 s0 s1 s2 s3 s4 s5 HA hmm
      set_option maxRecDepth 8000 in
      go_region_held3 (fun U => U.cell? ⟨gc, 0, none⟩ = some (.int .i64 (ck : Int)) ∧ U.cell? ⟨gc, 1, none⟩ = some (.int .i64 (cx : Int)) ∧ U.cell? ⟨gc, 2, none⟩ = some (.int .i64 (cy : Int)) ∧ U.cell? ⟨w.heap.size, 0, none⟩ = some (.int .i64 (rowv (f 0))) ∧ U.cell? ⟨w.heap.size, 1, none⟩ = some (.int .i64 (rowv (f 1))) ∧ U.cell? ⟨w.heap.size, 2, none⟩ = some (.int .i64 (rowv (f 2))) ∧ U.cell? ⟨w.heap.size, 3, none⟩ = some (.int .i64 (rowv (f 3))) ∧ U.cell? ⟨w.heap.size, 4, none⟩ = some (.int .i64 (rowv (f 4))) ∧ U.cell? ⟨w.heap.size, 5, none⟩ = some (.int .i64 (rowv (f 5))) ∧ Below w.heap.size w U) (first | with_reducible exact drewc9 k0 | with_reducible assumption | (with_reducible refine keepgg9 ?_ (by with_reducible assumption) ⟨by omega, by omega, by omega, by omega, by omega, by omega, by omega, by omega, by omega⟩ (by omega) (by omega); with_reducible assumption)) (first | (go_at_call 162; with_reducible refine (HF.out _).mono ?_; rintro e w' ⟨rfl, hb'⟩; have hk := keepc9 (by with_reducible assumption) hb' rfl; have HE := Lib.hid (HD.out.below hb' rfl); have hsz := Io.size HE.out; obtain ⟨w2, hrun, ho2, hg2⟩ := HP.out _ HE.out; have HI2 := Lib.hid ho2; clear ho2))
      all_goals
        clear k0 hk hrun hg2 hsz HE HD hb'
        go_wp2_with fail
        go_roundw
        case rel => exact ⟨i + 1, by omega, by go_num, HI2⟩
        case measure => simp [intOf]; omega
    · obtain rfl : i = l.length := by omega
      obtain ⟨_, _, h3, _, D, h5, h6⟩ := HS.out
      have H3 := Lib.hid h3
      have H5 := Lib.hid h5
      have H6 := Lib.hid h6
      clear h3 h5 h6 hmm
      go_wp2_with fail
      go_ret
      exact ⟨_, D, rfl, by omega, H5.out, by rw [← List.take_length (l := l)]; exact H6.out, H3.out⟩
end Go.Proofs.Ytkobgklpcpoglaa
