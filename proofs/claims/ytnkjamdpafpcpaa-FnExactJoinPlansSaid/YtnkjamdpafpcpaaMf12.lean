/- MERGED, for one claim's sake: Ad11, Ae11, Rg11. -/
import Derived.Test.YtnkjamdpafpcpaaUn11
import Derived.Test.YtnkjamdpafpcpaaPg11
import Derived.Test.YtnkjamdpafpcpaaRd11
import Derived.Test.YtnkjamdpafpcpaaRw12
import Derived.WalkKit
import Derived.ProofKit
import Derived.OpenShut
import Derived.Lib.Hide
import Derived.WalkSpells
import Derived.Below
import Derived.BigQuiet
import Derived.LoopN
import Derived.Deep.RegionHeld3
import Derived.RegionTactic
namespace Go.Proofs.Ytnkjamdpafpcpaa
open Go.ChangeShapes Go.WideShapes Go.ChangeAt Go.RowKit
set_option linter.unusedVariables false
/- Ad11 -/
theorem form10 {W : World} {B n k : Nat} {e : TypeId} {v : Value} {xs : List Value} (h : W.ownsRow B e k v n xs) (hn : v ≠ .slice none 0 0) : ∃ g c, v = .slice (some ⟨g, 0, none⟩) n c := by
  rcases h.2 with ⟨e1, _⟩ | ⟨g, c, _, e1, _⟩
  · exact absurd e1 hn
  · exact ⟨g, c, e1⟩
theorem sv11_app (l m : List S11) : sv11 (l ++ m) = sv11 l ++ sv11 m := by simp [sv11, List.flatMap_append]
theorem ok_more {f : Fn11} {F : List Fn11} {st mo : List S11} (h : okP (rowv (f 0), rowv (f 1), rowv (f 2), rowv (f 3), rowv (f 4), rowv (f 5)) (F.map t11) (st ++ mo) = true) : (st ++ mo).length ≤ 40 := (okP_parts h).2.2.1
set_option maxRecDepth 20000 in
set_option maxHeartbeats 4000000 in
theorem iadd_yes (f : Fn11) (F : List Fn11) (st : List S11) (g1 c1 g2 c2 : Nat) (hst : st.length ≤ 40) (hF : F.length ≤ 4) (hv : ∀ p ∈ st, okS F.length p = true) (mo : List S11) (g3 c3 : Nat) (hmo : mo.length ≤ 1000) (hwf : ∀ p ∈ st ++ mo, (Lit.int .i64 p.x).wf = true ∧ (Lit.int .i64 p.y).wf = true) (hq : okP (rowv (f 0), rowv (f 1), rowv (f 2), rowv (f 3), rowv (f 4), rowv (f 5)) (F.map t11) (st ++ mo) = true) (w : World) (h1 : w.rangeAt g1 0 (hv11 (F.map t11))) (h2 : w.rangeAt g2 0 (sv11 st)) (h3 : w.rangeAt g3 0 (sv11 mo)) : Calls Try.prog 139 #[.agg #[.int .i64 (rowv (f 0)), .int .i64 (rowv (f 1)), .int .i64 (rowv (f 2)), .int .i64 (rowv (f 3)), .int .i64 (rowv (f 4)), .int .i64 (rowv (f 5)), .slice (some ⟨g1, 0, none⟩) F.length c1, .slice (some ⟨g2, 0, none⟩) st.length c2], .slice (some ⟨g3, 0, none⟩) mo.length c3] w (TP11 (rowv (f 0)) (rowv (f 1)) (rowv (f 2)) (rowv (f 3)) (rowv (f 4)) (rowv (f 5)) (F.map t11) (st ++ mo) true w) := by
  have hn4 : (F.map t11).length = F.length := List.length_map t11
  have HP := Lib.hid (fun W a b => iplan_11 (rowv (f 0)) (rowv (f 1)) (rowv (f 2)) (rowv (f 3)) (rowv (f 4)) (rowv (f 5)) (F.map t11) st g1 c1 g2 c2 (by rw [hn4]; omega) (by omega) (wfs_of hv) W a b)
  rw [show okP (rowv (f 0), rowv (f 1), rowv (f 2), rowv (f 3), rowv (f 4), rowv (f 5)) (F.map t11) st = true from okP_of (f := f) hF hst hv, hn4] at HP
  have HHV := Lib.hid (fun W a b => ihav_11 (rowv (f 0)) (rowv (f 1)) (rowv (f 2)) (rowv (f 3)) (rowv (f 4)) (rowv (f 5)) (.slice (some ⟨g2, 0, none⟩) st.length c2) (F.map t11) st g1 c1 g2 c2 (by rw [hn4]; omega) (by omega) W a b)
  rw [hn4] at HHV
  have HP2 := Lib.hid (fun (ga ka gn kn : Nat) W a b => iplan_11 (rowv (f 0)) (rowv (f 1)) (rowv (f 2)) (rowv (f 3)) (rowv (f 4)) (rowv (f 5)) (F.map t11) (st ++ mo) ga ka gn kn (by rw [hn4]; omega) (by rw [List.length_append]; omega) hwf W a b)
  rw [hq, hn4, List.length_append] at HP2
  have R1 := Lib.hid h1
  have R2 := Lib.hid h2
  have R3 := Lib.hid h3
  have HFL := Lib.hid hn4
  clear h1 h2 h3 hF hv hn4 hq hwf
  obtain ⟨i0, hi, hz0, hz1, hz2⟩ := infos_steps11
  go_enter Try.func139, Try.ntmps139
  go_wp2_with fail
  generalize hW : (World.alloc _ _ : World) = W0
  have q0 : W0.heap[w.heap.size]? = some (Obj.cells #[.int .i64 (rowv (f 0)), .int .i64 (rowv (f 1)), .int .i64 (rowv (f 2)), .int .i64 (rowv (f 3)), .int .i64 (rowv (f 4)), .int .i64 (rowv (f 5)), .slice (some ⟨g1, 0, none⟩) F.length c1, .slice (some ⟨g2, 0, none⟩) st.length c2] 62 (0, 0)) := by rw [← hW]; exact alloc_past (alloc_at rfl)
  have q1 : W0.heap[w.heap.size + 1]? = some (pz11 62) := by rw [← hW]; exact alloc_at (by simp)
  have hB : Below w.heap.size w W0 := by rw [← hW]; (repeat (first | exact Below.refl _ _ | assumption | refine Below.setCell ?_ (by first | (simp; done) | (simp; omega)) _ | refine Below.alloc ?_ (by first | (simp; done) | (simp; omega)) _ | refine Below.drew ?_))
  have hsz : w.heap.size + 2 ≤ W0.heap.size := by rw [← hW]; simp
  clear hW
  refine (HP.out _ (ra_below R1.out hB rfl) (ra_below R2.out hB rfl)).mono ?_
  rintro e W1 ⟨rfl, hb⟩
  replace q0 := rowk q0 hb rfl
  replace q1 := rowk q1 hb rfl
  replace hB := below_of hB hb (by omega)
  replace hsz := Nat.le_trans hsz hb.size
  clear hb HP
  have a_c := fun j => cell_of_row W1 _ j _ _ _ q0
  go_wp2_with fail
  clear a_c
  refine (HHV.out _ (ra_below R1.out hB rfl) (ra_below R2.out hB rfl)).mono ?_
  rintro e W3 ⟨ga, ka, gb, kb, he, hp, hb⟩
  rw [HFL.out] at he hp
  subst he
  replace q1 := rowk q1 hb rfl
  have hs3 := hb.size
  replace hB := below_of hB hb (by omega)
  clear hb HHV q0
  have q6 : (W3.alloc (.cells #[.int .i64 (rowv (f 0)), .int .i64 (rowv (f 1)), .int .i64 (rowv (f 2)), .int .i64 (rowv (f 3)), .int .i64 (rowv (f 4)), .int .i64 (rowv (f 5)), .slice (some ⟨ga, 0, none⟩) F.length ka, .slice (some ⟨gb, 0, none⟩) st.length kb] 62)).heap[W3.heap.size]? = some (.cells #[.int .i64 (rowv (f 0)), .int .i64 (rowv (f 1)), .int .i64 (rowv (f 2)), .int .i64 (rowv (f 3)), .int .i64 (rowv (f 4)), .int .i64 (rowv (f 5)), .slice (some ⟨ga, 0, none⟩) F.length ka, .slice (some ⟨gb, 0, none⟩) st.length kb] 62 (0, 0)) := alloc_at rfl
  replace hp := hp.st W3 (W3.alloc (.cells #[.int .i64 (rowv (f 0)), .int .i64 (rowv (f 1)), .int .i64 (rowv (f 2)), .int .i64 (rowv (f 3)), .int .i64 (rowv (f 4)), .int .i64 (rowv (f 5)), .slice (some ⟨ga, 0, none⟩) F.length ka, .slice (some ⟨gb, 0, none⟩) st.length kb] 62)) (fun k _ hk => ((Below.refl W3.heap.size W3).alloc (Nat.le_refl _) _).block k hk)
  replace q1 := alloc_past (o := (.cells #[.int .i64 (rowv (f 0)), .int .i64 (rowv (f 1)), .int .i64 (rowv (f 2)), .int .i64 (rowv (f 3)), .int .i64 (rowv (f 4)), .int .i64 (rowv (f 5)), .slice (some ⟨ga, 0, none⟩) F.length ka, .slice (some ⟨gb, 0, none⟩) st.length kb] 62)) q1
  replace hB := hB.alloc (by omega) (.cells #[.int .i64 (rowv (f 0)), .int .i64 (rowv (f 1)), .int .i64 (rowv (f 2)), .int .i64 (rowv (f 3)), .int .i64 (rowv (f 4)), .int .i64 (rowv (f 5)), .slice (some ⟨ga, 0, none⟩) F.length ka, .slice (some ⟨gb, 0, none⟩) st.length kb] 62)
  have hs6 : (W3.alloc (.cells #[.int .i64 (rowv (f 0)), .int .i64 (rowv (f 1)), .int .i64 (rowv (f 2)), .int .i64 (rowv (f 3)), .int .i64 (rowv (f 4)), .int .i64 (rowv (f 5)), .slice (some ⟨ga, 0, none⟩) F.length ka, .slice (some ⟨gb, 0, none⟩) st.length kb] 62)).heap.size = W3.heap.size + 1 := by simp
  have hlo : w.heap.size + 1 < W1.heap.size := by omega
  have R3b := Lib.hid (ra_below R3.out hB rfl)
  have Q6 := Lib.hid q6
  have Q1 := Lib.hid q1
  have HPP := Lib.hid hp
  have HBB := Lib.hid hB
  have HLO := Lib.hid hlo
  have HS3 := Lib.hid hs3
  have HS6 := Lib.hid hs6
  have y_c := fun j => cell_of_row _ _ j _ _ _ q6
  have y_f := fun j => frozen_of_row _ _ j _ _ q6
  clear q6 q1 hp hB hlo hs3 hs6 hsz
  go_wp2_with (at_builtin; go_loud (refine wpList_append_own_at _ rfl _ _ 60 rfl W1.heap.size 73 i0 (.agg #[.int .i64 0, .int .i64 0, .int .i64 0, .int .i64 0]) 4 32 Try.underlying60 hi hz0 hz1 hz2 rfl (by decide) (.slice (some ⟨gb, 0, none⟩) st.length kb) st.length (sv11 st) rfl HPP.out.2.1 ⟨g3, 0, none⟩ mo.length c3 (sv11 mo) rfl (sv11_len mo) (ra_add R3b.out) (sv11_one mo) (by unfold maxLen; omega) (by omega) (by have := HS3.out; have := HS6.out; omega) ?_; intro v' w1 hown hgr hnn hat; have HA2 := Lib.hid (And.intro hown (And.intro hgr hat)); obtain ⟨gn, kn, rfl⟩ := form10 hown (fun e => absurd (hnn.mp e).1 (by simp)); have q7 := (hgr.block W3.heap.size (by have := HS6.out; omega) (fun e => by have := HPP.out.2.2.2.1 W3.heap.size e.symm; omega)).trans Q6.out; have y_c := fun j => cell_of_row w1 _ j _ _ _ q7; have y_f := fun j => frozen_of_row w1 _ j _ _ q7; have Q7 := Lib.hid q7; clear hown hgr hnn hat q7))
  clear y_c y_f hi hz0 hz1 hz2
  have hga := HPP.out.2.2.1 ga rfl
  have hgb := HPP.out.2.2.2.1 gb rfl
  have hne : ga ≠ gb := fun e => HPP.out.2.2.2.2 ga rfl (by rw [e]; rfl)
  have hgl := HA2.out.1.lt gn rfl
  have hgn : gn ≠ W3.heap.size ∧ ga ≠ gn := by
    rcases HA2.out.2.2 with e | e
    · have e : gn = gb := by simpa [Value.ownBlock] using e
      omega
    · have e : gn = (W3.alloc (.cells #[.int .i64 (rowv (f 0)), .int .i64 (rowv (f 1)), .int .i64 (rowv (f 2)), .int .i64 (rowv (f 3)), .int .i64 (rowv (f 4)), .int .i64 (rowv (f 5)), .slice (some ⟨ga, 0, none⟩) F.length ka, .slice (some ⟨gb, 0, none⟩) st.length kb] 62)).heap.size := by simpa [Value.ownBlock] using e
      have := HS6.out
      omega
  have hg6 := HA2.out.2.1
  have hz6 := HS6.out
  have hl6 := HLO.out
  have hl3 := HS3.out
  have q7 := heap_setCell_same w1 W3.heap.size 7 _ _ (.slice (some ⟨gn, 0, none⟩) (st.length + mo.length) kn) Q7.out
  have q1 : (w1.setCell ⟨W3.heap.size, 7, none⟩ (.slice (some ⟨gn, 0, none⟩) (st.length + mo.length) kn)).heap[w.heap.size + 1]? = some (pz11 62) := by
    rw [Below.heap_setCell _ _ _ _ (show w.heap.size + 1 ≠ W3.heap.size by omega)]
    exact (hg6.block _ (by have := (Array.getElem?_eq_some_iff.1 Q1.out).1; exact this) (fun e => by have := (HPP.out.2.1.lt _ e.symm).1; omega)).trans Q1.out
  have o1 := HPP.out.1.kept hg6 (.inr (by simp [Value.ownBlock]; omega))
  have o1 := own_same (lo := ga) (hi := ga + 1) (V := w1.setCell ⟨W3.heap.size, 7, none⟩ (.slice (some ⟨gn, 0, none⟩) (st.length + mo.length) kn)) o1 (fun k h1 h2 => Below.heap_setCell _ _ _ _ (show k ≠ W3.heap.size by omega)) (fun k hk => by (have : ga = k := (by simpa [Value.ownBlock] using hk)); omega)
  have o2 := own_same (lo := gn) (hi := gn + 1) (V := w1.setCell ⟨W3.heap.size, 7, none⟩ (.slice (some ⟨gn, 0, none⟩) (st.length + mo.length) kn)) HA2.out.1 (fun k h1 h2 => Below.heap_setCell _ _ _ _ (show k ≠ W3.heap.size by omega)) (fun k hk => by (have : gn = k := (by simpa [Value.ownBlock] using hk)); omega)
  rw [← sv11_app] at o2
  have hB : Below w.heap.size w (w1.setCell ⟨W3.heap.size, 7, none⟩ (.slice (some ⟨gn, 0, none⟩) (st.length + mo.length) kn)) := (HBB.out.grown hg6 (by have := HBB.out.size; exact this) (fun k hk => by have := (HPP.out.2.1.lt _ hk).1; omega)).setCell (show w.heap.size ≤ W3.heap.size by omega) _
  have hg1 := hg6.size
  have hlt1 : gn < w1.heap.size := hgl.2
  clear HPP HA2 HBB Q6 Q1 Q7 HS3 HS6 hg6 hgl HLO
  have hsx : (w1.setCell ⟨W3.heap.size, 7, none⟩ (.slice (some ⟨gn, 0, none⟩) (st.length + mo.length) kn)).heap.size = w1.heap.size := by simp
  generalize (World.setCell _ _ _ : World) = X7 at q7 q1 o1 o2 hB hsx ⊢
  refine (HP2.out ga ka gn kn X7 (by have h := o1; rw [HFL.out] at h; exact own_range h) (own_range o2)).mono ?_
  rintro e W8 ⟨rfl, hb⟩
  replace q7 := rowk q7 hb rfl
  replace q1 := rowk q1 hb rfl
  replace o1 := o1.kept (grown_below hb rfl) (.inr (by simp [Value.ownBlock]))
  replace o2 := o2.kept (grown_below hb rfl) (.inr (by simp [Value.ownBlock]))
  have hs8 := hb.size
  replace hB := below_of hB hb (by omega)
  clear hb HP2
  have z_f := fun j => frozen_of_row W8 _ j _ _ q1
  have z_c := fun j => cell_of_row W8 _ j _ _ _ q1
  have y_c := fun j => cell_of_row W8 _ j _ _ _ q7
  have hp : Pr11 W1.heap.size W8.heap.size (.slice (some ⟨ga, 0, none⟩) F.length ka) (.slice (some ⟨gn, 0, none⟩) (st.length + mo.length) kn) (F.map t11) (st ++ mo) W8 := by
    refine ⟨o1, by rw [List.length_append]; exact o2, fun k hk => ?_, fun k hk => ?_, fun k h1 h2 => ?_⟩
    · have : ga = k := by simpa [Value.ownBlock] using hk
      omega
    · have : gn = k := by simpa [Value.ownBlock] using hk
      omega
    · have e1 : ga = k := by simpa [Value.ownBlock] using h1
      have e2 : gn = k := by simpa [Value.ownBlock] using h2
      omega
  have HPP := Lib.hid hp
  have Q1 := Lib.hid q1
  clear q1 q7 o1 o2 hp
  go_wp2_with fail
  clear z_f z_c y_c
  have HF := fun X hX => Lib.hid (box_put11 (w := w) (X := X) (lo := W1.heap.size) (m0 := rowv (f 0)) (m1 := rowv (f 1)) (m2 := rowv (f 2)) (m3 := rowv (f 3)) (m4 := rowv (f 4)) (m5 := rowv (f 5)) Q1.out HPP.out hl6 (by omega) (by omega) hB hX)
  generalize hX : (World.setCell _ _ _ : World) = X
  replace HF := HF X hX
  have x_c := fun j => cell_of_row X _ j _ _ _ HF.out.1
  exact bodyPost_ret (v := .tuple #[.agg #[.int .i64 (rowv (f 0)), .int .i64 (rowv (f 1)), .int .i64 (rowv (f 2)), .int .i64 (rowv (f 3)), .int .i64 (rowv (f 4)), .int .i64 (rowv (f 5)), .slice (some ⟨ga, 0, none⟩) F.length ka, .slice (some ⟨gn, 0, none⟩) (st.length + mo.length) kn], .bool true]) (by simp [results, Try.results139, go_sem, x_c]) rfl ⟨_, _, rfl, HF.out.2⟩

set_option maxRecDepth 20000 in
set_option maxHeartbeats 4000000 in
theorem iadd_bad (f : Fn11) (F : List Fn11) (st : List S11) (g1 c1 g2 c2 : Nat) (hst : st.length ≤ 40) (hF : F.length ≤ 4) (hv : ∀ p ∈ st, okS F.length p = true) (mo : List S11) (g3 c3 : Nat) (hmo : mo.length ≤ 1000) (hwf : ∀ p ∈ st ++ mo, (Lit.int .i64 p.x).wf = true ∧ (Lit.int .i64 p.y).wf = true) (hq : okP (rowv (f 0), rowv (f 1), rowv (f 2), rowv (f 3), rowv (f 4), rowv (f 5)) (F.map t11) (st ++ mo) = false) (w : World) (h1 : w.rangeAt g1 0 (hv11 (F.map t11))) (h2 : w.rangeAt g2 0 (sv11 st)) (h3 : w.rangeAt g3 0 (sv11 mo)) : Calls Try.prog 139 #[.agg #[.int .i64 (rowv (f 0)), .int .i64 (rowv (f 1)), .int .i64 (rowv (f 2)), .int .i64 (rowv (f 3)), .int .i64 (rowv (f 4)), .int .i64 (rowv (f 5)), .slice (some ⟨g1, 0, none⟩) F.length c1, .slice (some ⟨g2, 0, none⟩) st.length c2], .slice (some ⟨g3, 0, none⟩) mo.length c3] w (TP11 0 0 0 0 0 0 [] [] false w) := by
  have hn4 : (F.map t11).length = F.length := List.length_map t11
  have HP := Lib.hid (fun W a b => iplan_11 (rowv (f 0)) (rowv (f 1)) (rowv (f 2)) (rowv (f 3)) (rowv (f 4)) (rowv (f 5)) (F.map t11) st g1 c1 g2 c2 (by rw [hn4]; omega) (by omega) (wfs_of hv) W a b)
  rw [show okP (rowv (f 0), rowv (f 1), rowv (f 2), rowv (f 3), rowv (f 4), rowv (f 5)) (F.map t11) st = true from okP_of (f := f) hF hst hv, hn4] at HP
  have HHV := Lib.hid (fun W a b => ihav_11 (rowv (f 0)) (rowv (f 1)) (rowv (f 2)) (rowv (f 3)) (rowv (f 4)) (rowv (f 5)) (.slice (some ⟨g2, 0, none⟩) st.length c2) (F.map t11) st g1 c1 g2 c2 (by rw [hn4]; omega) (by omega) W a b)
  rw [hn4] at HHV
  have HP2 := Lib.hid (fun (ga ka gn kn : Nat) W a b => iplan_11 (rowv (f 0)) (rowv (f 1)) (rowv (f 2)) (rowv (f 3)) (rowv (f 4)) (rowv (f 5)) (F.map t11) (st ++ mo) ga ka gn kn (by rw [hn4]; omega) (by rw [List.length_append]; omega) hwf W a b)
  rw [hq, hn4, List.length_append] at HP2
  have R1 := Lib.hid h1
  have R2 := Lib.hid h2
  have R3 := Lib.hid h3
  have HFL := Lib.hid hn4
  clear h1 h2 h3 hF hv hn4 hq hwf
  obtain ⟨i0, hi, hz0, hz1, hz2⟩ := infos_steps11
  go_enter Try.func139, Try.ntmps139
  go_wp2_with fail
  generalize hW : (World.alloc _ _ : World) = W0
  have q0 : W0.heap[w.heap.size]? = some (Obj.cells #[.int .i64 (rowv (f 0)), .int .i64 (rowv (f 1)), .int .i64 (rowv (f 2)), .int .i64 (rowv (f 3)), .int .i64 (rowv (f 4)), .int .i64 (rowv (f 5)), .slice (some ⟨g1, 0, none⟩) F.length c1, .slice (some ⟨g2, 0, none⟩) st.length c2] 62 (0, 0)) := by rw [← hW]; exact alloc_past (alloc_at rfl)
  have q1 : W0.heap[w.heap.size + 1]? = some (pz11 62) := by rw [← hW]; exact alloc_at (by simp)
  have hB : Below w.heap.size w W0 := by rw [← hW]; (repeat (first | exact Below.refl _ _ | assumption | refine Below.setCell ?_ (by first | (simp; done) | (simp; omega)) _ | refine Below.alloc ?_ (by first | (simp; done) | (simp; omega)) _ | refine Below.drew ?_))
  have hsz : w.heap.size + 2 ≤ W0.heap.size := by rw [← hW]; simp
  clear hW
  refine (HP.out _ (ra_below R1.out hB rfl) (ra_below R2.out hB rfl)).mono ?_
  rintro e W1 ⟨rfl, hb⟩
  replace q0 := rowk q0 hb rfl
  replace q1 := rowk q1 hb rfl
  replace hB := below_of hB hb (by omega)
  replace hsz := Nat.le_trans hsz hb.size
  clear hb HP
  have a_c := fun j => cell_of_row W1 _ j _ _ _ q0
  go_wp2_with fail
  clear a_c
  refine (HHV.out _ (ra_below R1.out hB rfl) (ra_below R2.out hB rfl)).mono ?_
  rintro e W3 ⟨ga, ka, gb, kb, he, hp, hb⟩
  rw [HFL.out] at he hp
  subst he
  replace q1 := rowk q1 hb rfl
  have hs3 := hb.size
  replace hB := below_of hB hb (by omega)
  clear hb HHV q0
  have q6 : (W3.alloc (.cells #[.int .i64 (rowv (f 0)), .int .i64 (rowv (f 1)), .int .i64 (rowv (f 2)), .int .i64 (rowv (f 3)), .int .i64 (rowv (f 4)), .int .i64 (rowv (f 5)), .slice (some ⟨ga, 0, none⟩) F.length ka, .slice (some ⟨gb, 0, none⟩) st.length kb] 62)).heap[W3.heap.size]? = some (.cells #[.int .i64 (rowv (f 0)), .int .i64 (rowv (f 1)), .int .i64 (rowv (f 2)), .int .i64 (rowv (f 3)), .int .i64 (rowv (f 4)), .int .i64 (rowv (f 5)), .slice (some ⟨ga, 0, none⟩) F.length ka, .slice (some ⟨gb, 0, none⟩) st.length kb] 62 (0, 0)) := alloc_at rfl
  replace hp := hp.st W3 (W3.alloc (.cells #[.int .i64 (rowv (f 0)), .int .i64 (rowv (f 1)), .int .i64 (rowv (f 2)), .int .i64 (rowv (f 3)), .int .i64 (rowv (f 4)), .int .i64 (rowv (f 5)), .slice (some ⟨ga, 0, none⟩) F.length ka, .slice (some ⟨gb, 0, none⟩) st.length kb] 62)) (fun k _ hk => ((Below.refl W3.heap.size W3).alloc (Nat.le_refl _) _).block k hk)
  replace q1 := alloc_past (o := (.cells #[.int .i64 (rowv (f 0)), .int .i64 (rowv (f 1)), .int .i64 (rowv (f 2)), .int .i64 (rowv (f 3)), .int .i64 (rowv (f 4)), .int .i64 (rowv (f 5)), .slice (some ⟨ga, 0, none⟩) F.length ka, .slice (some ⟨gb, 0, none⟩) st.length kb] 62)) q1
  replace hB := hB.alloc (by omega) (.cells #[.int .i64 (rowv (f 0)), .int .i64 (rowv (f 1)), .int .i64 (rowv (f 2)), .int .i64 (rowv (f 3)), .int .i64 (rowv (f 4)), .int .i64 (rowv (f 5)), .slice (some ⟨ga, 0, none⟩) F.length ka, .slice (some ⟨gb, 0, none⟩) st.length kb] 62)
  have hs6 : (W3.alloc (.cells #[.int .i64 (rowv (f 0)), .int .i64 (rowv (f 1)), .int .i64 (rowv (f 2)), .int .i64 (rowv (f 3)), .int .i64 (rowv (f 4)), .int .i64 (rowv (f 5)), .slice (some ⟨ga, 0, none⟩) F.length ka, .slice (some ⟨gb, 0, none⟩) st.length kb] 62)).heap.size = W3.heap.size + 1 := by simp
  have hlo : w.heap.size + 1 < W1.heap.size := by omega
  have R3b := Lib.hid (ra_below R3.out hB rfl)
  have Q6 := Lib.hid q6
  have Q1 := Lib.hid q1
  have HPP := Lib.hid hp
  have HBB := Lib.hid hB
  have HLO := Lib.hid hlo
  have HS3 := Lib.hid hs3
  have HS6 := Lib.hid hs6
  have y_c := fun j => cell_of_row _ _ j _ _ _ q6
  have y_f := fun j => frozen_of_row _ _ j _ _ q6
  clear q6 q1 hp hB hlo hs3 hs6 hsz
  go_wp2_with (at_builtin; go_loud (refine wpList_append_own_at _ rfl _ _ 60 rfl W1.heap.size 73 i0 (.agg #[.int .i64 0, .int .i64 0, .int .i64 0, .int .i64 0]) 4 32 Try.underlying60 hi hz0 hz1 hz2 rfl (by decide) (.slice (some ⟨gb, 0, none⟩) st.length kb) st.length (sv11 st) rfl HPP.out.2.1 ⟨g3, 0, none⟩ mo.length c3 (sv11 mo) rfl (sv11_len mo) (ra_add R3b.out) (sv11_one mo) (by unfold maxLen; omega) (by omega) (by have := HS3.out; have := HS6.out; omega) ?_; intro v' w1 hown hgr hnn hat; have HA2 := Lib.hid (And.intro hown (And.intro hgr hat)); obtain ⟨gn, kn, rfl⟩ := form10 hown (fun e => absurd (hnn.mp e).1 (by simp)); have q7 := (hgr.block W3.heap.size (by have := HS6.out; omega) (fun e => by have := HPP.out.2.2.2.1 W3.heap.size e.symm; omega)).trans Q6.out; have y_c := fun j => cell_of_row w1 _ j _ _ _ q7; have y_f := fun j => frozen_of_row w1 _ j _ _ q7; have Q7 := Lib.hid q7; clear hown hgr hnn hat q7))
  clear y_c y_f hi hz0 hz1 hz2
  have hga := HPP.out.2.2.1 ga rfl
  have hgb := HPP.out.2.2.2.1 gb rfl
  have hne : ga ≠ gb := fun e => HPP.out.2.2.2.2 ga rfl (by rw [e]; rfl)
  have hgl := HA2.out.1.lt gn rfl
  have hgn : gn ≠ W3.heap.size ∧ ga ≠ gn := by
    rcases HA2.out.2.2 with e | e
    · have e : gn = gb := by simpa [Value.ownBlock] using e
      omega
    · have e : gn = (W3.alloc (.cells #[.int .i64 (rowv (f 0)), .int .i64 (rowv (f 1)), .int .i64 (rowv (f 2)), .int .i64 (rowv (f 3)), .int .i64 (rowv (f 4)), .int .i64 (rowv (f 5)), .slice (some ⟨ga, 0, none⟩) F.length ka, .slice (some ⟨gb, 0, none⟩) st.length kb] 62)).heap.size := by simpa [Value.ownBlock] using e
      have := HS6.out
      omega
  have hg6 := HA2.out.2.1
  have hz6 := HS6.out
  have hl6 := HLO.out
  have hl3 := HS3.out
  have q7 := heap_setCell_same w1 W3.heap.size 7 _ _ (.slice (some ⟨gn, 0, none⟩) (st.length + mo.length) kn) Q7.out
  have q1 : (w1.setCell ⟨W3.heap.size, 7, none⟩ (.slice (some ⟨gn, 0, none⟩) (st.length + mo.length) kn)).heap[w.heap.size + 1]? = some (pz11 62) := by
    rw [Below.heap_setCell _ _ _ _ (show w.heap.size + 1 ≠ W3.heap.size by omega)]
    exact (hg6.block _ (by have := (Array.getElem?_eq_some_iff.1 Q1.out).1; exact this) (fun e => by have := (HPP.out.2.1.lt _ e.symm).1; omega)).trans Q1.out
  have o1 := HPP.out.1.kept hg6 (.inr (by simp [Value.ownBlock]; omega))
  have o1 := own_same (lo := ga) (hi := ga + 1) (V := w1.setCell ⟨W3.heap.size, 7, none⟩ (.slice (some ⟨gn, 0, none⟩) (st.length + mo.length) kn)) o1 (fun k h1 h2 => Below.heap_setCell _ _ _ _ (show k ≠ W3.heap.size by omega)) (fun k hk => by (have : ga = k := (by simpa [Value.ownBlock] using hk)); omega)
  have o2 := own_same (lo := gn) (hi := gn + 1) (V := w1.setCell ⟨W3.heap.size, 7, none⟩ (.slice (some ⟨gn, 0, none⟩) (st.length + mo.length) kn)) HA2.out.1 (fun k h1 h2 => Below.heap_setCell _ _ _ _ (show k ≠ W3.heap.size by omega)) (fun k hk => by (have : gn = k := (by simpa [Value.ownBlock] using hk)); omega)
  rw [← sv11_app] at o2
  have hB : Below w.heap.size w (w1.setCell ⟨W3.heap.size, 7, none⟩ (.slice (some ⟨gn, 0, none⟩) (st.length + mo.length) kn)) := (HBB.out.grown hg6 (by have := HBB.out.size; exact this) (fun k hk => by have := (HPP.out.2.1.lt _ hk).1; omega)).setCell (show w.heap.size ≤ W3.heap.size by omega) _
  have hg1 := hg6.size
  have hlt1 : gn < w1.heap.size := hgl.2
  clear HPP HA2 HBB Q6 Q1 Q7 HS3 HS6 hg6 hgl HLO
  have hsx : (w1.setCell ⟨W3.heap.size, 7, none⟩ (.slice (some ⟨gn, 0, none⟩) (st.length + mo.length) kn)).heap.size = w1.heap.size := by simp
  generalize (World.setCell _ _ _ : World) = X7 at q7 q1 o1 o2 hB hsx ⊢
  refine (HP2.out ga ka gn kn X7 (by have h := o1; rw [HFL.out] at h; exact own_range h) (own_range o2)).mono ?_
  rintro e W8 ⟨rfl, hb⟩
  replace q7 := rowk q7 hb rfl
  replace q1 := rowk q1 hb rfl
  replace o1 := o1.kept (grown_below hb rfl) (.inr (by simp [Value.ownBlock]))
  replace o2 := o2.kept (grown_below hb rfl) (.inr (by simp [Value.ownBlock]))
  have hs8 := hb.size
  replace hB := below_of hB hb (by omega)
  clear hb HP2
  clear q7 o1 o2 hl6
  have z_f := fun j => frozen_of_row W8 _ j _ _ q1
  have z_c := fun j => cell_of_row W8 _ j _ _ _ q1
  have hz1 : w.heap.size + 1 < W8.heap.size := (Array.getElem?_eq_some_iff.1 q1).1
  have Q1 := Lib.hid q1
  clear q1
  go_wp2_with fail
  clear z_f z_c
  have HF := fun X hX => Lib.hid (box_put11 (w := w) (X := X) (lo := W8.heap.size) (m0 := 0) (m1 := 0) (m2 := 0) (m3 := 0) (m4 := 0) (m5 := 0) Q1.out (Pr11.nil _ _ _) hz1 (by omega) (by omega) hB hX)
  generalize hX : (World.setCell _ _ _ : World) = X
  replace HF := HF X hX
  have x_c := fun j => cell_of_row X _ j _ _ _ HF.out.1
  exact bodyPost_ret (v := .tuple #[.agg #[.int .i64 0, .int .i64 0, .int .i64 0, .int .i64 0, .int .i64 0, .int .i64 0, .slice none 0 0, .slice none 0 0], .bool false]) (by simp [results, Try.results139, go_sem, x_c]) rfl ⟨_, _, rfl, HF.out.2⟩

set_option maxRecDepth 20000 in
set_option maxHeartbeats 4000000 in
theorem iadd_no (m0 m1 m2 m3 m4 m5 : Int) (l : List H11) (st : List S11) (g1 c1 g2 c2 : Nat) (V3 : Value) (hl : l.length ≤ 1048576) (hst : st.length ≤ 1048576) (hwf : ∀ p ∈ st, (Lit.int .i64 p.x).wf = true ∧ (Lit.int .i64 p.y).wf = true) (hq : okP (m0, m1, m2, m3, m4, m5) l st = false) (w : World) (h1 : w.rangeAt g1 0 (hv11 l)) (h2 : w.rangeAt g2 0 (sv11 st)) : Calls Try.prog 139 #[.agg #[.int .i64 m0, .int .i64 m1, .int .i64 m2, .int .i64 m3, .int .i64 m4, .int .i64 m5, .slice (some ⟨g1, 0, none⟩) l.length c1, .slice (some ⟨g2, 0, none⟩) st.length c2], V3] w (TP11 0 0 0 0 0 0 [] [] false w) := by
  have HP := Lib.hid (fun W a b => iplan_11 m0 m1 m2 m3 m4 m5 l st g1 c1 g2 c2 hl hst hwf W a b)
  rw [hq] at HP
  have R1 := Lib.hid h1
  have R2 := Lib.hid h2
  clear h1 h2 hwf hq
  go_enter Try.func139, Try.ntmps139
  go_wp2_with fail
  generalize hW : (World.alloc _ _ : World) = W0
  have q0 : W0.heap[w.heap.size]? = some (Obj.cells #[.int .i64 m0, .int .i64 m1, .int .i64 m2, .int .i64 m3, .int .i64 m4, .int .i64 m5, .slice (some ⟨g1, 0, none⟩) l.length c1, .slice (some ⟨g2, 0, none⟩) st.length c2] 62 (0, 0)) := by rw [← hW]; exact alloc_past (alloc_at rfl)
  have q1 : W0.heap[w.heap.size + 1]? = some (pz11 62) := by rw [← hW]; exact alloc_at (by simp)
  have hB : Below w.heap.size w W0 := by rw [← hW]; (repeat (first | exact Below.refl _ _ | assumption | refine Below.setCell ?_ (by first | (simp; done) | (simp; omega)) _ | refine Below.alloc ?_ (by first | (simp; done) | (simp; omega)) _ | refine Below.drew ?_))
  have hsz : w.heap.size + 2 ≤ W0.heap.size := by rw [← hW]; simp
  clear hW
  refine (HP.out _ (ra_below R1.out hB rfl) (ra_below R2.out hB rfl)).mono ?_
  rintro e W1 ⟨rfl, hb⟩
  replace q1 := rowk q1 hb rfl
  replace hB := below_of hB hb (by omega)
  clear hb HP q0 hsz
  have z_f := fun j => frozen_of_row W1 _ j _ _ q1
  have z_c := fun j => cell_of_row W1 _ j _ _ _ q1
  have hz1 : w.heap.size + 1 < W1.heap.size := (Array.getElem?_eq_some_iff.1 q1).1
  have Q1 := Lib.hid q1
  clear q1
  go_wp2_with fail
  clear z_f z_c
  have HF := fun X hX => Lib.hid (box_put11 (w := w) (X := X) (lo := W1.heap.size) (m0 := 0) (m1 := 0) (m2 := 0) (m3 := 0) (m4 := 0) (m5 := 0) Q1.out (Pr11.nil _ _ _) hz1 (by omega) (by omega) hB hX)
  generalize hX : (World.setCell _ _ _ : World) = X
  replace HF := HF X hX
  have x_c := fun j => cell_of_row X _ j _ _ _ HF.out.1
  exact bodyPost_ret (v := .tuple #[.agg #[.int .i64 0, .int .i64 0, .int .i64 0, .int .i64 0, .int .i64 0, .int .i64 0, .slice none 0 0, .slice none 0 0], .bool false]) (by simp [results, Try.results139, go_sem, x_c]) rfl ⟨_, _, rfl, HF.out.2⟩
/- Ae11 -/
theorem okP_snoc {s : H11} {l : List H11} {st : List S11} {p : S11} (h : okP s l st = true) : okP s l (st ++ [p]) = (decide (st.length < 40) && okS l.length p) := by
  obtain ⟨h1, h2, h3, h4, h5⟩ := okP_parts h
  unfold okP at h ⊢
  simp only [Bool.and_eq_true] at h
  simp only [h.1.1.1.1, h.1.1.1.2, h.1.2, List.length_append, List.length_singleton, List.all_append, h.2, List.all_cons, List.all_nil, Bool.and_true, Bool.true_and]
  congr 1
theorem one_range9 {W : World} {g : Nat} {p : S11} {T : TypeId} (h : W.heap[g]? = some (.cells #[.int .i64 p.k, .int .i64 p.s, .int .i64 p.x, .int .i64 p.y] T (0, 0))) : W.rangeAt g 0 (sv11 [p]) := by
  intro j u hu
  rw [Nat.zero_add, cell_of_row W g j _ _ _ h, ← hu]
  show ((cs11 p).toArray)[j]? = (sv11 [p])[j]?
  simp [sv11]
theorem cs11_one10 (p : S11) : ∀ u ∈ cs11 p, u.oneCell' = true := by
  intro u hu
  simp only [cs11, List.mem_cons, List.not_mem_nil, or_false] at hu
  rcases hu with rfl | rfl | rfl | rfl <;> rfl
theorem step_new10 (W : World) (p : S11) (t : TypeId) : ∀ j u, (cs11 p)[j]? = some u → (W.alloc (.cells #[.int .i64 p.k, .int .i64 p.s, .int .i64 p.x, .int .i64 p.y] t)).cell? ((⟨W.heap.size, 0, none⟩ : Addr).add j) = some u := by
  intro j u hu
  rw [Addr.add_mid, Nat.zero_add]
  have h := cell_of_row (W.alloc (.cells #[.int .i64 p.k, .int .i64 p.s, .int .i64 p.x, .int .i64 p.y] t)) W.heap.size j _ _ _ (alloc_at rfl)
  rw [h, ← hu]
  show ((cs11 p).toArray)[j]? = _
  simp
set_option maxRecDepth 20000 in
set_option maxHeartbeats 4000000 in
theorem iaddstep_any (m0 m1 m2 m3 m4 m5 : Int) (l : List H11) (st : List S11) (p : S11) (r0 r1 r2 r3 r4 r5 : Int) (l' : List H11) (st' : List S11) (t : Bool) (g1 c1 g2 c2 : Nat) (HA : Hid (∀ (W : World) (g3 c3 : Nat), W.rangeAt g1 0 (hv11 l) → W.rangeAt g2 0 (sv11 st) → W.rangeAt g3 0 (sv11 [p]) → Calls Try.prog 139 #[.agg #[.int .i64 m0, .int .i64 m1, .int .i64 m2, .int .i64 m3, .int .i64 m4, .int .i64 m5, .slice (some ⟨g1, 0, none⟩) l.length c1, .slice (some ⟨g2, 0, none⟩) st.length c2], .slice (some ⟨g3, 0, none⟩) 1 c3] W (TP11 r0 r1 r2 r3 r4 r5 l' st' t W))) (w : World) (h1 : w.rangeAt g1 0 (hv11 l)) (h2 : w.rangeAt g2 0 (sv11 st)) : Calls Try.prog 45 #[.agg #[.int .i64 m0, .int .i64 m1, .int .i64 m2, .int .i64 m3, .int .i64 m4, .int .i64 m5, .slice (some ⟨g1, 0, none⟩) l.length c1, .slice (some ⟨g2, 0, none⟩) st.length c2], .agg #[.int .i64 p.k, .int .i64 p.s, .int .i64 p.x, .int .i64 p.y]] w (TP11 r0 r1 r2 r3 r4 r5 l' st' t w) := by
  have R1 := Lib.hid h1
  have R2 := Lib.hid h2
  clear h1 h2
  go_enter Try.func45, Try.ntmps45
  go_wp2_with fail
  generalize hW : (World.alloc _ _ : World) = W0
  have q0 : W0.heap[w.heap.size]? = some (Obj.cells #[.int .i64 m0, .int .i64 m1, .int .i64 m2, .int .i64 m3, .int .i64 m4, .int .i64 m5, .slice (some ⟨g1, 0, none⟩) l.length c1, .slice (some ⟨g2, 0, none⟩) st.length c2] 62 (0, 0)) := by rw [← hW]; exact alloc_past (alloc_past (alloc_past (alloc_at rfl)))
  have qs : W0.heap[w.heap.size + 1]? = some (Obj.cells #[.int .i64 p.k, .int .i64 p.s, .int .i64 p.x, .int .i64 p.y] 73 (0, 0)) := by rw [← hW]; exact alloc_past (alloc_past (alloc_at (by simp)))
  have q1 : W0.heap[w.heap.size + 1 + 1]? = some (pz11 62) := by rw [← hW]; exact alloc_past (alloc_at (by simp))
  have hB : Below w.heap.size w W0 := by rw [← hW]; (repeat (first | exact Below.refl _ _ | assumption | refine Below.setCell ?_ (by first | (simp; done) | (simp; omega)) _ | refine Below.alloc ?_ (by first | (simp; done) | (simp; omega)) _ | refine Below.drew ?_))
  have hsz : w.heap.size + 3 ≤ W0.heap.size := by rw [← hW]; simp
  have q3 : W0.heap[w.heap.size + 1 + 1 + 1]? = some (Obj.cells #[.int .i64 p.k, .int .i64 p.s, .int .i64 p.x, .int .i64 p.y] 73 (0, 0)) := by rw [← hW]; exact alloc_at (by simp)
  clear hW
  refine (HA.out _ _ _ (ra_below R1.out hB rfl) (ra_below R2.out hB rfl) (one_range9 q3)).mono ?_
  rintro e W1 ⟨v1, v2, rfl, hp, hb⟩
  have wv1 := st_one11 (own_one11 hp.1)
  have wv2 := st_one11 (own_one11 hp.2.1)
  replace q1 := rowk q1 hb rfl
  have hs1 := hb.size
  replace hB := below_of hB hb (by omega)
  clear hb HA q0 qs q3
  have z_f := fun j => frozen_of_row W1 _ j _ _ q1
  have z_c := fun j => cell_of_row W1 _ j _ _ _ q1
  have hz1 : w.heap.size + 1 + 1 < W0.heap.size := by omega
  have Q1 := Lib.hid q1
  have HPP := Lib.hid hp
  clear q1 hp
  go_wp2_with fail
  clear z_f z_c wv1 wv2
  have HF := fun X hX => Lib.hid (box_put11 (w := w) (X := X) (lo := W0.heap.size) (m0 := r0) (m1 := r1) (m2 := r2) (m3 := r3) (m4 := r4) (m5 := r5) Q1.out HPP.out hz1 (by omega) (by omega) hB hX)
  generalize hX : (World.setCell _ _ _ : World) = X
  replace HF := HF X hX
  have x_c := fun j => cell_of_row X _ j _ _ _ HF.out.1
  exact bodyPost_ret (v := .tuple #[.agg #[.int .i64 r0, .int .i64 r1, .int .i64 r2, .int .i64 r3, .int .i64 r4, .int .i64 r5, v1, v2], .bool t]) (by simp [results, Try.results45, go_sem, x_c]) rfl ⟨_, _, rfl, HF.out.2⟩
set_option maxRecDepth 20000 in
set_option maxHeartbeats 4000000 in
theorem saddstep_no0 (m0 m1 m2 m3 m4 m5 : Int) (l : List H11) (st : List S11) (p : S11) (g1 c1 g2 c2 : Nat) (hl : l.length ≤ 1048576) (hst : st.length ≤ 1048576) (hq : okP (m0, m1, m2, m3, m4, m5) l st = false) (w : World) (h1 : w.rangeAt g1 0 (hv11 l)) (h2 : w.rangeAt g2 0 (sv11 st)) : Calls Try.prog 43 #[.agg #[.int .i64 m0, .int .i64 m1, .int .i64 m2, .int .i64 m3, .int .i64 m4, .int .i64 m5, .slice (some ⟨g1, 0, none⟩) l.length c1, .slice (some ⟨g2, 0, none⟩) st.length c2], .agg #[.int .i64 p.k, .int .i64 p.s, .int .i64 p.x, .int .i64 p.y]] w (TP11 0 0 0 0 0 0 [] [] false w) := by
  have HP := Lib.hid (fun W a b => lplan_11 m0 m1 m2 m3 m4 m5 l st g1 c1 g2 c2 hl hst W a b)
  rw [hq] at HP
  clear hq
  have R1 := Lib.hid h1
  have R2 := Lib.hid h2
  clear h1 h2
  go_enter Try.func43, Try.ntmps43
  go_wp2_with fail
  generalize hW : (World.alloc _ _ : World) = W0
  have q0 : W0.heap[w.heap.size]? = some (Obj.cells #[.int .i64 m0, .int .i64 m1, .int .i64 m2, .int .i64 m3, .int .i64 m4, .int .i64 m5, .slice (some ⟨g1, 0, none⟩) l.length c1, .slice (some ⟨g2, 0, none⟩) st.length c2] 62 (0, 0)) := by rw [← hW]; exact alloc_past (alloc_past (alloc_at rfl))
  have qs : W0.heap[w.heap.size + 1]? = some (Obj.cells #[.int .i64 p.k, .int .i64 p.s, .int .i64 p.x, .int .i64 p.y] 73 (0, 0)) := by rw [← hW]; exact alloc_past (alloc_at (by simp))
  have q1 : W0.heap[w.heap.size + 1 + 1]? = some (pz11 62) := by rw [← hW]; exact alloc_at (by simp)
  have hB : Below w.heap.size w W0 := by rw [← hW]; (repeat (first | exact Below.refl _ _ | assumption | refine Below.setCell ?_ (by first | (simp; done) | (simp; omega)) _ | refine Below.alloc ?_ (by first | (simp; done) | (simp; omega)) _ | refine Below.drew ?_))
  have hsz : w.heap.size + 3 ≤ W0.heap.size := by rw [← hW]; simp
  clear hW
  refine (HP.out _ (ra_below R1.out hB rfl) (ra_below R2.out hB rfl)).mono ?_
  rintro e W1 ⟨rfl, hb⟩
  replace q0 := rowk q0 hb rfl
  replace qs := rowk qs hb rfl
  replace q1 := rowk q1 hb rfl
  replace hB := below_of hB hb (by omega)
  replace hsz := Nat.le_trans hsz hb.size
  clear hb HP
  have a_c := fun j => cell_of_row W1 _ j _ _ _ q0
  have s_c := fun j => cell_of_row W1 _ j _ _ _ qs
  have z_f := fun j => frozen_of_row W1 _ j _ _ q1
  have z_c := fun j => cell_of_row W1 _ j _ _ _ q1
  have hz1 : w.heap.size + 1 + 1 < W1.heap.size := (Array.getElem?_eq_some_iff.1 q1).1
  have Q1 := Lib.hid q1
  clear q1
  clear q0 qs
  go_wp2_with fail
  clear z_f z_c a_c s_c
  have HF := fun X hX => Lib.hid (box_put11 (w := w) (X := X) (lo := W1.heap.size) (m0 := 0) (m1 := 0) (m2 := 0) (m3 := 0) (m4 := 0) (m5 := 0) Q1.out (Pr11.nil _ _ _) hz1 (by omega) (by omega) hB hX)
  generalize hX : (World.setCell _ _ _ : World) = X
  replace HF := HF X hX
  have x_c := fun j => cell_of_row X _ j _ _ _ HF.out.1
  exact bodyPost_ret (v := .tuple #[.agg #[.int .i64 0, .int .i64 0, .int .i64 0, .int .i64 0, .int .i64 0, .int .i64 0, .slice none 0 0, .slice none 0 0], .bool false]) (by simp [results, Try.results43, go_sem, x_c]) rfl ⟨_, _, rfl, HF.out.2⟩

set_option maxRecDepth 20000 in
set_option maxHeartbeats 4000000 in
theorem saddstep_no1 (m0 m1 m2 m3 m4 m5 : Int) (l : List H11) (st : List S11) (p : S11) (g1 c1 g2 c2 : Nat) (hl : l.length ≤ 1048576) (hst : st.length ≤ 1048576) (hq : okP (m0, m1, m2, m3, m4, m5) l st = true) (hn : ¬ st.length < 40) (w : World) (h1 : w.rangeAt g1 0 (hv11 l)) (h2 : w.rangeAt g2 0 (sv11 st)) : Calls Try.prog 43 #[.agg #[.int .i64 m0, .int .i64 m1, .int .i64 m2, .int .i64 m3, .int .i64 m4, .int .i64 m5, .slice (some ⟨g1, 0, none⟩) l.length c1, .slice (some ⟨g2, 0, none⟩) st.length c2], .agg #[.int .i64 p.k, .int .i64 p.s, .int .i64 p.x, .int .i64 p.y]] w (TP11 0 0 0 0 0 0 [] [] false w) := by
  have HP := Lib.hid (fun W a b => lplan_11 m0 m1 m2 m3 m4 m5 l st g1 c1 g2 c2 hl hst W a b)
  rw [hq] at HP
  have hn1 : (st.length : Int) ≥ 40 := by omega
  clear hq hn
  have R1 := Lib.hid h1
  have R2 := Lib.hid h2
  clear h1 h2
  go_enter Try.func43, Try.ntmps43
  go_wp2_with fail
  generalize hW : (World.alloc _ _ : World) = W0
  have q0 : W0.heap[w.heap.size]? = some (Obj.cells #[.int .i64 m0, .int .i64 m1, .int .i64 m2, .int .i64 m3, .int .i64 m4, .int .i64 m5, .slice (some ⟨g1, 0, none⟩) l.length c1, .slice (some ⟨g2, 0, none⟩) st.length c2] 62 (0, 0)) := by rw [← hW]; exact alloc_past (alloc_past (alloc_at rfl))
  have qs : W0.heap[w.heap.size + 1]? = some (Obj.cells #[.int .i64 p.k, .int .i64 p.s, .int .i64 p.x, .int .i64 p.y] 73 (0, 0)) := by rw [← hW]; exact alloc_past (alloc_at (by simp))
  have q1 : W0.heap[w.heap.size + 1 + 1]? = some (pz11 62) := by rw [← hW]; exact alloc_at (by simp)
  have hB : Below w.heap.size w W0 := by rw [← hW]; (repeat (first | exact Below.refl _ _ | assumption | refine Below.setCell ?_ (by first | (simp; done) | (simp; omega)) _ | refine Below.alloc ?_ (by first | (simp; done) | (simp; omega)) _ | refine Below.drew ?_))
  have hsz : w.heap.size + 3 ≤ W0.heap.size := by rw [← hW]; simp
  clear hW
  refine (HP.out _ (ra_below R1.out hB rfl) (ra_below R2.out hB rfl)).mono ?_
  rintro e W1 ⟨rfl, hb⟩
  replace q0 := rowk q0 hb rfl
  replace qs := rowk qs hb rfl
  replace q1 := rowk q1 hb rfl
  replace hB := below_of hB hb (by omega)
  replace hsz := Nat.le_trans hsz hb.size
  clear hb HP
  have a_c := fun j => cell_of_row W1 _ j _ _ _ q0
  have s_c := fun j => cell_of_row W1 _ j _ _ _ qs
  have z_f := fun j => frozen_of_row W1 _ j _ _ q1
  have z_c := fun j => cell_of_row W1 _ j _ _ _ q1
  have hz1 : w.heap.size + 1 + 1 < W1.heap.size := (Array.getElem?_eq_some_iff.1 q1).1
  have Q1 := Lib.hid q1
  clear q1
  clear q0 qs
  go_wp2_with fail
  clear z_f z_c a_c s_c
  have HF := fun X hX => Lib.hid (box_put11 (w := w) (X := X) (lo := W1.heap.size) (m0 := 0) (m1 := 0) (m2 := 0) (m3 := 0) (m4 := 0) (m5 := 0) Q1.out (Pr11.nil _ _ _) hz1 (by omega) (by omega) hB hX)
  generalize hX : (World.setCell _ _ _ : World) = X
  replace HF := HF X hX
  have x_c := fun j => cell_of_row X _ j _ _ _ HF.out.1
  exact bodyPost_ret (v := .tuple #[.agg #[.int .i64 0, .int .i64 0, .int .i64 0, .int .i64 0, .int .i64 0, .int .i64 0, .slice none 0 0, .slice none 0 0], .bool false]) (by simp [results, Try.results43, go_sem, x_c]) rfl ⟨_, _, rfl, HF.out.2⟩

set_option maxRecDepth 20000 in
set_option maxHeartbeats 4000000 in
theorem saddstep_no2 (m0 m1 m2 m3 m4 m5 : Int) (l : List H11) (st : List S11) (p : S11) (g1 c1 g2 c2 : Nat) (hl : l.length ≤ 1048576) (hst : st.length ≤ 1048576) (hq : okP (m0, m1, m2, m3, m4, m5) l st = true) (hn : st.length < 40) (hs : okS l.length p = false) (w : World) (h1 : w.rangeAt g1 0 (hv11 l)) (h2 : w.rangeAt g2 0 (sv11 st)) : Calls Try.prog 43 #[.agg #[.int .i64 m0, .int .i64 m1, .int .i64 m2, .int .i64 m3, .int .i64 m4, .int .i64 m5, .slice (some ⟨g1, 0, none⟩) l.length c1, .slice (some ⟨g2, 0, none⟩) st.length c2], .agg #[.int .i64 p.k, .int .i64 p.s, .int .i64 p.x, .int .i64 p.y]] w (TP11 0 0 0 0 0 0 [] [] false w) := by
  have HP := Lib.hid (fun W a b => lplan_11 m0 m1 m2 m3 m4 m5 l st g1 c1 g2 c2 hl hst W a b)
  rw [hq] at HP
  have hn1 : ¬ (st.length : Int) ≥ 40 := by omega
  have HS := Lib.hid (lstep_11 p.k p.s p.x p.y l.length hl)
  rw [show okS l.length ⟨p.k, p.s, p.x, p.y⟩ = false from hs] at HS
  clear hq hn hs
  have R1 := Lib.hid h1
  have R2 := Lib.hid h2
  clear h1 h2
  go_enter Try.func43, Try.ntmps43
  go_wp2_with fail
  generalize hW : (World.alloc _ _ : World) = W0
  have q0 : W0.heap[w.heap.size]? = some (Obj.cells #[.int .i64 m0, .int .i64 m1, .int .i64 m2, .int .i64 m3, .int .i64 m4, .int .i64 m5, .slice (some ⟨g1, 0, none⟩) l.length c1, .slice (some ⟨g2, 0, none⟩) st.length c2] 62 (0, 0)) := by rw [← hW]; exact alloc_past (alloc_past (alloc_at rfl))
  have qs : W0.heap[w.heap.size + 1]? = some (Obj.cells #[.int .i64 p.k, .int .i64 p.s, .int .i64 p.x, .int .i64 p.y] 73 (0, 0)) := by rw [← hW]; exact alloc_past (alloc_at (by simp))
  have q1 : W0.heap[w.heap.size + 1 + 1]? = some (pz11 62) := by rw [← hW]; exact alloc_at (by simp)
  have hB : Below w.heap.size w W0 := by rw [← hW]; (repeat (first | exact Below.refl _ _ | assumption | refine Below.setCell ?_ (by first | (simp; done) | (simp; omega)) _ | refine Below.alloc ?_ (by first | (simp; done) | (simp; omega)) _ | refine Below.drew ?_))
  have hsz : w.heap.size + 3 ≤ W0.heap.size := by rw [← hW]; simp
  clear hW
  refine (HP.out _ (ra_below R1.out hB rfl) (ra_below R2.out hB rfl)).mono ?_
  rintro e W1 ⟨rfl, hb⟩
  replace q0 := rowk q0 hb rfl
  replace qs := rowk qs hb rfl
  replace q1 := rowk q1 hb rfl
  replace hB := below_of hB hb (by omega)
  replace hsz := Nat.le_trans hsz hb.size
  clear hb HP
  have a_c := fun j => cell_of_row W1 _ j _ _ _ q0
  have s_c := fun j => cell_of_row W1 _ j _ _ _ qs
  go_wp2_with fail
  clear a_c s_c q0 qs
  refine (HS.out _).mono ?_
  rintro e W2 ⟨rfl, hb⟩
  replace q1 := rowk q1 hb rfl
  replace hB := below_of hB hb (by omega)
  replace hsz := Nat.le_trans hsz hb.size
  clear hb HS
  have z_f := fun j => frozen_of_row W2 _ j _ _ q1
  have z_c := fun j => cell_of_row W2 _ j _ _ _ q1
  have hz1 : w.heap.size + 1 + 1 < W2.heap.size := (Array.getElem?_eq_some_iff.1 q1).1
  have Q1 := Lib.hid q1
  clear q1
  go_wp2_with fail
  clear z_f z_c
  have HF := fun X hX => Lib.hid (box_put11 (w := w) (X := X) (lo := W2.heap.size) (m0 := 0) (m1 := 0) (m2 := 0) (m3 := 0) (m4 := 0) (m5 := 0) Q1.out (Pr11.nil _ _ _) hz1 (by omega) (by omega) hB hX)
  generalize hX : (World.setCell _ _ _ : World) = X
  replace HF := HF X hX
  have x_c := fun j => cell_of_row X _ j _ _ _ HF.out.1
  exact bodyPost_ret (v := .tuple #[.agg #[.int .i64 0, .int .i64 0, .int .i64 0, .int .i64 0, .int .i64 0, .int .i64 0, .slice none 0 0, .slice none 0 0], .bool false]) (by simp [results, Try.results43, go_sem, x_c]) rfl ⟨_, _, rfl, HF.out.2⟩

set_option maxRecDepth 20000 in
set_option maxHeartbeats 4000000 in
theorem saddstep_yes (f : Fn11) (F : List Fn11) (st : List S11) (g1 c1 g2 c2 : Nat) (hst : st.length ≤ 40) (hF : F.length ≤ 4) (hv : ∀ p ∈ st, okS F.length p = true) (p : S11) (hn : st.length < 40) (hs : okS F.length p = true) (w : World) (h1 : w.rangeAt g1 0 (hv11 (F.map t11))) (h2 : w.rangeAt g2 0 (sv11 st)) : Calls Try.prog 43 #[.agg #[.int .i64 (rowv (f 0)), .int .i64 (rowv (f 1)), .int .i64 (rowv (f 2)), .int .i64 (rowv (f 3)), .int .i64 (rowv (f 4)), .int .i64 (rowv (f 5)), .slice (some ⟨g1, 0, none⟩) F.length c1, .slice (some ⟨g2, 0, none⟩) st.length c2], .agg #[.int .i64 p.k, .int .i64 p.s, .int .i64 p.x, .int .i64 p.y]] w (TP11 (rowv (f 0)) (rowv (f 1)) (rowv (f 2)) (rowv (f 3)) (rowv (f 4)) (rowv (f 5)) (F.map t11) (st ++ [p]) true w) := by
  have hn4 : (F.map t11).length = F.length := List.length_map t11
  have HP := Lib.hid (fun W a b => lplan_11 (rowv (f 0)) (rowv (f 1)) (rowv (f 2)) (rowv (f 3)) (rowv (f 4)) (rowv (f 5)) (F.map t11) st g1 c1 g2 c2 (by rw [hn4]; omega) (by omega) W a b)
  rw [show okP (rowv (f 0), rowv (f 1), rowv (f 2), rowv (f 3), rowv (f 4), rowv (f 5)) (F.map t11) st = true from okP_of (f := f) hF hst hv, hn4] at HP
  have HHV := Lib.hid (fun W a b => lown_11 (rowv (f 0)) (rowv (f 1)) (rowv (f 2)) (rowv (f 3)) (rowv (f 4)) (rowv (f 5)) (.slice (some ⟨g2, 0, none⟩) st.length c2) (F.map t11) st g1 c1 g2 c2 (by rw [hn4]; omega) (by omega) W a b)
  rw [hn4] at HHV
  have HS := Lib.hid (lstep_11 p.k p.s p.x p.y F.length (by omega))
  rw [show okS F.length ⟨p.k, p.s, p.x, p.y⟩ = true from hs] at HS
  have hn1 : ¬ (st.length : Int) ≥ 40 := by omega
  have R1 := Lib.hid h1
  have R2 := Lib.hid h2
  have HFL := Lib.hid hn4
  clear h1 h2 hF hv hn4 hs
  obtain ⟨i0, hi, hz0, hz1, hz2⟩ := infos_steps11
  go_enter Try.func43, Try.ntmps43
  go_wp2_with fail
  generalize hW : (World.alloc _ _ : World) = W0
  have q0 : W0.heap[w.heap.size]? = some (Obj.cells #[.int .i64 (rowv (f 0)), .int .i64 (rowv (f 1)), .int .i64 (rowv (f 2)), .int .i64 (rowv (f 3)), .int .i64 (rowv (f 4)), .int .i64 (rowv (f 5)), .slice (some ⟨g1, 0, none⟩) F.length c1, .slice (some ⟨g2, 0, none⟩) st.length c2] 62 (0, 0)) := by rw [← hW]; exact alloc_past (alloc_past (alloc_at rfl))
  have qs : W0.heap[w.heap.size + 1]? = some (Obj.cells #[.int .i64 p.k, .int .i64 p.s, .int .i64 p.x, .int .i64 p.y] 73 (0, 0)) := by rw [← hW]; exact alloc_past (alloc_at (by simp))
  have q1 : W0.heap[w.heap.size + 1 + 1]? = some (pz11 62) := by rw [← hW]; exact alloc_at (by simp)
  have hB : Below w.heap.size w W0 := by rw [← hW]; (repeat (first | exact Below.refl _ _ | assumption | refine Below.setCell ?_ (by first | (simp; done) | (simp; omega)) _ | refine Below.alloc ?_ (by first | (simp; done) | (simp; omega)) _ | refine Below.drew ?_))
  have hsz : w.heap.size + 3 ≤ W0.heap.size := by rw [← hW]; simp
  clear hW
  refine (HP.out _ (ra_below R1.out hB rfl) (ra_below R2.out hB rfl)).mono ?_
  rintro e W1 ⟨rfl, hb⟩
  replace q0 := rowk q0 hb rfl
  replace qs := rowk qs hb rfl
  replace q1 := rowk q1 hb rfl
  replace hB := below_of hB hb (by omega)
  replace hsz := Nat.le_trans hsz hb.size
  clear hb HP
  have a_c := fun j => cell_of_row W1 _ j _ _ _ q0
  have s_c := fun j => cell_of_row W1 _ j _ _ _ qs
  go_wp2_with fail
  clear a_c s_c
  refine (HS.out _).mono ?_
  rintro e W2 ⟨rfl, hb⟩
  replace q0 := rowk q0 hb rfl
  replace qs := rowk qs hb rfl
  replace q1 := rowk q1 hb rfl
  replace hB := below_of hB hb (by omega)
  replace hsz := Nat.le_trans hsz hb.size
  clear hb HS
  have a_c := fun j => cell_of_row W2 _ j _ _ _ q0
  go_wp2_with fail
  clear a_c
  refine (HHV.out _ (ra_below R1.out hB rfl) (ra_below R2.out hB rfl)).mono ?_
  rintro e W3 ⟨ga, ka, gb, kb, he, hp, hb⟩
  rw [HFL.out] at he hp
  subst he
  replace qs := rowk qs hb rfl
  replace q1 := rowk q1 hb rfl
  have hs3 := hb.size
  replace hB := below_of hB hb (by omega)
  clear hb HHV q0
  have hlo : w.heap.size + 1 + 1 < W2.heap.size := by omega
  have q6 : (W3.alloc (.cells #[.int .i64 (rowv (f 0)), .int .i64 (rowv (f 1)), .int .i64 (rowv (f 2)), .int .i64 (rowv (f 3)), .int .i64 (rowv (f 4)), .int .i64 (rowv (f 5)), .slice (some ⟨ga, 0, none⟩) F.length ka, .slice (some ⟨gb, 0, none⟩) st.length kb] 62)).heap[W3.heap.size]? = some (.cells #[.int .i64 (rowv (f 0)), .int .i64 (rowv (f 1)), .int .i64 (rowv (f 2)), .int .i64 (rowv (f 3)), .int .i64 (rowv (f 4)), .int .i64 (rowv (f 5)), .slice (some ⟨ga, 0, none⟩) F.length ka, .slice (some ⟨gb, 0, none⟩) st.length kb] 62 (0, 0)) := alloc_at rfl
  replace hp := hp.st W3 (W3.alloc (.cells #[.int .i64 (rowv (f 0)), .int .i64 (rowv (f 1)), .int .i64 (rowv (f 2)), .int .i64 (rowv (f 3)), .int .i64 (rowv (f 4)), .int .i64 (rowv (f 5)), .slice (some ⟨ga, 0, none⟩) F.length ka, .slice (some ⟨gb, 0, none⟩) st.length kb] 62)) (fun k _ hk => ((Below.refl W3.heap.size W3).alloc (Nat.le_refl _) _).block k hk)
  replace qs := alloc_past (o := (.cells #[.int .i64 (rowv (f 0)), .int .i64 (rowv (f 1)), .int .i64 (rowv (f 2)), .int .i64 (rowv (f 3)), .int .i64 (rowv (f 4)), .int .i64 (rowv (f 5)), .slice (some ⟨ga, 0, none⟩) F.length ka, .slice (some ⟨gb, 0, none⟩) st.length kb] 62)) qs
  replace q1 := alloc_past (o := (.cells #[.int .i64 (rowv (f 0)), .int .i64 (rowv (f 1)), .int .i64 (rowv (f 2)), .int .i64 (rowv (f 3)), .int .i64 (rowv (f 4)), .int .i64 (rowv (f 5)), .slice (some ⟨ga, 0, none⟩) F.length ka, .slice (some ⟨gb, 0, none⟩) st.length kb] 62)) q1
  replace hB := hB.alloc (by omega) (.cells #[.int .i64 (rowv (f 0)), .int .i64 (rowv (f 1)), .int .i64 (rowv (f 2)), .int .i64 (rowv (f 3)), .int .i64 (rowv (f 4)), .int .i64 (rowv (f 5)), .slice (some ⟨ga, 0, none⟩) F.length ka, .slice (some ⟨gb, 0, none⟩) st.length kb] 62)
  have hs6 : (W3.alloc (.cells #[.int .i64 (rowv (f 0)), .int .i64 (rowv (f 1)), .int .i64 (rowv (f 2)), .int .i64 (rowv (f 3)), .int .i64 (rowv (f 4)), .int .i64 (rowv (f 5)), .slice (some ⟨ga, 0, none⟩) F.length ka, .slice (some ⟨gb, 0, none⟩) st.length kb] 62)).heap.size = W3.heap.size + 1 := by simp
  have y_c := fun j => cell_of_row _ _ j _ _ _ q6
  have s_c := fun j => cell_of_row _ _ j _ _ _ qs
  -- the new block of the step
  have q6b := alloc_past (o := (.cells #[.int .i64 p.k, .int .i64 p.s, .int .i64 p.x, .int .i64 p.y] 73)) q6
  have q1b := alloc_past (o := (.cells #[.int .i64 p.k, .int .i64 p.s, .int .i64 p.x, .int .i64 p.y] 73)) q1
  have hpb := hp.st _ ((W3.alloc (.cells #[.int .i64 (rowv (f 0)), .int .i64 (rowv (f 1)), .int .i64 (rowv (f 2)), .int .i64 (rowv (f 3)), .int .i64 (rowv (f 4)), .int .i64 (rowv (f 5)), .slice (some ⟨ga, 0, none⟩) F.length ka, .slice (some ⟨gb, 0, none⟩) st.length kb] 62)).alloc (.cells #[.int .i64 p.k, .int .i64 p.s, .int .i64 p.x, .int .i64 p.y] 73)) (fun k _ hk => ((Below.refl (W3.alloc (.cells #[.int .i64 (rowv (f 0)), .int .i64 (rowv (f 1)), .int .i64 (rowv (f 2)), .int .i64 (rowv (f 3)), .int .i64 (rowv (f 4)), .int .i64 (rowv (f 5)), .slice (some ⟨ga, 0, none⟩) F.length ka, .slice (some ⟨gb, 0, none⟩) st.length kb] 62)).heap.size (W3.alloc (.cells #[.int .i64 (rowv (f 0)), .int .i64 (rowv (f 1)), .int .i64 (rowv (f 2)), .int .i64 (rowv (f 3)), .int .i64 (rowv (f 4)), .int .i64 (rowv (f 5)), .slice (some ⟨ga, 0, none⟩) F.length ka, .slice (some ⟨gb, 0, none⟩) st.length kb] 62))).alloc (Nat.le_refl _) (.cells #[.int .i64 p.k, .int .i64 p.s, .int .i64 p.x, .int .i64 p.y] 73)).block k (by omega))
  have hBb := hB.alloc (by omega) (.cells #[.int .i64 p.k, .int .i64 p.s, .int .i64 p.x, .int .i64 p.y] 73)
  have hs7 : ((W3.alloc (.cells #[.int .i64 (rowv (f 0)), .int .i64 (rowv (f 1)), .int .i64 (rowv (f 2)), .int .i64 (rowv (f 3)), .int .i64 (rowv (f 4)), .int .i64 (rowv (f 5)), .slice (some ⟨ga, 0, none⟩) F.length ka, .slice (some ⟨gb, 0, none⟩) st.length kb] 62)).alloc (.cells #[.int .i64 p.k, .int .i64 p.s, .int .i64 p.x, .int .i64 p.y] 73)).heap.size = W3.heap.size + 1 + 1 := by simp
  have Q6 := Lib.hid q6b
  have Q1 := Lib.hid q1b
  have HPP := Lib.hid hpb
  have HBB := Lib.hid hBb
  have HLO := Lib.hid hlo
  have HS3 := Lib.hid hs3
  have HS6 := Lib.hid hs7
  have HZ6 := Lib.hid hs6
  clear q6 q1 hp hB hlo hs3 hs6 hsz q6b q1b hpb hBb hs7 qs
  go_wp2_with (at_builtin; go_loud (refine wpList_append_own_at _ rfl _ _ 60 rfl W2.heap.size 73 i0 (.agg #[.int .i64 0, .int .i64 0, .int .i64 0, .int .i64 0]) 4 32 Try.underlying60 hi hz0 hz1 hz2 rfl (by decide) (.slice (some ⟨gb, 0, none⟩) st.length kb) st.length (sv11 st) rfl HPP.out.2.1 ⟨W3.heap.size + 1, 0, none⟩ 1 1 (cs11 p) rfl rfl (by have h := step_new10 (W3.alloc (.cells #[.int .i64 (rowv (f 0)), .int .i64 (rowv (f 1)), .int .i64 (rowv (f 2)), .int .i64 (rowv (f 3)), .int .i64 (rowv (f 4)), .int .i64 (rowv (f 5)), .slice (some ⟨ga, 0, none⟩) F.length ka, .slice (some ⟨gb, 0, none⟩) st.length kb] 62)) p 73; rw [HZ6.out] at h; exact h) (cs11_one10 p) (by unfold maxLen; omega) (by omega) (by have := HS3.out; have := HS6.out; omega) ?_; intro v' w1 hown hgr hnn hat; have HA2 := Lib.hid (And.intro hown (And.intro hgr hat)); obtain ⟨gn, kn, rfl⟩ := form10 hown (fun e => absurd (hnn.mp e).1 (by simp)); have q7 := (hgr.block W3.heap.size (by have := HS6.out; omega) (fun e => by have := HPP.out.2.2.2.1 W3.heap.size e.symm; omega)).trans Q6.out; clear y_c s_c; have y_c := fun j => cell_of_row w1 _ j _ _ _ q7; have y_f := fun j => frozen_of_row w1 _ j _ _ q7; have q1 := (hgr.block (w.heap.size + 1 + 1) (by have := HLO.out; have := HS3.out; have := HS6.out; omega) (fun e => by have := (HPP.out.2.1.lt _ e.symm).1; have := HLO.out; omega)).trans Q1.out; have z_c := fun j => cell_of_row w1 _ j _ _ _ q1; have z_f := fun j => frozen_of_row w1 _ j _ _ q1; have gne : w.heap.size + 1 + 1 ≠ W3.heap.size := (by have := HLO.out; have := HS3.out; omega); have gne2 : W3.heap.size ≠ w.heap.size + 1 + 1 := fun e => gne e.symm; have Q7 := Lib.hid q7; have QR := Lib.hid q1; clear hown hgr hnn hat q7 q1))
  have hga := HPP.out.2.2.1 ga rfl
  have hgb := HPP.out.2.2.2.1 gb rfl
  have hne : ga ≠ gb := fun e => HPP.out.2.2.2.2 ga rfl (by rw [e]; rfl)
  have hgl := HA2.out.1.lt gn rfl
  have hz6 := HS6.out
  have hgn : gn ≠ W3.heap.size ∧ ga ≠ gn := by
    rcases HA2.out.2.2 with e | e
    · have e : gn = gb := by simpa [Value.ownBlock] using e
      omega
    · have e : gn = ((W3.alloc (.cells #[.int .i64 (rowv (f 0)), .int .i64 (rowv (f 1)), .int .i64 (rowv (f 2)), .int .i64 (rowv (f 3)), .int .i64 (rowv (f 4)), .int .i64 (rowv (f 5)), .slice (some ⟨ga, 0, none⟩) F.length ka, .slice (some ⟨gb, 0, none⟩) st.length kb] 62)).alloc (.cells #[.int .i64 p.k, .int .i64 p.s, .int .i64 p.x, .int .i64 p.y] 73)).heap.size := by simpa [Value.ownBlock] using e
      rw [hz6] at e
      omega
  have hg6 := HA2.out.2.1
  have hl6 := HLO.out
  have hl3 := HS3.out
  have q1 : (w1.setCell ⟨W3.heap.size, 7, none⟩ (.slice (some ⟨gn, 0, none⟩) (st.length + 1) kn)).heap[w.heap.size + 1 + 1]? = some (pz11 62) := by
    rw [Below.heap_setCell _ _ _ _ (show w.heap.size + 1 + 1 ≠ W3.heap.size by omega)]
    exact QR.out
  have o1 := HPP.out.1.kept hg6 (.inr (by simp [Value.ownBlock]; omega))
  have o1 := own_same (lo := ga) (hi := ga + 1) (V := w1.setCell ⟨W3.heap.size, 7, none⟩ (.slice (some ⟨gn, 0, none⟩) (st.length + 1) kn)) o1 (fun k h1 h2 => Below.heap_setCell _ _ _ _ (show k ≠ W3.heap.size by omega)) (fun k hk => by (have : ga = k := (by simpa [Value.ownBlock] using hk)); omega)
  have o2 := own_same (lo := gn) (hi := gn + 1) (V := w1.setCell ⟨W3.heap.size, 7, none⟩ (.slice (some ⟨gn, 0, none⟩) (st.length + 1) kn)) HA2.out.1 (fun k h1 h2 => Below.heap_setCell _ _ _ _ (show k ≠ W3.heap.size by omega)) (fun k hk => by (have : gn = k := (by simpa [Value.ownBlock] using hk)); omega)
  rw [show sv11 st ++ cs11 p = sv11 (st ++ [p]) by rw [sv11_app]; simp [sv11]] at o2
  have hB : Below w.heap.size w (w1.setCell ⟨W3.heap.size, 7, none⟩ (.slice (some ⟨gn, 0, none⟩) (st.length + 1) kn)) := (HBB.out.grown hg6 (by have := HBB.out.size; exact this) (fun k hk => by have := (HPP.out.2.1.lt _ hk).1; omega)).setCell (show w.heap.size ≤ W3.heap.size by omega) _
  have hg1 := hg6.size
  have hlt1 : gn < w1.heap.size := hgl.2
  have hlt0 := hgl.1
  have hla := (HPP.out.1.lt ga rfl).1
  have hsx : (w1.setCell ⟨W3.heap.size, 7, none⟩ (.slice (some ⟨gn, 0, none⟩) (st.length + 1) kn)).heap.size = w1.heap.size := by simp
  clear HPP HA2 HBB Q6 Q1 Q7 QR HS3 HS6 HZ6 hg6 hgl HLO gne gne2 y_c y_f z_c z_f
  generalize World.setCell w1 _ _ = X7 at q1 o1 o2 hB hsx ⊢
  have hp : Pr11 W2.heap.size X7.heap.size (.slice (some ⟨ga, 0, none⟩) F.length ka) (.slice (some ⟨gn, 0, none⟩) (st.length + 1) kn) (F.map t11) (st ++ [p]) X7 := by
    refine ⟨o1, by rw [List.length_append]; exact o2, fun k hk => ?_, fun k hk => ?_, fun k h1 h2 => ?_⟩
    · have : ga = k := by simpa [Value.ownBlock] using hk
      omega
    · have : gn = k := by simpa [Value.ownBlock] using hk
      omega
    · have e1 : ga = k := by simpa [Value.ownBlock] using h1
      have e2 : gn = k := by simpa [Value.ownBlock] using h2
      omega
  have Q1 := Lib.hid q1
  have HF := fun X hX => Lib.hid (box_put11 (w := w) (X := X) (lo := W2.heap.size) (m0 := rowv (f 0)) (m1 := rowv (f 1)) (m2 := rowv (f 2)) (m3 := rowv (f 3)) (m4 := rowv (f 4)) (m5 := rowv (f 5)) Q1.out hp hl6 (by omega) (by omega) hB hX)
  clear q1 o1 o2 hp
  generalize hX : (World.setCell _ _ _ : World) = X
  replace HF := HF X hX
  have x_c := fun j => cell_of_row X _ j _ _ _ HF.out.1
  exact bodyPost_ret (v := .tuple #[.agg #[.int .i64 (rowv (f 0)), .int .i64 (rowv (f 1)), .int .i64 (rowv (f 2)), .int .i64 (rowv (f 3)), .int .i64 (rowv (f 4)), .int .i64 (rowv (f 5)), .slice (some ⟨ga, 0, none⟩) F.length ka, .slice (some ⟨gn, 0, none⟩) (st.length + 1) kn], .bool true]) (by simp [results, Try.results43, go_sem, x_c]) rfl ⟨_, _, rfl, HF.out.2⟩

theorem addstep_pair (m0 m1 m2 m3 m4 m5 : Int) (l : List H11) (st : List S11) (p : S11) (hl : l.length ≤ 1048576) (hst : st.length ≤ 1048576) (hwf : ∀ p ∈ st, (Lit.int .i64 p.x).wf = true ∧ (Lit.int .i64 p.y).wf = true) (hwp : (Lit.int .i64 p.x).wf = true ∧ (Lit.int .i64 p.y).wf = true) : ∃ (r0 r1 r2 r3 r4 r5 : Int) (l' : List H11) (st' : List S11) (t : Bool), l'.length ≤ 1000 ∧ st'.length ≤ 1000 ∧ (∀ (g1 c1 g2 c2 : Nat) (W : World), st.length ≤ c2 → W.rangeAt g1 0 (hv11 l) → W.rangeAt g2 0 (sv11 st) → Calls Try.prog 43 #[.agg #[.int .i64 m0, .int .i64 m1, .int .i64 m2, .int .i64 m3, .int .i64 m4, .int .i64 m5, .slice (some ⟨g1, 0, none⟩) l.length c1, .slice (some ⟨g2, 0, none⟩) st.length c2], .agg #[.int .i64 p.k, .int .i64 p.s, .int .i64 p.x, .int .i64 p.y]] W (TP11 r0 r1 r2 r3 r4 r5 l' st' t W)) ∧ (∀ (g1 c1 g2 c2 : Nat) (W : World), st.length ≤ c2 → W.rangeAt g1 0 (hv11 l) → W.rangeAt g2 0 (sv11 st) → Calls Try.prog 45 #[.agg #[.int .i64 m0, .int .i64 m1, .int .i64 m2, .int .i64 m3, .int .i64 m4, .int .i64 m5, .slice (some ⟨g1, 0, none⟩) l.length c1, .slice (some ⟨g2, 0, none⟩) st.length c2], .agg #[.int .i64 p.k, .int .i64 p.s, .int .i64 p.x, .int .i64 p.y]] W (TP11 r0 r1 r2 r3 r4 r5 l' st' t W)) := by
  have hw2 : ∀ q ∈ st ++ [p], (Lit.int .i64 q.x).wf = true ∧ (Lit.int .i64 q.y).wf = true := by
    intro q hq
    rcases List.mem_append.mp hq with h | h
    · exact hwf q h
    · rw [List.mem_singleton.mp h]; exact hwp
  cases hq : okP (m0, m1, m2, m3, m4, m5) l st
  · exact ⟨0, 0, 0, 0, 0, 0, [], [], false, by simp, by simp, fun g1 c1 g2 c2 W _ a b => saddstep_no0 m0 m1 m2 m3 m4 m5 l st p g1 c1 g2 c2 hl hst hq W a b, fun g1 c1 g2 c2 W _ a b => iaddstep_any m0 m1 m2 m3 m4 m5 l st p 0 0 0 0 0 0 [] [] false g1 c1 g2 c2 (Lib.hid (fun W' g3 c3 a' b' _ => iadd_no m0 m1 m2 m3 m4 m5 l st g1 c1 g2 c2 _ hl hst hwf hq W' a' b')) W a b⟩
  · have hs1 := okP_snoc (p := p) hq
    by_cases hn : st.length < 40
    · cases hs : okS l.length p
      · rw [hs, Bool.and_false] at hs1
        refine ⟨0, 0, 0, 0, 0, 0, [], [], false, by simp, by simp, fun g1 c1 g2 c2 W _ a b => saddstep_no2 m0 m1 m2 m3 m4 m5 l st p g1 c1 g2 c2 hl hst hq hn hs W a b, fun g1 c1 g2 c2 W _ a b => iaddstep_any m0 m1 m2 m3 m4 m5 l st p 0 0 0 0 0 0 [] [] false g1 c1 g2 c2 (Lib.hid (fun W' g3 c3 a' b' c' => ?_)) W a b⟩
        obtain ⟨f, F, e1, rfl, h2, h3, h5⟩ := okP_get hq
        simp only [t11, Prod.mk.injEq] at e1
        obtain ⟨rfl, rfl, rfl, rfl, rfl, rfl⟩ := e1
        have := iadd_bad f F st g1 c1 g2 c2 h3 h2 h5 [p] g3 c3 (by simp) hw2 hs1 W' a' b' c'
        rw [show (F.map t11).length = F.length from List.length_map t11]
        exact this
      · have hd : decide (st.length < 40) = true := decide_eq_true hn
        rw [hs, hd, Bool.and_true] at hs1
        obtain ⟨f, F, e1, rfl, h2, h3, h5⟩ := okP_get hq
        simp only [t11, Prod.mk.injEq] at e1
        obtain ⟨rfl, rfl, rfl, rfl, rfl, rfl⟩ := e1
        have hm : (F.map t11).length = F.length := List.length_map t11
        rw [hm] at hs
        refine ⟨rowv (f 0), rowv (f 1), rowv (f 2), rowv (f 3), rowv (f 4), rowv (f 5), F.map t11, st ++ [p], true, by rw [hm]; omega, by rw [List.length_append, List.length_singleton]; omega, fun g1 c1 g2 c2 W _ a b => ?_, fun g1 c1 g2 c2 W _ a b => iaddstep_any _ _ _ _ _ _ (F.map t11) st p _ _ _ _ _ _ (F.map t11) (st ++ [p]) true g1 c1 g2 c2 (Lib.hid (fun W' g3 c3 a' b' c' => ?_)) W a b⟩
        · rw [hm]
          exact saddstep_yes f F st g1 c1 g2 c2 h3 h2 h5 p hn hs W a b
        · have := iadd_yes f F st g1 c1 g2 c2 h3 h2 h5 [p] g3 c3 (by simp) hw2 hs1 W' a' b' c'
          rw [hm]
          exact this
    · have hd : decide (st.length < 40) = false := decide_eq_false hn
      rw [hd, Bool.false_and] at hs1
      refine ⟨0, 0, 0, 0, 0, 0, [], [], false, by simp, by simp, fun g1 c1 g2 c2 W _ a b => saddstep_no1 m0 m1 m2 m3 m4 m5 l st p g1 c1 g2 c2 hl hst hq hn W a b, fun g1 c1 g2 c2 W _ a b => iaddstep_any m0 m1 m2 m3 m4 m5 l st p 0 0 0 0 0 0 [] [] false g1 c1 g2 c2 (Lib.hid (fun W' g3 c3 a' b' c' => ?_)) W a b⟩
      obtain ⟨f, F, e1, rfl, h2, h3, h5⟩ := okP_get hq
      simp only [t11, Prod.mk.injEq] at e1
      obtain ⟨rfl, rfl, rfl, rfl, rfl, rfl⟩ := e1
      have := iadd_bad f F st g1 c1 g2 c2 h3 h2 h5 [p] g3 c3 (by simp) hw2 hs1 W' a' b' c'
      rw [show (F.map t11).length = F.length from List.length_map t11]
      exact this
/- Rg11 -/
theorem one8_11 (r0 r1 r2 r3 r4 r5 : Int) {v1 v2 : Value} (h1 : v1.oneCell' = true) (h2 : v2.oneCell' = true) : (#[.int .i64 r0, .int .i64 r1, .int .i64 r2, .int .i64 r3, .int .i64 r4, .int .i64 r5, v1, v2] : Array Value).all (·.oneCell') = true := by
  have hi : ∀ r : Int, Value.oneCell' (.int .i64 r) = true := fun _ => rfl
  simp [hi, h1, h2]
/-- A plan's box and its rows, as one thing. -/
def Cb11 (lo hi bw : Nat) (o : Obj) (a b : Nat) (v1 v2 : Value) (l : List H11) (st : List S11) (U : World) : Prop := (lo ≤ bw ∧ bw < hi ∧ lo ≤ a ∧ b ≤ hi ∧ (bw < a ∨ b ≤ bw)) ∧ U.heap[bw]? = some o ∧ Pr11 a b v1 v2 l st U
theorem Cb11.st {lo hi bw : Nat} {o : Obj} {a b : Nat} {v1 v2 : Value} {l : List H11} {st : List S11} (U V : World) (hs : SameIn lo hi U V) (h : Cb11 lo hi bw o a b v1 v2 l st U) : Cb11 lo hi bw o a b v1 v2 l st V :=
  ⟨h.1, (hs bw h.1.1 h.1.2.1).trans h.2.1, h.2.2.st U V (fun k h1 h2 => hs k (by have := h.1; omega) (by have := h.1; omega))⟩
def cb (lo hi bw : Nat) (o : Obj) (a b : Nat) (v1 v2 : Value) (l : List H11) (st : List S11) : It := ⟨lo, hi, Cb11 lo hi bw o a b v1 v2 l st, Cb11.st⟩
def Mb11 (lo hi bw : Nat) (o : Obj) (a b : Nat) (v1 v2 : Value) (l : List H11) (st : List S11) (U : World) : Prop := (lo ≤ bw ∧ bw < hi ∧ lo ≤ a ∧ b ≤ hi ∧ (bw < a ∨ b ≤ bw)) ∧ U.heap[bw]? = some o ∧ Mp11 a b v1 v2 l st U
theorem Mb11.st {lo hi bw : Nat} {o : Obj} {a b : Nat} {v1 v2 : Value} {l : List H11} {st : List S11} (U V : World) (hs : SameIn lo hi U V) (h : Mb11 lo hi bw o a b v1 v2 l st U) : Mb11 lo hi bw o a b v1 v2 l st V :=
  ⟨h.1, (hs bw h.1.1 h.1.2.1).trans h.2.1, h.2.2.st U V (fun k h1 h2 => hs k (by have := h.1; omega) (by have := h.1; omega))⟩
def mb (lo hi bw : Nat) (o : Obj) (a b : Nat) (v1 v2 : Value) (l : List H11) (st : List S11) : It := ⟨lo, hi, Mb11 lo hi bw o a b v1 v2 l st, Mb11.st⟩
theorem Lw.cellc {w U : World} {L : List It} (h : Lw w L U) {lo hi b : Nat} {cs : Array Value} {t : TypeId} {x y : Nat} {v1 v2 : Value} {l : List H11} {st : List S11} (hm : cb lo hi b (.cells cs t (0, 0)) x y v1 v2 l st ∈ L) (j : Nat) : U.cell? ⟨b, j, none⟩ = cs[j]? := cell_of_row U b j _ _ _ (h.get hm).2.1
theorem Lw.cellm {w U : World} {L : List It} (h : Lw w L U) {lo hi b : Nat} {cs : Array Value} {t : TypeId} {x y : Nat} {v1 v2 : Value} {l : List H11} {st : List S11} (hm : mb lo hi b (.cells cs t (0, 0)) x y v1 v2 l st ∈ L) (j : Nat) : U.cell? ⟨b, j, none⟩ = cs[j]? := cell_of_row U b j _ _ _ (h.get hm).2.1
theorem Onl11.widen {lo hi a b : Nat} {U V : World} (h : Onl11 a b U V) (h1 : lo ≤ a) (h2 : b ≤ hi) : Onl11 lo hi U V := ⟨h.1, h.2.1, h.2.2.1, h.2.2.2.1, fun k hk hn => h.2.2.2.2 k hk (fun e => hn ⟨by omega, by omega⟩)⟩
/-- A plan that is marked, in its box. -/
theorem Cb11.mark {lo hi bw : Nat} {o : Obj} {a b : Nat} {v1 v2 : Value} {l : List H11} {st : List S11} {U V : World} (h : Cb11 lo hi bw o a b v1 v2 l st U) (hU : hi ≤ U.heap.size) (hm : Mp11 a b v1 v2 l st V) (ho : Onl11 a b U V) : Mb11 lo hi bw o a b v1 v2 l st V :=
  ⟨h.1, (ho.2.2.2.2 bw (by have := h.1; omega) (by have := h.1; omega)).trans h.2.1, hm⟩
theorem SKA_5 {wr U : World} {b0 b1 : Nat} {m0 m1 m2 m3 m4 m5 : Int} {a1 a2 : Option Addr} {k1 k2 p1 p2 : Nat} {z1 : List H11} {z2 : List S11} {p : S11} (h0 : wr.heap[b0]? = some (Obj.cells #[.int .i64 m0, .int .i64 m1, .int .i64 m2, .int .i64 m3, .int .i64 m4, .int .i64 m5, .slice a1 z1.length k1, .slice a2 z2.length k2] 57 (0, 0))) (h1 : wr.heap[b1]? = some (Obj.cells #[.int .i64 p.k, .int .i64 p.s, .int .i64 p.x, .int .i64 p.y] 71 (0, 0))) (hb : Below wr.heap.size wr U) : U.cell? ⟨b0, 0, none⟩ = some (.int .i64 m0) ∧ U.cell? ⟨b0, 1, none⟩ = some (.int .i64 m1) ∧ U.cell? ⟨b0, 2, none⟩ = some (.int .i64 m2) ∧ U.cell? ⟨b0, 3, none⟩ = some (.int .i64 m3) ∧ U.cell? ⟨b0, 4, none⟩ = some (.int .i64 m4) ∧ U.cell? ⟨b0, 5, none⟩ = some (.int .i64 m5) ∧ U.cell? ⟨b0, 6, none⟩ = some (.slice a1 z1.length k1) ∧ U.cell? ⟨b0, 7, none⟩ = some (.slice a2 z2.length k2) ∧ U.cell? ⟨b1, 0, none⟩ = some (.int .i64 p.k) ∧ U.cell? ⟨b1, 1, none⟩ = some (.int .i64 p.s) ∧ U.cell? ⟨b1, 2, none⟩ = some (.int .i64 p.x) ∧ U.cell? ⟨b1, 3, none⟩ = some (.int .i64 p.y) := by
  have q0 := fun j => cell_of_row U b0 j _ _ _ (rowk h0 hb rfl)
  have q1 := fun j => cell_of_row U b1 j _ _ _ (rowk h1 hb rfl)
  exact ⟨q0 0, q0 1, q0 2, q0 3, q0 4, q0 5, q0 6, q0 7, q1 0, q1 1, q1 2, q1 3⟩
set_option linter.unusedSimpArgs false in
set_option maxRecDepth 20000 in
set_option maxHeartbeats 8000000 in
theorem rg_5 {Q : Exit → Act → World → Prop} (wr : World) (b0 b1 : Nat) (m0 m1 m2 m3 m4 m5 : Int) (a1 a2 : Option Addr) (k1 k2 p1 p2 : Nat) (z1 : List H11) (z2 : List S11) (p : S11) (r0 r1 r2 r3 r4 r5 : Int) (l' : List H11) (st' : List S11) (t : Bool) {x0 x1 x4 x5 x6 x7 x8 x9 x10 x11 x12 x13 x14 x15 x16 x17 x18 x19 x20 x21 x22 x23 x24 x25 x26 x27 x28 x29 x30 x31 x32 x33 x34 x35 x36 x37 x38 x39 x40 x41 x42 x43 x44 x45 x46 x47 x48 x49 x50 x51 x52 x53 x54 x55 x56 x57 x58 x59 x60 x61 x62 x63 x64 x65 x66 x67 x68 x69 x70 x71 x72 x73 x74 x75 x76 x77 x78 x79 x80 x81 x82 x83 x84 x85 x86 x87 x88 x89 x90 x91 x92 x93 x94 x95 x96 x97 x98 x99 x100 x101 x102 x103 : Value} (H0 : Hid (wr.heap[b0]? = some (Obj.cells #[.int .i64 m0, .int .i64 m1, .int .i64 m2, .int .i64 m3, .int .i64 m4, .int .i64 m5, .slice a1 z1.length k1, .slice a2 z2.length k2] 57 (0, 0)))) (H1 : Hid (wr.heap[b1]? = some (Obj.cells #[.int .i64 p.k, .int .i64 p.s, .int .i64 p.x, .int .i64 p.y] 71 (0, 0)))) (HT : Hid (∀ (W : World), Is11 ch11 6 W a1 z1 → Is11 cs11 4 W a2 z2 → Calls Try.prog 36 #[.agg #[.int .i64 m0, .int .i64 m1, .int .i64 m2, .int .i64 m3, .int .i64 m4, .int .i64 m5, .slice a1 z1.length k1, .slice a2 z2.length k2]] W (PP11 m0 m1 m2 m3 m4 m5 z1 z2 W))) (J0 : Hid (Is11 ch11 6 wr a1 z1)) (J1 : Hid (Is11 cs11 4 wr a2 z2)) (HC : Hid (∀ (g1 c1 g2 c2 : Nat) (W : World), z2.length ≤ c2 → W.rangeAt g1 0 (hv11 z1) → W.rangeAt g2 0 (sv11 z2) → Calls Try.prog 43 #[.agg #[.int .i64 m0, .int .i64 m1, .int .i64 m2, .int .i64 m3, .int .i64 m4, .int .i64 m5, .slice (some ⟨g1, 0, none⟩) z1.length c1, .slice (some ⟨g2, 0, none⟩) z2.length c2], .agg #[.int .i64 p.k, .int .i64 p.s, .int .i64 p.x, .int .i64 p.y]] W (TP11 r0 r1 r2 r3 r4 r5 l' st' t W)))
    (hQ : ∀ (lo hi bw : Nat) (v1 v2 : Value) (X : World) (y21 y22 y23 y24 y25 y26 y27 y28 : Value), Below wr.heap.size wr X → X.heap[bw]? = some (Obj.cells #[.int .i64 r0, .int .i64 r1, .int .i64 r2, .int .i64 r3, .int .i64 r4, .int .i64 r5, v1, v2] 62 (0, 0)) → Pr11 lo hi v1 v2 l' st' X → (wr.heap.size ≤ bw ∧ bw < X.heap.size ∧ wr.heap.size ≤ lo ∧ hi ≤ X.heap.size ∧ (bw < lo ∨ hi ≤ bw)) → Q .normal { tmps := #[x0, x1, (.pointer (some ⟨b0, 0, none⟩)), (.pointer (some ⟨b1, 0, none⟩)), x4, x5, (.pointer (some ⟨bw, 0, none⟩)), (.bool t), x8, x9, x10, x11, x12, x13, x14, x15, x16, x17, x18, x19, x20, y21, y22, y23, y24, y25, y26, y27, y28, x29, x30, x31, x32, x33, x34, x35, x36, x37, x38, x39, x40, x41, x42, x43, x44, x45, x46, x47, x48, x49, x50, x51, x52, x53, x54, x55, x56, x57, x58, x59, x60, x61, x62, x63, x64, x65, x66, x67, x68, x69, x70, x71, x72, x73, x74, x75, x76, x77, x78, x79, x80, x81, x82, x83, x84, x85, x86, x87, x88, x89, x90, x91, x92, x93, x94, x95, x96, x97, x98, x99, x100, x101, x102, x103], defers := [] } X) :
    (Code.region 5 #[{ dst := some 22, op := Go.Op.load 57 (Go.Operand.tmp 2), type := 57, pos := "exact.go:1185", after := #[], guard := none }, { dst := some 23, op := Go.Op.call { callee := Go.Callee.value (Go.Operand.func 36), args := #[Go.Operand.tmp 22], argTypes := #[57] }, type := 62, pos := "exact.go:1185", after := #[{ on := 0, ground := Go.Ground.data }], guard := none }, { dst := some 24, op := Go.Op.load 71 (Go.Operand.tmp 3), type := 71, pos := "exact.go:1185", after := #[], guard := none }, { dst := some 25, op := Go.Op.call { callee := Go.Callee.value (Go.Operand.func 44), args := #[Go.Operand.tmp 24], argTypes := #[71] }, type := 73, pos := "exact.go:1185", after := #[{ on := 2, ground := Go.Ground.data }, { on := 1, ground := Go.Ground.chain }], guard := none }, { dst := some 26, op := Go.Op.call { callee := Go.Callee.value (Go.Operand.func 43), args := #[Go.Operand.tmp 23, Go.Operand.tmp 25], argTypes := #[62, 73] }, type := 63, pos := "exact.go:1185", after := #[{ on := 1, ground := Go.Ground.data }, { on := 3, ground := Go.Ground.data }, { on := 3, ground := Go.Ground.chain }], guard := none }, { dst := some 21, op := Go.Op.move (Go.Operand.tmp 26), type := 63, pos := "exact.go:1185", after := #[{ on := 4, ground := Go.Ground.data }], guard := none }, { dst := some 27, op := Go.Op.extract (Go.Operand.tmp 21) 0, type := 62, pos := "exact.go:1185", after := #[{ on := 5, ground := Go.Ground.data }], guard := none }, { dst := some 28, op := Go.Op.extract (Go.Operand.tmp 21) 1, type := 4, pos := "exact.go:1185", after := #[{ on := 5, ground := Go.Ground.data }, { on := 9, ground := Go.Ground.gcOnly Go.Departure.lateStores }], guard := none }, { dst := some 6, op := Go.Op.alloc 62, type := 0, pos := "exact.go:1185", after := #[], guard := none }, { dst := none, op := Go.Op.store 62 (Go.Operand.tmp 6) (Go.Operand.tmp 27), type := 0, pos := "exact.go:1185", after := #[{ on := 8, ground := Go.Ground.data }, { on := 6, ground := Go.Ground.data }, { on := 4, ground := Go.Ground.chain }, { on := 0, ground := Go.Ground.phase }, { on := 1, ground := Go.Ground.phase }, { on := 2, ground := Go.Ground.phase }, { on := 3, ground := Go.Ground.phase }, { on := 4, ground := Go.Ground.phase }, { on := 5, ground := Go.Ground.phase }, { on := 6, ground := Go.Ground.phase }, { on := 7, ground := Go.Ground.textOnly Go.Departure.lateStores }, { on := 8, ground := Go.Ground.phase }], guard := none }, { dst := some 7, op := Go.Op.assign (Go.Operand.tmp 28), type := 4, pos := "exact.go:1185", after := #[{ on := 7, ground := Go.Ground.data }, { on := 9, ground := Go.Ground.chain }, { on := 0, ground := Go.Ground.phase }, { on := 1, ground := Go.Ground.phase }, { on := 2, ground := Go.Ground.phase }, { on := 3, ground := Go.Ground.phase }, { on := 4, ground := Go.Ground.phase }, { on := 5, ground := Go.Ground.phase }, { on := 6, ground := Go.Ground.phase }, { on := 7, ground := Go.Ground.phase }, { on := 8, ground := Go.Ground.phase }, { on := 9, ground := Go.Ground.phase }], guard := none }] true).wp Try.prog Q { tmps := #[x0, x1, (.pointer (some ⟨b0, 0, none⟩)), (.pointer (some ⟨b1, 0, none⟩)), x4, x5, x6, x7, x8, x9, x10, x11, x12, x13, x14, x15, x16, x17, x18, x19, x20, x21, x22, x23, x24, x25, x26, x27, x28, x29, x30, x31, x32, x33, x34, x35, x36, x37, x38, x39, x40, x41, x42, x43, x44, x45, x46, x47, x48, x49, x50, x51, x52, x53, x54, x55, x56, x57, x58, x59, x60, x61, x62, x63, x64, x65, x66, x67, x68, x69, x70, x71, x72, x73, x74, x75, x76, x77, x78, x79, x80, x81, x82, x83, x84, x85, x86, x87, x88, x89, x90, x91, x92, x93, x94, x95, x96, x97, x98, x99, x100, x101, x102, x103], defers := [] } wr := by
  have HQ := Lib.hid hQ
  clear hQ
  have hk := Below.refl wr.heap.size wr
  refine wp_region_noPanic ?_
  refine wp_region_held_drew (S := (fun U => U.cell? ⟨b0, 0, none⟩ = some (.int .i64 m0) ∧ U.cell? ⟨b0, 1, none⟩ = some (.int .i64 m1) ∧ U.cell? ⟨b0, 2, none⟩ = some (.int .i64 m2) ∧ U.cell? ⟨b0, 3, none⟩ = some (.int .i64 m3) ∧ U.cell? ⟨b0, 4, none⟩ = some (.int .i64 m4) ∧ U.cell? ⟨b0, 5, none⟩ = some (.int .i64 m5) ∧ U.cell? ⟨b0, 6, none⟩ = some (.slice a1 z1.length k1) ∧ U.cell? ⟨b0, 7, none⟩ = some (.slice a2 z2.length k2) ∧ U.cell? ⟨b1, 0, none⟩ = some (.int .i64 p.k) ∧ U.cell? ⟨b1, 1, none⟩ = some (.int .i64 p.s) ∧ U.cell? ⟨b1, 2, none⟩ = some (.int .i64 p.x) ∧ U.cell? ⟨b1, 3, none⟩ = some (.int .i64 p.y))) (by kernel_rfl) ?_ (fun hHeld => ?_)
  · (try dsimp only)
    exact SKA_5 (wr := wr) (b0 := b0) (b1 := b1) (a1 := a1) (a2 := a2) (k1 := k1) (k2 := k2) (p1 := 0) (p2 := 0) H0.out H1.out (by (repeat (first | with_reducible assumption | with_reducible refine Below.drew ?_)))
  have hk := hk.drew
  generalize wr.drew = V at hk hHeld ⊢
  refine wpAnyH_take (i := 0) (oi := { dst := some 22, op := Go.Op.load 57 (Go.Operand.tmp 2), type := 57, pos := "exact.go:1185", after := #[], guard := none }) (v := ?_) rfl (by kernel_rfl) (by kernel_rfl) (by kernel_rfl) (fun _ _ _ h => h) (Or.inl ⟨by rfl, ?_⟩) (by assumption) ?_
  rotate_left
  · intro w hSw; (try dsimp only at hSw); go_simp; (try with_reducible rfl)
  simp only [Act.put, List.setIfInBounds_toArray, List.set_cons_zero, List.set_cons_succ]
  refine wpAnyH_take (i := 2) (oi := { dst := some 24, op := Go.Op.load 71 (Go.Operand.tmp 3), type := 71, pos := "exact.go:1185", after := #[], guard := none }) (v := ?_) rfl (by kernel_rfl) (by kernel_rfl) (by kernel_rfl) (fun _ _ _ h => h) (Or.inl ⟨by rfl, ?_⟩) (by assumption) ?_
  rotate_left
  · intro w hSw; (try dsimp only at hSw); go_simp; (try with_reducible rfl)
  simp only [Act.put, List.setIfInBounds_toArray, List.set_cons_zero, List.set_cons_succ]
  refine wpAnyH_ready (rs := [1, 8]) (by kernel_rfl) (by simp) ?_
  refine (AllReadyH.cons (o := { dst := some 23, op := Go.Op.call { callee := Go.Callee.value (Go.Operand.func 36), args := #[Go.Operand.tmp 22], argTypes := #[57] }, type := 62, pos := "exact.go:1185", after := #[{ on := 0, ground := Go.Ground.data }], guard := none }) rfl (fun K hK => ?_) (AllReadyH.cons (o := { dst := some 6, op := Go.Op.alloc 62, type := 0, pos := "exact.go:1185", after := #[], guard := none }) rfl (fun K hK => ?_) AllReadyH.nil))
  · go_simp
    refine (HT.out _ (Is11.below J0.out hk) (Is11.below J1.out hk)).mono ?_
    rintro e w' ⟨p1, p2, rfl, hpp, hb'⟩
    have R1 := own_range hpp.1
    have R2 := own_range hpp.2.1
    clear hpp
    have hk := hk.trans (hb'.mono hk.size)
    clear hb'
    refine hK.out _ _ ?_ (fun hHeld => ?_)
    · (try dsimp only)
      exact SKA_5 (wr := wr) (b0 := b0) (b1 := b1) (a1 := a1) (a2 := a2) (k1 := k1) (k2 := k2) (p1 := 0) (p2 := 0) H0.out H1.out (by (repeat (first | with_reducible assumption | with_reducible refine Below.drew ?_)))
    clear hK K
    (try simp only [Act.put, List.setIfInBounds_toArray, List.set_cons_zero, List.set_cons_succ])
    generalize w' = V at hk hHeld R1 R2 ⊢
    refine wpAnyH_ready (rs := [3, 8]) (by kernel_rfl) (by simp) ?_
    refine (AllReadyH.cons (o := { dst := some 25, op := Go.Op.call { callee := Go.Callee.value (Go.Operand.func 44), args := #[Go.Operand.tmp 24], argTypes := #[71] }, type := 73, pos := "exact.go:1185", after := #[{ on := 2, ground := Go.Ground.data }, { on := 1, ground := Go.Ground.chain }], guard := none }) rfl (fun K hK => ?_) (AllReadyH.cons (o := { dst := some 6, op := Go.Op.alloc 62, type := 0, pos := "exact.go:1185", after := #[], guard := none }) rfl (fun K hK => ?_) AllReadyH.nil))
    · go_simp
      refine (to_step11 _ _ _ _ _).mono ?_
      rintro e w' ⟨rfl, hb'⟩
      have R1 := ra_below R1 hb' rfl
      have R2 := ra_below R2 hb' rfl
      have hk := hk.trans (hb'.mono hk.size)
      clear hb'
      refine hK.out _ _ ?_ (fun hHeld => ?_)
      · (try dsimp only)
        exact SKA_5 (wr := wr) (b0 := b0) (b1 := b1) (a1 := a1) (a2 := a2) (k1 := k1) (k2 := k2) (p1 := 0) (p2 := 0) H0.out H1.out (by (repeat (first | with_reducible assumption | with_reducible refine Below.drew ?_)))
      clear hK K
      (try simp only [Act.put, List.setIfInBounds_toArray, List.set_cons_zero, List.set_cons_succ])
      generalize w' = V at hk hHeld R1 R2 ⊢
      refine wpAnyH_ready (rs := [4, 8]) (by kernel_rfl) (by simp) ?_
      refine (AllReadyH.cons (o := { dst := some 26, op := Go.Op.call { callee := Go.Callee.value (Go.Operand.func 43), args := #[Go.Operand.tmp 23, Go.Operand.tmp 25], argTypes := #[62, 73] }, type := 63, pos := "exact.go:1185", after := #[{ on := 1, ground := Go.Ground.data }, { on := 3, ground := Go.Ground.data }, { on := 3, ground := Go.Ground.chain }], guard := none }) rfl (fun K hK => ?_) (AllReadyH.cons (o := { dst := some 6, op := Go.Op.alloc 62, type := 0, pos := "exact.go:1185", after := #[], guard := none }) rfl (fun K hK => ?_) AllReadyH.nil))
      · go_simp
        refine (HC.out _ _ _ _ _ (Nat.le_refl _) R1 R2).mono ?_
        rintro e w' ⟨v1, v2, rfl, hp, hb'⟩
        clear R1 R2
        have hlo : wr.heap.size ≤ V.heap.size := hk.size
        have hk := hk.trans (hb'.mono hk.size)
        obtain ⟨hi, hhi⟩ : ∃ hi, hi = w'.heap.size := ⟨_, rfl⟩
        rw [← hhi] at hp
        have hhi : hi ≤ w'.heap.size := Nat.le_of_eq hhi
        clear hb'
        refine hK.out _ _ ?_ (fun hHeld => ?_)
        · (try dsimp only)
          exact SKA_5 (wr := wr) (b0 := b0) (b1 := b1) (a1 := a1) (a2 := a2) (k1 := k1) (k2 := k2) (p1 := 0) (p2 := 0) H0.out H1.out (by (repeat (first | with_reducible assumption | with_reducible refine Below.drew ?_)))
        clear hK K
        (try simp only [Act.put, List.setIfInBounds_toArray, List.set_cons_zero, List.set_cons_succ])
        obtain ⟨lo, hl⟩ : ∃ lo, lo = V.heap.size := ⟨_, rfl⟩
        rw [← hl] at hp hlo 
        clear hl
        generalize w' = V at hk hHeld hp hhi ⊢
        refine wpAnyH_take (i := 5) (oi := { dst := some 21, op := Go.Op.move (Go.Operand.tmp 26), type := 63, pos := "exact.go:1185", after := #[{ on := 4, ground := Go.Ground.data }], guard := none }) (v := ?_) rfl (by kernel_rfl) (by kernel_rfl) (by kernel_rfl) (fun _ _ _ h => h) (Or.inl ⟨by rfl, ?_⟩) (by assumption) ?_
        rotate_left
        · intro w hSw; (try dsimp only at hSw); go_simp; (try with_reducible rfl)
        simp only [Act.put, List.setIfInBounds_toArray, List.set_cons_zero, List.set_cons_succ]
        refine wpAnyH_take (i := 6) (oi := { dst := some 27, op := Go.Op.extract (Go.Operand.tmp 21) 0, type := 62, pos := "exact.go:1185", after := #[{ on := 5, ground := Go.Ground.data }], guard := none }) (v := ?_) rfl (by kernel_rfl) (by kernel_rfl) (by kernel_rfl) (fun _ _ _ h => h) (Or.inl ⟨by rfl, ?_⟩) (by assumption) ?_
        rotate_left
        · intro w hSw; (try dsimp only at hSw); go_simp; (try with_reducible rfl)
        simp only [Act.put, List.setIfInBounds_toArray, List.set_cons_zero, List.set_cons_succ]
        refine wpAnyH_take (i := 7) (oi := { dst := some 28, op := Go.Op.extract (Go.Operand.tmp 21) 1, type := 4, pos := "exact.go:1185", after := #[{ on := 5, ground := Go.Ground.data }, { on := 9, ground := Go.Ground.gcOnly Go.Departure.lateStores }], guard := none }) (v := ?_) rfl (by kernel_rfl) (by kernel_rfl) (by kernel_rfl) (fun _ _ _ h => h) (Or.inl ⟨by rfl, ?_⟩) (by assumption) ?_
        rotate_left
        · intro w hSw; (try dsimp only at hSw); go_simp; (try with_reducible rfl)
        simp only [Act.put, List.setIfInBounds_toArray, List.set_cons_zero, List.set_cons_succ]
        refine wpAnyH_ready (rs := [8]) (by kernel_rfl) (by simp) ?_
        refine (AllReadyH.cons (o := { dst := some 6, op := Go.Op.alloc 62, type := 0, pos := "exact.go:1185", after := #[], guard := none }) rfl (fun K hK => ?_) AllReadyH.nil)
        · go_simp
          have hn : (V.alloc (.cells #[.int .i64 0, .int .i64 0, .int .i64 0, .int .i64 0, .int .i64 0, .int .i64 0, .slice none 0 0, .slice none 0 0] 62)).heap[V.heap.size]? = some (.cells #[.int .i64 0, .int .i64 0, .int .i64 0, .int .i64 0, .int .i64 0, .int .i64 0, .slice none 0 0, .slice none 0 0] 62 (0, 0)) := alloc_at rfl
          have hG : wr.heap.size ≤ V.heap.size := hk.size
          have hk := Below.alloc hk hk.size (.cells #[.int .i64 0, .int .i64 0, .int .i64 0, .int .i64 0, .int .i64 0, .int .i64 0, .slice none 0 0, .slice none 0 0] 62)
          have hp := hp.st V (V.alloc (.cells #[.int .i64 0, .int .i64 0, .int .i64 0, .int .i64 0, .int .i64 0, .int .i64 0, .slice none 0 0, .slice none 0 0] 62)) (fun k _ h2 => ((Below.refl V.heap.size V).alloc (Nat.le_refl _) (.cells #[.int .i64 0, .int .i64 0, .int .i64 0, .int .i64 0, .int .i64 0, .int .i64 0, .slice none 0 0, .slice none 0 0] 62)).block k (by omega))
          have hor : V.heap.size < lo ∨ hi ≤ V.heap.size := .inr hhi
          have hhi : hi ≤ (V.alloc (.cells #[.int .i64 0, .int .i64 0, .int .i64 0, .int .i64 0, .int .i64 0, .int .i64 0, .slice none 0 0, .slice none 0 0] 62)).heap.size := by simp; omega
          refine hK.out _ _ ?_ (fun hHeld => ?_)
          · (try dsimp only)
            exact SKA_5 (wr := wr) (b0 := b0) (b1 := b1) (a1 := a1) (a2 := a2) (k1 := k1) (k2 := k2) (p1 := 0) (p2 := 0) H0.out H1.out (by (repeat (first | with_reducible assumption | with_reducible refine Below.drew ?_)))
          clear hK K
          (try simp only [Act.put, List.setIfInBounds_toArray, List.set_cons_zero, List.set_cons_succ])
          generalize V.heap.size = G at hn hG hor ⊢
          generalize (World.alloc _ _ : World) = V at hk hHeld hn hp hhi ⊢
          refine wpAnyH_ready (rs := [9]) (by kernel_rfl) (by simp) ?_
          refine (AllReadyH.cons (o := { dst := none, op := Go.Op.store 62 (Go.Operand.tmp 6) (Go.Operand.tmp 27), type := 0, pos := "exact.go:1185", after := #[{ on := 8, ground := Go.Ground.data }, { on := 6, ground := Go.Ground.data }, { on := 4, ground := Go.Ground.chain }, { on := 0, ground := Go.Ground.phase }, { on := 1, ground := Go.Ground.phase }, { on := 2, ground := Go.Ground.phase }, { on := 3, ground := Go.Ground.phase }, { on := 4, ground := Go.Ground.phase }, { on := 5, ground := Go.Ground.phase }, { on := 6, ground := Go.Ground.phase }, { on := 7, ground := Go.Ground.textOnly Go.Departure.lateStores }, { on := 8, ground := Go.Ground.phase }], guard := none }) rfl (fun K hK => ?_) AllReadyH.nil)
          · skip
            have wo1 := own_one11 hp.1
            have wo2 := own_one11 hp.2.1
            refine wp_store_mid 62 (.tmp 6) (.tmp 27) rfl G 0 #[.int .i64 r0, .int .i64 r1, .int .i64 r2, .int .i64 r3, .int .i64 r4, .int .i64 r5, v1, v2] rfl rfl (row_there12 (cs := #[.int .i64 0, .int .i64 0, .int .i64 0, .int .i64 0, .int .i64 0, .int .i64 0, .slice none 0 0, .slice none 0 0]) hn) (by kernel_rfl) (one8_11 r0 r1 r2 r3 r4 r5 wo1 wo2) ?_
            have hx := row_sets12 (cs' := #[.int .i64 r0, .int .i64 r1, .int .i64 r2, .int .i64 r3, .int .i64 r4, .int .i64 r5, v1, v2]) hn rfl
            have hk := setCells_bel hG (Array.toList #[.int .i64 r0, .int .i64 r1, .int .i64 r2, .int .i64 r3, .int .i64 r4, .int .i64 r5, v1, v2]) 0 _ _ hk
            have hp := hp.st V (V.setCells G 0 (Array.toList #[.int .i64 r0, .int .i64 r1, .int .i64 r2, .int .i64 r3, .int .i64 r4, .int .i64 r5, v1, v2])) (fun k h1 h2 => setCells_heap (show k ≠ G by omega) _ _ _)
            have hhi : hi ≤ (V.setCells G 0 (Array.toList #[.int .i64 r0, .int .i64 r1, .int .i64 r2, .int .i64 r3, .int .i64 r4, .int .i64 r5, v1, v2])).heap.size := by rw [setCells_size11]; exact hhi
            clear hn
            refine hK.out _ _ ?_ (fun hHeld => ?_)
            · (try dsimp only)
              exact SKA_5 (wr := wr) (b0 := b0) (b1 := b1) (a1 := a1) (a2 := a2) (k1 := k1) (k2 := k2) (p1 := 0) (p2 := 0) H0.out H1.out (by (repeat (first | with_reducible assumption | with_reducible refine Below.drew ?_)))
            clear hK K
            (try simp only [Act.put, List.setIfInBounds_toArray, List.set_cons_zero, List.set_cons_succ])
            generalize (World.setCells _ _ _ _ : World) = X at hk hx hHeld hp hhi ⊢
            refine wpAnyH_take (i := 10) (oi := { dst := some 7, op := Go.Op.assign (Go.Operand.tmp 28), type := 4, pos := "exact.go:1185", after := #[{ on := 7, ground := Go.Ground.data }, { on := 9, ground := Go.Ground.chain }, { on := 0, ground := Go.Ground.phase }, { on := 1, ground := Go.Ground.phase }, { on := 2, ground := Go.Ground.phase }, { on := 3, ground := Go.Ground.phase }, { on := 4, ground := Go.Ground.phase }, { on := 5, ground := Go.Ground.phase }, { on := 6, ground := Go.Ground.phase }, { on := 7, ground := Go.Ground.phase }, { on := 8, ground := Go.Ground.phase }, { on := 9, ground := Go.Ground.phase }], guard := none }) (v := ?_) rfl (by kernel_rfl) (by kernel_rfl) (by kernel_rfl) (fun _ _ _ h => h) (Or.inl ⟨by rfl, ?_⟩) (by assumption) ?_
            rotate_left
            · intro w hSw; (try dsimp only at hSw); go_simp; (try with_reducible rfl)
            simp only [Act.put, List.setIfInBounds_toArray, List.set_cons_zero, List.set_cons_succ]
            refine wpAnyH_done (by kernel_rfl) ?_ _
            refine NoPanic.normal (HQ.out lo hi G v1 v2 X _ _ _ _ _ _ _ _ hk hx hp ⟨hG, (Array.getElem?_eq_some_iff.1 hx).1, hlo, hhi, hor⟩)
      · go_simp
        have hn : (V.alloc (.cells #[.int .i64 0, .int .i64 0, .int .i64 0, .int .i64 0, .int .i64 0, .int .i64 0, .slice none 0 0, .slice none 0 0] 62)).heap[V.heap.size]? = some (.cells #[.int .i64 0, .int .i64 0, .int .i64 0, .int .i64 0, .int .i64 0, .int .i64 0, .slice none 0 0, .slice none 0 0] 62 (0, 0)) := alloc_at rfl
        have hG : wr.heap.size ≤ V.heap.size := hk.size
        have hk := Below.alloc hk hk.size (.cells #[.int .i64 0, .int .i64 0, .int .i64 0, .int .i64 0, .int .i64 0, .int .i64 0, .slice none 0 0, .slice none 0 0] 62)
        have R1 := ra_below R1 ((Below.refl V.heap.size V).alloc (Nat.le_refl _) (.cells #[.int .i64 0, .int .i64 0, .int .i64 0, .int .i64 0, .int .i64 0, .int .i64 0, .slice none 0 0, .slice none 0 0] 62)) rfl
        have R2 := ra_below R2 ((Below.refl V.heap.size V).alloc (Nat.le_refl _) (.cells #[.int .i64 0, .int .i64 0, .int .i64 0, .int .i64 0, .int .i64 0, .int .i64 0, .slice none 0 0, .slice none 0 0] 62)) rfl
        refine hK.out _ _ ?_ (fun hHeld => ?_)
        · (try dsimp only)
          exact SKA_5 (wr := wr) (b0 := b0) (b1 := b1) (a1 := a1) (a2 := a2) (k1 := k1) (k2 := k2) (p1 := 0) (p2 := 0) H0.out H1.out (by (repeat (first | with_reducible assumption | with_reducible refine Below.drew ?_)))
        clear hK K
        (try simp only [Act.put, List.setIfInBounds_toArray, List.set_cons_zero, List.set_cons_succ])
        generalize V.heap.size = G at hn hG ⊢
        generalize (World.alloc _ _ : World) = V at hk hHeld hn R1 R2 ⊢
        refine wpAnyH_ready (rs := [4]) (by kernel_rfl) (by simp) ?_
        refine (AllReadyH.cons (o := { dst := some 26, op := Go.Op.call { callee := Go.Callee.value (Go.Operand.func 43), args := #[Go.Operand.tmp 23, Go.Operand.tmp 25], argTypes := #[62, 73] }, type := 63, pos := "exact.go:1185", after := #[{ on := 1, ground := Go.Ground.data }, { on := 3, ground := Go.Ground.data }, { on := 3, ground := Go.Ground.chain }], guard := none }) rfl (fun K hK => ?_) AllReadyH.nil)
        · go_simp
          have hG2 : G < V.heap.size := (Array.getElem?_eq_some_iff.1 hn).1
          refine (HC.out _ _ _ _ _ (Nat.le_refl _) R1 R2).mono ?_
          rintro e w' ⟨v1, v2, rfl, hp, hb'⟩
          clear R1 R2
          have hlo : wr.heap.size ≤ V.heap.size := hk.size
          have hn := rowk hn hb' rfl
          have hk := hk.trans (hb'.mono hk.size)
          obtain ⟨hi, hhi⟩ : ∃ hi, hi = w'.heap.size := ⟨_, rfl⟩
          rw [← hhi] at hp
          have hhi : hi ≤ w'.heap.size := Nat.le_of_eq hhi
          clear hb'
          refine hK.out _ _ ?_ (fun hHeld => ?_)
          · (try dsimp only)
            exact SKA_5 (wr := wr) (b0 := b0) (b1 := b1) (a1 := a1) (a2 := a2) (k1 := k1) (k2 := k2) (p1 := 0) (p2 := 0) H0.out H1.out (by (repeat (first | with_reducible assumption | with_reducible refine Below.drew ?_)))
          clear hK K
          (try simp only [Act.put, List.setIfInBounds_toArray, List.set_cons_zero, List.set_cons_succ])
          obtain ⟨lo, hl⟩ : ∃ lo, lo = V.heap.size := ⟨_, rfl⟩
          rw [← hl] at hp hlo hG2
          clear hl
          have hor : G < lo ∨ hi ≤ G := .inl hG2
          clear hG2
          generalize w' = V at hk hHeld hn hp hhi ⊢
          refine wpAnyH_take (i := 5) (oi := { dst := some 21, op := Go.Op.move (Go.Operand.tmp 26), type := 63, pos := "exact.go:1185", after := #[{ on := 4, ground := Go.Ground.data }], guard := none }) (v := ?_) rfl (by kernel_rfl) (by kernel_rfl) (by kernel_rfl) (fun _ _ _ h => h) (Or.inl ⟨by rfl, ?_⟩) (by assumption) ?_
          rotate_left
          · intro w hSw; (try dsimp only at hSw); go_simp; (try with_reducible rfl)
          simp only [Act.put, List.setIfInBounds_toArray, List.set_cons_zero, List.set_cons_succ]
          refine wpAnyH_take (i := 6) (oi := { dst := some 27, op := Go.Op.extract (Go.Operand.tmp 21) 0, type := 62, pos := "exact.go:1185", after := #[{ on := 5, ground := Go.Ground.data }], guard := none }) (v := ?_) rfl (by kernel_rfl) (by kernel_rfl) (by kernel_rfl) (fun _ _ _ h => h) (Or.inl ⟨by rfl, ?_⟩) (by assumption) ?_
          rotate_left
          · intro w hSw; (try dsimp only at hSw); go_simp; (try with_reducible rfl)
          simp only [Act.put, List.setIfInBounds_toArray, List.set_cons_zero, List.set_cons_succ]
          refine wpAnyH_take (i := 7) (oi := { dst := some 28, op := Go.Op.extract (Go.Operand.tmp 21) 1, type := 4, pos := "exact.go:1185", after := #[{ on := 5, ground := Go.Ground.data }, { on := 9, ground := Go.Ground.gcOnly Go.Departure.lateStores }], guard := none }) (v := ?_) rfl (by kernel_rfl) (by kernel_rfl) (by kernel_rfl) (fun _ _ _ h => h) (Or.inl ⟨by rfl, ?_⟩) (by assumption) ?_
          rotate_left
          · intro w hSw; (try dsimp only at hSw); go_simp; (try with_reducible rfl)
          simp only [Act.put, List.setIfInBounds_toArray, List.set_cons_zero, List.set_cons_succ]
          refine wpAnyH_ready (rs := [9]) (by kernel_rfl) (by simp) ?_
          refine (AllReadyH.cons (o := { dst := none, op := Go.Op.store 62 (Go.Operand.tmp 6) (Go.Operand.tmp 27), type := 0, pos := "exact.go:1185", after := #[{ on := 8, ground := Go.Ground.data }, { on := 6, ground := Go.Ground.data }, { on := 4, ground := Go.Ground.chain }, { on := 0, ground := Go.Ground.phase }, { on := 1, ground := Go.Ground.phase }, { on := 2, ground := Go.Ground.phase }, { on := 3, ground := Go.Ground.phase }, { on := 4, ground := Go.Ground.phase }, { on := 5, ground := Go.Ground.phase }, { on := 6, ground := Go.Ground.phase }, { on := 7, ground := Go.Ground.textOnly Go.Departure.lateStores }, { on := 8, ground := Go.Ground.phase }], guard := none }) rfl (fun K hK => ?_) AllReadyH.nil)
          · skip
            have wo1 := own_one11 hp.1
            have wo2 := own_one11 hp.2.1
            refine wp_store_mid 62 (.tmp 6) (.tmp 27) rfl G 0 #[.int .i64 r0, .int .i64 r1, .int .i64 r2, .int .i64 r3, .int .i64 r4, .int .i64 r5, v1, v2] rfl rfl (row_there12 (cs := #[.int .i64 0, .int .i64 0, .int .i64 0, .int .i64 0, .int .i64 0, .int .i64 0, .slice none 0 0, .slice none 0 0]) hn) (by kernel_rfl) (one8_11 r0 r1 r2 r3 r4 r5 wo1 wo2) ?_
            have hx := row_sets12 (cs' := #[.int .i64 r0, .int .i64 r1, .int .i64 r2, .int .i64 r3, .int .i64 r4, .int .i64 r5, v1, v2]) hn rfl
            have hk := setCells_bel hG (Array.toList #[.int .i64 r0, .int .i64 r1, .int .i64 r2, .int .i64 r3, .int .i64 r4, .int .i64 r5, v1, v2]) 0 _ _ hk
            have hp := hp.st V (V.setCells G 0 (Array.toList #[.int .i64 r0, .int .i64 r1, .int .i64 r2, .int .i64 r3, .int .i64 r4, .int .i64 r5, v1, v2])) (fun k h1 h2 => setCells_heap (show k ≠ G by omega) _ _ _)
            have hhi : hi ≤ (V.setCells G 0 (Array.toList #[.int .i64 r0, .int .i64 r1, .int .i64 r2, .int .i64 r3, .int .i64 r4, .int .i64 r5, v1, v2])).heap.size := by rw [setCells_size11]; exact hhi
            clear hn
            refine hK.out _ _ ?_ (fun hHeld => ?_)
            · (try dsimp only)
              exact SKA_5 (wr := wr) (b0 := b0) (b1 := b1) (a1 := a1) (a2 := a2) (k1 := k1) (k2 := k2) (p1 := 0) (p2 := 0) H0.out H1.out (by (repeat (first | with_reducible assumption | with_reducible refine Below.drew ?_)))
            clear hK K
            (try simp only [Act.put, List.setIfInBounds_toArray, List.set_cons_zero, List.set_cons_succ])
            generalize (World.setCells _ _ _ _ : World) = X at hk hx hHeld hp hhi ⊢
            refine wpAnyH_take (i := 10) (oi := { dst := some 7, op := Go.Op.assign (Go.Operand.tmp 28), type := 4, pos := "exact.go:1185", after := #[{ on := 7, ground := Go.Ground.data }, { on := 9, ground := Go.Ground.chain }, { on := 0, ground := Go.Ground.phase }, { on := 1, ground := Go.Ground.phase }, { on := 2, ground := Go.Ground.phase }, { on := 3, ground := Go.Ground.phase }, { on := 4, ground := Go.Ground.phase }, { on := 5, ground := Go.Ground.phase }, { on := 6, ground := Go.Ground.phase }, { on := 7, ground := Go.Ground.phase }, { on := 8, ground := Go.Ground.phase }, { on := 9, ground := Go.Ground.phase }], guard := none }) (v := ?_) rfl (by kernel_rfl) (by kernel_rfl) (by kernel_rfl) (fun _ _ _ h => h) (Or.inl ⟨by rfl, ?_⟩) (by assumption) ?_
            rotate_left
            · intro w hSw; (try dsimp only at hSw); go_simp; (try with_reducible rfl)
            simp only [Act.put, List.setIfInBounds_toArray, List.set_cons_zero, List.set_cons_succ]
            refine wpAnyH_done (by kernel_rfl) ?_ _
            refine NoPanic.normal (HQ.out lo hi G v1 v2 X _ _ _ _ _ _ _ _ hk hx hp ⟨hG, (Array.getElem?_eq_some_iff.1 hx).1, hlo, hhi, hor⟩)
    · go_simp
      have hn : (V.alloc (.cells #[.int .i64 0, .int .i64 0, .int .i64 0, .int .i64 0, .int .i64 0, .int .i64 0, .slice none 0 0, .slice none 0 0] 62)).heap[V.heap.size]? = some (.cells #[.int .i64 0, .int .i64 0, .int .i64 0, .int .i64 0, .int .i64 0, .int .i64 0, .slice none 0 0, .slice none 0 0] 62 (0, 0)) := alloc_at rfl
      have hG : wr.heap.size ≤ V.heap.size := hk.size
      have hk := Below.alloc hk hk.size (.cells #[.int .i64 0, .int .i64 0, .int .i64 0, .int .i64 0, .int .i64 0, .int .i64 0, .slice none 0 0, .slice none 0 0] 62)
      have R1 := ra_below R1 ((Below.refl V.heap.size V).alloc (Nat.le_refl _) (.cells #[.int .i64 0, .int .i64 0, .int .i64 0, .int .i64 0, .int .i64 0, .int .i64 0, .slice none 0 0, .slice none 0 0] 62)) rfl
      have R2 := ra_below R2 ((Below.refl V.heap.size V).alloc (Nat.le_refl _) (.cells #[.int .i64 0, .int .i64 0, .int .i64 0, .int .i64 0, .int .i64 0, .int .i64 0, .slice none 0 0, .slice none 0 0] 62)) rfl
      refine hK.out _ _ ?_ (fun hHeld => ?_)
      · (try dsimp only)
        exact SKA_5 (wr := wr) (b0 := b0) (b1 := b1) (a1 := a1) (a2 := a2) (k1 := k1) (k2 := k2) (p1 := 0) (p2 := 0) H0.out H1.out (by (repeat (first | with_reducible assumption | with_reducible refine Below.drew ?_)))
      clear hK K
      (try simp only [Act.put, List.setIfInBounds_toArray, List.set_cons_zero, List.set_cons_succ])
      generalize V.heap.size = G at hn hG ⊢
      generalize (World.alloc _ _ : World) = V at hk hHeld hn R1 R2 ⊢
      refine wpAnyH_ready (rs := [3]) (by kernel_rfl) (by simp) ?_
      refine (AllReadyH.cons (o := { dst := some 25, op := Go.Op.call { callee := Go.Callee.value (Go.Operand.func 44), args := #[Go.Operand.tmp 24], argTypes := #[71] }, type := 73, pos := "exact.go:1185", after := #[{ on := 2, ground := Go.Ground.data }, { on := 1, ground := Go.Ground.chain }], guard := none }) rfl (fun K hK => ?_) AllReadyH.nil)
      · go_simp
        refine (to_step11 _ _ _ _ _).mono ?_
        rintro e w' ⟨rfl, hb'⟩
        have R1 := ra_below R1 hb' rfl
        have R2 := ra_below R2 hb' rfl
        have hn := rowk hn hb' rfl
        have hk := hk.trans (hb'.mono hk.size)
        clear hb'
        refine hK.out _ _ ?_ (fun hHeld => ?_)
        · (try dsimp only)
          exact SKA_5 (wr := wr) (b0 := b0) (b1 := b1) (a1 := a1) (a2 := a2) (k1 := k1) (k2 := k2) (p1 := 0) (p2 := 0) H0.out H1.out (by (repeat (first | with_reducible assumption | with_reducible refine Below.drew ?_)))
        clear hK K
        (try simp only [Act.put, List.setIfInBounds_toArray, List.set_cons_zero, List.set_cons_succ])
        generalize w' = V at hk hHeld hn R1 R2 ⊢
        refine wpAnyH_ready (rs := [4]) (by kernel_rfl) (by simp) ?_
        refine (AllReadyH.cons (o := { dst := some 26, op := Go.Op.call { callee := Go.Callee.value (Go.Operand.func 43), args := #[Go.Operand.tmp 23, Go.Operand.tmp 25], argTypes := #[62, 73] }, type := 63, pos := "exact.go:1185", after := #[{ on := 1, ground := Go.Ground.data }, { on := 3, ground := Go.Ground.data }, { on := 3, ground := Go.Ground.chain }], guard := none }) rfl (fun K hK => ?_) AllReadyH.nil)
        · go_simp
          have hG2 : G < V.heap.size := (Array.getElem?_eq_some_iff.1 hn).1
          refine (HC.out _ _ _ _ _ (Nat.le_refl _) R1 R2).mono ?_
          rintro e w' ⟨v1, v2, rfl, hp, hb'⟩
          clear R1 R2
          have hlo : wr.heap.size ≤ V.heap.size := hk.size
          have hn := rowk hn hb' rfl
          have hk := hk.trans (hb'.mono hk.size)
          obtain ⟨hi, hhi⟩ : ∃ hi, hi = w'.heap.size := ⟨_, rfl⟩
          rw [← hhi] at hp
          have hhi : hi ≤ w'.heap.size := Nat.le_of_eq hhi
          clear hb'
          refine hK.out _ _ ?_ (fun hHeld => ?_)
          · (try dsimp only)
            exact SKA_5 (wr := wr) (b0 := b0) (b1 := b1) (a1 := a1) (a2 := a2) (k1 := k1) (k2 := k2) (p1 := 0) (p2 := 0) H0.out H1.out (by (repeat (first | with_reducible assumption | with_reducible refine Below.drew ?_)))
          clear hK K
          (try simp only [Act.put, List.setIfInBounds_toArray, List.set_cons_zero, List.set_cons_succ])
          obtain ⟨lo, hl⟩ : ∃ lo, lo = V.heap.size := ⟨_, rfl⟩
          rw [← hl] at hp hlo hG2
          clear hl
          have hor : G < lo ∨ hi ≤ G := .inl hG2
          clear hG2
          generalize w' = V at hk hHeld hn hp hhi ⊢
          refine wpAnyH_take (i := 5) (oi := { dst := some 21, op := Go.Op.move (Go.Operand.tmp 26), type := 63, pos := "exact.go:1185", after := #[{ on := 4, ground := Go.Ground.data }], guard := none }) (v := ?_) rfl (by kernel_rfl) (by kernel_rfl) (by kernel_rfl) (fun _ _ _ h => h) (Or.inl ⟨by rfl, ?_⟩) (by assumption) ?_
          rotate_left
          · intro w hSw; (try dsimp only at hSw); go_simp; (try with_reducible rfl)
          simp only [Act.put, List.setIfInBounds_toArray, List.set_cons_zero, List.set_cons_succ]
          refine wpAnyH_take (i := 6) (oi := { dst := some 27, op := Go.Op.extract (Go.Operand.tmp 21) 0, type := 62, pos := "exact.go:1185", after := #[{ on := 5, ground := Go.Ground.data }], guard := none }) (v := ?_) rfl (by kernel_rfl) (by kernel_rfl) (by kernel_rfl) (fun _ _ _ h => h) (Or.inl ⟨by rfl, ?_⟩) (by assumption) ?_
          rotate_left
          · intro w hSw; (try dsimp only at hSw); go_simp; (try with_reducible rfl)
          simp only [Act.put, List.setIfInBounds_toArray, List.set_cons_zero, List.set_cons_succ]
          refine wpAnyH_take (i := 7) (oi := { dst := some 28, op := Go.Op.extract (Go.Operand.tmp 21) 1, type := 4, pos := "exact.go:1185", after := #[{ on := 5, ground := Go.Ground.data }, { on := 9, ground := Go.Ground.gcOnly Go.Departure.lateStores }], guard := none }) (v := ?_) rfl (by kernel_rfl) (by kernel_rfl) (by kernel_rfl) (fun _ _ _ h => h) (Or.inl ⟨by rfl, ?_⟩) (by assumption) ?_
          rotate_left
          · intro w hSw; (try dsimp only at hSw); go_simp; (try with_reducible rfl)
          simp only [Act.put, List.setIfInBounds_toArray, List.set_cons_zero, List.set_cons_succ]
          refine wpAnyH_ready (rs := [9]) (by kernel_rfl) (by simp) ?_
          refine (AllReadyH.cons (o := { dst := none, op := Go.Op.store 62 (Go.Operand.tmp 6) (Go.Operand.tmp 27), type := 0, pos := "exact.go:1185", after := #[{ on := 8, ground := Go.Ground.data }, { on := 6, ground := Go.Ground.data }, { on := 4, ground := Go.Ground.chain }, { on := 0, ground := Go.Ground.phase }, { on := 1, ground := Go.Ground.phase }, { on := 2, ground := Go.Ground.phase }, { on := 3, ground := Go.Ground.phase }, { on := 4, ground := Go.Ground.phase }, { on := 5, ground := Go.Ground.phase }, { on := 6, ground := Go.Ground.phase }, { on := 7, ground := Go.Ground.textOnly Go.Departure.lateStores }, { on := 8, ground := Go.Ground.phase }], guard := none }) rfl (fun K hK => ?_) AllReadyH.nil)
          · skip
            have wo1 := own_one11 hp.1
            have wo2 := own_one11 hp.2.1
            refine wp_store_mid 62 (.tmp 6) (.tmp 27) rfl G 0 #[.int .i64 r0, .int .i64 r1, .int .i64 r2, .int .i64 r3, .int .i64 r4, .int .i64 r5, v1, v2] rfl rfl (row_there12 (cs := #[.int .i64 0, .int .i64 0, .int .i64 0, .int .i64 0, .int .i64 0, .int .i64 0, .slice none 0 0, .slice none 0 0]) hn) (by kernel_rfl) (one8_11 r0 r1 r2 r3 r4 r5 wo1 wo2) ?_
            have hx := row_sets12 (cs' := #[.int .i64 r0, .int .i64 r1, .int .i64 r2, .int .i64 r3, .int .i64 r4, .int .i64 r5, v1, v2]) hn rfl
            have hk := setCells_bel hG (Array.toList #[.int .i64 r0, .int .i64 r1, .int .i64 r2, .int .i64 r3, .int .i64 r4, .int .i64 r5, v1, v2]) 0 _ _ hk
            have hp := hp.st V (V.setCells G 0 (Array.toList #[.int .i64 r0, .int .i64 r1, .int .i64 r2, .int .i64 r3, .int .i64 r4, .int .i64 r5, v1, v2])) (fun k h1 h2 => setCells_heap (show k ≠ G by omega) _ _ _)
            have hhi : hi ≤ (V.setCells G 0 (Array.toList #[.int .i64 r0, .int .i64 r1, .int .i64 r2, .int .i64 r3, .int .i64 r4, .int .i64 r5, v1, v2])).heap.size := by rw [setCells_size11]; exact hhi
            clear hn
            refine hK.out _ _ ?_ (fun hHeld => ?_)
            · (try dsimp only)
              exact SKA_5 (wr := wr) (b0 := b0) (b1 := b1) (a1 := a1) (a2 := a2) (k1 := k1) (k2 := k2) (p1 := 0) (p2 := 0) H0.out H1.out (by (repeat (first | with_reducible assumption | with_reducible refine Below.drew ?_)))
            clear hK K
            (try simp only [Act.put, List.setIfInBounds_toArray, List.set_cons_zero, List.set_cons_succ])
            generalize (World.setCells _ _ _ _ : World) = X at hk hx hHeld hp hhi ⊢
            refine wpAnyH_take (i := 10) (oi := { dst := some 7, op := Go.Op.assign (Go.Operand.tmp 28), type := 4, pos := "exact.go:1185", after := #[{ on := 7, ground := Go.Ground.data }, { on := 9, ground := Go.Ground.chain }, { on := 0, ground := Go.Ground.phase }, { on := 1, ground := Go.Ground.phase }, { on := 2, ground := Go.Ground.phase }, { on := 3, ground := Go.Ground.phase }, { on := 4, ground := Go.Ground.phase }, { on := 5, ground := Go.Ground.phase }, { on := 6, ground := Go.Ground.phase }, { on := 7, ground := Go.Ground.phase }, { on := 8, ground := Go.Ground.phase }, { on := 9, ground := Go.Ground.phase }], guard := none }) (v := ?_) rfl (by kernel_rfl) (by kernel_rfl) (by kernel_rfl) (fun _ _ _ h => h) (Or.inl ⟨by rfl, ?_⟩) (by assumption) ?_
            rotate_left
            · intro w hSw; (try dsimp only at hSw); go_simp; (try with_reducible rfl)
            simp only [Act.put, List.setIfInBounds_toArray, List.set_cons_zero, List.set_cons_succ]
            refine wpAnyH_done (by kernel_rfl) ?_ _
            refine NoPanic.normal (HQ.out lo hi G v1 v2 X _ _ _ _ _ _ _ _ hk hx hp ⟨hG, (Array.getElem?_eq_some_iff.1 hx).1, hlo, hhi, hor⟩)
  · go_simp
    have hn : (V.alloc (.cells #[.int .i64 0, .int .i64 0, .int .i64 0, .int .i64 0, .int .i64 0, .int .i64 0, .slice none 0 0, .slice none 0 0] 62)).heap[V.heap.size]? = some (.cells #[.int .i64 0, .int .i64 0, .int .i64 0, .int .i64 0, .int .i64 0, .int .i64 0, .slice none 0 0, .slice none 0 0] 62 (0, 0)) := alloc_at rfl
    have hG : wr.heap.size ≤ V.heap.size := hk.size
    have hk := Below.alloc hk hk.size (.cells #[.int .i64 0, .int .i64 0, .int .i64 0, .int .i64 0, .int .i64 0, .int .i64 0, .slice none 0 0, .slice none 0 0] 62)
    refine hK.out _ _ ?_ (fun hHeld => ?_)
    · (try dsimp only)
      exact SKA_5 (wr := wr) (b0 := b0) (b1 := b1) (a1 := a1) (a2 := a2) (k1 := k1) (k2 := k2) (p1 := 0) (p2 := 0) H0.out H1.out (by (repeat (first | with_reducible assumption | with_reducible refine Below.drew ?_)))
    clear hK K
    (try simp only [Act.put, List.setIfInBounds_toArray, List.set_cons_zero, List.set_cons_succ])
    generalize V.heap.size = G at hn hG ⊢
    generalize (World.alloc _ _ : World) = V at hk hHeld hn ⊢
    refine wpAnyH_ready (rs := [1]) (by kernel_rfl) (by simp) ?_
    refine (AllReadyH.cons (o := { dst := some 23, op := Go.Op.call { callee := Go.Callee.value (Go.Operand.func 36), args := #[Go.Operand.tmp 22], argTypes := #[57] }, type := 62, pos := "exact.go:1185", after := #[{ on := 0, ground := Go.Ground.data }], guard := none }) rfl (fun K hK => ?_) AllReadyH.nil)
    · go_simp
      refine (HT.out _ (Is11.below J0.out hk) (Is11.below J1.out hk)).mono ?_
      rintro e w' ⟨p1, p2, rfl, hpp, hb'⟩
      have R1 := own_range hpp.1
      have R2 := own_range hpp.2.1
      clear hpp
      have hn := rowk hn hb' rfl
      have hk := hk.trans (hb'.mono hk.size)
      clear hb'
      refine hK.out _ _ ?_ (fun hHeld => ?_)
      · (try dsimp only)
        exact SKA_5 (wr := wr) (b0 := b0) (b1 := b1) (a1 := a1) (a2 := a2) (k1 := k1) (k2 := k2) (p1 := 0) (p2 := 0) H0.out H1.out (by (repeat (first | with_reducible assumption | with_reducible refine Below.drew ?_)))
      clear hK K
      (try simp only [Act.put, List.setIfInBounds_toArray, List.set_cons_zero, List.set_cons_succ])
      generalize w' = V at hk hHeld hn R1 R2 ⊢
      refine wpAnyH_ready (rs := [3]) (by kernel_rfl) (by simp) ?_
      refine (AllReadyH.cons (o := { dst := some 25, op := Go.Op.call { callee := Go.Callee.value (Go.Operand.func 44), args := #[Go.Operand.tmp 24], argTypes := #[71] }, type := 73, pos := "exact.go:1185", after := #[{ on := 2, ground := Go.Ground.data }, { on := 1, ground := Go.Ground.chain }], guard := none }) rfl (fun K hK => ?_) AllReadyH.nil)
      · go_simp
        refine (to_step11 _ _ _ _ _).mono ?_
        rintro e w' ⟨rfl, hb'⟩
        have R1 := ra_below R1 hb' rfl
        have R2 := ra_below R2 hb' rfl
        have hn := rowk hn hb' rfl
        have hk := hk.trans (hb'.mono hk.size)
        clear hb'
        refine hK.out _ _ ?_ (fun hHeld => ?_)
        · (try dsimp only)
          exact SKA_5 (wr := wr) (b0 := b0) (b1 := b1) (a1 := a1) (a2 := a2) (k1 := k1) (k2 := k2) (p1 := 0) (p2 := 0) H0.out H1.out (by (repeat (first | with_reducible assumption | with_reducible refine Below.drew ?_)))
        clear hK K
        (try simp only [Act.put, List.setIfInBounds_toArray, List.set_cons_zero, List.set_cons_succ])
        generalize w' = V at hk hHeld hn R1 R2 ⊢
        refine wpAnyH_ready (rs := [4]) (by kernel_rfl) (by simp) ?_
        refine (AllReadyH.cons (o := { dst := some 26, op := Go.Op.call { callee := Go.Callee.value (Go.Operand.func 43), args := #[Go.Operand.tmp 23, Go.Operand.tmp 25], argTypes := #[62, 73] }, type := 63, pos := "exact.go:1185", after := #[{ on := 1, ground := Go.Ground.data }, { on := 3, ground := Go.Ground.data }, { on := 3, ground := Go.Ground.chain }], guard := none }) rfl (fun K hK => ?_) AllReadyH.nil)
        · go_simp
          have hG2 : G < V.heap.size := (Array.getElem?_eq_some_iff.1 hn).1
          refine (HC.out _ _ _ _ _ (Nat.le_refl _) R1 R2).mono ?_
          rintro e w' ⟨v1, v2, rfl, hp, hb'⟩
          clear R1 R2
          have hlo : wr.heap.size ≤ V.heap.size := hk.size
          have hn := rowk hn hb' rfl
          have hk := hk.trans (hb'.mono hk.size)
          obtain ⟨hi, hhi⟩ : ∃ hi, hi = w'.heap.size := ⟨_, rfl⟩
          rw [← hhi] at hp
          have hhi : hi ≤ w'.heap.size := Nat.le_of_eq hhi
          clear hb'
          refine hK.out _ _ ?_ (fun hHeld => ?_)
          · (try dsimp only)
            exact SKA_5 (wr := wr) (b0 := b0) (b1 := b1) (a1 := a1) (a2 := a2) (k1 := k1) (k2 := k2) (p1 := 0) (p2 := 0) H0.out H1.out (by (repeat (first | with_reducible assumption | with_reducible refine Below.drew ?_)))
          clear hK K
          (try simp only [Act.put, List.setIfInBounds_toArray, List.set_cons_zero, List.set_cons_succ])
          obtain ⟨lo, hl⟩ : ∃ lo, lo = V.heap.size := ⟨_, rfl⟩
          rw [← hl] at hp hlo hG2
          clear hl
          have hor : G < lo ∨ hi ≤ G := .inl hG2
          clear hG2
          generalize w' = V at hk hHeld hn hp hhi ⊢
          refine wpAnyH_take (i := 5) (oi := { dst := some 21, op := Go.Op.move (Go.Operand.tmp 26), type := 63, pos := "exact.go:1185", after := #[{ on := 4, ground := Go.Ground.data }], guard := none }) (v := ?_) rfl (by kernel_rfl) (by kernel_rfl) (by kernel_rfl) (fun _ _ _ h => h) (Or.inl ⟨by rfl, ?_⟩) (by assumption) ?_
          rotate_left
          · intro w hSw; (try dsimp only at hSw); go_simp; (try with_reducible rfl)
          simp only [Act.put, List.setIfInBounds_toArray, List.set_cons_zero, List.set_cons_succ]
          refine wpAnyH_take (i := 6) (oi := { dst := some 27, op := Go.Op.extract (Go.Operand.tmp 21) 0, type := 62, pos := "exact.go:1185", after := #[{ on := 5, ground := Go.Ground.data }], guard := none }) (v := ?_) rfl (by kernel_rfl) (by kernel_rfl) (by kernel_rfl) (fun _ _ _ h => h) (Or.inl ⟨by rfl, ?_⟩) (by assumption) ?_
          rotate_left
          · intro w hSw; (try dsimp only at hSw); go_simp; (try with_reducible rfl)
          simp only [Act.put, List.setIfInBounds_toArray, List.set_cons_zero, List.set_cons_succ]
          refine wpAnyH_take (i := 7) (oi := { dst := some 28, op := Go.Op.extract (Go.Operand.tmp 21) 1, type := 4, pos := "exact.go:1185", after := #[{ on := 5, ground := Go.Ground.data }, { on := 9, ground := Go.Ground.gcOnly Go.Departure.lateStores }], guard := none }) (v := ?_) rfl (by kernel_rfl) (by kernel_rfl) (by kernel_rfl) (fun _ _ _ h => h) (Or.inl ⟨by rfl, ?_⟩) (by assumption) ?_
          rotate_left
          · intro w hSw; (try dsimp only at hSw); go_simp; (try with_reducible rfl)
          simp only [Act.put, List.setIfInBounds_toArray, List.set_cons_zero, List.set_cons_succ]
          refine wpAnyH_ready (rs := [9]) (by kernel_rfl) (by simp) ?_
          refine (AllReadyH.cons (o := { dst := none, op := Go.Op.store 62 (Go.Operand.tmp 6) (Go.Operand.tmp 27), type := 0, pos := "exact.go:1185", after := #[{ on := 8, ground := Go.Ground.data }, { on := 6, ground := Go.Ground.data }, { on := 4, ground := Go.Ground.chain }, { on := 0, ground := Go.Ground.phase }, { on := 1, ground := Go.Ground.phase }, { on := 2, ground := Go.Ground.phase }, { on := 3, ground := Go.Ground.phase }, { on := 4, ground := Go.Ground.phase }, { on := 5, ground := Go.Ground.phase }, { on := 6, ground := Go.Ground.phase }, { on := 7, ground := Go.Ground.textOnly Go.Departure.lateStores }, { on := 8, ground := Go.Ground.phase }], guard := none }) rfl (fun K hK => ?_) AllReadyH.nil)
          · skip
            have wo1 := own_one11 hp.1
            have wo2 := own_one11 hp.2.1
            refine wp_store_mid 62 (.tmp 6) (.tmp 27) rfl G 0 #[.int .i64 r0, .int .i64 r1, .int .i64 r2, .int .i64 r3, .int .i64 r4, .int .i64 r5, v1, v2] rfl rfl (row_there12 (cs := #[.int .i64 0, .int .i64 0, .int .i64 0, .int .i64 0, .int .i64 0, .int .i64 0, .slice none 0 0, .slice none 0 0]) hn) (by kernel_rfl) (one8_11 r0 r1 r2 r3 r4 r5 wo1 wo2) ?_
            have hx := row_sets12 (cs' := #[.int .i64 r0, .int .i64 r1, .int .i64 r2, .int .i64 r3, .int .i64 r4, .int .i64 r5, v1, v2]) hn rfl
            have hk := setCells_bel hG (Array.toList #[.int .i64 r0, .int .i64 r1, .int .i64 r2, .int .i64 r3, .int .i64 r4, .int .i64 r5, v1, v2]) 0 _ _ hk
            have hp := hp.st V (V.setCells G 0 (Array.toList #[.int .i64 r0, .int .i64 r1, .int .i64 r2, .int .i64 r3, .int .i64 r4, .int .i64 r5, v1, v2])) (fun k h1 h2 => setCells_heap (show k ≠ G by omega) _ _ _)
            have hhi : hi ≤ (V.setCells G 0 (Array.toList #[.int .i64 r0, .int .i64 r1, .int .i64 r2, .int .i64 r3, .int .i64 r4, .int .i64 r5, v1, v2])).heap.size := by rw [setCells_size11]; exact hhi
            clear hn
            refine hK.out _ _ ?_ (fun hHeld => ?_)
            · (try dsimp only)
              exact SKA_5 (wr := wr) (b0 := b0) (b1 := b1) (a1 := a1) (a2 := a2) (k1 := k1) (k2 := k2) (p1 := 0) (p2 := 0) H0.out H1.out (by (repeat (first | with_reducible assumption | with_reducible refine Below.drew ?_)))
            clear hK K
            (try simp only [Act.put, List.setIfInBounds_toArray, List.set_cons_zero, List.set_cons_succ])
            generalize (World.setCells _ _ _ _ : World) = X at hk hx hHeld hp hhi ⊢
            refine wpAnyH_take (i := 10) (oi := { dst := some 7, op := Go.Op.assign (Go.Operand.tmp 28), type := 4, pos := "exact.go:1185", after := #[{ on := 7, ground := Go.Ground.data }, { on := 9, ground := Go.Ground.chain }, { on := 0, ground := Go.Ground.phase }, { on := 1, ground := Go.Ground.phase }, { on := 2, ground := Go.Ground.phase }, { on := 3, ground := Go.Ground.phase }, { on := 4, ground := Go.Ground.phase }, { on := 5, ground := Go.Ground.phase }, { on := 6, ground := Go.Ground.phase }, { on := 7, ground := Go.Ground.phase }, { on := 8, ground := Go.Ground.phase }, { on := 9, ground := Go.Ground.phase }], guard := none }) (v := ?_) rfl (by kernel_rfl) (by kernel_rfl) (by kernel_rfl) (fun _ _ _ h => h) (Or.inl ⟨by rfl, ?_⟩) (by assumption) ?_
            rotate_left
            · intro w hSw; (try dsimp only at hSw); go_simp; (try with_reducible rfl)
            simp only [Act.put, List.setIfInBounds_toArray, List.set_cons_zero, List.set_cons_succ]
            refine wpAnyH_done (by kernel_rfl) ?_ _
            refine NoPanic.normal (HQ.out lo hi G v1 v2 X _ _ _ _ _ _ _ _ hk hx hp ⟨hG, (Array.getElem?_eq_some_iff.1 hx).1, hlo, hhi, hor⟩)
theorem SKB_7 {wr U : World} {b0 b1 : Nat} {m0 m1 m2 m3 m4 m5 : Int} {a1 a2 : Option Addr} {k1 k2 p1 p2 : Nat} {z1 : List H11} {z2 : List S11} {p : S11} (h0 : wr.heap[b0]? = some (Obj.cells #[.int .i64 m0, .int .i64 m1, .int .i64 m2, .int .i64 m3, .int .i64 m4, .int .i64 m5, .slice (some ⟨p1, 0, none⟩) z1.length z1.length, .slice (some ⟨p2, 0, none⟩) z2.length z2.length] 62 (0, 0))) (h1 : wr.heap[b1]? = some (Obj.cells #[.int .i64 p.k, .int .i64 p.s, .int .i64 p.x, .int .i64 p.y] 71 (0, 0))) (hb : Below wr.heap.size wr U) : U.cell? ⟨b0, 0, none⟩ = some (.int .i64 m0) ∧ U.cell? ⟨b0, 1, none⟩ = some (.int .i64 m1) ∧ U.cell? ⟨b0, 2, none⟩ = some (.int .i64 m2) ∧ U.cell? ⟨b0, 3, none⟩ = some (.int .i64 m3) ∧ U.cell? ⟨b0, 4, none⟩ = some (.int .i64 m4) ∧ U.cell? ⟨b0, 5, none⟩ = some (.int .i64 m5) ∧ U.cell? ⟨b0, 6, none⟩ = some (.slice (some ⟨p1, 0, none⟩) z1.length z1.length) ∧ U.cell? ⟨b0, 7, none⟩ = some (.slice (some ⟨p2, 0, none⟩) z2.length z2.length) ∧ U.cell? ⟨b1, 0, none⟩ = some (.int .i64 p.k) ∧ U.cell? ⟨b1, 1, none⟩ = some (.int .i64 p.s) ∧ U.cell? ⟨b1, 2, none⟩ = some (.int .i64 p.x) ∧ U.cell? ⟨b1, 3, none⟩ = some (.int .i64 p.y) := by
  have q0 := fun j => cell_of_row U b0 j _ _ _ (rowk h0 hb rfl)
  have q1 := fun j => cell_of_row U b1 j _ _ _ (rowk h1 hb rfl)
  exact ⟨q0 0, q0 1, q0 2, q0 3, q0 4, q0 5, q0 6, q0 7, q1 0, q1 1, q1 2, q1 3⟩
set_option linter.unusedSimpArgs false in
set_option maxRecDepth 20000 in
set_option maxHeartbeats 8000000 in
theorem rg_7 {Q : Exit → Act → World → Prop} (wr : World) (b0 b1 : Nat) (m0 m1 m2 m3 m4 m5 : Int) (a1 a2 : Option Addr) (k1 k2 p1 p2 : Nat) (z1 : List H11) (z2 : List S11) (p : S11) (r0 r1 r2 r3 r4 r5 : Int) (l' : List H11) (st' : List S11) (t : Bool) {x0 x1 x2 x4 x5 x6 x7 x9 x10 x11 x12 x13 x14 x15 x16 x17 x18 x19 x20 x21 x22 x23 x24 x25 x26 x27 x28 x29 x30 x31 x32 x33 x34 x35 x36 x37 x38 x39 x40 x41 x42 x43 x44 x45 x46 x47 x48 x49 x50 x51 x52 x53 x54 x55 x56 x57 x58 x59 x60 x61 x62 x63 x64 x65 x66 x67 x68 x69 x70 x71 x72 x73 x74 x75 x76 x77 x78 x79 x80 x81 x82 x83 x84 x85 x86 x87 x88 x89 x90 x91 x92 x93 x94 x95 x96 x97 x98 x99 x100 x101 x102 x103 : Value} (H0 : Hid (wr.heap[b0]? = some (Obj.cells #[.int .i64 m0, .int .i64 m1, .int .i64 m2, .int .i64 m3, .int .i64 m4, .int .i64 m5, .slice (some ⟨p1, 0, none⟩) z1.length z1.length, .slice (some ⟨p2, 0, none⟩) z2.length z2.length] 62 (0, 0)))) (H1 : Hid (wr.heap[b1]? = some (Obj.cells #[.int .i64 p.k, .int .i64 p.s, .int .i64 p.x, .int .i64 p.y] 71 (0, 0)))) (R1 : wr.rangeAt p1 0 (hv11 z1)) (R2 : wr.rangeAt p2 0 (sv11 z2)) (HC : Hid (∀ (g1 c1 g2 c2 : Nat) (W : World), z2.length ≤ c2 → W.rangeAt g1 0 (hv11 z1) → W.rangeAt g2 0 (sv11 z2) → Calls Try.prog 45 #[.agg #[.int .i64 m0, .int .i64 m1, .int .i64 m2, .int .i64 m3, .int .i64 m4, .int .i64 m5, .slice (some ⟨g1, 0, none⟩) z1.length c1, .slice (some ⟨g2, 0, none⟩) z2.length c2], .agg #[.int .i64 p.k, .int .i64 p.s, .int .i64 p.x, .int .i64 p.y]] W (TP11 r0 r1 r2 r3 r4 r5 l' st' t W)))
    (hQ : ∀ (lo hi bw : Nat) (v1 v2 : Value) (X : World) (y31 y32 y33 y34 y35 y36 y37 : Value), Below wr.heap.size wr X → X.heap[bw]? = some (Obj.cells #[.int .i64 r0, .int .i64 r1, .int .i64 r2, .int .i64 r3, .int .i64 r4, .int .i64 r5, v1, v2] 62 (0, 0)) → Pr11 lo hi v1 v2 l' st' X → (wr.heap.size ≤ bw ∧ bw < X.heap.size ∧ wr.heap.size ≤ lo ∧ hi ≤ X.heap.size ∧ (bw < lo ∨ hi ≤ bw)) → Q .normal { tmps := #[x0, x1, x2, (.pointer (some ⟨b1, 0, none⟩)), x4, x5, x6, x7, (.pointer (some ⟨b0, 0, none⟩)), (.pointer (some ⟨bw, 0, none⟩)), (.bool t), x11, x12, x13, x14, x15, x16, x17, x18, x19, x20, x21, x22, x23, x24, x25, x26, x27, x28, x29, x30, y31, y32, y33, y34, y35, y36, y37, x38, x39, x40, x41, x42, x43, x44, x45, x46, x47, x48, x49, x50, x51, x52, x53, x54, x55, x56, x57, x58, x59, x60, x61, x62, x63, x64, x65, x66, x67, x68, x69, x70, x71, x72, x73, x74, x75, x76, x77, x78, x79, x80, x81, x82, x83, x84, x85, x86, x87, x88, x89, x90, x91, x92, x93, x94, x95, x96, x97, x98, x99, x100, x101, x102, x103], defers := [] } X) :
    (Code.region 7 #[{ dst := some 32, op := Go.Op.load 62 (Go.Operand.tmp 8), type := 62, pos := "exact.go:1187", after := #[], guard := none }, { dst := some 33, op := Go.Op.load 71 (Go.Operand.tmp 3), type := 71, pos := "exact.go:1187", after := #[], guard := none }, { dst := some 34, op := Go.Op.call { callee := Go.Callee.value (Go.Operand.func 44), args := #[Go.Operand.tmp 33], argTypes := #[71] }, type := 73, pos := "exact.go:1187", after := #[{ on := 1, ground := Go.Ground.data }], guard := none }, { dst := some 35, op := Go.Op.call { callee := Go.Callee.value (Go.Operand.func 45), args := #[Go.Operand.tmp 32, Go.Operand.tmp 34], argTypes := #[62, 73] }, type := 63, pos := "exact.go:1187", after := #[{ on := 0, ground := Go.Ground.data }, { on := 2, ground := Go.Ground.data }, { on := 2, ground := Go.Ground.chain }], guard := none }, { dst := some 31, op := Go.Op.move (Go.Operand.tmp 35), type := 63, pos := "exact.go:1187", after := #[{ on := 3, ground := Go.Ground.data }], guard := none }, { dst := some 36, op := Go.Op.extract (Go.Operand.tmp 31) 0, type := 62, pos := "exact.go:1187", after := #[{ on := 4, ground := Go.Ground.data }], guard := none }, { dst := some 37, op := Go.Op.extract (Go.Operand.tmp 31) 1, type := 4, pos := "exact.go:1187", after := #[{ on := 4, ground := Go.Ground.data }, { on := 8, ground := Go.Ground.gcOnly Go.Departure.lateStores }], guard := none }, { dst := some 9, op := Go.Op.alloc 62, type := 0, pos := "exact.go:1187", after := #[], guard := none }, { dst := none, op := Go.Op.store 62 (Go.Operand.tmp 9) (Go.Operand.tmp 36), type := 0, pos := "exact.go:1187", after := #[{ on := 7, ground := Go.Ground.data }, { on := 5, ground := Go.Ground.data }, { on := 3, ground := Go.Ground.chain }, { on := 0, ground := Go.Ground.phase }, { on := 1, ground := Go.Ground.phase }, { on := 2, ground := Go.Ground.phase }, { on := 3, ground := Go.Ground.phase }, { on := 4, ground := Go.Ground.phase }, { on := 5, ground := Go.Ground.phase }, { on := 6, ground := Go.Ground.textOnly Go.Departure.lateStores }, { on := 7, ground := Go.Ground.phase }], guard := none }, { dst := some 10, op := Go.Op.assign (Go.Operand.tmp 37), type := 4, pos := "exact.go:1187", after := #[{ on := 6, ground := Go.Ground.data }, { on := 8, ground := Go.Ground.chain }, { on := 0, ground := Go.Ground.phase }, { on := 1, ground := Go.Ground.phase }, { on := 2, ground := Go.Ground.phase }, { on := 3, ground := Go.Ground.phase }, { on := 4, ground := Go.Ground.phase }, { on := 5, ground := Go.Ground.phase }, { on := 6, ground := Go.Ground.phase }, { on := 7, ground := Go.Ground.phase }, { on := 8, ground := Go.Ground.phase }], guard := none }] true).wp Try.prog Q { tmps := #[x0, x1, x2, (.pointer (some ⟨b1, 0, none⟩)), x4, x5, x6, x7, (.pointer (some ⟨b0, 0, none⟩)), x9, x10, x11, x12, x13, x14, x15, x16, x17, x18, x19, x20, x21, x22, x23, x24, x25, x26, x27, x28, x29, x30, x31, x32, x33, x34, x35, x36, x37, x38, x39, x40, x41, x42, x43, x44, x45, x46, x47, x48, x49, x50, x51, x52, x53, x54, x55, x56, x57, x58, x59, x60, x61, x62, x63, x64, x65, x66, x67, x68, x69, x70, x71, x72, x73, x74, x75, x76, x77, x78, x79, x80, x81, x82, x83, x84, x85, x86, x87, x88, x89, x90, x91, x92, x93, x94, x95, x96, x97, x98, x99, x100, x101, x102, x103], defers := [] } wr := by
  have HQ := Lib.hid hQ
  clear hQ
  have hk := Below.refl wr.heap.size wr
  refine wp_region_noPanic ?_
  refine wp_region_held_drew (S := (fun U => U.cell? ⟨b0, 0, none⟩ = some (.int .i64 m0) ∧ U.cell? ⟨b0, 1, none⟩ = some (.int .i64 m1) ∧ U.cell? ⟨b0, 2, none⟩ = some (.int .i64 m2) ∧ U.cell? ⟨b0, 3, none⟩ = some (.int .i64 m3) ∧ U.cell? ⟨b0, 4, none⟩ = some (.int .i64 m4) ∧ U.cell? ⟨b0, 5, none⟩ = some (.int .i64 m5) ∧ U.cell? ⟨b0, 6, none⟩ = some (.slice (some ⟨p1, 0, none⟩) z1.length z1.length) ∧ U.cell? ⟨b0, 7, none⟩ = some (.slice (some ⟨p2, 0, none⟩) z2.length z2.length) ∧ U.cell? ⟨b1, 0, none⟩ = some (.int .i64 p.k) ∧ U.cell? ⟨b1, 1, none⟩ = some (.int .i64 p.s) ∧ U.cell? ⟨b1, 2, none⟩ = some (.int .i64 p.x) ∧ U.cell? ⟨b1, 3, none⟩ = some (.int .i64 p.y))) (by kernel_rfl) ?_ (fun hHeld => ?_)
  · (try dsimp only)
    exact SKB_7 (wr := wr) (b0 := b0) (b1 := b1) (a1 := none) (a2 := none) (k1 := 0) (k2 := 0) (p1 := p1) (p2 := p2) H0.out H1.out (by (repeat (first | with_reducible assumption | with_reducible refine Below.drew ?_)))
  have hk := hk.drew
  have R1 := ra_below R1 (Below.refl wr.heap.size wr).drew rfl
  have R2 := ra_below R2 (Below.refl wr.heap.size wr).drew rfl
  generalize wr.drew = V at hk hHeld R1 R2 ⊢
  refine wpAnyH_take (i := 0) (oi := { dst := some 32, op := Go.Op.load 62 (Go.Operand.tmp 8), type := 62, pos := "exact.go:1187", after := #[], guard := none }) (v := ?_) rfl (by kernel_rfl) (by kernel_rfl) (by kernel_rfl) (fun _ _ _ h => h) (Or.inl ⟨by rfl, ?_⟩) (by assumption) ?_
  rotate_left
  · intro w hSw; (try dsimp only at hSw); go_simp; (try with_reducible rfl)
  simp only [Act.put, List.setIfInBounds_toArray, List.set_cons_zero, List.set_cons_succ]
  refine wpAnyH_take (i := 1) (oi := { dst := some 33, op := Go.Op.load 71 (Go.Operand.tmp 3), type := 71, pos := "exact.go:1187", after := #[], guard := none }) (v := ?_) rfl (by kernel_rfl) (by kernel_rfl) (by kernel_rfl) (fun _ _ _ h => h) (Or.inl ⟨by rfl, ?_⟩) (by assumption) ?_
  rotate_left
  · intro w hSw; (try dsimp only at hSw); go_simp; (try with_reducible rfl)
  simp only [Act.put, List.setIfInBounds_toArray, List.set_cons_zero, List.set_cons_succ]
  refine wpAnyH_ready (rs := [2, 7]) (by kernel_rfl) (by simp) ?_
  refine (AllReadyH.cons (o := { dst := some 34, op := Go.Op.call { callee := Go.Callee.value (Go.Operand.func 44), args := #[Go.Operand.tmp 33], argTypes := #[71] }, type := 73, pos := "exact.go:1187", after := #[{ on := 1, ground := Go.Ground.data }], guard := none }) rfl (fun K hK => ?_) (AllReadyH.cons (o := { dst := some 9, op := Go.Op.alloc 62, type := 0, pos := "exact.go:1187", after := #[], guard := none }) rfl (fun K hK => ?_) AllReadyH.nil))
  · go_simp
    refine (to_step11 _ _ _ _ _).mono ?_
    rintro e w' ⟨rfl, hb'⟩
    have R1 := ra_below R1 hb' rfl
    have R2 := ra_below R2 hb' rfl
    have hk := hk.trans (hb'.mono hk.size)
    clear hb'
    refine hK.out _ _ ?_ (fun hHeld => ?_)
    · (try dsimp only)
      exact SKB_7 (wr := wr) (b0 := b0) (b1 := b1) (a1 := none) (a2 := none) (k1 := 0) (k2 := 0) (p1 := p1) (p2 := p2) H0.out H1.out (by (repeat (first | with_reducible assumption | with_reducible refine Below.drew ?_)))
    clear hK K
    (try simp only [Act.put, List.setIfInBounds_toArray, List.set_cons_zero, List.set_cons_succ])
    generalize w' = V at hk hHeld R1 R2 ⊢
    refine wpAnyH_ready (rs := [3, 7]) (by kernel_rfl) (by simp) ?_
    refine (AllReadyH.cons (o := { dst := some 35, op := Go.Op.call { callee := Go.Callee.value (Go.Operand.func 45), args := #[Go.Operand.tmp 32, Go.Operand.tmp 34], argTypes := #[62, 73] }, type := 63, pos := "exact.go:1187", after := #[{ on := 0, ground := Go.Ground.data }, { on := 2, ground := Go.Ground.data }, { on := 2, ground := Go.Ground.chain }], guard := none }) rfl (fun K hK => ?_) (AllReadyH.cons (o := { dst := some 9, op := Go.Op.alloc 62, type := 0, pos := "exact.go:1187", after := #[], guard := none }) rfl (fun K hK => ?_) AllReadyH.nil))
    · go_simp
      refine (HC.out _ _ _ _ _ (Nat.le_refl _) R1 R2).mono ?_
      rintro e w' ⟨v1, v2, rfl, hp, hb'⟩
      clear R1 R2
      have hlo : wr.heap.size ≤ V.heap.size := hk.size
      have hk := hk.trans (hb'.mono hk.size)
      obtain ⟨hi, hhi⟩ : ∃ hi, hi = w'.heap.size := ⟨_, rfl⟩
      rw [← hhi] at hp
      have hhi : hi ≤ w'.heap.size := Nat.le_of_eq hhi
      clear hb'
      refine hK.out _ _ ?_ (fun hHeld => ?_)
      · (try dsimp only)
        exact SKB_7 (wr := wr) (b0 := b0) (b1 := b1) (a1 := none) (a2 := none) (k1 := 0) (k2 := 0) (p1 := p1) (p2 := p2) H0.out H1.out (by (repeat (first | with_reducible assumption | with_reducible refine Below.drew ?_)))
      clear hK K
      (try simp only [Act.put, List.setIfInBounds_toArray, List.set_cons_zero, List.set_cons_succ])
      obtain ⟨lo, hl⟩ : ∃ lo, lo = V.heap.size := ⟨_, rfl⟩
      rw [← hl] at hp hlo 
      clear hl
      generalize w' = V at hk hHeld hp hhi ⊢
      refine wpAnyH_take (i := 4) (oi := { dst := some 31, op := Go.Op.move (Go.Operand.tmp 35), type := 63, pos := "exact.go:1187", after := #[{ on := 3, ground := Go.Ground.data }], guard := none }) (v := ?_) rfl (by kernel_rfl) (by kernel_rfl) (by kernel_rfl) (fun _ _ _ h => h) (Or.inl ⟨by rfl, ?_⟩) (by assumption) ?_
      rotate_left
      · intro w hSw; (try dsimp only at hSw); go_simp; (try with_reducible rfl)
      simp only [Act.put, List.setIfInBounds_toArray, List.set_cons_zero, List.set_cons_succ]
      refine wpAnyH_take (i := 5) (oi := { dst := some 36, op := Go.Op.extract (Go.Operand.tmp 31) 0, type := 62, pos := "exact.go:1187", after := #[{ on := 4, ground := Go.Ground.data }], guard := none }) (v := ?_) rfl (by kernel_rfl) (by kernel_rfl) (by kernel_rfl) (fun _ _ _ h => h) (Or.inl ⟨by rfl, ?_⟩) (by assumption) ?_
      rotate_left
      · intro w hSw; (try dsimp only at hSw); go_simp; (try with_reducible rfl)
      simp only [Act.put, List.setIfInBounds_toArray, List.set_cons_zero, List.set_cons_succ]
      refine wpAnyH_take (i := 6) (oi := { dst := some 37, op := Go.Op.extract (Go.Operand.tmp 31) 1, type := 4, pos := "exact.go:1187", after := #[{ on := 4, ground := Go.Ground.data }, { on := 8, ground := Go.Ground.gcOnly Go.Departure.lateStores }], guard := none }) (v := ?_) rfl (by kernel_rfl) (by kernel_rfl) (by kernel_rfl) (fun _ _ _ h => h) (Or.inl ⟨by rfl, ?_⟩) (by assumption) ?_
      rotate_left
      · intro w hSw; (try dsimp only at hSw); go_simp; (try with_reducible rfl)
      simp only [Act.put, List.setIfInBounds_toArray, List.set_cons_zero, List.set_cons_succ]
      refine wpAnyH_ready (rs := [7]) (by kernel_rfl) (by simp) ?_
      refine (AllReadyH.cons (o := { dst := some 9, op := Go.Op.alloc 62, type := 0, pos := "exact.go:1187", after := #[], guard := none }) rfl (fun K hK => ?_) AllReadyH.nil)
      · go_simp
        have hn : (V.alloc (.cells #[.int .i64 0, .int .i64 0, .int .i64 0, .int .i64 0, .int .i64 0, .int .i64 0, .slice none 0 0, .slice none 0 0] 62)).heap[V.heap.size]? = some (.cells #[.int .i64 0, .int .i64 0, .int .i64 0, .int .i64 0, .int .i64 0, .int .i64 0, .slice none 0 0, .slice none 0 0] 62 (0, 0)) := alloc_at rfl
        have hG : wr.heap.size ≤ V.heap.size := hk.size
        have hk := Below.alloc hk hk.size (.cells #[.int .i64 0, .int .i64 0, .int .i64 0, .int .i64 0, .int .i64 0, .int .i64 0, .slice none 0 0, .slice none 0 0] 62)
        have hp := hp.st V (V.alloc (.cells #[.int .i64 0, .int .i64 0, .int .i64 0, .int .i64 0, .int .i64 0, .int .i64 0, .slice none 0 0, .slice none 0 0] 62)) (fun k _ h2 => ((Below.refl V.heap.size V).alloc (Nat.le_refl _) (.cells #[.int .i64 0, .int .i64 0, .int .i64 0, .int .i64 0, .int .i64 0, .int .i64 0, .slice none 0 0, .slice none 0 0] 62)).block k (by omega))
        have hor : V.heap.size < lo ∨ hi ≤ V.heap.size := .inr hhi
        have hhi : hi ≤ (V.alloc (.cells #[.int .i64 0, .int .i64 0, .int .i64 0, .int .i64 0, .int .i64 0, .int .i64 0, .slice none 0 0, .slice none 0 0] 62)).heap.size := by simp; omega
        refine hK.out _ _ ?_ (fun hHeld => ?_)
        · (try dsimp only)
          exact SKB_7 (wr := wr) (b0 := b0) (b1 := b1) (a1 := none) (a2 := none) (k1 := 0) (k2 := 0) (p1 := p1) (p2 := p2) H0.out H1.out (by (repeat (first | with_reducible assumption | with_reducible refine Below.drew ?_)))
        clear hK K
        (try simp only [Act.put, List.setIfInBounds_toArray, List.set_cons_zero, List.set_cons_succ])
        generalize V.heap.size = G at hn hG hor ⊢
        generalize (World.alloc _ _ : World) = V at hk hHeld hn hp hhi ⊢
        refine wpAnyH_ready (rs := [8]) (by kernel_rfl) (by simp) ?_
        refine (AllReadyH.cons (o := { dst := none, op := Go.Op.store 62 (Go.Operand.tmp 9) (Go.Operand.tmp 36), type := 0, pos := "exact.go:1187", after := #[{ on := 7, ground := Go.Ground.data }, { on := 5, ground := Go.Ground.data }, { on := 3, ground := Go.Ground.chain }, { on := 0, ground := Go.Ground.phase }, { on := 1, ground := Go.Ground.phase }, { on := 2, ground := Go.Ground.phase }, { on := 3, ground := Go.Ground.phase }, { on := 4, ground := Go.Ground.phase }, { on := 5, ground := Go.Ground.phase }, { on := 6, ground := Go.Ground.textOnly Go.Departure.lateStores }, { on := 7, ground := Go.Ground.phase }], guard := none }) rfl (fun K hK => ?_) AllReadyH.nil)
        · skip
          have wo1 := own_one11 hp.1
          have wo2 := own_one11 hp.2.1
          refine wp_store_mid 62 (.tmp 9) (.tmp 36) rfl G 0 #[.int .i64 r0, .int .i64 r1, .int .i64 r2, .int .i64 r3, .int .i64 r4, .int .i64 r5, v1, v2] rfl rfl (row_there12 (cs := #[.int .i64 0, .int .i64 0, .int .i64 0, .int .i64 0, .int .i64 0, .int .i64 0, .slice none 0 0, .slice none 0 0]) hn) (by kernel_rfl) (one8_11 r0 r1 r2 r3 r4 r5 wo1 wo2) ?_
          have hx := row_sets12 (cs' := #[.int .i64 r0, .int .i64 r1, .int .i64 r2, .int .i64 r3, .int .i64 r4, .int .i64 r5, v1, v2]) hn rfl
          have hk := setCells_bel hG (Array.toList #[.int .i64 r0, .int .i64 r1, .int .i64 r2, .int .i64 r3, .int .i64 r4, .int .i64 r5, v1, v2]) 0 _ _ hk
          have hp := hp.st V (V.setCells G 0 (Array.toList #[.int .i64 r0, .int .i64 r1, .int .i64 r2, .int .i64 r3, .int .i64 r4, .int .i64 r5, v1, v2])) (fun k h1 h2 => setCells_heap (show k ≠ G by omega) _ _ _)
          have hhi : hi ≤ (V.setCells G 0 (Array.toList #[.int .i64 r0, .int .i64 r1, .int .i64 r2, .int .i64 r3, .int .i64 r4, .int .i64 r5, v1, v2])).heap.size := by rw [setCells_size11]; exact hhi
          clear hn
          refine hK.out _ _ ?_ (fun hHeld => ?_)
          · (try dsimp only)
            exact SKB_7 (wr := wr) (b0 := b0) (b1 := b1) (a1 := none) (a2 := none) (k1 := 0) (k2 := 0) (p1 := p1) (p2 := p2) H0.out H1.out (by (repeat (first | with_reducible assumption | with_reducible refine Below.drew ?_)))
          clear hK K
          (try simp only [Act.put, List.setIfInBounds_toArray, List.set_cons_zero, List.set_cons_succ])
          generalize (World.setCells _ _ _ _ : World) = X at hk hx hHeld hp hhi ⊢
          refine wpAnyH_take (i := 9) (oi := { dst := some 10, op := Go.Op.assign (Go.Operand.tmp 37), type := 4, pos := "exact.go:1187", after := #[{ on := 6, ground := Go.Ground.data }, { on := 8, ground := Go.Ground.chain }, { on := 0, ground := Go.Ground.phase }, { on := 1, ground := Go.Ground.phase }, { on := 2, ground := Go.Ground.phase }, { on := 3, ground := Go.Ground.phase }, { on := 4, ground := Go.Ground.phase }, { on := 5, ground := Go.Ground.phase }, { on := 6, ground := Go.Ground.phase }, { on := 7, ground := Go.Ground.phase }, { on := 8, ground := Go.Ground.phase }], guard := none }) (v := ?_) rfl (by kernel_rfl) (by kernel_rfl) (by kernel_rfl) (fun _ _ _ h => h) (Or.inl ⟨by rfl, ?_⟩) (by assumption) ?_
          rotate_left
          · intro w hSw; (try dsimp only at hSw); go_simp; (try with_reducible rfl)
          simp only [Act.put, List.setIfInBounds_toArray, List.set_cons_zero, List.set_cons_succ]
          refine wpAnyH_done (by kernel_rfl) ?_ _
          refine NoPanic.normal (HQ.out lo hi G v1 v2 X _ _ _ _ _ _ _ hk hx hp ⟨hG, (Array.getElem?_eq_some_iff.1 hx).1, hlo, hhi, hor⟩)
    · go_simp
      have hn : (V.alloc (.cells #[.int .i64 0, .int .i64 0, .int .i64 0, .int .i64 0, .int .i64 0, .int .i64 0, .slice none 0 0, .slice none 0 0] 62)).heap[V.heap.size]? = some (.cells #[.int .i64 0, .int .i64 0, .int .i64 0, .int .i64 0, .int .i64 0, .int .i64 0, .slice none 0 0, .slice none 0 0] 62 (0, 0)) := alloc_at rfl
      have hG : wr.heap.size ≤ V.heap.size := hk.size
      have hk := Below.alloc hk hk.size (.cells #[.int .i64 0, .int .i64 0, .int .i64 0, .int .i64 0, .int .i64 0, .int .i64 0, .slice none 0 0, .slice none 0 0] 62)
      have R1 := ra_below R1 ((Below.refl V.heap.size V).alloc (Nat.le_refl _) (.cells #[.int .i64 0, .int .i64 0, .int .i64 0, .int .i64 0, .int .i64 0, .int .i64 0, .slice none 0 0, .slice none 0 0] 62)) rfl
      have R2 := ra_below R2 ((Below.refl V.heap.size V).alloc (Nat.le_refl _) (.cells #[.int .i64 0, .int .i64 0, .int .i64 0, .int .i64 0, .int .i64 0, .int .i64 0, .slice none 0 0, .slice none 0 0] 62)) rfl
      refine hK.out _ _ ?_ (fun hHeld => ?_)
      · (try dsimp only)
        exact SKB_7 (wr := wr) (b0 := b0) (b1 := b1) (a1 := none) (a2 := none) (k1 := 0) (k2 := 0) (p1 := p1) (p2 := p2) H0.out H1.out (by (repeat (first | with_reducible assumption | with_reducible refine Below.drew ?_)))
      clear hK K
      (try simp only [Act.put, List.setIfInBounds_toArray, List.set_cons_zero, List.set_cons_succ])
      generalize V.heap.size = G at hn hG ⊢
      generalize (World.alloc _ _ : World) = V at hk hHeld hn R1 R2 ⊢
      refine wpAnyH_ready (rs := [3]) (by kernel_rfl) (by simp) ?_
      refine (AllReadyH.cons (o := { dst := some 35, op := Go.Op.call { callee := Go.Callee.value (Go.Operand.func 45), args := #[Go.Operand.tmp 32, Go.Operand.tmp 34], argTypes := #[62, 73] }, type := 63, pos := "exact.go:1187", after := #[{ on := 0, ground := Go.Ground.data }, { on := 2, ground := Go.Ground.data }, { on := 2, ground := Go.Ground.chain }], guard := none }) rfl (fun K hK => ?_) AllReadyH.nil)
      · go_simp
        have hG2 : G < V.heap.size := (Array.getElem?_eq_some_iff.1 hn).1
        refine (HC.out _ _ _ _ _ (Nat.le_refl _) R1 R2).mono ?_
        rintro e w' ⟨v1, v2, rfl, hp, hb'⟩
        clear R1 R2
        have hlo : wr.heap.size ≤ V.heap.size := hk.size
        have hn := rowk hn hb' rfl
        have hk := hk.trans (hb'.mono hk.size)
        obtain ⟨hi, hhi⟩ : ∃ hi, hi = w'.heap.size := ⟨_, rfl⟩
        rw [← hhi] at hp
        have hhi : hi ≤ w'.heap.size := Nat.le_of_eq hhi
        clear hb'
        refine hK.out _ _ ?_ (fun hHeld => ?_)
        · (try dsimp only)
          exact SKB_7 (wr := wr) (b0 := b0) (b1 := b1) (a1 := none) (a2 := none) (k1 := 0) (k2 := 0) (p1 := p1) (p2 := p2) H0.out H1.out (by (repeat (first | with_reducible assumption | with_reducible refine Below.drew ?_)))
        clear hK K
        (try simp only [Act.put, List.setIfInBounds_toArray, List.set_cons_zero, List.set_cons_succ])
        obtain ⟨lo, hl⟩ : ∃ lo, lo = V.heap.size := ⟨_, rfl⟩
        rw [← hl] at hp hlo hG2
        clear hl
        have hor : G < lo ∨ hi ≤ G := .inl hG2
        clear hG2
        generalize w' = V at hk hHeld hn hp hhi ⊢
        refine wpAnyH_take (i := 4) (oi := { dst := some 31, op := Go.Op.move (Go.Operand.tmp 35), type := 63, pos := "exact.go:1187", after := #[{ on := 3, ground := Go.Ground.data }], guard := none }) (v := ?_) rfl (by kernel_rfl) (by kernel_rfl) (by kernel_rfl) (fun _ _ _ h => h) (Or.inl ⟨by rfl, ?_⟩) (by assumption) ?_
        rotate_left
        · intro w hSw; (try dsimp only at hSw); go_simp; (try with_reducible rfl)
        simp only [Act.put, List.setIfInBounds_toArray, List.set_cons_zero, List.set_cons_succ]
        refine wpAnyH_take (i := 5) (oi := { dst := some 36, op := Go.Op.extract (Go.Operand.tmp 31) 0, type := 62, pos := "exact.go:1187", after := #[{ on := 4, ground := Go.Ground.data }], guard := none }) (v := ?_) rfl (by kernel_rfl) (by kernel_rfl) (by kernel_rfl) (fun _ _ _ h => h) (Or.inl ⟨by rfl, ?_⟩) (by assumption) ?_
        rotate_left
        · intro w hSw; (try dsimp only at hSw); go_simp; (try with_reducible rfl)
        simp only [Act.put, List.setIfInBounds_toArray, List.set_cons_zero, List.set_cons_succ]
        refine wpAnyH_take (i := 6) (oi := { dst := some 37, op := Go.Op.extract (Go.Operand.tmp 31) 1, type := 4, pos := "exact.go:1187", after := #[{ on := 4, ground := Go.Ground.data }, { on := 8, ground := Go.Ground.gcOnly Go.Departure.lateStores }], guard := none }) (v := ?_) rfl (by kernel_rfl) (by kernel_rfl) (by kernel_rfl) (fun _ _ _ h => h) (Or.inl ⟨by rfl, ?_⟩) (by assumption) ?_
        rotate_left
        · intro w hSw; (try dsimp only at hSw); go_simp; (try with_reducible rfl)
        simp only [Act.put, List.setIfInBounds_toArray, List.set_cons_zero, List.set_cons_succ]
        refine wpAnyH_ready (rs := [8]) (by kernel_rfl) (by simp) ?_
        refine (AllReadyH.cons (o := { dst := none, op := Go.Op.store 62 (Go.Operand.tmp 9) (Go.Operand.tmp 36), type := 0, pos := "exact.go:1187", after := #[{ on := 7, ground := Go.Ground.data }, { on := 5, ground := Go.Ground.data }, { on := 3, ground := Go.Ground.chain }, { on := 0, ground := Go.Ground.phase }, { on := 1, ground := Go.Ground.phase }, { on := 2, ground := Go.Ground.phase }, { on := 3, ground := Go.Ground.phase }, { on := 4, ground := Go.Ground.phase }, { on := 5, ground := Go.Ground.phase }, { on := 6, ground := Go.Ground.textOnly Go.Departure.lateStores }, { on := 7, ground := Go.Ground.phase }], guard := none }) rfl (fun K hK => ?_) AllReadyH.nil)
        · skip
          have wo1 := own_one11 hp.1
          have wo2 := own_one11 hp.2.1
          refine wp_store_mid 62 (.tmp 9) (.tmp 36) rfl G 0 #[.int .i64 r0, .int .i64 r1, .int .i64 r2, .int .i64 r3, .int .i64 r4, .int .i64 r5, v1, v2] rfl rfl (row_there12 (cs := #[.int .i64 0, .int .i64 0, .int .i64 0, .int .i64 0, .int .i64 0, .int .i64 0, .slice none 0 0, .slice none 0 0]) hn) (by kernel_rfl) (one8_11 r0 r1 r2 r3 r4 r5 wo1 wo2) ?_
          have hx := row_sets12 (cs' := #[.int .i64 r0, .int .i64 r1, .int .i64 r2, .int .i64 r3, .int .i64 r4, .int .i64 r5, v1, v2]) hn rfl
          have hk := setCells_bel hG (Array.toList #[.int .i64 r0, .int .i64 r1, .int .i64 r2, .int .i64 r3, .int .i64 r4, .int .i64 r5, v1, v2]) 0 _ _ hk
          have hp := hp.st V (V.setCells G 0 (Array.toList #[.int .i64 r0, .int .i64 r1, .int .i64 r2, .int .i64 r3, .int .i64 r4, .int .i64 r5, v1, v2])) (fun k h1 h2 => setCells_heap (show k ≠ G by omega) _ _ _)
          have hhi : hi ≤ (V.setCells G 0 (Array.toList #[.int .i64 r0, .int .i64 r1, .int .i64 r2, .int .i64 r3, .int .i64 r4, .int .i64 r5, v1, v2])).heap.size := by rw [setCells_size11]; exact hhi
          clear hn
          refine hK.out _ _ ?_ (fun hHeld => ?_)
          · (try dsimp only)
            exact SKB_7 (wr := wr) (b0 := b0) (b1 := b1) (a1 := none) (a2 := none) (k1 := 0) (k2 := 0) (p1 := p1) (p2 := p2) H0.out H1.out (by (repeat (first | with_reducible assumption | with_reducible refine Below.drew ?_)))
          clear hK K
          (try simp only [Act.put, List.setIfInBounds_toArray, List.set_cons_zero, List.set_cons_succ])
          generalize (World.setCells _ _ _ _ : World) = X at hk hx hHeld hp hhi ⊢
          refine wpAnyH_take (i := 9) (oi := { dst := some 10, op := Go.Op.assign (Go.Operand.tmp 37), type := 4, pos := "exact.go:1187", after := #[{ on := 6, ground := Go.Ground.data }, { on := 8, ground := Go.Ground.chain }, { on := 0, ground := Go.Ground.phase }, { on := 1, ground := Go.Ground.phase }, { on := 2, ground := Go.Ground.phase }, { on := 3, ground := Go.Ground.phase }, { on := 4, ground := Go.Ground.phase }, { on := 5, ground := Go.Ground.phase }, { on := 6, ground := Go.Ground.phase }, { on := 7, ground := Go.Ground.phase }, { on := 8, ground := Go.Ground.phase }], guard := none }) (v := ?_) rfl (by kernel_rfl) (by kernel_rfl) (by kernel_rfl) (fun _ _ _ h => h) (Or.inl ⟨by rfl, ?_⟩) (by assumption) ?_
          rotate_left
          · intro w hSw; (try dsimp only at hSw); go_simp; (try with_reducible rfl)
          simp only [Act.put, List.setIfInBounds_toArray, List.set_cons_zero, List.set_cons_succ]
          refine wpAnyH_done (by kernel_rfl) ?_ _
          refine NoPanic.normal (HQ.out lo hi G v1 v2 X _ _ _ _ _ _ _ hk hx hp ⟨hG, (Array.getElem?_eq_some_iff.1 hx).1, hlo, hhi, hor⟩)
  · go_simp
    have hn : (V.alloc (.cells #[.int .i64 0, .int .i64 0, .int .i64 0, .int .i64 0, .int .i64 0, .int .i64 0, .slice none 0 0, .slice none 0 0] 62)).heap[V.heap.size]? = some (.cells #[.int .i64 0, .int .i64 0, .int .i64 0, .int .i64 0, .int .i64 0, .int .i64 0, .slice none 0 0, .slice none 0 0] 62 (0, 0)) := alloc_at rfl
    have hG : wr.heap.size ≤ V.heap.size := hk.size
    have hk := Below.alloc hk hk.size (.cells #[.int .i64 0, .int .i64 0, .int .i64 0, .int .i64 0, .int .i64 0, .int .i64 0, .slice none 0 0, .slice none 0 0] 62)
    have R1 := ra_below R1 ((Below.refl V.heap.size V).alloc (Nat.le_refl _) (.cells #[.int .i64 0, .int .i64 0, .int .i64 0, .int .i64 0, .int .i64 0, .int .i64 0, .slice none 0 0, .slice none 0 0] 62)) rfl
    have R2 := ra_below R2 ((Below.refl V.heap.size V).alloc (Nat.le_refl _) (.cells #[.int .i64 0, .int .i64 0, .int .i64 0, .int .i64 0, .int .i64 0, .int .i64 0, .slice none 0 0, .slice none 0 0] 62)) rfl
    refine hK.out _ _ ?_ (fun hHeld => ?_)
    · (try dsimp only)
      exact SKB_7 (wr := wr) (b0 := b0) (b1 := b1) (a1 := none) (a2 := none) (k1 := 0) (k2 := 0) (p1 := p1) (p2 := p2) H0.out H1.out (by (repeat (first | with_reducible assumption | with_reducible refine Below.drew ?_)))
    clear hK K
    (try simp only [Act.put, List.setIfInBounds_toArray, List.set_cons_zero, List.set_cons_succ])
    generalize V.heap.size = G at hn hG ⊢
    generalize (World.alloc _ _ : World) = V at hk hHeld hn R1 R2 ⊢
    refine wpAnyH_ready (rs := [2]) (by kernel_rfl) (by simp) ?_
    refine (AllReadyH.cons (o := { dst := some 34, op := Go.Op.call { callee := Go.Callee.value (Go.Operand.func 44), args := #[Go.Operand.tmp 33], argTypes := #[71] }, type := 73, pos := "exact.go:1187", after := #[{ on := 1, ground := Go.Ground.data }], guard := none }) rfl (fun K hK => ?_) AllReadyH.nil)
    · go_simp
      refine (to_step11 _ _ _ _ _).mono ?_
      rintro e w' ⟨rfl, hb'⟩
      have R1 := ra_below R1 hb' rfl
      have R2 := ra_below R2 hb' rfl
      have hn := rowk hn hb' rfl
      have hk := hk.trans (hb'.mono hk.size)
      clear hb'
      refine hK.out _ _ ?_ (fun hHeld => ?_)
      · (try dsimp only)
        exact SKB_7 (wr := wr) (b0 := b0) (b1 := b1) (a1 := none) (a2 := none) (k1 := 0) (k2 := 0) (p1 := p1) (p2 := p2) H0.out H1.out (by (repeat (first | with_reducible assumption | with_reducible refine Below.drew ?_)))
      clear hK K
      (try simp only [Act.put, List.setIfInBounds_toArray, List.set_cons_zero, List.set_cons_succ])
      generalize w' = V at hk hHeld hn R1 R2 ⊢
      refine wpAnyH_ready (rs := [3]) (by kernel_rfl) (by simp) ?_
      refine (AllReadyH.cons (o := { dst := some 35, op := Go.Op.call { callee := Go.Callee.value (Go.Operand.func 45), args := #[Go.Operand.tmp 32, Go.Operand.tmp 34], argTypes := #[62, 73] }, type := 63, pos := "exact.go:1187", after := #[{ on := 0, ground := Go.Ground.data }, { on := 2, ground := Go.Ground.data }, { on := 2, ground := Go.Ground.chain }], guard := none }) rfl (fun K hK => ?_) AllReadyH.nil)
      · go_simp
        have hG2 : G < V.heap.size := (Array.getElem?_eq_some_iff.1 hn).1
        refine (HC.out _ _ _ _ _ (Nat.le_refl _) R1 R2).mono ?_
        rintro e w' ⟨v1, v2, rfl, hp, hb'⟩
        clear R1 R2
        have hlo : wr.heap.size ≤ V.heap.size := hk.size
        have hn := rowk hn hb' rfl
        have hk := hk.trans (hb'.mono hk.size)
        obtain ⟨hi, hhi⟩ : ∃ hi, hi = w'.heap.size := ⟨_, rfl⟩
        rw [← hhi] at hp
        have hhi : hi ≤ w'.heap.size := Nat.le_of_eq hhi
        clear hb'
        refine hK.out _ _ ?_ (fun hHeld => ?_)
        · (try dsimp only)
          exact SKB_7 (wr := wr) (b0 := b0) (b1 := b1) (a1 := none) (a2 := none) (k1 := 0) (k2 := 0) (p1 := p1) (p2 := p2) H0.out H1.out (by (repeat (first | with_reducible assumption | with_reducible refine Below.drew ?_)))
        clear hK K
        (try simp only [Act.put, List.setIfInBounds_toArray, List.set_cons_zero, List.set_cons_succ])
        obtain ⟨lo, hl⟩ : ∃ lo, lo = V.heap.size := ⟨_, rfl⟩
        rw [← hl] at hp hlo hG2
        clear hl
        have hor : G < lo ∨ hi ≤ G := .inl hG2
        clear hG2
        generalize w' = V at hk hHeld hn hp hhi ⊢
        refine wpAnyH_take (i := 4) (oi := { dst := some 31, op := Go.Op.move (Go.Operand.tmp 35), type := 63, pos := "exact.go:1187", after := #[{ on := 3, ground := Go.Ground.data }], guard := none }) (v := ?_) rfl (by kernel_rfl) (by kernel_rfl) (by kernel_rfl) (fun _ _ _ h => h) (Or.inl ⟨by rfl, ?_⟩) (by assumption) ?_
        rotate_left
        · intro w hSw; (try dsimp only at hSw); go_simp; (try with_reducible rfl)
        simp only [Act.put, List.setIfInBounds_toArray, List.set_cons_zero, List.set_cons_succ]
        refine wpAnyH_take (i := 5) (oi := { dst := some 36, op := Go.Op.extract (Go.Operand.tmp 31) 0, type := 62, pos := "exact.go:1187", after := #[{ on := 4, ground := Go.Ground.data }], guard := none }) (v := ?_) rfl (by kernel_rfl) (by kernel_rfl) (by kernel_rfl) (fun _ _ _ h => h) (Or.inl ⟨by rfl, ?_⟩) (by assumption) ?_
        rotate_left
        · intro w hSw; (try dsimp only at hSw); go_simp; (try with_reducible rfl)
        simp only [Act.put, List.setIfInBounds_toArray, List.set_cons_zero, List.set_cons_succ]
        refine wpAnyH_take (i := 6) (oi := { dst := some 37, op := Go.Op.extract (Go.Operand.tmp 31) 1, type := 4, pos := "exact.go:1187", after := #[{ on := 4, ground := Go.Ground.data }, { on := 8, ground := Go.Ground.gcOnly Go.Departure.lateStores }], guard := none }) (v := ?_) rfl (by kernel_rfl) (by kernel_rfl) (by kernel_rfl) (fun _ _ _ h => h) (Or.inl ⟨by rfl, ?_⟩) (by assumption) ?_
        rotate_left
        · intro w hSw; (try dsimp only at hSw); go_simp; (try with_reducible rfl)
        simp only [Act.put, List.setIfInBounds_toArray, List.set_cons_zero, List.set_cons_succ]
        refine wpAnyH_ready (rs := [8]) (by kernel_rfl) (by simp) ?_
        refine (AllReadyH.cons (o := { dst := none, op := Go.Op.store 62 (Go.Operand.tmp 9) (Go.Operand.tmp 36), type := 0, pos := "exact.go:1187", after := #[{ on := 7, ground := Go.Ground.data }, { on := 5, ground := Go.Ground.data }, { on := 3, ground := Go.Ground.chain }, { on := 0, ground := Go.Ground.phase }, { on := 1, ground := Go.Ground.phase }, { on := 2, ground := Go.Ground.phase }, { on := 3, ground := Go.Ground.phase }, { on := 4, ground := Go.Ground.phase }, { on := 5, ground := Go.Ground.phase }, { on := 6, ground := Go.Ground.textOnly Go.Departure.lateStores }, { on := 7, ground := Go.Ground.phase }], guard := none }) rfl (fun K hK => ?_) AllReadyH.nil)
        · skip
          have wo1 := own_one11 hp.1
          have wo2 := own_one11 hp.2.1
          refine wp_store_mid 62 (.tmp 9) (.tmp 36) rfl G 0 #[.int .i64 r0, .int .i64 r1, .int .i64 r2, .int .i64 r3, .int .i64 r4, .int .i64 r5, v1, v2] rfl rfl (row_there12 (cs := #[.int .i64 0, .int .i64 0, .int .i64 0, .int .i64 0, .int .i64 0, .int .i64 0, .slice none 0 0, .slice none 0 0]) hn) (by kernel_rfl) (one8_11 r0 r1 r2 r3 r4 r5 wo1 wo2) ?_
          have hx := row_sets12 (cs' := #[.int .i64 r0, .int .i64 r1, .int .i64 r2, .int .i64 r3, .int .i64 r4, .int .i64 r5, v1, v2]) hn rfl
          have hk := setCells_bel hG (Array.toList #[.int .i64 r0, .int .i64 r1, .int .i64 r2, .int .i64 r3, .int .i64 r4, .int .i64 r5, v1, v2]) 0 _ _ hk
          have hp := hp.st V (V.setCells G 0 (Array.toList #[.int .i64 r0, .int .i64 r1, .int .i64 r2, .int .i64 r3, .int .i64 r4, .int .i64 r5, v1, v2])) (fun k h1 h2 => setCells_heap (show k ≠ G by omega) _ _ _)
          have hhi : hi ≤ (V.setCells G 0 (Array.toList #[.int .i64 r0, .int .i64 r1, .int .i64 r2, .int .i64 r3, .int .i64 r4, .int .i64 r5, v1, v2])).heap.size := by rw [setCells_size11]; exact hhi
          clear hn
          refine hK.out _ _ ?_ (fun hHeld => ?_)
          · (try dsimp only)
            exact SKB_7 (wr := wr) (b0 := b0) (b1 := b1) (a1 := none) (a2 := none) (k1 := 0) (k2 := 0) (p1 := p1) (p2 := p2) H0.out H1.out (by (repeat (first | with_reducible assumption | with_reducible refine Below.drew ?_)))
          clear hK K
          (try simp only [Act.put, List.setIfInBounds_toArray, List.set_cons_zero, List.set_cons_succ])
          generalize (World.setCells _ _ _ _ : World) = X at hk hx hHeld hp hhi ⊢
          refine wpAnyH_take (i := 9) (oi := { dst := some 10, op := Go.Op.assign (Go.Operand.tmp 37), type := 4, pos := "exact.go:1187", after := #[{ on := 6, ground := Go.Ground.data }, { on := 8, ground := Go.Ground.chain }, { on := 0, ground := Go.Ground.phase }, { on := 1, ground := Go.Ground.phase }, { on := 2, ground := Go.Ground.phase }, { on := 3, ground := Go.Ground.phase }, { on := 4, ground := Go.Ground.phase }, { on := 5, ground := Go.Ground.phase }, { on := 6, ground := Go.Ground.phase }, { on := 7, ground := Go.Ground.phase }, { on := 8, ground := Go.Ground.phase }], guard := none }) (v := ?_) rfl (by kernel_rfl) (by kernel_rfl) (by kernel_rfl) (fun _ _ _ h => h) (Or.inl ⟨by rfl, ?_⟩) (by assumption) ?_
          rotate_left
          · intro w hSw; (try dsimp only at hSw); go_simp; (try with_reducible rfl)
          simp only [Act.put, List.setIfInBounds_toArray, List.set_cons_zero, List.set_cons_succ]
          refine wpAnyH_done (by kernel_rfl) ?_ _
          refine NoPanic.normal (HQ.out lo hi G v1 v2 X _ _ _ _ _ _ _ hk hx hp ⟨hG, (Array.getElem?_eq_some_iff.1 hx).1, hlo, hhi, hor⟩)
theorem SKA_24 {wr U : World} {b0 b1 : Nat} {m0 m1 m2 m3 m4 m5 : Int} {a1 a2 : Option Addr} {k1 k2 p1 p2 : Nat} {z1 : List H11} {z2 : List S11} {p : S11} (h0 : wr.heap[b0]? = some (Obj.cells #[.int .i64 m0, .int .i64 m1, .int .i64 m2, .int .i64 m3, .int .i64 m4, .int .i64 m5, .slice a1 z1.length k1, .slice a2 z2.length k2] 57 (0, 0))) (h1 : wr.heap[b1]? = some (Obj.cells #[.int .i64 p.k, .int .i64 p.s, .int .i64 p.x, .int .i64 p.y] 71 (0, 0))) (hb : Below wr.heap.size wr U) : U.cell? ⟨b0, 0, none⟩ = some (.int .i64 m0) ∧ U.cell? ⟨b0, 1, none⟩ = some (.int .i64 m1) ∧ U.cell? ⟨b0, 2, none⟩ = some (.int .i64 m2) ∧ U.cell? ⟨b0, 3, none⟩ = some (.int .i64 m3) ∧ U.cell? ⟨b0, 4, none⟩ = some (.int .i64 m4) ∧ U.cell? ⟨b0, 5, none⟩ = some (.int .i64 m5) ∧ U.cell? ⟨b0, 6, none⟩ = some (.slice a1 z1.length k1) ∧ U.cell? ⟨b0, 7, none⟩ = some (.slice a2 z2.length k2) ∧ U.cell? ⟨b1, 0, none⟩ = some (.int .i64 p.k) ∧ U.cell? ⟨b1, 1, none⟩ = some (.int .i64 p.s) ∧ U.cell? ⟨b1, 2, none⟩ = some (.int .i64 p.x) ∧ U.cell? ⟨b1, 3, none⟩ = some (.int .i64 p.y) := by
  have q0 := fun j => cell_of_row U b0 j _ _ _ (rowk h0 hb rfl)
  have q1 := fun j => cell_of_row U b1 j _ _ _ (rowk h1 hb rfl)
  exact ⟨q0 0, q0 1, q0 2, q0 3, q0 4, q0 5, q0 6, q0 7, q1 0, q1 1, q1 2, q1 3⟩
set_option linter.unusedSimpArgs false in
set_option maxRecDepth 20000 in
set_option maxHeartbeats 8000000 in
theorem rg_24 {Q : Exit → Act → World → Prop} (wr : World) (b0 b1 : Nat) (m0 m1 m2 m3 m4 m5 : Int) (a1 a2 : Option Addr) (k1 k2 p1 p2 : Nat) (z1 : List H11) (z2 : List S11) (p : S11) (r0 r1 r2 r3 r4 r5 : Int) (l' : List H11) (st' : List S11) (t : Bool) {x0 x1 x4 x5 x6 x7 x8 x9 x10 x11 x12 x13 x14 x15 x16 x17 x18 x19 x20 x21 x22 x23 x24 x25 x26 x27 x28 x29 x30 x31 x32 x33 x34 x35 x36 x37 x38 x39 x40 x41 x42 x43 x44 x45 x46 x47 x48 x49 x50 x51 x52 x53 x54 x55 x56 x57 x58 x59 x60 x61 x62 x63 x64 x65 x66 x67 x68 x69 x70 x71 x72 x73 x74 x75 x76 x77 x78 x79 x80 x81 x82 x83 x84 x85 x86 x87 x88 x89 x90 x91 x92 x93 x94 x95 x96 x97 x98 x99 x100 x101 x102 x103 : Value} (H0 : Hid (wr.heap[b0]? = some (Obj.cells #[.int .i64 m0, .int .i64 m1, .int .i64 m2, .int .i64 m3, .int .i64 m4, .int .i64 m5, .slice a1 z1.length k1, .slice a2 z2.length k2] 57 (0, 0)))) (H1 : Hid (wr.heap[b1]? = some (Obj.cells #[.int .i64 p.k, .int .i64 p.s, .int .i64 p.x, .int .i64 p.y] 71 (0, 0)))) (HT : Hid (∀ (W : World), Is11 ch11 6 W a1 z1 → Is11 cs11 4 W a2 z2 → Calls Try.prog 36 #[.agg #[.int .i64 m0, .int .i64 m1, .int .i64 m2, .int .i64 m3, .int .i64 m4, .int .i64 m5, .slice a1 z1.length k1, .slice a2 z2.length k2]] W (PP11 m0 m1 m2 m3 m4 m5 z1 z2 W))) (J0 : Hid (Is11 ch11 6 wr a1 z1)) (J1 : Hid (Is11 cs11 4 wr a2 z2)) (HC : Hid (∀ (g1 c1 g2 c2 : Nat) (W : World), z2.length ≤ c2 → W.rangeAt g1 0 (hv11 z1) → W.rangeAt g2 0 (sv11 z2) → Calls Try.prog 45 #[.agg #[.int .i64 m0, .int .i64 m1, .int .i64 m2, .int .i64 m3, .int .i64 m4, .int .i64 m5, .slice (some ⟨g1, 0, none⟩) z1.length c1, .slice (some ⟨g2, 0, none⟩) z2.length c2], .agg #[.int .i64 p.k, .int .i64 p.s, .int .i64 p.x, .int .i64 p.y]] W (TP11 r0 r1 r2 r3 r4 r5 l' st' t W)))
    (hQ : ∀ (lo hi bw : Nat) (v1 v2 : Value) (X : World) (y79 y80 y81 y82 y83 y84 y85 y86 : Value), Below wr.heap.size wr X → X.heap[bw]? = some (Obj.cells #[.int .i64 r0, .int .i64 r1, .int .i64 r2, .int .i64 r3, .int .i64 r4, .int .i64 r5, v1, v2] 62 (0, 0)) → Pr11 lo hi v1 v2 l' st' X → (wr.heap.size ≤ bw ∧ bw < X.heap.size ∧ wr.heap.size ≤ lo ∧ hi ≤ X.heap.size ∧ (bw < lo ∨ hi ≤ bw)) → Q .normal { tmps := #[x0, x1, (.pointer (some ⟨b0, 0, none⟩)), (.pointer (some ⟨b1, 0, none⟩)), x4, x5, x6, x7, x8, x9, x10, x11, x12, x13, (.pointer (some ⟨bw, 0, none⟩)), (.bool t), x16, x17, x18, x19, x20, x21, x22, x23, x24, x25, x26, x27, x28, x29, x30, x31, x32, x33, x34, x35, x36, x37, x38, x39, x40, x41, x42, x43, x44, x45, x46, x47, x48, x49, x50, x51, x52, x53, x54, x55, x56, x57, x58, x59, x60, x61, x62, x63, x64, x65, x66, x67, x68, x69, x70, x71, x72, x73, x74, x75, x76, x77, x78, y79, y80, y81, y82, y83, y84, y85, y86, x87, x88, x89, x90, x91, x92, x93, x94, x95, x96, x97, x98, x99, x100, x101, x102, x103], defers := [] } X) :
    (Code.region 24 #[{ dst := some 80, op := Go.Op.load 57 (Go.Operand.tmp 2), type := 57, pos := "exact.go:1209", after := #[], guard := none }, { dst := some 81, op := Go.Op.call { callee := Go.Callee.value (Go.Operand.func 36), args := #[Go.Operand.tmp 80], argTypes := #[57] }, type := 62, pos := "exact.go:1209", after := #[{ on := 0, ground := Go.Ground.data }], guard := none }, { dst := some 82, op := Go.Op.load 71 (Go.Operand.tmp 3), type := 71, pos := "exact.go:1209", after := #[], guard := none }, { dst := some 83, op := Go.Op.call { callee := Go.Callee.value (Go.Operand.func 44), args := #[Go.Operand.tmp 82], argTypes := #[71] }, type := 73, pos := "exact.go:1209", after := #[{ on := 2, ground := Go.Ground.data }, { on := 1, ground := Go.Ground.chain }], guard := none }, { dst := some 84, op := Go.Op.call { callee := Go.Callee.value (Go.Operand.func 45), args := #[Go.Operand.tmp 81, Go.Operand.tmp 83], argTypes := #[62, 73] }, type := 63, pos := "exact.go:1209", after := #[{ on := 1, ground := Go.Ground.data }, { on := 3, ground := Go.Ground.data }, { on := 3, ground := Go.Ground.chain }], guard := none }, { dst := some 79, op := Go.Op.move (Go.Operand.tmp 84), type := 63, pos := "exact.go:1209", after := #[{ on := 4, ground := Go.Ground.data }], guard := none }, { dst := some 85, op := Go.Op.extract (Go.Operand.tmp 79) 0, type := 62, pos := "exact.go:1209", after := #[{ on := 5, ground := Go.Ground.data }], guard := none }, { dst := some 86, op := Go.Op.extract (Go.Operand.tmp 79) 1, type := 4, pos := "exact.go:1209", after := #[{ on := 5, ground := Go.Ground.data }, { on := 9, ground := Go.Ground.gcOnly Go.Departure.lateStores }], guard := none }, { dst := some 14, op := Go.Op.alloc 62, type := 0, pos := "exact.go:1209", after := #[], guard := none }, { dst := none, op := Go.Op.store 62 (Go.Operand.tmp 14) (Go.Operand.tmp 85), type := 0, pos := "exact.go:1209", after := #[{ on := 8, ground := Go.Ground.data }, { on := 6, ground := Go.Ground.data }, { on := 4, ground := Go.Ground.chain }, { on := 0, ground := Go.Ground.phase }, { on := 1, ground := Go.Ground.phase }, { on := 2, ground := Go.Ground.phase }, { on := 3, ground := Go.Ground.phase }, { on := 4, ground := Go.Ground.phase }, { on := 5, ground := Go.Ground.phase }, { on := 6, ground := Go.Ground.phase }, { on := 7, ground := Go.Ground.textOnly Go.Departure.lateStores }, { on := 8, ground := Go.Ground.phase }], guard := none }, { dst := some 15, op := Go.Op.assign (Go.Operand.tmp 86), type := 4, pos := "exact.go:1209", after := #[{ on := 7, ground := Go.Ground.data }, { on := 9, ground := Go.Ground.chain }, { on := 0, ground := Go.Ground.phase }, { on := 1, ground := Go.Ground.phase }, { on := 2, ground := Go.Ground.phase }, { on := 3, ground := Go.Ground.phase }, { on := 4, ground := Go.Ground.phase }, { on := 5, ground := Go.Ground.phase }, { on := 6, ground := Go.Ground.phase }, { on := 7, ground := Go.Ground.phase }, { on := 8, ground := Go.Ground.phase }, { on := 9, ground := Go.Ground.phase }], guard := none }] true).wp Try.prog Q { tmps := #[x0, x1, (.pointer (some ⟨b0, 0, none⟩)), (.pointer (some ⟨b1, 0, none⟩)), x4, x5, x6, x7, x8, x9, x10, x11, x12, x13, x14, x15, x16, x17, x18, x19, x20, x21, x22, x23, x24, x25, x26, x27, x28, x29, x30, x31, x32, x33, x34, x35, x36, x37, x38, x39, x40, x41, x42, x43, x44, x45, x46, x47, x48, x49, x50, x51, x52, x53, x54, x55, x56, x57, x58, x59, x60, x61, x62, x63, x64, x65, x66, x67, x68, x69, x70, x71, x72, x73, x74, x75, x76, x77, x78, x79, x80, x81, x82, x83, x84, x85, x86, x87, x88, x89, x90, x91, x92, x93, x94, x95, x96, x97, x98, x99, x100, x101, x102, x103], defers := [] } wr := by
  have HQ := Lib.hid hQ
  clear hQ
  have hk := Below.refl wr.heap.size wr
  refine wp_region_noPanic ?_
  refine wp_region_held_drew (S := (fun U => U.cell? ⟨b0, 0, none⟩ = some (.int .i64 m0) ∧ U.cell? ⟨b0, 1, none⟩ = some (.int .i64 m1) ∧ U.cell? ⟨b0, 2, none⟩ = some (.int .i64 m2) ∧ U.cell? ⟨b0, 3, none⟩ = some (.int .i64 m3) ∧ U.cell? ⟨b0, 4, none⟩ = some (.int .i64 m4) ∧ U.cell? ⟨b0, 5, none⟩ = some (.int .i64 m5) ∧ U.cell? ⟨b0, 6, none⟩ = some (.slice a1 z1.length k1) ∧ U.cell? ⟨b0, 7, none⟩ = some (.slice a2 z2.length k2) ∧ U.cell? ⟨b1, 0, none⟩ = some (.int .i64 p.k) ∧ U.cell? ⟨b1, 1, none⟩ = some (.int .i64 p.s) ∧ U.cell? ⟨b1, 2, none⟩ = some (.int .i64 p.x) ∧ U.cell? ⟨b1, 3, none⟩ = some (.int .i64 p.y))) (by kernel_rfl) ?_ (fun hHeld => ?_)
  · (try dsimp only)
    exact SKA_24 (wr := wr) (b0 := b0) (b1 := b1) (a1 := a1) (a2 := a2) (k1 := k1) (k2 := k2) (p1 := 0) (p2 := 0) H0.out H1.out (by (repeat (first | with_reducible assumption | with_reducible refine Below.drew ?_)))
  have hk := hk.drew
  generalize wr.drew = V at hk hHeld ⊢
  refine wpAnyH_take (i := 0) (oi := { dst := some 80, op := Go.Op.load 57 (Go.Operand.tmp 2), type := 57, pos := "exact.go:1209", after := #[], guard := none }) (v := ?_) rfl (by kernel_rfl) (by kernel_rfl) (by kernel_rfl) (fun _ _ _ h => h) (Or.inl ⟨by rfl, ?_⟩) (by assumption) ?_
  rotate_left
  · intro w hSw; (try dsimp only at hSw); go_simp; (try with_reducible rfl)
  simp only [Act.put, List.setIfInBounds_toArray, List.set_cons_zero, List.set_cons_succ]
  refine wpAnyH_take (i := 2) (oi := { dst := some 82, op := Go.Op.load 71 (Go.Operand.tmp 3), type := 71, pos := "exact.go:1209", after := #[], guard := none }) (v := ?_) rfl (by kernel_rfl) (by kernel_rfl) (by kernel_rfl) (fun _ _ _ h => h) (Or.inl ⟨by rfl, ?_⟩) (by assumption) ?_
  rotate_left
  · intro w hSw; (try dsimp only at hSw); go_simp; (try with_reducible rfl)
  simp only [Act.put, List.setIfInBounds_toArray, List.set_cons_zero, List.set_cons_succ]
  refine wpAnyH_ready (rs := [1, 8]) (by kernel_rfl) (by simp) ?_
  refine (AllReadyH.cons (o := { dst := some 81, op := Go.Op.call { callee := Go.Callee.value (Go.Operand.func 36), args := #[Go.Operand.tmp 80], argTypes := #[57] }, type := 62, pos := "exact.go:1209", after := #[{ on := 0, ground := Go.Ground.data }], guard := none }) rfl (fun K hK => ?_) (AllReadyH.cons (o := { dst := some 14, op := Go.Op.alloc 62, type := 0, pos := "exact.go:1209", after := #[], guard := none }) rfl (fun K hK => ?_) AllReadyH.nil))
  · go_simp
    refine (HT.out _ (Is11.below J0.out hk) (Is11.below J1.out hk)).mono ?_
    rintro e w' ⟨p1, p2, rfl, hpp, hb'⟩
    have R1 := own_range hpp.1
    have R2 := own_range hpp.2.1
    clear hpp
    have hk := hk.trans (hb'.mono hk.size)
    clear hb'
    refine hK.out _ _ ?_ (fun hHeld => ?_)
    · (try dsimp only)
      exact SKA_24 (wr := wr) (b0 := b0) (b1 := b1) (a1 := a1) (a2 := a2) (k1 := k1) (k2 := k2) (p1 := 0) (p2 := 0) H0.out H1.out (by (repeat (first | with_reducible assumption | with_reducible refine Below.drew ?_)))
    clear hK K
    (try simp only [Act.put, List.setIfInBounds_toArray, List.set_cons_zero, List.set_cons_succ])
    generalize w' = V at hk hHeld R1 R2 ⊢
    refine wpAnyH_ready (rs := [3, 8]) (by kernel_rfl) (by simp) ?_
    refine (AllReadyH.cons (o := { dst := some 83, op := Go.Op.call { callee := Go.Callee.value (Go.Operand.func 44), args := #[Go.Operand.tmp 82], argTypes := #[71] }, type := 73, pos := "exact.go:1209", after := #[{ on := 2, ground := Go.Ground.data }, { on := 1, ground := Go.Ground.chain }], guard := none }) rfl (fun K hK => ?_) (AllReadyH.cons (o := { dst := some 14, op := Go.Op.alloc 62, type := 0, pos := "exact.go:1209", after := #[], guard := none }) rfl (fun K hK => ?_) AllReadyH.nil))
    · go_simp
      refine (to_step11 _ _ _ _ _).mono ?_
      rintro e w' ⟨rfl, hb'⟩
      have R1 := ra_below R1 hb' rfl
      have R2 := ra_below R2 hb' rfl
      have hk := hk.trans (hb'.mono hk.size)
      clear hb'
      refine hK.out _ _ ?_ (fun hHeld => ?_)
      · (try dsimp only)
        exact SKA_24 (wr := wr) (b0 := b0) (b1 := b1) (a1 := a1) (a2 := a2) (k1 := k1) (k2 := k2) (p1 := 0) (p2 := 0) H0.out H1.out (by (repeat (first | with_reducible assumption | with_reducible refine Below.drew ?_)))
      clear hK K
      (try simp only [Act.put, List.setIfInBounds_toArray, List.set_cons_zero, List.set_cons_succ])
      generalize w' = V at hk hHeld R1 R2 ⊢
      refine wpAnyH_ready (rs := [4, 8]) (by kernel_rfl) (by simp) ?_
      refine (AllReadyH.cons (o := { dst := some 84, op := Go.Op.call { callee := Go.Callee.value (Go.Operand.func 45), args := #[Go.Operand.tmp 81, Go.Operand.tmp 83], argTypes := #[62, 73] }, type := 63, pos := "exact.go:1209", after := #[{ on := 1, ground := Go.Ground.data }, { on := 3, ground := Go.Ground.data }, { on := 3, ground := Go.Ground.chain }], guard := none }) rfl (fun K hK => ?_) (AllReadyH.cons (o := { dst := some 14, op := Go.Op.alloc 62, type := 0, pos := "exact.go:1209", after := #[], guard := none }) rfl (fun K hK => ?_) AllReadyH.nil))
      · go_simp
        refine (HC.out _ _ _ _ _ (Nat.le_refl _) R1 R2).mono ?_
        rintro e w' ⟨v1, v2, rfl, hp, hb'⟩
        clear R1 R2
        have hlo : wr.heap.size ≤ V.heap.size := hk.size
        have hk := hk.trans (hb'.mono hk.size)
        obtain ⟨hi, hhi⟩ : ∃ hi, hi = w'.heap.size := ⟨_, rfl⟩
        rw [← hhi] at hp
        have hhi : hi ≤ w'.heap.size := Nat.le_of_eq hhi
        clear hb'
        refine hK.out _ _ ?_ (fun hHeld => ?_)
        · (try dsimp only)
          exact SKA_24 (wr := wr) (b0 := b0) (b1 := b1) (a1 := a1) (a2 := a2) (k1 := k1) (k2 := k2) (p1 := 0) (p2 := 0) H0.out H1.out (by (repeat (first | with_reducible assumption | with_reducible refine Below.drew ?_)))
        clear hK K
        (try simp only [Act.put, List.setIfInBounds_toArray, List.set_cons_zero, List.set_cons_succ])
        obtain ⟨lo, hl⟩ : ∃ lo, lo = V.heap.size := ⟨_, rfl⟩
        rw [← hl] at hp hlo 
        clear hl
        generalize w' = V at hk hHeld hp hhi ⊢
        refine wpAnyH_take (i := 5) (oi := { dst := some 79, op := Go.Op.move (Go.Operand.tmp 84), type := 63, pos := "exact.go:1209", after := #[{ on := 4, ground := Go.Ground.data }], guard := none }) (v := ?_) rfl (by kernel_rfl) (by kernel_rfl) (by kernel_rfl) (fun _ _ _ h => h) (Or.inl ⟨by rfl, ?_⟩) (by assumption) ?_
        rotate_left
        · intro w hSw; (try dsimp only at hSw); go_simp; (try with_reducible rfl)
        simp only [Act.put, List.setIfInBounds_toArray, List.set_cons_zero, List.set_cons_succ]
        refine wpAnyH_take (i := 6) (oi := { dst := some 85, op := Go.Op.extract (Go.Operand.tmp 79) 0, type := 62, pos := "exact.go:1209", after := #[{ on := 5, ground := Go.Ground.data }], guard := none }) (v := ?_) rfl (by kernel_rfl) (by kernel_rfl) (by kernel_rfl) (fun _ _ _ h => h) (Or.inl ⟨by rfl, ?_⟩) (by assumption) ?_
        rotate_left
        · intro w hSw; (try dsimp only at hSw); go_simp; (try with_reducible rfl)
        simp only [Act.put, List.setIfInBounds_toArray, List.set_cons_zero, List.set_cons_succ]
        refine wpAnyH_take (i := 7) (oi := { dst := some 86, op := Go.Op.extract (Go.Operand.tmp 79) 1, type := 4, pos := "exact.go:1209", after := #[{ on := 5, ground := Go.Ground.data }, { on := 9, ground := Go.Ground.gcOnly Go.Departure.lateStores }], guard := none }) (v := ?_) rfl (by kernel_rfl) (by kernel_rfl) (by kernel_rfl) (fun _ _ _ h => h) (Or.inl ⟨by rfl, ?_⟩) (by assumption) ?_
        rotate_left
        · intro w hSw; (try dsimp only at hSw); go_simp; (try with_reducible rfl)
        simp only [Act.put, List.setIfInBounds_toArray, List.set_cons_zero, List.set_cons_succ]
        refine wpAnyH_ready (rs := [8]) (by kernel_rfl) (by simp) ?_
        refine (AllReadyH.cons (o := { dst := some 14, op := Go.Op.alloc 62, type := 0, pos := "exact.go:1209", after := #[], guard := none }) rfl (fun K hK => ?_) AllReadyH.nil)
        · go_simp
          have hn : (V.alloc (.cells #[.int .i64 0, .int .i64 0, .int .i64 0, .int .i64 0, .int .i64 0, .int .i64 0, .slice none 0 0, .slice none 0 0] 62)).heap[V.heap.size]? = some (.cells #[.int .i64 0, .int .i64 0, .int .i64 0, .int .i64 0, .int .i64 0, .int .i64 0, .slice none 0 0, .slice none 0 0] 62 (0, 0)) := alloc_at rfl
          have hG : wr.heap.size ≤ V.heap.size := hk.size
          have hk := Below.alloc hk hk.size (.cells #[.int .i64 0, .int .i64 0, .int .i64 0, .int .i64 0, .int .i64 0, .int .i64 0, .slice none 0 0, .slice none 0 0] 62)
          have hp := hp.st V (V.alloc (.cells #[.int .i64 0, .int .i64 0, .int .i64 0, .int .i64 0, .int .i64 0, .int .i64 0, .slice none 0 0, .slice none 0 0] 62)) (fun k _ h2 => ((Below.refl V.heap.size V).alloc (Nat.le_refl _) (.cells #[.int .i64 0, .int .i64 0, .int .i64 0, .int .i64 0, .int .i64 0, .int .i64 0, .slice none 0 0, .slice none 0 0] 62)).block k (by omega))
          have hor : V.heap.size < lo ∨ hi ≤ V.heap.size := .inr hhi
          have hhi : hi ≤ (V.alloc (.cells #[.int .i64 0, .int .i64 0, .int .i64 0, .int .i64 0, .int .i64 0, .int .i64 0, .slice none 0 0, .slice none 0 0] 62)).heap.size := by simp; omega
          refine hK.out _ _ ?_ (fun hHeld => ?_)
          · (try dsimp only)
            exact SKA_24 (wr := wr) (b0 := b0) (b1 := b1) (a1 := a1) (a2 := a2) (k1 := k1) (k2 := k2) (p1 := 0) (p2 := 0) H0.out H1.out (by (repeat (first | with_reducible assumption | with_reducible refine Below.drew ?_)))
          clear hK K
          (try simp only [Act.put, List.setIfInBounds_toArray, List.set_cons_zero, List.set_cons_succ])
          generalize V.heap.size = G at hn hG hor ⊢
          generalize (World.alloc _ _ : World) = V at hk hHeld hn hp hhi ⊢
          refine wpAnyH_ready (rs := [9]) (by kernel_rfl) (by simp) ?_
          refine (AllReadyH.cons (o := { dst := none, op := Go.Op.store 62 (Go.Operand.tmp 14) (Go.Operand.tmp 85), type := 0, pos := "exact.go:1209", after := #[{ on := 8, ground := Go.Ground.data }, { on := 6, ground := Go.Ground.data }, { on := 4, ground := Go.Ground.chain }, { on := 0, ground := Go.Ground.phase }, { on := 1, ground := Go.Ground.phase }, { on := 2, ground := Go.Ground.phase }, { on := 3, ground := Go.Ground.phase }, { on := 4, ground := Go.Ground.phase }, { on := 5, ground := Go.Ground.phase }, { on := 6, ground := Go.Ground.phase }, { on := 7, ground := Go.Ground.textOnly Go.Departure.lateStores }, { on := 8, ground := Go.Ground.phase }], guard := none }) rfl (fun K hK => ?_) AllReadyH.nil)
          · skip
            have wo1 := own_one11 hp.1
            have wo2 := own_one11 hp.2.1
            refine wp_store_mid 62 (.tmp 14) (.tmp 85) rfl G 0 #[.int .i64 r0, .int .i64 r1, .int .i64 r2, .int .i64 r3, .int .i64 r4, .int .i64 r5, v1, v2] rfl rfl (row_there12 (cs := #[.int .i64 0, .int .i64 0, .int .i64 0, .int .i64 0, .int .i64 0, .int .i64 0, .slice none 0 0, .slice none 0 0]) hn) (by kernel_rfl) (one8_11 r0 r1 r2 r3 r4 r5 wo1 wo2) ?_
            have hx := row_sets12 (cs' := #[.int .i64 r0, .int .i64 r1, .int .i64 r2, .int .i64 r3, .int .i64 r4, .int .i64 r5, v1, v2]) hn rfl
            have hk := setCells_bel hG (Array.toList #[.int .i64 r0, .int .i64 r1, .int .i64 r2, .int .i64 r3, .int .i64 r4, .int .i64 r5, v1, v2]) 0 _ _ hk
            have hp := hp.st V (V.setCells G 0 (Array.toList #[.int .i64 r0, .int .i64 r1, .int .i64 r2, .int .i64 r3, .int .i64 r4, .int .i64 r5, v1, v2])) (fun k h1 h2 => setCells_heap (show k ≠ G by omega) _ _ _)
            have hhi : hi ≤ (V.setCells G 0 (Array.toList #[.int .i64 r0, .int .i64 r1, .int .i64 r2, .int .i64 r3, .int .i64 r4, .int .i64 r5, v1, v2])).heap.size := by rw [setCells_size11]; exact hhi
            clear hn
            refine hK.out _ _ ?_ (fun hHeld => ?_)
            · (try dsimp only)
              exact SKA_24 (wr := wr) (b0 := b0) (b1 := b1) (a1 := a1) (a2 := a2) (k1 := k1) (k2 := k2) (p1 := 0) (p2 := 0) H0.out H1.out (by (repeat (first | with_reducible assumption | with_reducible refine Below.drew ?_)))
            clear hK K
            (try simp only [Act.put, List.setIfInBounds_toArray, List.set_cons_zero, List.set_cons_succ])
            generalize (World.setCells _ _ _ _ : World) = X at hk hx hHeld hp hhi ⊢
            refine wpAnyH_take (i := 10) (oi := { dst := some 15, op := Go.Op.assign (Go.Operand.tmp 86), type := 4, pos := "exact.go:1209", after := #[{ on := 7, ground := Go.Ground.data }, { on := 9, ground := Go.Ground.chain }, { on := 0, ground := Go.Ground.phase }, { on := 1, ground := Go.Ground.phase }, { on := 2, ground := Go.Ground.phase }, { on := 3, ground := Go.Ground.phase }, { on := 4, ground := Go.Ground.phase }, { on := 5, ground := Go.Ground.phase }, { on := 6, ground := Go.Ground.phase }, { on := 7, ground := Go.Ground.phase }, { on := 8, ground := Go.Ground.phase }, { on := 9, ground := Go.Ground.phase }], guard := none }) (v := ?_) rfl (by kernel_rfl) (by kernel_rfl) (by kernel_rfl) (fun _ _ _ h => h) (Or.inl ⟨by rfl, ?_⟩) (by assumption) ?_
            rotate_left
            · intro w hSw; (try dsimp only at hSw); go_simp; (try with_reducible rfl)
            simp only [Act.put, List.setIfInBounds_toArray, List.set_cons_zero, List.set_cons_succ]
            refine wpAnyH_done (by kernel_rfl) ?_ _
            refine NoPanic.normal (HQ.out lo hi G v1 v2 X _ _ _ _ _ _ _ _ hk hx hp ⟨hG, (Array.getElem?_eq_some_iff.1 hx).1, hlo, hhi, hor⟩)
      · go_simp
        have hn : (V.alloc (.cells #[.int .i64 0, .int .i64 0, .int .i64 0, .int .i64 0, .int .i64 0, .int .i64 0, .slice none 0 0, .slice none 0 0] 62)).heap[V.heap.size]? = some (.cells #[.int .i64 0, .int .i64 0, .int .i64 0, .int .i64 0, .int .i64 0, .int .i64 0, .slice none 0 0, .slice none 0 0] 62 (0, 0)) := alloc_at rfl
        have hG : wr.heap.size ≤ V.heap.size := hk.size
        have hk := Below.alloc hk hk.size (.cells #[.int .i64 0, .int .i64 0, .int .i64 0, .int .i64 0, .int .i64 0, .int .i64 0, .slice none 0 0, .slice none 0 0] 62)
        have R1 := ra_below R1 ((Below.refl V.heap.size V).alloc (Nat.le_refl _) (.cells #[.int .i64 0, .int .i64 0, .int .i64 0, .int .i64 0, .int .i64 0, .int .i64 0, .slice none 0 0, .slice none 0 0] 62)) rfl
        have R2 := ra_below R2 ((Below.refl V.heap.size V).alloc (Nat.le_refl _) (.cells #[.int .i64 0, .int .i64 0, .int .i64 0, .int .i64 0, .int .i64 0, .int .i64 0, .slice none 0 0, .slice none 0 0] 62)) rfl
        refine hK.out _ _ ?_ (fun hHeld => ?_)
        · (try dsimp only)
          exact SKA_24 (wr := wr) (b0 := b0) (b1 := b1) (a1 := a1) (a2 := a2) (k1 := k1) (k2 := k2) (p1 := 0) (p2 := 0) H0.out H1.out (by (repeat (first | with_reducible assumption | with_reducible refine Below.drew ?_)))
        clear hK K
        (try simp only [Act.put, List.setIfInBounds_toArray, List.set_cons_zero, List.set_cons_succ])
        generalize V.heap.size = G at hn hG ⊢
        generalize (World.alloc _ _ : World) = V at hk hHeld hn R1 R2 ⊢
        refine wpAnyH_ready (rs := [4]) (by kernel_rfl) (by simp) ?_
        refine (AllReadyH.cons (o := { dst := some 84, op := Go.Op.call { callee := Go.Callee.value (Go.Operand.func 45), args := #[Go.Operand.tmp 81, Go.Operand.tmp 83], argTypes := #[62, 73] }, type := 63, pos := "exact.go:1209", after := #[{ on := 1, ground := Go.Ground.data }, { on := 3, ground := Go.Ground.data }, { on := 3, ground := Go.Ground.chain }], guard := none }) rfl (fun K hK => ?_) AllReadyH.nil)
        · go_simp
          have hG2 : G < V.heap.size := (Array.getElem?_eq_some_iff.1 hn).1
          refine (HC.out _ _ _ _ _ (Nat.le_refl _) R1 R2).mono ?_
          rintro e w' ⟨v1, v2, rfl, hp, hb'⟩
          clear R1 R2
          have hlo : wr.heap.size ≤ V.heap.size := hk.size
          have hn := rowk hn hb' rfl
          have hk := hk.trans (hb'.mono hk.size)
          obtain ⟨hi, hhi⟩ : ∃ hi, hi = w'.heap.size := ⟨_, rfl⟩
          rw [← hhi] at hp
          have hhi : hi ≤ w'.heap.size := Nat.le_of_eq hhi
          clear hb'
          refine hK.out _ _ ?_ (fun hHeld => ?_)
          · (try dsimp only)
            exact SKA_24 (wr := wr) (b0 := b0) (b1 := b1) (a1 := a1) (a2 := a2) (k1 := k1) (k2 := k2) (p1 := 0) (p2 := 0) H0.out H1.out (by (repeat (first | with_reducible assumption | with_reducible refine Below.drew ?_)))
          clear hK K
          (try simp only [Act.put, List.setIfInBounds_toArray, List.set_cons_zero, List.set_cons_succ])
          obtain ⟨lo, hl⟩ : ∃ lo, lo = V.heap.size := ⟨_, rfl⟩
          rw [← hl] at hp hlo hG2
          clear hl
          have hor : G < lo ∨ hi ≤ G := .inl hG2
          clear hG2
          generalize w' = V at hk hHeld hn hp hhi ⊢
          refine wpAnyH_take (i := 5) (oi := { dst := some 79, op := Go.Op.move (Go.Operand.tmp 84), type := 63, pos := "exact.go:1209", after := #[{ on := 4, ground := Go.Ground.data }], guard := none }) (v := ?_) rfl (by kernel_rfl) (by kernel_rfl) (by kernel_rfl) (fun _ _ _ h => h) (Or.inl ⟨by rfl, ?_⟩) (by assumption) ?_
          rotate_left
          · intro w hSw; (try dsimp only at hSw); go_simp; (try with_reducible rfl)
          simp only [Act.put, List.setIfInBounds_toArray, List.set_cons_zero, List.set_cons_succ]
          refine wpAnyH_take (i := 6) (oi := { dst := some 85, op := Go.Op.extract (Go.Operand.tmp 79) 0, type := 62, pos := "exact.go:1209", after := #[{ on := 5, ground := Go.Ground.data }], guard := none }) (v := ?_) rfl (by kernel_rfl) (by kernel_rfl) (by kernel_rfl) (fun _ _ _ h => h) (Or.inl ⟨by rfl, ?_⟩) (by assumption) ?_
          rotate_left
          · intro w hSw; (try dsimp only at hSw); go_simp; (try with_reducible rfl)
          simp only [Act.put, List.setIfInBounds_toArray, List.set_cons_zero, List.set_cons_succ]
          refine wpAnyH_take (i := 7) (oi := { dst := some 86, op := Go.Op.extract (Go.Operand.tmp 79) 1, type := 4, pos := "exact.go:1209", after := #[{ on := 5, ground := Go.Ground.data }, { on := 9, ground := Go.Ground.gcOnly Go.Departure.lateStores }], guard := none }) (v := ?_) rfl (by kernel_rfl) (by kernel_rfl) (by kernel_rfl) (fun _ _ _ h => h) (Or.inl ⟨by rfl, ?_⟩) (by assumption) ?_
          rotate_left
          · intro w hSw; (try dsimp only at hSw); go_simp; (try with_reducible rfl)
          simp only [Act.put, List.setIfInBounds_toArray, List.set_cons_zero, List.set_cons_succ]
          refine wpAnyH_ready (rs := [9]) (by kernel_rfl) (by simp) ?_
          refine (AllReadyH.cons (o := { dst := none, op := Go.Op.store 62 (Go.Operand.tmp 14) (Go.Operand.tmp 85), type := 0, pos := "exact.go:1209", after := #[{ on := 8, ground := Go.Ground.data }, { on := 6, ground := Go.Ground.data }, { on := 4, ground := Go.Ground.chain }, { on := 0, ground := Go.Ground.phase }, { on := 1, ground := Go.Ground.phase }, { on := 2, ground := Go.Ground.phase }, { on := 3, ground := Go.Ground.phase }, { on := 4, ground := Go.Ground.phase }, { on := 5, ground := Go.Ground.phase }, { on := 6, ground := Go.Ground.phase }, { on := 7, ground := Go.Ground.textOnly Go.Departure.lateStores }, { on := 8, ground := Go.Ground.phase }], guard := none }) rfl (fun K hK => ?_) AllReadyH.nil)
          · skip
            have wo1 := own_one11 hp.1
            have wo2 := own_one11 hp.2.1
            refine wp_store_mid 62 (.tmp 14) (.tmp 85) rfl G 0 #[.int .i64 r0, .int .i64 r1, .int .i64 r2, .int .i64 r3, .int .i64 r4, .int .i64 r5, v1, v2] rfl rfl (row_there12 (cs := #[.int .i64 0, .int .i64 0, .int .i64 0, .int .i64 0, .int .i64 0, .int .i64 0, .slice none 0 0, .slice none 0 0]) hn) (by kernel_rfl) (one8_11 r0 r1 r2 r3 r4 r5 wo1 wo2) ?_
            have hx := row_sets12 (cs' := #[.int .i64 r0, .int .i64 r1, .int .i64 r2, .int .i64 r3, .int .i64 r4, .int .i64 r5, v1, v2]) hn rfl
            have hk := setCells_bel hG (Array.toList #[.int .i64 r0, .int .i64 r1, .int .i64 r2, .int .i64 r3, .int .i64 r4, .int .i64 r5, v1, v2]) 0 _ _ hk
            have hp := hp.st V (V.setCells G 0 (Array.toList #[.int .i64 r0, .int .i64 r1, .int .i64 r2, .int .i64 r3, .int .i64 r4, .int .i64 r5, v1, v2])) (fun k h1 h2 => setCells_heap (show k ≠ G by omega) _ _ _)
            have hhi : hi ≤ (V.setCells G 0 (Array.toList #[.int .i64 r0, .int .i64 r1, .int .i64 r2, .int .i64 r3, .int .i64 r4, .int .i64 r5, v1, v2])).heap.size := by rw [setCells_size11]; exact hhi
            clear hn
            refine hK.out _ _ ?_ (fun hHeld => ?_)
            · (try dsimp only)
              exact SKA_24 (wr := wr) (b0 := b0) (b1 := b1) (a1 := a1) (a2 := a2) (k1 := k1) (k2 := k2) (p1 := 0) (p2 := 0) H0.out H1.out (by (repeat (first | with_reducible assumption | with_reducible refine Below.drew ?_)))
            clear hK K
            (try simp only [Act.put, List.setIfInBounds_toArray, List.set_cons_zero, List.set_cons_succ])
            generalize (World.setCells _ _ _ _ : World) = X at hk hx hHeld hp hhi ⊢
            refine wpAnyH_take (i := 10) (oi := { dst := some 15, op := Go.Op.assign (Go.Operand.tmp 86), type := 4, pos := "exact.go:1209", after := #[{ on := 7, ground := Go.Ground.data }, { on := 9, ground := Go.Ground.chain }, { on := 0, ground := Go.Ground.phase }, { on := 1, ground := Go.Ground.phase }, { on := 2, ground := Go.Ground.phase }, { on := 3, ground := Go.Ground.phase }, { on := 4, ground := Go.Ground.phase }, { on := 5, ground := Go.Ground.phase }, { on := 6, ground := Go.Ground.phase }, { on := 7, ground := Go.Ground.phase }, { on := 8, ground := Go.Ground.phase }, { on := 9, ground := Go.Ground.phase }], guard := none }) (v := ?_) rfl (by kernel_rfl) (by kernel_rfl) (by kernel_rfl) (fun _ _ _ h => h) (Or.inl ⟨by rfl, ?_⟩) (by assumption) ?_
            rotate_left
            · intro w hSw; (try dsimp only at hSw); go_simp; (try with_reducible rfl)
            simp only [Act.put, List.setIfInBounds_toArray, List.set_cons_zero, List.set_cons_succ]
            refine wpAnyH_done (by kernel_rfl) ?_ _
            refine NoPanic.normal (HQ.out lo hi G v1 v2 X _ _ _ _ _ _ _ _ hk hx hp ⟨hG, (Array.getElem?_eq_some_iff.1 hx).1, hlo, hhi, hor⟩)
    · go_simp
      have hn : (V.alloc (.cells #[.int .i64 0, .int .i64 0, .int .i64 0, .int .i64 0, .int .i64 0, .int .i64 0, .slice none 0 0, .slice none 0 0] 62)).heap[V.heap.size]? = some (.cells #[.int .i64 0, .int .i64 0, .int .i64 0, .int .i64 0, .int .i64 0, .int .i64 0, .slice none 0 0, .slice none 0 0] 62 (0, 0)) := alloc_at rfl
      have hG : wr.heap.size ≤ V.heap.size := hk.size
      have hk := Below.alloc hk hk.size (.cells #[.int .i64 0, .int .i64 0, .int .i64 0, .int .i64 0, .int .i64 0, .int .i64 0, .slice none 0 0, .slice none 0 0] 62)
      have R1 := ra_below R1 ((Below.refl V.heap.size V).alloc (Nat.le_refl _) (.cells #[.int .i64 0, .int .i64 0, .int .i64 0, .int .i64 0, .int .i64 0, .int .i64 0, .slice none 0 0, .slice none 0 0] 62)) rfl
      have R2 := ra_below R2 ((Below.refl V.heap.size V).alloc (Nat.le_refl _) (.cells #[.int .i64 0, .int .i64 0, .int .i64 0, .int .i64 0, .int .i64 0, .int .i64 0, .slice none 0 0, .slice none 0 0] 62)) rfl
      refine hK.out _ _ ?_ (fun hHeld => ?_)
      · (try dsimp only)
        exact SKA_24 (wr := wr) (b0 := b0) (b1 := b1) (a1 := a1) (a2 := a2) (k1 := k1) (k2 := k2) (p1 := 0) (p2 := 0) H0.out H1.out (by (repeat (first | with_reducible assumption | with_reducible refine Below.drew ?_)))
      clear hK K
      (try simp only [Act.put, List.setIfInBounds_toArray, List.set_cons_zero, List.set_cons_succ])
      generalize V.heap.size = G at hn hG ⊢
      generalize (World.alloc _ _ : World) = V at hk hHeld hn R1 R2 ⊢
      refine wpAnyH_ready (rs := [3]) (by kernel_rfl) (by simp) ?_
      refine (AllReadyH.cons (o := { dst := some 83, op := Go.Op.call { callee := Go.Callee.value (Go.Operand.func 44), args := #[Go.Operand.tmp 82], argTypes := #[71] }, type := 73, pos := "exact.go:1209", after := #[{ on := 2, ground := Go.Ground.data }, { on := 1, ground := Go.Ground.chain }], guard := none }) rfl (fun K hK => ?_) AllReadyH.nil)
      · go_simp
        refine (to_step11 _ _ _ _ _).mono ?_
        rintro e w' ⟨rfl, hb'⟩
        have R1 := ra_below R1 hb' rfl
        have R2 := ra_below R2 hb' rfl
        have hn := rowk hn hb' rfl
        have hk := hk.trans (hb'.mono hk.size)
        clear hb'
        refine hK.out _ _ ?_ (fun hHeld => ?_)
        · (try dsimp only)
          exact SKA_24 (wr := wr) (b0 := b0) (b1 := b1) (a1 := a1) (a2 := a2) (k1 := k1) (k2 := k2) (p1 := 0) (p2 := 0) H0.out H1.out (by (repeat (first | with_reducible assumption | with_reducible refine Below.drew ?_)))
        clear hK K
        (try simp only [Act.put, List.setIfInBounds_toArray, List.set_cons_zero, List.set_cons_succ])
        generalize w' = V at hk hHeld hn R1 R2 ⊢
        refine wpAnyH_ready (rs := [4]) (by kernel_rfl) (by simp) ?_
        refine (AllReadyH.cons (o := { dst := some 84, op := Go.Op.call { callee := Go.Callee.value (Go.Operand.func 45), args := #[Go.Operand.tmp 81, Go.Operand.tmp 83], argTypes := #[62, 73] }, type := 63, pos := "exact.go:1209", after := #[{ on := 1, ground := Go.Ground.data }, { on := 3, ground := Go.Ground.data }, { on := 3, ground := Go.Ground.chain }], guard := none }) rfl (fun K hK => ?_) AllReadyH.nil)
        · go_simp
          have hG2 : G < V.heap.size := (Array.getElem?_eq_some_iff.1 hn).1
          refine (HC.out _ _ _ _ _ (Nat.le_refl _) R1 R2).mono ?_
          rintro e w' ⟨v1, v2, rfl, hp, hb'⟩
          clear R1 R2
          have hlo : wr.heap.size ≤ V.heap.size := hk.size
          have hn := rowk hn hb' rfl
          have hk := hk.trans (hb'.mono hk.size)
          obtain ⟨hi, hhi⟩ : ∃ hi, hi = w'.heap.size := ⟨_, rfl⟩
          rw [← hhi] at hp
          have hhi : hi ≤ w'.heap.size := Nat.le_of_eq hhi
          clear hb'
          refine hK.out _ _ ?_ (fun hHeld => ?_)
          · (try dsimp only)
            exact SKA_24 (wr := wr) (b0 := b0) (b1 := b1) (a1 := a1) (a2 := a2) (k1 := k1) (k2 := k2) (p1 := 0) (p2 := 0) H0.out H1.out (by (repeat (first | with_reducible assumption | with_reducible refine Below.drew ?_)))
          clear hK K
          (try simp only [Act.put, List.setIfInBounds_toArray, List.set_cons_zero, List.set_cons_succ])
          obtain ⟨lo, hl⟩ : ∃ lo, lo = V.heap.size := ⟨_, rfl⟩
          rw [← hl] at hp hlo hG2
          clear hl
          have hor : G < lo ∨ hi ≤ G := .inl hG2
          clear hG2
          generalize w' = V at hk hHeld hn hp hhi ⊢
          refine wpAnyH_take (i := 5) (oi := { dst := some 79, op := Go.Op.move (Go.Operand.tmp 84), type := 63, pos := "exact.go:1209", after := #[{ on := 4, ground := Go.Ground.data }], guard := none }) (v := ?_) rfl (by kernel_rfl) (by kernel_rfl) (by kernel_rfl) (fun _ _ _ h => h) (Or.inl ⟨by rfl, ?_⟩) (by assumption) ?_
          rotate_left
          · intro w hSw; (try dsimp only at hSw); go_simp; (try with_reducible rfl)
          simp only [Act.put, List.setIfInBounds_toArray, List.set_cons_zero, List.set_cons_succ]
          refine wpAnyH_take (i := 6) (oi := { dst := some 85, op := Go.Op.extract (Go.Operand.tmp 79) 0, type := 62, pos := "exact.go:1209", after := #[{ on := 5, ground := Go.Ground.data }], guard := none }) (v := ?_) rfl (by kernel_rfl) (by kernel_rfl) (by kernel_rfl) (fun _ _ _ h => h) (Or.inl ⟨by rfl, ?_⟩) (by assumption) ?_
          rotate_left
          · intro w hSw; (try dsimp only at hSw); go_simp; (try with_reducible rfl)
          simp only [Act.put, List.setIfInBounds_toArray, List.set_cons_zero, List.set_cons_succ]
          refine wpAnyH_take (i := 7) (oi := { dst := some 86, op := Go.Op.extract (Go.Operand.tmp 79) 1, type := 4, pos := "exact.go:1209", after := #[{ on := 5, ground := Go.Ground.data }, { on := 9, ground := Go.Ground.gcOnly Go.Departure.lateStores }], guard := none }) (v := ?_) rfl (by kernel_rfl) (by kernel_rfl) (by kernel_rfl) (fun _ _ _ h => h) (Or.inl ⟨by rfl, ?_⟩) (by assumption) ?_
          rotate_left
          · intro w hSw; (try dsimp only at hSw); go_simp; (try with_reducible rfl)
          simp only [Act.put, List.setIfInBounds_toArray, List.set_cons_zero, List.set_cons_succ]
          refine wpAnyH_ready (rs := [9]) (by kernel_rfl) (by simp) ?_
          refine (AllReadyH.cons (o := { dst := none, op := Go.Op.store 62 (Go.Operand.tmp 14) (Go.Operand.tmp 85), type := 0, pos := "exact.go:1209", after := #[{ on := 8, ground := Go.Ground.data }, { on := 6, ground := Go.Ground.data }, { on := 4, ground := Go.Ground.chain }, { on := 0, ground := Go.Ground.phase }, { on := 1, ground := Go.Ground.phase }, { on := 2, ground := Go.Ground.phase }, { on := 3, ground := Go.Ground.phase }, { on := 4, ground := Go.Ground.phase }, { on := 5, ground := Go.Ground.phase }, { on := 6, ground := Go.Ground.phase }, { on := 7, ground := Go.Ground.textOnly Go.Departure.lateStores }, { on := 8, ground := Go.Ground.phase }], guard := none }) rfl (fun K hK => ?_) AllReadyH.nil)
          · skip
            have wo1 := own_one11 hp.1
            have wo2 := own_one11 hp.2.1
            refine wp_store_mid 62 (.tmp 14) (.tmp 85) rfl G 0 #[.int .i64 r0, .int .i64 r1, .int .i64 r2, .int .i64 r3, .int .i64 r4, .int .i64 r5, v1, v2] rfl rfl (row_there12 (cs := #[.int .i64 0, .int .i64 0, .int .i64 0, .int .i64 0, .int .i64 0, .int .i64 0, .slice none 0 0, .slice none 0 0]) hn) (by kernel_rfl) (one8_11 r0 r1 r2 r3 r4 r5 wo1 wo2) ?_
            have hx := row_sets12 (cs' := #[.int .i64 r0, .int .i64 r1, .int .i64 r2, .int .i64 r3, .int .i64 r4, .int .i64 r5, v1, v2]) hn rfl
            have hk := setCells_bel hG (Array.toList #[.int .i64 r0, .int .i64 r1, .int .i64 r2, .int .i64 r3, .int .i64 r4, .int .i64 r5, v1, v2]) 0 _ _ hk
            have hp := hp.st V (V.setCells G 0 (Array.toList #[.int .i64 r0, .int .i64 r1, .int .i64 r2, .int .i64 r3, .int .i64 r4, .int .i64 r5, v1, v2])) (fun k h1 h2 => setCells_heap (show k ≠ G by omega) _ _ _)
            have hhi : hi ≤ (V.setCells G 0 (Array.toList #[.int .i64 r0, .int .i64 r1, .int .i64 r2, .int .i64 r3, .int .i64 r4, .int .i64 r5, v1, v2])).heap.size := by rw [setCells_size11]; exact hhi
            clear hn
            refine hK.out _ _ ?_ (fun hHeld => ?_)
            · (try dsimp only)
              exact SKA_24 (wr := wr) (b0 := b0) (b1 := b1) (a1 := a1) (a2 := a2) (k1 := k1) (k2 := k2) (p1 := 0) (p2 := 0) H0.out H1.out (by (repeat (first | with_reducible assumption | with_reducible refine Below.drew ?_)))
            clear hK K
            (try simp only [Act.put, List.setIfInBounds_toArray, List.set_cons_zero, List.set_cons_succ])
            generalize (World.setCells _ _ _ _ : World) = X at hk hx hHeld hp hhi ⊢
            refine wpAnyH_take (i := 10) (oi := { dst := some 15, op := Go.Op.assign (Go.Operand.tmp 86), type := 4, pos := "exact.go:1209", after := #[{ on := 7, ground := Go.Ground.data }, { on := 9, ground := Go.Ground.chain }, { on := 0, ground := Go.Ground.phase }, { on := 1, ground := Go.Ground.phase }, { on := 2, ground := Go.Ground.phase }, { on := 3, ground := Go.Ground.phase }, { on := 4, ground := Go.Ground.phase }, { on := 5, ground := Go.Ground.phase }, { on := 6, ground := Go.Ground.phase }, { on := 7, ground := Go.Ground.phase }, { on := 8, ground := Go.Ground.phase }, { on := 9, ground := Go.Ground.phase }], guard := none }) (v := ?_) rfl (by kernel_rfl) (by kernel_rfl) (by kernel_rfl) (fun _ _ _ h => h) (Or.inl ⟨by rfl, ?_⟩) (by assumption) ?_
            rotate_left
            · intro w hSw; (try dsimp only at hSw); go_simp; (try with_reducible rfl)
            simp only [Act.put, List.setIfInBounds_toArray, List.set_cons_zero, List.set_cons_succ]
            refine wpAnyH_done (by kernel_rfl) ?_ _
            refine NoPanic.normal (HQ.out lo hi G v1 v2 X _ _ _ _ _ _ _ _ hk hx hp ⟨hG, (Array.getElem?_eq_some_iff.1 hx).1, hlo, hhi, hor⟩)
  · go_simp
    have hn : (V.alloc (.cells #[.int .i64 0, .int .i64 0, .int .i64 0, .int .i64 0, .int .i64 0, .int .i64 0, .slice none 0 0, .slice none 0 0] 62)).heap[V.heap.size]? = some (.cells #[.int .i64 0, .int .i64 0, .int .i64 0, .int .i64 0, .int .i64 0, .int .i64 0, .slice none 0 0, .slice none 0 0] 62 (0, 0)) := alloc_at rfl
    have hG : wr.heap.size ≤ V.heap.size := hk.size
    have hk := Below.alloc hk hk.size (.cells #[.int .i64 0, .int .i64 0, .int .i64 0, .int .i64 0, .int .i64 0, .int .i64 0, .slice none 0 0, .slice none 0 0] 62)
    refine hK.out _ _ ?_ (fun hHeld => ?_)
    · (try dsimp only)
      exact SKA_24 (wr := wr) (b0 := b0) (b1 := b1) (a1 := a1) (a2 := a2) (k1 := k1) (k2 := k2) (p1 := 0) (p2 := 0) H0.out H1.out (by (repeat (first | with_reducible assumption | with_reducible refine Below.drew ?_)))
    clear hK K
    (try simp only [Act.put, List.setIfInBounds_toArray, List.set_cons_zero, List.set_cons_succ])
    generalize V.heap.size = G at hn hG ⊢
    generalize (World.alloc _ _ : World) = V at hk hHeld hn ⊢
    refine wpAnyH_ready (rs := [1]) (by kernel_rfl) (by simp) ?_
    refine (AllReadyH.cons (o := { dst := some 81, op := Go.Op.call { callee := Go.Callee.value (Go.Operand.func 36), args := #[Go.Operand.tmp 80], argTypes := #[57] }, type := 62, pos := "exact.go:1209", after := #[{ on := 0, ground := Go.Ground.data }], guard := none }) rfl (fun K hK => ?_) AllReadyH.nil)
    · go_simp
      refine (HT.out _ (Is11.below J0.out hk) (Is11.below J1.out hk)).mono ?_
      rintro e w' ⟨p1, p2, rfl, hpp, hb'⟩
      have R1 := own_range hpp.1
      have R2 := own_range hpp.2.1
      clear hpp
      have hn := rowk hn hb' rfl
      have hk := hk.trans (hb'.mono hk.size)
      clear hb'
      refine hK.out _ _ ?_ (fun hHeld => ?_)
      · (try dsimp only)
        exact SKA_24 (wr := wr) (b0 := b0) (b1 := b1) (a1 := a1) (a2 := a2) (k1 := k1) (k2 := k2) (p1 := 0) (p2 := 0) H0.out H1.out (by (repeat (first | with_reducible assumption | with_reducible refine Below.drew ?_)))
      clear hK K
      (try simp only [Act.put, List.setIfInBounds_toArray, List.set_cons_zero, List.set_cons_succ])
      generalize w' = V at hk hHeld hn R1 R2 ⊢
      refine wpAnyH_ready (rs := [3]) (by kernel_rfl) (by simp) ?_
      refine (AllReadyH.cons (o := { dst := some 83, op := Go.Op.call { callee := Go.Callee.value (Go.Operand.func 44), args := #[Go.Operand.tmp 82], argTypes := #[71] }, type := 73, pos := "exact.go:1209", after := #[{ on := 2, ground := Go.Ground.data }, { on := 1, ground := Go.Ground.chain }], guard := none }) rfl (fun K hK => ?_) AllReadyH.nil)
      · go_simp
        refine (to_step11 _ _ _ _ _).mono ?_
        rintro e w' ⟨rfl, hb'⟩
        have R1 := ra_below R1 hb' rfl
        have R2 := ra_below R2 hb' rfl
        have hn := rowk hn hb' rfl
        have hk := hk.trans (hb'.mono hk.size)
        clear hb'
        refine hK.out _ _ ?_ (fun hHeld => ?_)
        · (try dsimp only)
          exact SKA_24 (wr := wr) (b0 := b0) (b1 := b1) (a1 := a1) (a2 := a2) (k1 := k1) (k2 := k2) (p1 := 0) (p2 := 0) H0.out H1.out (by (repeat (first | with_reducible assumption | with_reducible refine Below.drew ?_)))
        clear hK K
        (try simp only [Act.put, List.setIfInBounds_toArray, List.set_cons_zero, List.set_cons_succ])
        generalize w' = V at hk hHeld hn R1 R2 ⊢
        refine wpAnyH_ready (rs := [4]) (by kernel_rfl) (by simp) ?_
        refine (AllReadyH.cons (o := { dst := some 84, op := Go.Op.call { callee := Go.Callee.value (Go.Operand.func 45), args := #[Go.Operand.tmp 81, Go.Operand.tmp 83], argTypes := #[62, 73] }, type := 63, pos := "exact.go:1209", after := #[{ on := 1, ground := Go.Ground.data }, { on := 3, ground := Go.Ground.data }, { on := 3, ground := Go.Ground.chain }], guard := none }) rfl (fun K hK => ?_) AllReadyH.nil)
        · go_simp
          have hG2 : G < V.heap.size := (Array.getElem?_eq_some_iff.1 hn).1
          refine (HC.out _ _ _ _ _ (Nat.le_refl _) R1 R2).mono ?_
          rintro e w' ⟨v1, v2, rfl, hp, hb'⟩
          clear R1 R2
          have hlo : wr.heap.size ≤ V.heap.size := hk.size
          have hn := rowk hn hb' rfl
          have hk := hk.trans (hb'.mono hk.size)
          obtain ⟨hi, hhi⟩ : ∃ hi, hi = w'.heap.size := ⟨_, rfl⟩
          rw [← hhi] at hp
          have hhi : hi ≤ w'.heap.size := Nat.le_of_eq hhi
          clear hb'
          refine hK.out _ _ ?_ (fun hHeld => ?_)
          · (try dsimp only)
            exact SKA_24 (wr := wr) (b0 := b0) (b1 := b1) (a1 := a1) (a2 := a2) (k1 := k1) (k2 := k2) (p1 := 0) (p2 := 0) H0.out H1.out (by (repeat (first | with_reducible assumption | with_reducible refine Below.drew ?_)))
          clear hK K
          (try simp only [Act.put, List.setIfInBounds_toArray, List.set_cons_zero, List.set_cons_succ])
          obtain ⟨lo, hl⟩ : ∃ lo, lo = V.heap.size := ⟨_, rfl⟩
          rw [← hl] at hp hlo hG2
          clear hl
          have hor : G < lo ∨ hi ≤ G := .inl hG2
          clear hG2
          generalize w' = V at hk hHeld hn hp hhi ⊢
          refine wpAnyH_take (i := 5) (oi := { dst := some 79, op := Go.Op.move (Go.Operand.tmp 84), type := 63, pos := "exact.go:1209", after := #[{ on := 4, ground := Go.Ground.data }], guard := none }) (v := ?_) rfl (by kernel_rfl) (by kernel_rfl) (by kernel_rfl) (fun _ _ _ h => h) (Or.inl ⟨by rfl, ?_⟩) (by assumption) ?_
          rotate_left
          · intro w hSw; (try dsimp only at hSw); go_simp; (try with_reducible rfl)
          simp only [Act.put, List.setIfInBounds_toArray, List.set_cons_zero, List.set_cons_succ]
          refine wpAnyH_take (i := 6) (oi := { dst := some 85, op := Go.Op.extract (Go.Operand.tmp 79) 0, type := 62, pos := "exact.go:1209", after := #[{ on := 5, ground := Go.Ground.data }], guard := none }) (v := ?_) rfl (by kernel_rfl) (by kernel_rfl) (by kernel_rfl) (fun _ _ _ h => h) (Or.inl ⟨by rfl, ?_⟩) (by assumption) ?_
          rotate_left
          · intro w hSw; (try dsimp only at hSw); go_simp; (try with_reducible rfl)
          simp only [Act.put, List.setIfInBounds_toArray, List.set_cons_zero, List.set_cons_succ]
          refine wpAnyH_take (i := 7) (oi := { dst := some 86, op := Go.Op.extract (Go.Operand.tmp 79) 1, type := 4, pos := "exact.go:1209", after := #[{ on := 5, ground := Go.Ground.data }, { on := 9, ground := Go.Ground.gcOnly Go.Departure.lateStores }], guard := none }) (v := ?_) rfl (by kernel_rfl) (by kernel_rfl) (by kernel_rfl) (fun _ _ _ h => h) (Or.inl ⟨by rfl, ?_⟩) (by assumption) ?_
          rotate_left
          · intro w hSw; (try dsimp only at hSw); go_simp; (try with_reducible rfl)
          simp only [Act.put, List.setIfInBounds_toArray, List.set_cons_zero, List.set_cons_succ]
          refine wpAnyH_ready (rs := [9]) (by kernel_rfl) (by simp) ?_
          refine (AllReadyH.cons (o := { dst := none, op := Go.Op.store 62 (Go.Operand.tmp 14) (Go.Operand.tmp 85), type := 0, pos := "exact.go:1209", after := #[{ on := 8, ground := Go.Ground.data }, { on := 6, ground := Go.Ground.data }, { on := 4, ground := Go.Ground.chain }, { on := 0, ground := Go.Ground.phase }, { on := 1, ground := Go.Ground.phase }, { on := 2, ground := Go.Ground.phase }, { on := 3, ground := Go.Ground.phase }, { on := 4, ground := Go.Ground.phase }, { on := 5, ground := Go.Ground.phase }, { on := 6, ground := Go.Ground.phase }, { on := 7, ground := Go.Ground.textOnly Go.Departure.lateStores }, { on := 8, ground := Go.Ground.phase }], guard := none }) rfl (fun K hK => ?_) AllReadyH.nil)
          · skip
            have wo1 := own_one11 hp.1
            have wo2 := own_one11 hp.2.1
            refine wp_store_mid 62 (.tmp 14) (.tmp 85) rfl G 0 #[.int .i64 r0, .int .i64 r1, .int .i64 r2, .int .i64 r3, .int .i64 r4, .int .i64 r5, v1, v2] rfl rfl (row_there12 (cs := #[.int .i64 0, .int .i64 0, .int .i64 0, .int .i64 0, .int .i64 0, .int .i64 0, .slice none 0 0, .slice none 0 0]) hn) (by kernel_rfl) (one8_11 r0 r1 r2 r3 r4 r5 wo1 wo2) ?_
            have hx := row_sets12 (cs' := #[.int .i64 r0, .int .i64 r1, .int .i64 r2, .int .i64 r3, .int .i64 r4, .int .i64 r5, v1, v2]) hn rfl
            have hk := setCells_bel hG (Array.toList #[.int .i64 r0, .int .i64 r1, .int .i64 r2, .int .i64 r3, .int .i64 r4, .int .i64 r5, v1, v2]) 0 _ _ hk
            have hp := hp.st V (V.setCells G 0 (Array.toList #[.int .i64 r0, .int .i64 r1, .int .i64 r2, .int .i64 r3, .int .i64 r4, .int .i64 r5, v1, v2])) (fun k h1 h2 => setCells_heap (show k ≠ G by omega) _ _ _)
            have hhi : hi ≤ (V.setCells G 0 (Array.toList #[.int .i64 r0, .int .i64 r1, .int .i64 r2, .int .i64 r3, .int .i64 r4, .int .i64 r5, v1, v2])).heap.size := by rw [setCells_size11]; exact hhi
            clear hn
            refine hK.out _ _ ?_ (fun hHeld => ?_)
            · (try dsimp only)
              exact SKA_24 (wr := wr) (b0 := b0) (b1 := b1) (a1 := a1) (a2 := a2) (k1 := k1) (k2 := k2) (p1 := 0) (p2 := 0) H0.out H1.out (by (repeat (first | with_reducible assumption | with_reducible refine Below.drew ?_)))
            clear hK K
            (try simp only [Act.put, List.setIfInBounds_toArray, List.set_cons_zero, List.set_cons_succ])
            generalize (World.setCells _ _ _ _ : World) = X at hk hx hHeld hp hhi ⊢
            refine wpAnyH_take (i := 10) (oi := { dst := some 15, op := Go.Op.assign (Go.Operand.tmp 86), type := 4, pos := "exact.go:1209", after := #[{ on := 7, ground := Go.Ground.data }, { on := 9, ground := Go.Ground.chain }, { on := 0, ground := Go.Ground.phase }, { on := 1, ground := Go.Ground.phase }, { on := 2, ground := Go.Ground.phase }, { on := 3, ground := Go.Ground.phase }, { on := 4, ground := Go.Ground.phase }, { on := 5, ground := Go.Ground.phase }, { on := 6, ground := Go.Ground.phase }, { on := 7, ground := Go.Ground.phase }, { on := 8, ground := Go.Ground.phase }, { on := 9, ground := Go.Ground.phase }], guard := none }) (v := ?_) rfl (by kernel_rfl) (by kernel_rfl) (by kernel_rfl) (fun _ _ _ h => h) (Or.inl ⟨by rfl, ?_⟩) (by assumption) ?_
            rotate_left
            · intro w hSw; (try dsimp only at hSw); go_simp; (try with_reducible rfl)
            simp only [Act.put, List.setIfInBounds_toArray, List.set_cons_zero, List.set_cons_succ]
            refine wpAnyH_done (by kernel_rfl) ?_ _
            refine NoPanic.normal (HQ.out lo hi G v1 v2 X _ _ _ _ _ _ _ _ hk hx hp ⟨hG, (Array.getElem?_eq_some_iff.1 hx).1, hlo, hhi, hor⟩)
end Go.Proofs.Ytnkjamdpafpcpaa
