/- CONTRACTS: UndoSteps, of the model and of the code. -/
import Derived.Test.YtkbpfdmmjpmbmaaHv11
import Derived.Test.YtkbpfdmmjpmbmaaPg11
import Derived.StillTailTactics
import Derived.Test.YtkbpfdmmjpmbmaaPk11
import Derived.WalkKit
import Derived.ProofKit
import Derived.OpenShut
import Derived.Lib.Hide
import Derived.WalkSpells
import Derived.Below
import Derived.BigQuiet
import Derived.LoopN
namespace Go.Proofs.Ytkbpfdmmjpmbmaa
open Go.ChangeShapes Go.WideShapes Go.ChangeAt Go.RowKit
set_option linter.unusedVariables false
/-- What is answered: a plan in rows of its own, and whether there is one. -/
def TP11 (m0 m1 m2 m3 m4 m5 : Int) (l : List H11) (st : List S11) (t : Bool) (w : World) (E : Ending) (w' : World) : Prop := ∃ v1 v2, E = .returned (.tuple #[.agg #[.int .i64 m0, .int .i64 m1, .int .i64 m2, .int .i64 m3, .int .i64 m4, .int .i64 m5, v1, v2], .bool t]) ∧ Pr11 w.heap.size w'.heap.size v1 v2 l st w' ∧ Below w.heap.size w w'
theorem Pr11.mono {lo hi lo' hi' : Nat} {v1 v2 : Value} {l : List H11} {st : List S11} {U : World} (h : Pr11 lo hi v1 v2 l st U) (h1 : lo' ≤ lo) (h2 : hi ≤ hi') : Pr11 lo' hi' v1 v2 l st U := ⟨own_mono h.1 h1, own_mono h.2.1 h1, fun k hk => Nat.lt_of_lt_of_le (h.2.2.1 k hk) h2, fun k hk => Nat.lt_of_lt_of_le (h.2.2.2.1 k hk) h2, h.2.2.2.2⟩
theorem own_one11 {W : World} {B n k : Nat} {e : TypeId} {v : Value} {xs : List Value} (h : W.ownsRow B e k v n xs) : v.oneCell' = true := by
  rcases h.2 with ⟨e1, _⟩ | ⟨g, c, _, e1, _⟩ <;> rw [e1] <;> rfl
theorem st_one11 {v : Value} (hv : v.oneCell' = true) (W : World) (a : Addr) (hc : (W.cell? a).isSome = true) (hf : W.frozen? a = false) : (store a v).run Try.prog W = .ok () (W.setCell a v) := by
  obtain ⟨u, hu⟩ := Option.isSome_iff_exists.mp hc
  rw [run_store _ _ _ _ _ hv, hu]
  simp [hf]
theorem Pr11.nil (lo hi : Nat) (U : World) : Pr11 lo hi (.slice none 0 0) (.slice none 0 0) [] [] U := ⟨World.ownsRow_nil U lo _ 6, World.ownsRow_nil U lo _ 4, fun k hk => by simp [Value.ownBlock] at hk, fun k hk => by simp [Value.ownBlock] at hk, fun k hk => by simp [Value.ownBlock] at hk⟩
/-- A plan stored whole into a box below its rows. -/
theorem box_put11 {g lo : Nat} {T : TypeId} {w U X : World} {v0 v1 v2 v3 v4 v5 v6 v7 u6 u7 : Value} {m0 m1 m2 m3 m4 m5 : Int} {l : List H11} {st : List S11} (hr : U.heap[g]? = some (.cells #[v0, v1, v2, v3, v4, v5, v6, v7] T (0, 0))) (hp : Pr11 lo U.heap.size u6 u7 l st U) (hg : g < lo) (hB : w.heap.size ≤ g) (hlo : w.heap.size ≤ lo) (hb : Below w.heap.size w U) (hX : ((((((((U.setCell ⟨g, 0, none⟩ (.int .i64 m0)).setCell ⟨g, 1, none⟩ (.int .i64 m1)).setCell ⟨g, 2, none⟩ (.int .i64 m2)).setCell ⟨g, 3, none⟩ (.int .i64 m3)).setCell ⟨g, 4, none⟩ (.int .i64 m4)).setCell ⟨g, 5, none⟩ (.int .i64 m5)).setCell ⟨g, 6, none⟩ u6).setCell ⟨g, 7, none⟩ u7) = X) : X.heap[g]? = some (.cells #[.int .i64 m0, .int .i64 m1, .int .i64 m2, .int .i64 m3, .int .i64 m4, .int .i64 m5, u6, u7] T (0, 0)) ∧ Pr11 w.heap.size X.heap.size u6 u7 l st X ∧ Below w.heap.size w X := by
  have hs := same8b (lo := lo) (hi := U.heap.size) (g := g) (W := U) hg (.int .i64 m0) (.int .i64 m1) (.int .i64 m2) (.int .i64 m3) (.int .i64 m4) (.int .i64 m5) u6 u7
  have hq := set8b (.int .i64 m0) (.int .i64 m1) (.int .i64 m2) (.int .i64 m3) (.int .i64 m4) (.int .i64 m5) u6 u7 hr
  have hbl := bel8b (g := g) (.int .i64 m0) (.int .i64 m1) (.int .i64 m2) (.int .i64 m3) (.int .i64 m4) (.int .i64 m5) u6 u7 hb hB
  have hsz : X.heap.size = U.heap.size := by rw [← hX]; simp
  rw [hX] at hs hq hbl
  exact ⟨hq, (hp.st U X hs).mono hlo (by omega), hbl⟩
theorem tk_len (st : List S11) {j : Nat} (h : j ≤ st.length) : (st.take j).length = j := by rw [List.length_take]; omega
set_option maxRecDepth 20000 in
set_option maxHeartbeats 4000000 in
theorem iundo_yes (f : Fn11) (F : List Fn11) (st : List S11) (k g1 c1 g2 c2 : Nat) (hk : k ≤ st.length) (hc2 : st.length ≤ c2) (hst : st.length ≤ 40) (hF : F.length ≤ 4) (hv : ∀ p ∈ st, okS F.length p = true) (w : World) (h1 : w.rangeAt g1 0 (hv11 (F.map t11))) (h2 : w.rangeAt g2 0 (sv11 st)) : Calls Try.prog 34 #[.agg #[.int .i64 (rowv (f 0)), .int .i64 (rowv (f 1)), .int .i64 (rowv (f 2)), .int .i64 (rowv (f 3)), .int .i64 (rowv (f 4)), .int .i64 (rowv (f 5)), .slice (some ⟨g1, 0, none⟩) F.length c1, .slice (some ⟨g2, 0, none⟩) st.length c2], .int .i64 (k : Int)] w (TP11 (rowv (f 0)) (rowv (f 1)) (rowv (f 2)) (rowv (f 3)) (rowv (f 4)) (rowv (f 5)) (F.map t11) (st.take (st.length - k)) true w) := by
  have hn4 : (F.map t11).length = F.length := List.length_map t11
  have HP := Lib.hid (fun W a b => iplan_11 (rowv (f 0)) (rowv (f 1)) (rowv (f 2)) (rowv (f 3)) (rowv (f 4)) (rowv (f 5)) (F.map t11) st g1 c1 g2 c2 (by rw [hn4]; omega) (by omega) (wfs_of hv) W a b)
  rw [show okP (rowv (f 0), rowv (f 1), rowv (f 2), rowv (f 3), rowv (f 4), rowv (f 5)) (F.map t11) st = true from okP_of (f := f) hF hst hv, hn4] at HP
  have R1 := Lib.hid h1
  have R2 := Lib.hid h2
  have R3 := Lib.hid (fm_take cs11_len h2 (st.length - k))
  obtain ⟨j, hj⟩ : ∃ j, j = st.length - k := ⟨_, rfl⟩
  rw [← hj] at R3 ⊢
  have htl : (st.take j).length = j := tk_len st (by omega)
  have HX := Lib.hid (fun W a b => ihav_11 (rowv (f 0)) (rowv (f 1)) (rowv (f 2)) (rowv (f 3)) (rowv (f 4)) (rowv (f 5)) (.slice (some ⟨g2, 0, none⟩) st.length c2) (F.map t11) (st.take j) g1 c1 g2 c2 (by rw [hn4]; omega) (by rw [htl]; omega) W a b)
  rw [hn4, htl] at HX
  have e1 : IntKind.i64.wrap ((st.length : Int) - (k : Int)) = (j : Int) := by rw [IntKind.wrap_i64]; omega
  have e2 : wrap64 ((st.length : Int) - (k : Int)) = (j : Int) := by unfold wrap64; omega
  have hj0 : (0 : Int) ≤ (j : Int) := by omega
  have hjc : (j : Int) ≤ (c2 : Int) := by omega
  have hjc' : j ≤ c2 := by omega
  have HN4 := Lib.hid hn4
  have HTL := Lib.hid htl
  clear h1 h2 hn4 hj htl
  have k1 : ¬ (k : Int) < 0 := by omega
  have k2 : ¬ (st.length : Int) < (k : Int) := by omega
  have k3 : ¬ (k : Int) > (st.length : Int) := by omega
  go_enter Try.func34, Try.ntmps34
  go_wp2_with fail
  generalize hW : (World.alloc _ _ : World) = W0
  have q0 : W0.heap[w.heap.size]? = some (Obj.cells #[.int .i64 (rowv (f 0)), .int .i64 (rowv (f 1)), .int .i64 (rowv (f 2)), .int .i64 (rowv (f 3)), .int .i64 (rowv (f 4)), .int .i64 (rowv (f 5)), .slice (some ⟨g1, 0, none⟩) F.length c1, .slice (some ⟨g2, 0, none⟩) st.length c2] 35 (0, 0)) := by rw [← hW]; exact alloc_past (alloc_at rfl)
  have q1 : W0.heap[w.heap.size + 1]? = some (pz11 35) := by rw [← hW]; exact alloc_at (by simp)
  have hB : Below w.heap.size w W0 := by rw [← hW]; (repeat (first | exact Below.refl _ _ | assumption | refine Below.setCell ?_ (by first | (simp; done) | (simp; omega)) _ | refine Below.alloc ?_ (by first | (simp; done) | (simp; omega)) _ | refine Below.drew ?_))
  clear hW
  refine (HP.out _ (ra_below R1.out hB rfl) (ra_below R2.out hB rfl)).mono ?_
  rintro e W1 ⟨rfl, hb⟩
  replace q0 := rowk q0 hb rfl
  replace q1 := rowk q1 hb rfl
  replace hB := below_of hB hb (by have := hB.size; omega)
  clear hb HP
  have a_c := fun j => cell_of_row W1 _ j _ _ _ q0
  go_wp2_with fail
  clear a_c
  have q0d : W1.drew.heap[w.heap.size]? = _ := q0
  have a_c := fun j => cell_of_row W1.drew _ j _ _ _ q0d
  refine wp_region_still_tail 9 (by kernel_rfl) (by kernel_rfl) ?_
  simp only [List.take_succ_cons, List.take_zero, List.drop_succ_cons, List.drop_zero]
  repeat still_step
  refine wpStill_nil ?_
  change wpList _ _ _ _ _ W1.drew
  clear a_c
  go_wp2_with fail
  refine (HX.out _ (ra_below R1.out hB.drew rfl) (ra_below R3.out hB.drew rfl)).mono ?_
  rintro e W3 ⟨ga, ka, gb, kb, he, hp, hb⟩
  rw [HN4.out, HTL.out] at he hp
  subst he
  have hz1 : w.heap.size + 1 < W1.drew.heap.size := (Array.getElem?_eq_some_iff.1 q1).1
  replace q1 := rowk (W := W1.drew) q1 hb rfl
  have hB3 := below_of hB.drew hb (by have := hB.size; exact this)
  clear hb HX q0 q0d
  have z_f := fun j => frozen_of_row W3 _ j _ _ q1
  have z_c := fun j => cell_of_row W3 _ j _ _ _ q1
  have HPP := Lib.hid hp
  have Q1 := Lib.hid q1
  clear hp q1
  go_wp2_with fail
  clear z_f z_c
  have HF := fun X hX => Lib.hid (box_put11 (w := w) (X := X) (m0 := rowv (f 0)) (m1 := rowv (f 1)) (m2 := rowv (f 2)) (m3 := rowv (f 3)) (m4 := rowv (f 4)) (m5 := rowv (f 5)) Q1.out HPP.out hz1 (by omega) (by omega) hB3 hX)
  generalize hX : (World.setCell _ _ _ : World) = X
  replace HF := HF X hX
  have x_c := fun j => cell_of_row X _ j _ _ _ HF.out.1
  exact bodyPost_ret (v := .tuple #[.agg #[.int .i64 (rowv (f 0)), .int .i64 (rowv (f 1)), .int .i64 (rowv (f 2)), .int .i64 (rowv (f 3)), .int .i64 (rowv (f 4)), .int .i64 (rowv (f 5)), .slice (some ⟨ga, 0, none⟩) F.length ka, .slice (some ⟨gb, 0, none⟩) j kb], .bool true]) (by simp [results, Try.results34, go_sem, x_c]) rfl ⟨_, _, rfl, HF.out.2⟩
set_option maxRecDepth 20000 in
set_option maxHeartbeats 2000000 in
theorem iundo_no0 (m0 m1 m2 m3 m4 m5 : Int) (l : List H11) (st : List S11) (k : Int) (g1 c1 g2 c2 : Nat) (hl : l.length ≤ 1048576) (hst : st.length ≤ 1048576) (hwf : ∀ p ∈ st, (Lit.int .i64 p.x).wf = true ∧ (Lit.int .i64 p.y).wf = true) (hq : okP (m0, m1, m2, m3, m4, m5) l st = false) (w : World) (h1 : w.rangeAt g1 0 (hv11 l)) (h2 : w.rangeAt g2 0 (sv11 st)) : Calls Try.prog 34 #[.agg #[.int .i64 m0, .int .i64 m1, .int .i64 m2, .int .i64 m3, .int .i64 m4, .int .i64 m5, .slice (some ⟨g1, 0, none⟩) l.length c1, .slice (some ⟨g2, 0, none⟩) st.length c2], .int .i64 k] w (TP11 0 0 0 0 0 0 [] [] false w) := by
  have HP := Lib.hid (fun W a b => iplan_11 m0 m1 m2 m3 m4 m5 l st g1 c1 g2 c2 hl hst hwf W a b)
  rw [hq] at HP
  have R1 := Lib.hid h1
  have R2 := Lib.hid h2
  clear h1 h2 hq hwf
  go_enter Try.func34, Try.ntmps34
  go_wp2_with fail
  generalize hW : (World.alloc _ _ : World) = W0
  have q0 : W0.heap[w.heap.size]? = some (Obj.cells #[.int .i64 m0, .int .i64 m1, .int .i64 m2, .int .i64 m3, .int .i64 m4, .int .i64 m5, .slice (some ⟨g1, 0, none⟩) l.length c1, .slice (some ⟨g2, 0, none⟩) st.length c2] 35 (0, 0)) := by rw [← hW]; exact alloc_past (alloc_at rfl)
  have q1 : W0.heap[w.heap.size + 1]? = some (pz11 35) := by rw [← hW]; exact alloc_at (by simp)
  have hB : Below w.heap.size w W0 := by rw [← hW]; (repeat (first | exact Below.refl _ _ | assumption | refine Below.setCell ?_ (by first | (simp; done) | (simp; omega)) _ | refine Below.alloc ?_ (by first | (simp; done) | (simp; omega)) _ | refine Below.drew ?_))
  clear hW
  refine (HP.out _ (ra_below R1.out hB rfl) (ra_below R2.out hB rfl)).mono ?_
  rintro e W1 ⟨rfl, hb⟩
  replace q0 := rowk q0 hb rfl
  replace q1 := rowk q1 hb rfl
  replace hB := below_of hB hb (by have := hB.size; omega)
  clear hb HP
  have a_c := fun j => cell_of_row W1 _ j _ _ _ q0
  have z_f := fun j => frozen_of_row W1 _ j _ _ q1
  have z_c := fun j => cell_of_row W1 _ j _ _ _ q1
  have hz1 : w.heap.size + 1 < W1.heap.size := (Array.getElem?_eq_some_iff.1 q1).1
  have Q1 := Lib.hid q1
  clear q1
  go_wp2_with fail
  clear a_c z_f z_c
  have HF := fun X hX => Lib.hid (box_put11 (w := w) (X := X) (lo := W1.heap.size) (m0 := 0) (m1 := 0) (m2 := 0) (m3 := 0) (m4 := 0) (m5 := 0) Q1.out (Pr11.nil _ _ _) hz1 (by omega) (by omega) hB hX)
  generalize hX : (World.setCell _ _ _ : World) = X
  replace HF := HF X hX
  have x_c := fun j => cell_of_row X _ j _ _ _ HF.out.1
  exact bodyPost_ret (v := .tuple #[.agg #[.int .i64 0, .int .i64 0, .int .i64 0, .int .i64 0, .int .i64 0, .int .i64 0, .slice none 0 0, .slice none 0 0], .bool false]) (by simp [results, Try.results34, go_sem, x_c]) rfl ⟨_, _, rfl, HF.out.2⟩
set_option maxRecDepth 20000 in
set_option maxHeartbeats 2000000 in
theorem iundo_no1 (m0 m1 m2 m3 m4 m5 : Int) (l : List H11) (st : List S11) (k : Int) (g1 c1 g2 c2 : Nat) (hl : l.length ≤ 1048576) (hst : st.length ≤ 1048576) (hwf : ∀ p ∈ st, (Lit.int .i64 p.x).wf = true ∧ (Lit.int .i64 p.y).wf = true) (hq : okP (m0, m1, m2, m3, m4, m5) l st = true) (hk : k < 0 ∨ (st.length : Int) < k) (w : World) (h1 : w.rangeAt g1 0 (hv11 l)) (h2 : w.rangeAt g2 0 (sv11 st)) : Calls Try.prog 34 #[.agg #[.int .i64 m0, .int .i64 m1, .int .i64 m2, .int .i64 m3, .int .i64 m4, .int .i64 m5, .slice (some ⟨g1, 0, none⟩) l.length c1, .slice (some ⟨g2, 0, none⟩) st.length c2], .int .i64 k] w (TP11 0 0 0 0 0 0 [] [] false w) := by
  have HP := Lib.hid (fun W a b => iplan_11 m0 m1 m2 m3 m4 m5 l st g1 c1 g2 c2 hl hst hwf W a b)
  rw [hq] at HP
  have R1 := Lib.hid h1
  have R2 := Lib.hid h2
  clear h1 h2 hq hwf
  by_cases hk0 : k < 0
  · have hk9 := hk0
    go_enter Try.func34, Try.ntmps34
    go_wp2_with fail
    generalize hW : (World.alloc _ _ : World) = W0
    have q0 : W0.heap[w.heap.size]? = some (Obj.cells #[.int .i64 m0, .int .i64 m1, .int .i64 m2, .int .i64 m3, .int .i64 m4, .int .i64 m5, .slice (some ⟨g1, 0, none⟩) l.length c1, .slice (some ⟨g2, 0, none⟩) st.length c2] 35 (0, 0)) := by rw [← hW]; exact alloc_past (alloc_at rfl)
    have q1 : W0.heap[w.heap.size + 1]? = some (pz11 35) := by rw [← hW]; exact alloc_at (by simp)
    have hB : Below w.heap.size w W0 := by rw [← hW]; (repeat (first | exact Below.refl _ _ | assumption | refine Below.setCell ?_ (by first | (simp; done) | (simp; omega)) _ | refine Below.alloc ?_ (by first | (simp; done) | (simp; omega)) _ | refine Below.drew ?_))
    clear hW
    refine (HP.out _ (ra_below R1.out hB rfl) (ra_below R2.out hB rfl)).mono ?_
    rintro e W1 ⟨rfl, hb⟩
    replace q0 := rowk q0 hb rfl
    replace q1 := rowk q1 hb rfl
    replace hB := below_of hB hb (by have := hB.size; omega)
    clear hb HP
    have a_c := fun j => cell_of_row W1 _ j _ _ _ q0
    have z_f := fun j => frozen_of_row W1 _ j _ _ q1
    have z_c := fun j => cell_of_row W1 _ j _ _ _ q1
    have hz1 : w.heap.size + 1 < W1.heap.size := (Array.getElem?_eq_some_iff.1 q1).1
    have Q1 := Lib.hid q1
    clear q1
    go_wp2_with fail
    clear a_c z_f z_c
    have HF := fun X hX => Lib.hid (box_put11 (w := w) (X := X) (lo := W1.heap.size) (m0 := 0) (m1 := 0) (m2 := 0) (m3 := 0) (m4 := 0) (m5 := 0) Q1.out (Pr11.nil _ _ _) hz1 (by omega) (by omega) hB hX)
    generalize hX : (World.setCell _ _ _ : World) = X
    replace HF := HF X hX
    have x_c := fun j => cell_of_row X _ j _ _ _ HF.out.1
    exact bodyPost_ret (v := .tuple #[.agg #[.int .i64 0, .int .i64 0, .int .i64 0, .int .i64 0, .int .i64 0, .int .i64 0, .slice none 0 0, .slice none 0 0], .bool false]) (by simp [results, Try.results34, go_sem, x_c]) rfl ⟨_, _, rfl, HF.out.2⟩
  · have hk1 : k > (st.length : Int) := by omega
    have hk2 : (st.length : Int) < k := by omega
    go_enter Try.func34, Try.ntmps34
    go_wp2_with fail
    generalize hW : (World.alloc _ _ : World) = W0
    have q0 : W0.heap[w.heap.size]? = some (Obj.cells #[.int .i64 m0, .int .i64 m1, .int .i64 m2, .int .i64 m3, .int .i64 m4, .int .i64 m5, .slice (some ⟨g1, 0, none⟩) l.length c1, .slice (some ⟨g2, 0, none⟩) st.length c2] 35 (0, 0)) := by rw [← hW]; exact alloc_past (alloc_at rfl)
    have q1 : W0.heap[w.heap.size + 1]? = some (pz11 35) := by rw [← hW]; exact alloc_at (by simp)
    have hB : Below w.heap.size w W0 := by rw [← hW]; (repeat (first | exact Below.refl _ _ | assumption | refine Below.setCell ?_ (by first | (simp; done) | (simp; omega)) _ | refine Below.alloc ?_ (by first | (simp; done) | (simp; omega)) _ | refine Below.drew ?_))
    clear hW
    refine (HP.out _ (ra_below R1.out hB rfl) (ra_below R2.out hB rfl)).mono ?_
    rintro e W1 ⟨rfl, hb⟩
    replace q0 := rowk q0 hb rfl
    replace q1 := rowk q1 hb rfl
    replace hB := below_of hB hb (by have := hB.size; omega)
    clear hb HP
    have a_c := fun j => cell_of_row W1 _ j _ _ _ q0
    have z_f := fun j => frozen_of_row W1 _ j _ _ q1
    have z_c := fun j => cell_of_row W1 _ j _ _ _ q1
    have hz1 : w.heap.size + 1 < W1.heap.size := (Array.getElem?_eq_some_iff.1 q1).1
    have Q1 := Lib.hid q1
    clear q1
    go_wp2_with fail
    clear a_c z_f z_c
    have HF := fun X hX => Lib.hid (box_put11 (w := w) (X := X) (lo := W1.heap.size) (m0 := 0) (m1 := 0) (m2 := 0) (m3 := 0) (m4 := 0) (m5 := 0) Q1.out (Pr11.nil _ _ _) hz1 (by omega) (by omega) hB hX)
    generalize hX : (World.setCell _ _ _ : World) = X
    replace HF := HF X hX
    have x_c := fun j => cell_of_row X _ j _ _ _ HF.out.1
    exact bodyPost_ret (v := .tuple #[.agg #[.int .i64 0, .int .i64 0, .int .i64 0, .int .i64 0, .int .i64 0, .int .i64 0, .slice none 0 0, .slice none 0 0], .bool false]) (by simp [results, Try.results34, go_sem, x_c]) rfl ⟨_, _, rfl, HF.out.2⟩
set_option maxRecDepth 20000 in
set_option maxHeartbeats 4000000 in
theorem sundo_yes (f : Fn11) (F : List Fn11) (st : List S11) (k g1 c1 g2 c2 : Nat) (hk : k ≤ st.length) (hc2 : st.length ≤ c2) (hst : st.length ≤ 40) (hF : F.length ≤ 4) (hv : ∀ p ∈ st, okS F.length p = true) (w : World) (h1 : w.rangeAt g1 0 (hv11 (F.map t11))) (h2 : w.rangeAt g2 0 (sv11 st)) : Calls Try.prog 33 #[.agg #[.int .i64 (rowv (f 0)), .int .i64 (rowv (f 1)), .int .i64 (rowv (f 2)), .int .i64 (rowv (f 3)), .int .i64 (rowv (f 4)), .int .i64 (rowv (f 5)), .slice (some ⟨g1, 0, none⟩) F.length c1, .slice (some ⟨g2, 0, none⟩) st.length c2], .int .i64 (k : Int)] w (TP11 (rowv (f 0)) (rowv (f 1)) (rowv (f 2)) (rowv (f 3)) (rowv (f 4)) (rowv (f 5)) (F.map t11) (st.take (st.length - k)) true w) := by
  have hn4 : (F.map t11).length = F.length := List.length_map t11
  have HP := Lib.hid (fun W a b => lplan_11 (rowv (f 0)) (rowv (f 1)) (rowv (f 2)) (rowv (f 3)) (rowv (f 4)) (rowv (f 5)) (F.map t11) st g1 c1 g2 c2 (by rw [hn4]; omega) (by omega) W a b)
  rw [show okP (rowv (f 0), rowv (f 1), rowv (f 2), rowv (f 3), rowv (f 4), rowv (f 5)) (F.map t11) st = true from okP_of (f := f) hF hst hv, hn4] at HP
  have R1 := Lib.hid h1
  have R2 := Lib.hid h2
  have R3 := Lib.hid (fm_take cs11_len h2 (st.length - k))
  have HI := Lib.hid (l1in_any (k : Int) 0 (st.length : Int))
  have ei : (decide ((0 : Int) ≤ (k : Int)) && decide ((k : Int) ≤ (st.length : Int))) = true := by
    rw [decide_eq_true (by omega), decide_eq_true (by omega)]; rfl
  rw [ei] at HI
  clear ei
  obtain ⟨j, hj⟩ : ∃ j, j = st.length - k := ⟨_, rfl⟩
  rw [← hj] at R3 ⊢
  have htl : (st.take j).length = j := tk_len st (by omega)
  have HX := Lib.hid (fun W a b => lown_11 (rowv (f 0)) (rowv (f 1)) (rowv (f 2)) (rowv (f 3)) (rowv (f 4)) (rowv (f 5)) (.slice (some ⟨g2, 0, none⟩) st.length c2) (F.map t11) (st.take j) g1 c1 g2 c2 (by rw [hn4]; omega) (by rw [htl]; omega) W a b)
  rw [hn4, htl] at HX
  have e1 : IntKind.i64.wrap ((st.length : Int) - (k : Int)) = (j : Int) := by rw [IntKind.wrap_i64]; omega
  have e2 : wrap64 ((st.length : Int) - (k : Int)) = (j : Int) := by unfold wrap64; omega
  have hj0 : (0 : Int) ≤ (j : Int) := by omega
  have hjc : (j : Int) ≤ (c2 : Int) := by omega
  have hjc' : j ≤ c2 := by omega
  have HN4 := Lib.hid hn4
  have HTL := Lib.hid htl
  clear h1 h2 hn4 hj htl
  have k1 : ¬ (k : Int) < 0 := by omega
  have k2 : ¬ (st.length : Int) < (k : Int) := by omega
  have k3 : ¬ (k : Int) > (st.length : Int) := by omega
  go_enter Try.func33, Try.ntmps33
  go_wp2_with fail
  generalize hW : (World.alloc _ _ : World) = W0
  have q0 : W0.heap[w.heap.size]? = some (Obj.cells #[.int .i64 (rowv (f 0)), .int .i64 (rowv (f 1)), .int .i64 (rowv (f 2)), .int .i64 (rowv (f 3)), .int .i64 (rowv (f 4)), .int .i64 (rowv (f 5)), .slice (some ⟨g1, 0, none⟩) F.length c1, .slice (some ⟨g2, 0, none⟩) st.length c2] 35 (0, 0)) := by rw [← hW]; exact alloc_past (alloc_at rfl)
  have q1 : W0.heap[w.heap.size + 1]? = some (pz11 35) := by rw [← hW]; exact alloc_at (by simp)
  have hB : Below w.heap.size w W0 := by rw [← hW]; (repeat (first | exact Below.refl _ _ | assumption | refine Below.setCell ?_ (by first | (simp; done) | (simp; omega)) _ | refine Below.alloc ?_ (by first | (simp; done) | (simp; omega)) _ | refine Below.drew ?_))
  clear hW
  refine (HP.out _ (ra_below R1.out hB rfl) (ra_below R2.out hB rfl)).mono ?_
  rintro e W1 ⟨rfl, hb⟩
  replace q0 := rowk q0 hb rfl
  replace q1 := rowk q1 hb rfl
  replace hB := below_of hB hb (by have := hB.size; omega)
  clear hb HP
  have a_c := fun j => cell_of_row W1 _ j _ _ _ q0
  go_wp2_with fail
  refine (HI.out _).mono ?_
  rintro e W2 ⟨rfl, hb⟩
  obtain rfl := hb.symm
  clear HI
  have a_c := fun j => cell_of_row W1 _ j _ _ _ q0
  go_wp2_with fail
  clear a_c
  have q0d : W1.drew.heap[w.heap.size]? = _ := q0
  have a_c := fun j => cell_of_row W1.drew _ j _ _ _ q0d
  refine wp_region_still_tail 9 (by kernel_rfl) (by kernel_rfl) ?_
  simp only [List.take_succ_cons, List.take_zero, List.drop_succ_cons, List.drop_zero]
  repeat still_step
  refine wpStill_nil ?_
  change wpList _ _ _ _ _ W1.drew
  clear a_c
  go_wp2_with fail
  refine (HX.out _ (ra_below R1.out hB.drew rfl) (ra_below R3.out hB.drew rfl)).mono ?_
  rintro e W3 ⟨ga, ka, gb, kb, he, hp, hb⟩
  rw [HN4.out, HTL.out] at he hp
  subst he
  have hz1 : w.heap.size + 1 < W1.drew.heap.size := (Array.getElem?_eq_some_iff.1 q1).1
  replace q1 := rowk (W := W1.drew) q1 hb rfl
  have hB3 := below_of hB.drew hb (by have := hB.size; exact this)
  clear hb HX q0 q0d
  have z_f := fun j => frozen_of_row W3 _ j _ _ q1
  have z_c := fun j => cell_of_row W3 _ j _ _ _ q1
  have HPP := Lib.hid hp
  have Q1 := Lib.hid q1
  clear hp q1
  go_wp2_with fail
  clear z_f z_c
  have HF := fun X hX => Lib.hid (box_put11 (w := w) (X := X) (m0 := rowv (f 0)) (m1 := rowv (f 1)) (m2 := rowv (f 2)) (m3 := rowv (f 3)) (m4 := rowv (f 4)) (m5 := rowv (f 5)) Q1.out HPP.out hz1 (by omega) (by omega) hB3 hX)
  generalize hX : (World.setCell _ _ _ : World) = X
  replace HF := HF X hX
  have x_c := fun j => cell_of_row X _ j _ _ _ HF.out.1
  exact bodyPost_ret (v := .tuple #[.agg #[.int .i64 (rowv (f 0)), .int .i64 (rowv (f 1)), .int .i64 (rowv (f 2)), .int .i64 (rowv (f 3)), .int .i64 (rowv (f 4)), .int .i64 (rowv (f 5)), .slice (some ⟨ga, 0, none⟩) F.length ka, .slice (some ⟨gb, 0, none⟩) j kb], .bool true]) (by simp [results, Try.results33, go_sem, x_c]) rfl ⟨_, _, rfl, HF.out.2⟩
set_option maxRecDepth 20000 in
set_option maxHeartbeats 2000000 in
theorem sundo_no0 (m0 m1 m2 m3 m4 m5 : Int) (l : List H11) (st : List S11) (k : Int) (g1 c1 g2 c2 : Nat) (hl : l.length ≤ 1048576) (hst : st.length ≤ 1048576) (hq : okP (m0, m1, m2, m3, m4, m5) l st = false) (w : World) (h1 : w.rangeAt g1 0 (hv11 l)) (h2 : w.rangeAt g2 0 (sv11 st)) : Calls Try.prog 33 #[.agg #[.int .i64 m0, .int .i64 m1, .int .i64 m2, .int .i64 m3, .int .i64 m4, .int .i64 m5, .slice (some ⟨g1, 0, none⟩) l.length c1, .slice (some ⟨g2, 0, none⟩) st.length c2], .int .i64 k] w (TP11 0 0 0 0 0 0 [] [] false w) := by
  have HP := Lib.hid (fun W a b => lplan_11 m0 m1 m2 m3 m4 m5 l st g1 c1 g2 c2 hl hst W a b)
  rw [hq] at HP
  have R1 := Lib.hid h1
  have R2 := Lib.hid h2
  clear h1 h2 hq
  go_enter Try.func33, Try.ntmps33
  go_wp2_with fail
  generalize hW : (World.alloc _ _ : World) = W0
  have q0 : W0.heap[w.heap.size]? = some (Obj.cells #[.int .i64 m0, .int .i64 m1, .int .i64 m2, .int .i64 m3, .int .i64 m4, .int .i64 m5, .slice (some ⟨g1, 0, none⟩) l.length c1, .slice (some ⟨g2, 0, none⟩) st.length c2] 35 (0, 0)) := by rw [← hW]; exact alloc_past (alloc_at rfl)
  have q1 : W0.heap[w.heap.size + 1]? = some (pz11 35) := by rw [← hW]; exact alloc_at (by simp)
  have hB : Below w.heap.size w W0 := by rw [← hW]; (repeat (first | exact Below.refl _ _ | assumption | refine Below.setCell ?_ (by first | (simp; done) | (simp; omega)) _ | refine Below.alloc ?_ (by first | (simp; done) | (simp; omega)) _ | refine Below.drew ?_))
  clear hW
  refine (HP.out _ (ra_below R1.out hB rfl) (ra_below R2.out hB rfl)).mono ?_
  rintro e W1 ⟨rfl, hb⟩
  replace q0 := rowk q0 hb rfl
  replace q1 := rowk q1 hb rfl
  replace hB := below_of hB hb (by have := hB.size; omega)
  clear hb HP
  have a_c := fun j => cell_of_row W1 _ j _ _ _ q0
  have z_f := fun j => frozen_of_row W1 _ j _ _ q1
  have z_c := fun j => cell_of_row W1 _ j _ _ _ q1
  have hz1 : w.heap.size + 1 < W1.heap.size := (Array.getElem?_eq_some_iff.1 q1).1
  have Q1 := Lib.hid q1
  clear q1
  go_wp2_with fail
  clear a_c z_f z_c
  have HF := fun X hX => Lib.hid (box_put11 (w := w) (X := X) (lo := W1.heap.size) (m0 := 0) (m1 := 0) (m2 := 0) (m3 := 0) (m4 := 0) (m5 := 0) Q1.out (Pr11.nil _ _ _) hz1 (by omega) (by omega) hB hX)
  generalize hX : (World.setCell _ _ _ : World) = X
  replace HF := HF X hX
  have x_c := fun j => cell_of_row X _ j _ _ _ HF.out.1
  exact bodyPost_ret (v := .tuple #[.agg #[.int .i64 0, .int .i64 0, .int .i64 0, .int .i64 0, .int .i64 0, .int .i64 0, .slice none 0 0, .slice none 0 0], .bool false]) (by simp [results, Try.results33, go_sem, x_c]) rfl ⟨_, _, rfl, HF.out.2⟩
set_option maxRecDepth 20000 in
set_option maxHeartbeats 2000000 in
theorem sundo_no1 (m0 m1 m2 m3 m4 m5 : Int) (l : List H11) (st : List S11) (k : Int) (g1 c1 g2 c2 : Nat) (hl : l.length ≤ 1048576) (hst : st.length ≤ 1048576) (hq : okP (m0, m1, m2, m3, m4, m5) l st = true) (hk : k < 0 ∨ (st.length : Int) < k) (w : World) (h1 : w.rangeAt g1 0 (hv11 l)) (h2 : w.rangeAt g2 0 (sv11 st)) : Calls Try.prog 33 #[.agg #[.int .i64 m0, .int .i64 m1, .int .i64 m2, .int .i64 m3, .int .i64 m4, .int .i64 m5, .slice (some ⟨g1, 0, none⟩) l.length c1, .slice (some ⟨g2, 0, none⟩) st.length c2], .int .i64 k] w (TP11 0 0 0 0 0 0 [] [] false w) := by
  have HP := Lib.hid (fun W a b => lplan_11 m0 m1 m2 m3 m4 m5 l st g1 c1 g2 c2 hl hst W a b)
  rw [hq] at HP
  have R1 := Lib.hid h1
  have R2 := Lib.hid h2
  clear h1 h2 hq
  have HI := Lib.hid (l1in_any k 0 (st.length : Int))
  have ei : (decide ((0 : Int) ≤ k) && decide (k ≤ (st.length : Int))) = false := by
    rcases hk with h | h
    · rw [decide_eq_false (by omega)]; rfl
    · rw [decide_eq_false (p := k ≤ _) (by omega), Bool.and_false]
  rw [ei] at HI
  clear ei
  go_enter Try.func33, Try.ntmps33
  go_wp2_with fail
  generalize hW : (World.alloc _ _ : World) = W0
  have q0 : W0.heap[w.heap.size]? = some (Obj.cells #[.int .i64 m0, .int .i64 m1, .int .i64 m2, .int .i64 m3, .int .i64 m4, .int .i64 m5, .slice (some ⟨g1, 0, none⟩) l.length c1, .slice (some ⟨g2, 0, none⟩) st.length c2] 35 (0, 0)) := by rw [← hW]; exact alloc_past (alloc_at rfl)
  have q1 : W0.heap[w.heap.size + 1]? = some (pz11 35) := by rw [← hW]; exact alloc_at (by simp)
  have hB : Below w.heap.size w W0 := by rw [← hW]; (repeat (first | exact Below.refl _ _ | assumption | refine Below.setCell ?_ (by first | (simp; done) | (simp; omega)) _ | refine Below.alloc ?_ (by first | (simp; done) | (simp; omega)) _ | refine Below.drew ?_))
  clear hW
  refine (HP.out _ (ra_below R1.out hB rfl) (ra_below R2.out hB rfl)).mono ?_
  rintro e W1 ⟨rfl, hb⟩
  replace q0 := rowk q0 hb rfl
  replace q1 := rowk q1 hb rfl
  replace hB := below_of hB hb (by have := hB.size; omega)
  clear hb HP
  have a_c := fun j => cell_of_row W1 _ j _ _ _ q0
  have z_f := fun j => frozen_of_row W1 _ j _ _ q1
  have z_c := fun j => cell_of_row W1 _ j _ _ _ q1
  have hz1 : w.heap.size + 1 < W1.heap.size := (Array.getElem?_eq_some_iff.1 q1).1
  have Q1 := Lib.hid q1
  clear q1
  go_wp2_with fail
  refine (HI.out _).mono ?_
  rintro e W2 ⟨rfl, hb⟩
  obtain rfl := hb.symm
  clear HI
  go_wp2_with fail
  clear a_c z_f z_c
  have HF := fun X hX => Lib.hid (box_put11 (w := w) (X := X) (lo := W1.heap.size) (m0 := 0) (m1 := 0) (m2 := 0) (m3 := 0) (m4 := 0) (m5 := 0) Q1.out (Pr11.nil _ _ _) hz1 (by omega) (by omega) hB hX)
  generalize hX : (World.setCell _ _ _ : World) = X
  replace HF := HF X hX
  have x_c := fun j => cell_of_row X _ j _ _ _ HF.out.1
  exact bodyPost_ret (v := .tuple #[.agg #[.int .i64 0, .int .i64 0, .int .i64 0, .int .i64 0, .int .i64 0, .int .i64 0, .slice none 0 0, .slice none 0 0], .bool false]) (by simp [results, Try.results33, go_sem, x_c]) rfl ⟨_, _, rfl, HF.out.2⟩
theorem undo_pair (m0 m1 m2 m3 m4 m5 : Int) (l : List H11) (st : List S11) (k : Int) (hl : l.length ≤ 1048576) (hst : st.length ≤ 1048576) (hwf : ∀ p ∈ st, (Lit.int .i64 p.x).wf = true ∧ (Lit.int .i64 p.y).wf = true) : ∃ (r0 r1 r2 r3 r4 r5 : Int) (l' : List H11) (st' : List S11) (t : Bool), l'.length ≤ 1000 ∧ st'.length ≤ 1000 ∧ (∀ (g1 c1 g2 c2 : Nat) (W : World), st.length ≤ c2 → W.rangeAt g1 0 (hv11 l) → W.rangeAt g2 0 (sv11 st) → Calls Try.prog 33 #[.agg #[.int .i64 m0, .int .i64 m1, .int .i64 m2, .int .i64 m3, .int .i64 m4, .int .i64 m5, .slice (some ⟨g1, 0, none⟩) l.length c1, .slice (some ⟨g2, 0, none⟩) st.length c2], .int .i64 k] W (TP11 r0 r1 r2 r3 r4 r5 l' st' t W)) ∧ (∀ (g1 c1 g2 c2 : Nat) (W : World), st.length ≤ c2 → W.rangeAt g1 0 (hv11 l) → W.rangeAt g2 0 (sv11 st) → Calls Try.prog 34 #[.agg #[.int .i64 m0, .int .i64 m1, .int .i64 m2, .int .i64 m3, .int .i64 m4, .int .i64 m5, .slice (some ⟨g1, 0, none⟩) l.length c1, .slice (some ⟨g2, 0, none⟩) st.length c2], .int .i64 k] W (TP11 r0 r1 r2 r3 r4 r5 l' st' t W)) := by
  cases hq : okP (m0, m1, m2, m3, m4, m5) l st
  · exact ⟨0, 0, 0, 0, 0, 0, [], [], false, by simp, by simp, fun g1 c1 g2 c2 W _ a b => sundo_no0 m0 m1 m2 m3 m4 m5 l st k g1 c1 g2 c2 hl hst hq W a b, fun g1 c1 g2 c2 W _ a b => iundo_no0 m0 m1 m2 m3 m4 m5 l st k g1 c1 g2 c2 hl hst hwf hq W a b⟩
  · by_cases hk : k < 0 ∨ (st.length : Int) < k
    · exact ⟨0, 0, 0, 0, 0, 0, [], [], false, by simp, by simp, fun g1 c1 g2 c2 W _ a b => sundo_no1 m0 m1 m2 m3 m4 m5 l st k g1 c1 g2 c2 hl hst hq hk W a b, fun g1 c1 g2 c2 W _ a b => iundo_no1 m0 m1 m2 m3 m4 m5 l st k g1 c1 g2 c2 hl hst hwf hq hk W a b⟩
    · obtain ⟨f, F, e1, rfl, h2, h3, h5⟩ := okP_get hq
      simp only [t11, Prod.mk.injEq] at e1
      obtain ⟨rfl, rfl, rfl, rfl, rfl, rfl⟩ := e1
      obtain ⟨n, rfl⟩ : ∃ n : Nat, k = n := ⟨k.toNat, by omega⟩
      have hm : (F.map t11).length = F.length := List.length_map t11
      rw [hm]
      exact ⟨rowv (f 0), rowv (f 1), rowv (f 2), rowv (f 3), rowv (f 4), rowv (f 5), F.map t11, st.take (st.length - n), true, by rw [hm]; omega, by rw [List.length_take]; omega, fun g1 c1 g2 c2 W hc a b => sundo_yes f F st n g1 c1 g2 c2 (by omega) hc h3 h2 h5 W a b, fun g1 c1 g2 c2 W hc a b => iundo_yes f F st n g1 c1 g2 c2 (by omega) hc h3 h2 h5 W a b⟩
end Go.Proofs.Ytkbpfdmmjpmbmaa
