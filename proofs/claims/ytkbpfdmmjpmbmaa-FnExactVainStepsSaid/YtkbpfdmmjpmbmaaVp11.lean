/- CONTRACTS: VainSteps, of the model and of the code: no plan; the pair. -/
import Derived.Test.YtkbpfdmmjpmbmaaPw11
import Derived.Test.YtkbpfdmmjpmbmaaPg11
import Derived.WalkKit
import Derived.ProofKit
import Derived.OpenShut
import Derived.Lib.Hide
import Derived.WalkSpells
import Derived.Below
import Derived.BigQuiet
import Derived.LoopN
namespace Go.Proofs.Ytkbpfdmmjpmbmaa
open Go.ChangeShapes Go.WideShapes Go.ChangeAt Go.RowKit
set_option linter.unusedVariables false
set_option maxRecDepth 20000 in
set_option maxHeartbeats 2000000 in
theorem ivain_no (m0 m1 m2 m3 m4 m5 : Int) (l : List H11) (st : List S11) (g1 c1 g2 c2 : Nat) (hl : l.length ≤ 1048576) (hst : st.length ≤ 1048576) (hwf : ∀ p ∈ st, (Lit.int .i64 p.x).wf = true ∧ (Lit.int .i64 p.y).wf = true) (hq : okP (m0, m1, m2, m3, m4, m5) l st = false) (w : World) (h1 : w.rangeAt g1 0 (hv11 l)) (h2 : w.rangeAt g2 0 (sv11 st)) : Calls Try.prog 36 #[.agg #[.int .i64 m0, .int .i64 m1, .int .i64 m2, .int .i64 m3, .int .i64 m4, .int .i64 m5, .slice (some ⟨g1, 0, none⟩) l.length c1, .slice (some ⟨g2, 0, none⟩) st.length c2]] w (VP11 [] false w) := by
  have HP := Lib.hid (fun W a b => iplan_11 m0 m1 m2 m3 m4 m5 l st g1 c1 g2 c2 hl hst hwf W a b)
  rw [hq] at HP
  have R1 := Lib.hid h1
  have R2 := Lib.hid h2
  clear h1 h2 hq hwf
  obtain ⟨i0, hi, hz0, hz1, hz2⟩ := infos_int11
  go_enter Try.func36, Try.ntmps36
  go_wp2_with fail
  generalize hW : (World.alloc _ _ : World) = W0
  have q0 : W0.heap[w.heap.size]? = some (Obj.cells #[.int .i64 m0, .int .i64 m1, .int .i64 m2, .int .i64 m3, .int .i64 m4, .int .i64 m5, .slice (some ⟨g1, 0, none⟩) l.length c1, .slice (some ⟨g2, 0, none⟩) st.length c2] 35 (0, 0)) := by rw [← hW]; exact alloc_past (alloc_at rfl)
  have ho0 : W0.ownsRow (w.heap.size + 1) 3 1 (.slice (some ⟨w.heap.size + 1, 0, none⟩) 0 0) 0 (iv11 []) := by
    rw [← hW]
    have h := World.ownsRow_lit (base := w.heap.size + 1) (e := 3) (size := 1) (w.alloc (.cells #[.int .i64 m0, .int .i64 m1, .int .i64 m2, .int .i64 m3, .int .i64 m4, .int .i64 m5, .slice (some ⟨g1, 0, none⟩) l.length c1, .slice (some ⟨g2, 0, none⟩) st.length c2] 35)) #[] 0 (by simp) (by unfold maxLen; omega) rfl
    rw [show (w.alloc (.cells #[.int .i64 m0, .int .i64 m1, .int .i64 m2, .int .i64 m3, .int .i64 m4, .int .i64 m5, .slice (some ⟨g1, 0, none⟩) l.length c1, .slice (some ⟨g2, 0, none⟩) st.length c2] 35)).heap.size = w.heap.size + 1 by simp] at h
    exact h
  have hsz : w.heap.size + 1 < W0.heap.size := by rw [← hW]; simp
  have hB : Below w.heap.size w W0 := by rw [← hW]; (repeat (first | exact Below.refl _ _ | assumption | refine Below.setCell ?_ (by first | (simp; done) | (simp; omega)) _ | refine Below.alloc ?_ (by first | (simp; done) | (simp; omega)) _ | refine Below.drew ?_))
  clear hW
  refine (HP.out _ (ra_below R1.out hB rfl) (ra_below R2.out hB rfl)).mono ?_
  rintro e W1 ⟨rfl, hb⟩
  replace ho0 := ho0.kept (grown_below hb rfl) (.inr (by simp [Value.ownBlock]))
  replace hB := below_of hB hb (by have := hB.size; omega)
  clear hb HP q0
  go_wp2_with fail
  exact bodyPost_ret (v := .tuple #[.slice (some ⟨w.heap.size + 1, 0, none⟩) 0 0, .bool false]) (by simp [results, Try.results36, go_sem]) rfl ⟨_, _, rfl, own_mono ho0 (by omega), hB⟩
set_option maxRecDepth 20000 in
set_option maxHeartbeats 2000000 in
theorem svain_no (m0 m1 m2 m3 m4 m5 : Int) (l : List H11) (st : List S11) (g1 c1 g2 c2 : Nat) (hl : l.length ≤ 1048576) (hst : st.length ≤ 1048576) (hq : okP (m0, m1, m2, m3, m4, m5) l st = false) (w : World) (h1 : w.rangeAt g1 0 (hv11 l)) (h2 : w.rangeAt g2 0 (sv11 st)) : Calls Try.prog 35 #[.agg #[.int .i64 m0, .int .i64 m1, .int .i64 m2, .int .i64 m3, .int .i64 m4, .int .i64 m5, .slice (some ⟨g1, 0, none⟩) l.length c1, .slice (some ⟨g2, 0, none⟩) st.length c2]] w (VP11 [] false w) := by
  have HP := Lib.hid (fun W a b => lplan_11 m0 m1 m2 m3 m4 m5 l st g1 c1 g2 c2 hl hst W a b)
  rw [hq] at HP
  have R1 := Lib.hid h1
  have R2 := Lib.hid h2
  clear h1 h2 hq
  obtain ⟨i0, hi, hz0, hz1, hz2⟩ := infos_int11
  go_enter Try.func35, Try.ntmps35
  go_wp2_with fail
  generalize hW : (World.alloc _ _ : World) = W0
  have q0 : W0.heap[w.heap.size]? = some (Obj.cells #[.int .i64 m0, .int .i64 m1, .int .i64 m2, .int .i64 m3, .int .i64 m4, .int .i64 m5, .slice (some ⟨g1, 0, none⟩) l.length c1, .slice (some ⟨g2, 0, none⟩) st.length c2] 35 (0, 0)) := by rw [← hW]; exact alloc_at rfl
  have hB : Below w.heap.size w W0 := by rw [← hW]; (repeat (first | exact Below.refl _ _ | assumption | refine Below.setCell ?_ (by first | (simp; done) | (simp; omega)) _ | refine Below.alloc ?_ (by first | (simp; done) | (simp; omega)) _ | refine Below.drew ?_))
  clear hW
  refine (HP.out _ (ra_below R1.out hB rfl) (ra_below R2.out hB rfl)).mono ?_
  rintro e W1 ⟨rfl, hb⟩
  replace hB := below_of hB hb (by have := hB.size; omega)
  clear hb HP q0
  go_wp2_with fail
  have ho0 := World.ownsRow_lit (base := w.heap.size) (e := 3) (size := 1) W1 #[] 0 (by have := hB.size; omega) (by unfold maxLen; omega) rfl
  have hB2 := hB.alloc hB.size (.cells #[] 3)
  exact bodyPost_ret (v := .tuple #[.slice (some ⟨W1.heap.size, 0, none⟩) 0 0, .bool false]) (by simp [results, Try.results35, go_sem]) rfl ⟨_, _, rfl, ho0, hB2⟩
set_option maxRecDepth 20000 in
set_option maxHeartbeats 2000000 in
theorem svain_yes (f : Fn11) (F : List Fn11) (st : List S11) (g1 c1 g2 c2 : Nat) (hst : st.length ≤ 40) (hF : F.length ≤ 4) (hv : ∀ p ∈ st, okS F.length p = true) (w : World) (h1 : w.rangeAt g1 0 (hv11 (F.map t11))) (h2 : w.rangeAt g2 0 (sv11 st)) : Calls Try.prog 35 #[.agg #[.int .i64 (rowv (f 0)), .int .i64 (rowv (f 1)), .int .i64 (rowv (f 2)), .int .i64 (rowv (f 3)), .int .i64 (rowv (f 4)), .int .i64 (rowv (f 5)), .slice (some ⟨g1, 0, none⟩) F.length c1, .slice (some ⟨g2, 0, none⟩) st.length c2]] w (VP11 (vn11 F st f st.length) true w) := by
  have hn4 : (F.map t11).length = F.length := List.length_map t11
  have HP := Lib.hid (fun W a b => lplan_11 (rowv (f 0)) (rowv (f 1)) (rowv (f 2)) (rowv (f 3)) (rowv (f 4)) (rowv (f 5)) (F.map t11) st g1 c1 g2 c2 (by rw [hn4]; omega) (by omega) W a b)
  rw [show okP (rowv (f 0), rowv (f 1), rowv (f 2), rowv (f 3), rowv (f 4), rowv (f 5)) (F.map t11) st = true from okP_of (f := f) hF hst hv, hn4] at HP
  have R1 := Lib.hid h1
  have R2 := Lib.hid h2
  have HX := Lib.hid (fun W a b => lvain_11 f F st g1 c1 g2 c2 hst hF hv W a b)
  clear h1 h2 hn4 hv
  generalize vn11 F st f st.length = Z at HX ⊢
  go_enter Try.func35, Try.ntmps35
  go_wp2_with fail
  generalize hW : (World.alloc _ _ : World) = W0
  have q0 : W0.heap[w.heap.size]? = some (Obj.cells #[.int .i64 (rowv (f 0)), .int .i64 (rowv (f 1)), .int .i64 (rowv (f 2)), .int .i64 (rowv (f 3)), .int .i64 (rowv (f 4)), .int .i64 (rowv (f 5)), .slice (some ⟨g1, 0, none⟩) F.length c1, .slice (some ⟨g2, 0, none⟩) st.length c2] 35 (0, 0)) := by rw [← hW]; exact alloc_at rfl
  have hB : Below w.heap.size w W0 := by rw [← hW]; (repeat (first | exact Below.refl _ _ | assumption | refine Below.setCell ?_ (by first | (simp; done) | (simp; omega)) _ | refine Below.alloc ?_ (by first | (simp; done) | (simp; omega)) _ | refine Below.drew ?_))
  clear hW
  refine (HP.out _ (ra_below R1.out hB rfl) (ra_below R2.out hB rfl)).mono ?_
  rintro e W1 ⟨rfl, hb⟩
  replace q0 := rowk q0 hb rfl
  replace hB := below_of hB hb (by have := hB.size; omega)
  clear hb HP
  have a_c := fun j => cell_of_row W1 _ j _ _ _ q0
  go_wp2_with fail
  refine (HX.out _ (ra_below R1.out hB rfl) (ra_below R2.out hB rfl)).mono ?_
  rintro e W2 ⟨g, cap, rfl, ho, hb⟩
  have hs0 := hB.size
  replace hB := fun H => below_of hB hb H
  have hs := hb.size
  clear hb HX a_c q0
  go_wp2_with fail
  exact bodyPost_ret (v := .tuple #[.slice (some ⟨g, 0, none⟩) Z.length cap, .bool true]) (by simp [results, Try.results35, go_sem]) rfl ⟨_, _, rfl, own_mono ho (by omega), hB (by omega)⟩
theorem vain_pair (m0 m1 m2 m3 m4 m5 : Int) (l : List H11) (st : List S11) (hl : l.length ≤ 1048576) (hst : st.length ≤ 1048576) (hwf : ∀ p ∈ st, (Lit.int .i64 p.x).wf = true ∧ (Lit.int .i64 p.y).wf = true) : ∃ (z : List Nat) (t : Bool), z.length ≤ 40 ∧ (∀ (g1 c1 g2 c2 : Nat) (W : World), W.rangeAt g1 0 (hv11 l) → W.rangeAt g2 0 (sv11 st) → Calls Try.prog 35 #[.agg #[.int .i64 m0, .int .i64 m1, .int .i64 m2, .int .i64 m3, .int .i64 m4, .int .i64 m5, .slice (some ⟨g1, 0, none⟩) l.length c1, .slice (some ⟨g2, 0, none⟩) st.length c2]] W (VP11 z t W)) ∧ (∀ (g1 c1 g2 c2 : Nat) (W : World), W.rangeAt g1 0 (hv11 l) → W.rangeAt g2 0 (sv11 st) → Calls Try.prog 36 #[.agg #[.int .i64 m0, .int .i64 m1, .int .i64 m2, .int .i64 m3, .int .i64 m4, .int .i64 m5, .slice (some ⟨g1, 0, none⟩) l.length c1, .slice (some ⟨g2, 0, none⟩) st.length c2]] W (VP11 z t W)) := by
  cases hq : okP (m0, m1, m2, m3, m4, m5) l st
  · exact ⟨[], false, by simp, fun g1 c1 g2 c2 W a b => svain_no m0 m1 m2 m3 m4 m5 l st g1 c1 g2 c2 hl hst hq W a b, fun g1 c1 g2 c2 W a b => ivain_no m0 m1 m2 m3 m4 m5 l st g1 c1 g2 c2 hl hst hwf hq W a b⟩
  · obtain ⟨f, F, e1, rfl, h2, h3, h5⟩ := okP_get hq
    simp only [t11, Prod.mk.injEq] at e1
    obtain ⟨rfl, rfl, rfl, rfl, rfl, rfl⟩ := e1
    have hm : (F.map t11).length = F.length := List.length_map t11
    rw [hm]
    exact ⟨vn11 F st f st.length, true, Nat.le_trans (vn11_len F st f st.length) h3, fun g1 c1 g2 c2 W a b => svain_yes f F st g1 c1 g2 c2 h3 h2 h5 W a b, fun g1 c1 g2 c2 W a b => ivain_yes f F st g1 c1 g2 c2 h3 h2 h5 W a b⟩
end Go.Proofs.Ytkbpfdmmjpmbmaa
