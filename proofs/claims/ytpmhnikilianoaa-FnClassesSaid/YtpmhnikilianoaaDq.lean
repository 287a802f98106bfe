/- CONTRACTS: a drawn cell. -/
import Derived.Test.YtpmhnikilianoaaCu
import Derived.WalkKit
import Derived.ProofKit
import Derived.OpenShut
import Derived.Lib.Hide
import Derived.WalkSpells
import Derived.Below
import Derived.BigQuiet
import Derived.LoopN
namespace Go.Proofs.Ytpmhnikilianoaa
open Go.ChangeShapes Go.WideShapes Go.ChangeAt Go.RowKit
set_option linter.unusedVariables false
theorem CurB.alloc {W : World} {g : Nat} {A : Option Addr} {len cap : Nat} {a s : Int} (h : CurB W g A len cap a s) (o : Obj) : CurB (W.alloc o) g A len cap a s := alloc_past h
theorem Cu.alloc {W : World} {B g : Nat} {A : Option Addr} {len cap : Nat} {zs : List Int} {m : Int} (h : Cu W B g A len cap zs m) (o : Obj) : Cu (W.alloc o) B g A len cap zs m := by
  obtain ⟨h1, h2, h3, a, s, h4, h5, h6, h7⟩ := h
  refine ⟨fun k hk => ?_, h2, h3, a, s, h4, h5, h6, h7.alloc o⟩
  obtain ⟨b, o', e1, e2, e3, e4, e5⟩ := h1 k hk
  exact ⟨b, o', e1, e2, by rw [World.cell?_of_block (w := W) (Below.heap_alloc W o b (blk_lt e3))]; exact e3, e4, e5⟩
theorem Cu.glt {W : World} {B g : Nat} {A : Option Addr} {len cap : Nat} {zs : List Int} {m : Int} (h : Cu W B g A len cap zs m) : g < W.heap.size := by
  obtain ⟨_, _, _, a, s, _, _, _, h7⟩ := h
  exact row_lt h7
theorem g_alloc (W : World) (g : Nat) (o : Obj) : W.grownBy (W.alloc o) (some g) := World.grownBy_alloc W o (some g)
theorem CuTo.alloc {B g : Nat} {A : Option Addr} {len cap : Nat} {zs : List Int} {m : Int} {w W : World} (h : CuTo B g A len cap zs m w W) (o : Obj) : CuTo B g A len cap zs m w (W.alloc o) := ⟨h.1.alloc o, g_trans h.2 (g_alloc W g o)⟩
theorem CuTo.step {B g : Nat} {A : Option Addr} {len cap : Nat} {zs : List Int} {m m' : Int} {w W W' : World} (h : CuTo B g A len cap zs m w W) (h' : CuTo B g A len cap zs m' W W') : CuTo B g A len cap zs m' w W' := ⟨h'.1, g_trans h.2 h'.2⟩
theorem rowg {g k : Nat} {W W' : World} {o : Obj} (h : W.heap[k]? = some o) (hg : W.grownBy W' (some g)) (hne : k ≠ g) : W'.heap[k]? = some o := (hg.block k (row_lt h) (fun e => by cases e; exact hne rfl)).trans h
theorem CuTo.set {B g k i : Nat} {A : Option Addr} {len cap : Nat} {zs : List Int} {m : Int} {w W : World} (h : CuTo B g A len cap zs m w W) (hg : g < w.heap.size) (hk : w.heap.size ≤ k) (v : Value) : CuTo B g A len cap zs m w (W.setCell ⟨k, i, none⟩ v) := by
  obtain ⟨⟨h1, h2, h3, a, s, h4, h5, h6, h7⟩, hgr⟩ := h
  refine ⟨⟨fun j hj => ?_, h2, h3, a, s, h4, h5, h6, (Below.heap_setCell W ⟨k, i, none⟩ v g (by show g ≠ k; omega)).trans h7⟩, ?_⟩
  · obtain ⟨b, o', e1, e2, e3, e4, e5⟩ := h1 j hj
    exact ⟨b, o', e1, e2, by rw [World.cell?_of_block (w := W) (Below.heap_setCell W ⟨k, i, none⟩ v b (by show b ≠ k; omega))]; exact e3, e4, e5⟩
  · exact ⟨hgr.os, hgr.tape, hgr.output, by simpa [World.setCell] using hgr.size, fun j hj hne => (Below.heap_setCell W ⟨k, i, none⟩ v j (by show j ≠ k; omega)).trans (hgr.block j hj hne)⟩
/-- A cell of a list of numbers that was just built. -/
theorem new_ints (W : World) (xs : List Int) : ∀ k x, xs[k]? = some x → (W.alloc (.cells (xs.map (Value.int .i64)).toArray 3)).cell? ⟨W.heap.size, k, none⟩ = some (.int .i64 x) := fun k x hx => by
  have e := cell_of_row (W.alloc (.cells (xs.map (Value.int .i64)).toArray 3)) W.heap.size k _ 3 (0, 0) (alloc_at rfl)
  rw [e]
  simp [hx]
def CellPost (B g : Nat) (A : Option Addr) (len cap : Nat) (zs : List Int) (m : Int) (w : World) (e : Ending) (w' : World) : Prop := ∃ x y : Int, (Lit.int .i64 x).wf = true ∧ (Lit.int .i64 y).wf = true ∧ e = .returned (.agg #[.int .i64 x, .int .i64 y]) ∧ CuTo B g A len cap zs m w w'
set_option maxHeartbeats 1000000 in
theorem cell_any (B g : Nat) (A : Option Addr) (len cap : Nat) (zs : List Int) (m : Int) (w : World) (h : Cu w B g A len cap zs m) (hm : m ≤ 800000) :
    Calls Try.prog 153 #[.pointer (some ⟨g, 0, none⟩)] w (CellPost B g A len cap zs (m + 6) w) := by
  have hgl := h.glt
  have H := Lib.hid h
  clear h
  go_enter Try.func153, Try.ntmps153
  go_wp2_with fail
  generalize hW : (World.alloc _ _ : World) = W0
  have H0 := Lib.hid (show CuTo B g A len cap zs m w W0 by rw [← hW]; exact CuTo.alloc ⟨H.out, g_refl w g⟩ _)
  have Q0 := Lib.hid (show W0.heap[w.heap.size]? = some (.cells #[.int .i64 0, .int .i64 0] 37 (0, 0)) by rw [← hW]; exact alloc_at rfl)
  clear hW
  refine (one_any 40 B g A len cap zs m W0 H0.out.1 (by omega) (by omega) (by omega)).mono ?_
  rintro e W1 ⟨b, rfl, hc⟩
  have H1 := Lib.hid (H0.out.step hc)
  have Q1 := Lib.hid (rowg Q0.out hc.2 (by omega))
  clear hc H0 Q0
  cases b
  · go_wp2_with fail
    refine (pick_any 6 B g A len cap zs (m + 2) W1 H1.out.1 (by omega) (by omega) (by omega)).mono ?_
    rintro e W2 ⟨r, rfl, hr0, hr1, hc⟩
    have H2 := Lib.hid (H1.out.step hc)
    have Q2 := Lib.hid (rowg Q1.out hc.2 (by omega))
    clear hc H1 Q1
    go_wp2_with fail
    refine (pick_any 6 B g A len cap zs (m + 2 + 2) W2 H2.out.1 (by omega) (by omega) (by omega)).mono ?_
    rintro e W3 ⟨r2, rfl, hs0, hs1, hc⟩
    have H3 := Lib.hid (H2.out.step hc)
    have q := rowg Q2.out hc.2 (by omega)
    clear hc H2 Q2
    have q_c := fun j => cell_of_row W3 _ j _ _ _ q
    have q_f := fun j => frozen_of_row W3 _ j _ _ q
    clear q
    go_wp2_with fail
    refine bodyPost_ret (v := .agg #[.int .i64 r, .int .i64 r2]) (by simp [results, Try.results153, go_sem, q_c]) rfl ⟨r, r2, WalkArith.wf_i64 (by omega), WalkArith.wf_i64 (by omega), rfl, ?_⟩
    rw [show m + 6 = m + 2 + 2 + 2 from by omega]
    exact ((CuTo.set H3.out hgl (Nat.le_refl _) _).set hgl (Nat.le_refl _) _)
  · go_wp2_with fail
    generalize hW : (World.alloc _ _ : World) = W1a
    have H1a := Lib.hid (show CuTo B g A len cap zs (m + 2) w W1a by rw [← hW]; exact H1.out.alloc _)
    have Q1a := Lib.hid (show W1a.heap[w.heap.size]? = some (.cells #[.int .i64 0, .int .i64 0] 37 (0, 0)) by rw [← hW]; exact alloc_past Q1.out)
    have L1 := Lib.hid (show ∀ k x, ([-1, 6, 0] : List Int)[k]? = some x → W1a.cell? ⟨W1.heap.size, k, none⟩ = some (.int .i64 x) by rw [← hW]; exact new_ints W1 [-1, 6, 0])
    have hz1 : g < W1.heap.size := H1.out.1.glt
    clear hW H1 Q1
    refine (among_any W1.heap.size 3 [-1, 6, 0] B g A len cap zs (m + 2) W1a H1a.out.1 (by omega) L1.out (by omega) (by decide) (by decide)).mono ?_
    rintro e W2 ⟨x, hx, rfl, hc⟩
    have H2 := Lib.hid (H1a.out.step hc)
    have Q2 := Lib.hid (rowg Q1a.out hc.2 (by omega))
    have hxw : (Lit.int .i64 x).wf = true := by
      simp only [List.mem_cons, List.mem_nil_iff, or_false] at hx
      rcases hx with rfl | rfl | rfl <;> decide
    have HXW := Lib.hid hxw
    clear hc H1a Q1a L1 hx hxw
    go_wp2_with fail
    generalize hW : (World.alloc _ _ : World) = W2a
    have H2a := Lib.hid (show CuTo B g A len cap zs (m + 2 + 2) w W2a by rw [← hW]; exact H2.out.alloc _)
    have Q2a := Lib.hid (show W2a.heap[w.heap.size]? = some (.cells #[.int .i64 0, .int .i64 0] 37 (0, 0)) by rw [← hW]; exact alloc_past Q2.out)
    have L2 := Lib.hid (show ∀ k x, ([6, -1, 4611686018427387904] : List Int)[k]? = some x → W2a.cell? ⟨W2.heap.size, k, none⟩ = some (.int .i64 x) by rw [← hW]; exact new_ints W2 [6, -1, 4611686018427387904])
    have hz2 : g < W2.heap.size := H2.out.1.glt
    clear hW H2 Q2
    refine (among_any W2.heap.size 3 [6, -1, 4611686018427387904] B g A len cap zs (m + 2 + 2) W2a H2a.out.1 (by omega) L2.out (by omega) (by decide) (by decide)).mono ?_
    rintro e W3 ⟨y, hy, rfl, hc⟩
    have H3 := Lib.hid (H2a.out.step hc)
    have q := rowg Q2a.out hc.2 (by omega)
    have hyw : (Lit.int .i64 y).wf = true := by
      simp only [List.mem_cons, List.mem_nil_iff, or_false] at hy
      rcases hy with rfl | rfl | rfl <;> decide
    have HYW := Lib.hid hyw
    clear hc H2a Q2a L2 hy hyw
    have q_c := fun j => cell_of_row W3 _ j _ _ _ q
    have q_f := fun j => frozen_of_row W3 _ j _ _ q
    clear q
    go_wp2_with fail
    refine bodyPost_ret (v := .agg #[.int .i64 x, .int .i64 y]) (by simp [results, Try.results153, go_sem, q_c]) rfl ⟨x, y, HXW.out, HYW.out, rfl, ?_⟩
    rw [show m + 6 = m + 2 + 2 + 2 from by omega]
    exact ((CuTo.set H3.out hgl (Nat.le_refl _) _).set hgl (Nat.le_refl _) _)
end Go.Proofs.Ytpmhnikilianoaa
