/- CONTRACTS: the draws of CountKept and of CountClasses. -/
import Derived.Test.YtpmhnikilianoaaDv
import Derived.WalkKit
import Derived.ProofKit
import Derived.OpenShut
import Derived.Lib.Hide
import Derived.WalkSpells
import Derived.Below
import Derived.BigQuiet
import Derived.LoopN
namespace Go.Proofs.Ytpmhnikilianoaa
open Go.ChangeShapes Go.WideShapes Go.ChangeAt Go.RowKit
set_option linter.unusedVariables false
/-- One of the first n of a list of numbers that lies in a block. -/
theorem amongl (L : List Int) (bl n c2 : Nat) (B g : Nat) (A : Option Addr) (len cap : Nat) (zs : List Int) (m : Int) (w : World) (h : Cu w B g A len cap zs m) (hm : m ≤ 900000) (hl : w.heap[bl]? = some (.cells ((L.map (Value.int .i64)).toArray) 3 (0, 0))) (hne : bl ≠ g) (hn0 : 0 < n) (hn1 : n ≤ L.length) (hL : L.length ≤ 100) : Calls Try.prog 148 #[.pointer (some ⟨g, 0, none⟩), .slice (some ⟨bl, 0, none⟩) n c2] w fun e w' => ∃ x, x ∈ L ∧ e = .returned (.int .i64 x) ∧ CuTo B g A len cap zs (m + 2) w w' := by
  have hlen : (L.take n).length = n := by rw [List.length_take]; omega
  have H := among_any bl c2 (L.take n) B g A len cap zs m w h hm (fun k x hx => by
    rw [cell_of_row w bl k _ _ _ hl]
    have hk : L[k]? = some x := by
      rw [List.getElem?_take] at hx
      split at hx
      · exact hx
      · cases hx
    rw [List.getElem?_toArray, List.getElem?_map, hk]
    rfl) hne (by rw [hlen]; exact hn0) (by rw [hlen]; omega)
  rw [hlen] at H
  refine H.mono ?_
  rintro e w' ⟨x, hx, rfl, hc⟩
  exact ⟨x, List.mem_of_mem_take hx, rfl, hc⟩
def LC7 : List Int := [2, 3, 4, 1, 0, 6, 18, 36, 37, -1]
def LK7 : List Int := [6, 4, 2, 3, 12, 18, 0, 36, 1, 37, -1]
theorem LC7_wf {x : Int} (h : x ∈ LC7) : (Lit.int .i64 x).wf = true := by
  simp only [LC7, List.mem_cons, List.mem_nil_iff, or_false] at h
  exact WalkArith.wf_i64 (by omega)
theorem LK7_wf {x : Int} (h : x ∈ LK7) : (Lit.int .i64 x).wf = true := by
  simp only [LK7, List.mem_cons, List.mem_nil_iff, or_false] at h
  exact WalkArith.wf_i64 (by omega)
theorem set2d {k : Nat} {W : World} {v0 v1 : Value} {t : TypeId} (u0 u1 : Value) (h : W.heap[k]? = some (Obj.cells #[v0, v1] t (0, 0))) : ((W.setCell ⟨k, 0, none⟩ u0).setCell ⟨k, 1, none⟩ u1).heap[k]? = some (Obj.cells #[u0, u1] t (0, 0)) := by
  have e0 : (W.setCell ⟨k, 0, none⟩ u0).heap[k]? = some (Obj.cells #[u0, v1] t (0, 0)) := heap_setCell_same W k 0 _ t u0 h
  exact heap_setCell_same _ k 1 _ t u1 e0
theorem q11 {r : Int} (h0 : 0 ≤ r) (h1 : r < 24 ∨ r = 0) : r.tdiv 11 = 0 ∨ r.tdiv 11 = 1 ∨ r.tdiv 11 = 2 := by
  rw [Int.tdiv_eq_ediv_of_nonneg h0]
  omega
set_option maxHeartbeats 1000000 in
theorem draw_classes (B : Nat) (A : Option Addr) (len cap : Nat) (zs : List Int) (w : World) (hcode : CodeIn w B A len zs) (hB : B ≤ w.heap.size) (hl : len ≤ 65536) : Calls Try.prog 79 #[.slice A len cap] w fun e w' => ∃ s : Int, e = .returned (.int .i64 s) ∧ (Lit.int .i64 s).wf = true ∧ Below w.heap.size w w' := by
  have hc0 := cu_new (cap := cap) hcode hB hl
  have HC0 := Lib.hid hc0
  clear hc0 hcode
  go_enter Try.func79, Try.ntmps79
  go_wp2_with fail
  have hcu := Lib.hid (HC0.out.alloc (.cells ((LC7.map (Value.int .i64)).toArray) 3 (0, 0)))
  have hrow : ((w.alloc (.cells #[.slice A len cap, .int .i64 0, .int .u64 0] 134)).alloc (.cells ((LC7.map (Value.int .i64)).toArray) 3 (0, 0))).heap[w.heap.size + 1]? = some (.cells ((LC7.map (Value.int .i64)).toArray) 3 (0, 0)) := alloc_at (by simp)
  have hB0 : Below w.heap.size w ((w.alloc (.cells #[.slice A len cap, .int .i64 0, .int .u64 0] 134)).alloc (.cells ((LC7.map (Value.int .i64)).toArray) 3 (0, 0))) := by (repeat (first | exact Below.refl _ _ | assumption | refine Below.setCell ?_ (by first | (simp; done) | (simp; omega)) _ | refine Below.alloc ?_ (by first | (simp; done) | (simp; omega)) _ | refine Below.drew ?_))
  have hrow := Lib.hid hrow
  refine (pick_any 24 B w.heap.size A len cap zs 0 _ hcu.out (by omega) (by omega) (by omega)).mono ?_
  intro e V1 hp
  obtain ⟨r, rfl, h0, h1, hc⟩ := hp
  have hr1 := Lib.hid (rowg hrow.out hc.2 (show w.heap.size + 1 ≠ w.heap.size by omega))
  have hB1 := below_to hB0 hc.2 (Nat.le_refl _)
  have HC1 := Lib.hid hc.1
  have hq := q11 h0 h1
  clear hc hrow hB0 hcu HC0 h1
  rcases hq with hq | hq | hq
  all_goals
    go_wp2_with fail
    refine (amongl LC7 (w.heap.size + 1) _ _ B w.heap.size A len cap zs (0 + 2) V1 HC1.out (by omega) hr1.out (by omega) (by decide) (by decide) (by decide)).mono ?_
    rintro e V2 ⟨x, hx, rfl, hc⟩
    have hB2 := below_to hB1 hc.2 (Nat.le_refl _)
    have hw := LC7_wf hx
    clear hc HC1 hr1 hB1 hx
    go_wp2_with fail
    go_ret
    exact ⟨x, rfl, hw, hB2⟩
set_option maxHeartbeats 1000000 in
theorem draw_kept (B : Nat) (A : Option Addr) (len cap : Nat) (zs : List Int) (w : World) (hcode : CodeIn w B A len zs) (hB : B ≤ w.heap.size) (hl : len ≤ 65536) : Calls Try.prog 78 #[.slice A len cap] w fun e w' => ∃ x y s : Int, e = .returned (.tuple #[.agg #[.int .i64 x, .int .i64 y], .int .i64 s]) ∧ (Lit.int .i64 x).wf = true ∧ (Lit.int .i64 y).wf = true ∧ (Lit.int .i64 s).wf = true ∧ Below w.heap.size w w' := by
  have hc0 := cu_new (W := w.alloc (.cells #[.int .i64 0, .int .i64 0] 37)) (cap := cap) (hcode.below (N := w.heap.size) (by (repeat (first | exact Below.refl _ _ | assumption | refine Below.setCell ?_ (by first | (simp; done) | (simp; omega)) _ | refine Below.alloc ?_ (by first | (simp; done) | (simp; omega)) _ | refine Below.drew ?_))) hB) (by simp; omega) hl
  have hz : ((w.alloc (.cells #[.int .i64 0, .int .i64 0] 37)).alloc (.cells #[.slice A len cap, .int .i64 0, .int .u64 0] 134)).heap[w.heap.size]? = some (.cells #[.int .i64 0, .int .i64 0] 37 (0, 0)) := alloc_past (alloc_at rfl)
  have hB0 : Below w.heap.size w ((w.alloc (.cells #[.int .i64 0, .int .i64 0] 37)).alloc (.cells #[.slice A len cap, .int .i64 0, .int .u64 0] 134)) := by (repeat (first | exact Below.refl _ _ | assumption | refine Below.setCell ?_ (by first | (simp; done) | (simp; omega)) _ | refine Below.alloc ?_ (by first | (simp; done) | (simp; omega)) _ | refine Below.drew ?_))
  rw [show (w.alloc (.cells #[.int .i64 0, .int .i64 0] 37)).heap.size = w.heap.size + 1 by simp] at hc0
  have HC0 := Lib.hid hc0
  have HZ := Lib.hid hz
  clear hc0 hcode hz
  go_enter Try.func78, Try.ntmps78
  go_wp2_with fail
  refine (cell_any B (w.heap.size + 1) A len cap zs 0 _ HC0.out (by omega)).mono ?_
  intro e V0 hp
  obtain ⟨x, y, hx, hy, rfl, hc⟩ := hp
  have HZ1 := Lib.hid (rowg HZ.out hc.2 (show w.heap.size ≠ w.heap.size + 1 by omega))
  have hB1 := below_to hB0 hc.2 (by omega)
  have HC1 := Lib.hid hc.1
  clear hc HC0 HZ hB0
  go_wp2_with fail
  have hgl := HC1.out.glt
  obtain ⟨bl, hbl⟩ : ∃ bl, bl = V0.heap.size := ⟨_, rfl⟩
  have hcu := Lib.hid (HC1.out.alloc (.cells ((LK7.map (Value.int .i64)).toArray) 3 (0, 0)))
  have hrow : (V0.alloc (.cells ((LK7.map (Value.int .i64)).toArray) 3 (0, 0))).heap[V0.heap.size]? = some (.cells ((LK7.map (Value.int .i64)).toArray) 3 (0, 0)) := alloc_at rfl
  have HR := Lib.hid hrow
  have HZ2 : Hid ((V0.alloc (.cells ((LK7.map (Value.int .i64)).toArray) 3 (0, 0))).heap[w.heap.size]? = _) := Lib.hid (alloc_past HZ1.out)
  have hB2 := hB1.alloc hB1.size (.cells ((LK7.map (Value.int .i64)).toArray) 3 (0, 0))
  clear hrow HZ1 hB1 HC1
  refine (pick_any 24 B (w.heap.size + 1) A len cap zs (0 + 6) _ hcu.out (by omega) (by omega) (by omega)).mono ?_
  intro e V1 hp
  obtain ⟨r, rfl, h0, h1, hc⟩ := hp
  have hr1 := Lib.hid (rowg HR.out hc.2 (show V0.heap.size ≠ w.heap.size + 1 by omega))
  have HZ3 := Lib.hid (rowg HZ2.out hc.2 (show w.heap.size ≠ w.heap.size + 1 by omega))
  have hB3 := below_to hB2 hc.2 (by omega)
  have HC2 := Lib.hid hc.1
  have hq := q11 h0 h1
  clear hc HR HZ2 hB2 hcu h1
  rw [← hbl] at hr1 ⊢
  have hne : bl ≠ w.heap.size + 1 := by omega
  clear hbl hgl
  rcases hq with hq | hq | hq
  all_goals
    go_wp2_with fail
    refine (amongl LK7 bl _ _ B (w.heap.size + 1) A len cap zs (0 + 6 + 2) V1 HC2.out (by omega) hr1.out hne (by decide) (by decide) (by decide)).mono ?_
    rintro e V2 ⟨s, hs, rfl, hc⟩
    have hz4 := rowg HZ3.out hc.2 (show w.heap.size ≠ w.heap.size + 1 by omega)
    have hB4 := below_to hB3 hc.2 (by omega)
    have hw := LK7_wf hs
    clear hc HC2 hr1 hB3 hs HZ3
    have z_c := fun j => cell_of_row _ _ j _ _ _ hz4
    have z_f := fun j => frozen_of_row _ _ j _ _ hz4
    go_wp2_with fail
    have qr := set2d (.int .i64 x) (.int .i64 y) hz4
    have hB5 := (hB4.setCell (p := ⟨w.heap.size, 0, none⟩) (Nat.le_refl _) (.int .i64 x)).setCell (p := ⟨w.heap.size, 1, none⟩) (Nat.le_refl _) (.int .i64 y)
    clear z_c z_f hz4 hB4
    generalize (World.setCell _ _ _ : World) = X at qr hB5 ⊢
    have x_c := fun j => cell_of_row X _ j _ _ _ qr
    exact bodyPost_ret (v := .tuple #[.agg #[.int .i64 x, .int .i64 y], .int .i64 s]) (by simp [results, Try.results78, go_sem, x_c]) rfl ⟨x, y, s, rfl, hx, hy, hw, hB5⟩
end Go.Proofs.Ytpmhnikilianoaa
