/- CONTRACTS: a sheet's meetings, the code's. -/
import Derived.Test.YtcjomhjgjdjigaaMx7
import Derived.Test.YtcjomhjgjdjigaaQ7
import Derived.Deep.MidRow
import Derived.WalkKit
import Derived.ProofKit
import Derived.OpenShut
import Derived.Lib.Hide
import Derived.WalkSpells
import Derived.Below
import Derived.BigQuiet
import Derived.LoopN
namespace Go.Proofs.Ytcjomhjgjdjigaa
open Go.ChangeShapes Go.WideShapes Go.ChangeAt Go.RowKit
set_option linter.unusedVariables false
/-- Midway in a round: the list of all vectors too, and in block gc the vector that is looked at. -/
def My7 (w : World) (f : Fn6) (g : Nat) (m : Nat → Int) (gl cl gc x y : Nat) (U : World) : Prop := Mx7 w f g m U ∧ U.ownsRow 0 32 2 (.slice (some ⟨gl, 0, none⟩) (vl 36).length cl) (vl 36).length (cv (vl 36)) ∧ U.heap[gc]? = some (oc x y) ∧ g < gc ∧ g ≠ gl
theorem My7.below {w U U' : World} {f : Fn6} {g gl cl gc x y M : Nat} {m : Nat → Int} (h : My7 w f g m gl cl gc x y U) (hb : Below M U U') (hM : M = U.heap.size) : My7 w f g m gl cl gc x y U' := ⟨h.1.below hb hM, h.2.1.kept (grown_below hb hM) (.inr (by simp [Value.ownBlock])), rowk h.2.2.1 hb hM, h.2.2.2⟩
theorem My7.drew {w U : World} {f : Fn6} {g gl cl gc x y : Nat} {m : Nat → Int} (h : My7 w f g m gl cl gc x y U) : My7 w f g m gl cl gc x y U.drew := h.below (M := U.heap.size) (Below.refl _ _).drew rfl
theorem My7.put {w W : World} {f : Fn6} {g gl cl gc x y k : Nat} {m : Nat → Int} (h : My7 w f g m gl cl gc x y W) (hk : k < 36) (v : Int) : My7 w f g (up36 m k v) gl cl gc x y (W.setCell ⟨g, k, none⟩ (.int .i64 v)) := by
  refine ⟨h.1.put hk v, h.2.1.kept (grow_set W ⟨g, k, none⟩ _) (.inr ?_), ?_, h.2.2.2⟩
  · have := h.2.2.2.2
    simp only [Value.ownBlock, ne_eq, Option.some.injEq]
    omega
  · rw [Below.heap_setCell _ _ _ _ (show gc ≠ g by have := h.2.2.2.1; omega)]; exact h.2.2.1
/-- What a world has in a block's cell. -/
def wm (U : World) (g j : Nat) : Int := intOf ((U.cell? ⟨g, j, none⟩).getD undef)
theorem o36_wm {f : Nat → Int} {U : World} {g : Nat} (h : U.heap[g]? = some (o36 f)) (j : Nat) : U.cell? ⟨g, j, none⟩ = if j < 36 then some (.int .i64 (wm U g j)) else none := by
  by_cases hj : j < 36
  · unfold wm
    rw [o36_at h hj, if_pos hj]
    rfl
  · rw [o36_map] at h
    rw [cell_of_row U g j _ _ _ h]
    simp [hj]
def Mz7 (w : World) (f : Fn6) (g gl cl gc x y : Nat) (U : World) : Prop := ∃ m, My7 w f g m gl cl gc x y U
theorem SKy {w U : World} {f : Fn6} {g gl cl gc x y : Nat} {m : Nat → Int} (h : My7 w f g m gl cl gc x y U) : U.cell? ⟨w.heap.size, 0, none⟩ = some (.int .i64 (rowv (f 0))) ∧ U.cell? ⟨w.heap.size, 1, none⟩ = some (.int .i64 (rowv (f 1))) ∧ U.cell? ⟨w.heap.size, 2, none⟩ = some (.int .i64 (rowv (f 2))) ∧ U.cell? ⟨w.heap.size, 3, none⟩ = some (.int .i64 (rowv (f 3))) ∧ U.cell? ⟨w.heap.size, 4, none⟩ = some (.int .i64 (rowv (f 4))) ∧ U.cell? ⟨w.heap.size, 5, none⟩ = some (.int .i64 (rowv (f 5))) ∧ U.cell? ⟨gc, 0, none⟩ = some (.int .i64 (x : Int)) ∧ U.cell? ⟨gc, 1, none⟩ = some (.int .i64 (y : Int)) ∧ (∀ j, U.cell? ⟨g, j, none⟩ = if j < 36 then some (.int .i64 (wm U g j)) else none) ∧ (∀ j, U.frozen? ⟨g, j, none⟩ = false) ∧ Mz7 w f g gl cl gc x y U := by
  have h0 := fun j => cell_of_row U _ j _ _ _ h.1.1
  have h2 := fun j => cell_of_row U _ j _ _ _ h.2.2.1
  exact ⟨h0 0, h0 1, h0 2, h0 3, h0 4, h0 5, h2 0, h2 1, o36_wm h.1.2.2.1, fun j => frozen_of_row U _ j _ _ (by have := h.1.2.2.1; unfold o36 at this; exact this), m, h⟩
theorem results_cell1 {fn : Func} {tmps : Array Value} {a : Nat} {t : TypeId} {x : Addr} {v : Value} {X : World} (hres : fn.results = #[.cell a t]) (hx : tmps.getD a undef = .pointer (some x)) (hl : (loadVar t x).run Try.prog X = .ok v X) : (results fn tmps).run Try.prog X = .ok v X := by
  have hx' : tmps[a]?.getD undef = .pointer (some x) := by simpa using hx
  unfold results
  rw [hres]
  simp [hx', asAddr, hl, Array.mapM_eq_mapM_toList]
theorem below_cells {w : World} {B b : Nat} : ∀ (vs : List Value) (o : Nat) {W : World}, Below B w W → B ≤ b → Below B w (W.setCells b o vs)
  | [], _, _, h, _ => h
  | v :: r, o, W, h, hb => by
    rw [World.setCells]
    exact below_cells r (o + 1) (h.setCell hb v) hb
set_option maxRecDepth 20000 in
set_option maxHeartbeats 2000000 in
theorem imeet_f (f : Fn6) (w : World) : Calls Try.prog 105 #[.agg #[.int .i64 (rowv (f 0)), .int .i64 (rowv (f 1)), .int .i64 (rowv (f 2)), .int .i64 (rowv (f 3)), .int .i64 (rowv (f 4)), .int .i64 (rowv (f 5))]] w fun e w' => e = .returned (v36 (mt7 f 36)) ∧ Below w.heap.size w w' := by
  have HV := Lib.hid vectors_f
  go_enter Try.func105, Try.ntmps105
  go_wp2_with fail
  have S0 : Hid (Mx7 w f (w.heap.size + 1 + 1) (mt7 f 0) (((w.alloc (o6 f)).alloc (o36 fun _ => 0)).alloc (o36 fun _ => 0))) := Lib.hid ⟨alloc_past (alloc_past (alloc_at rfl)), alloc_past (alloc_at (by simp)), alloc_at (by simp), by omega, by simp, by (repeat (first | exact Below.refl _ _ | assumption | refine Below.setCell ?_ (by first | (simp; done) | (simp; omega)) _ | refine Below.alloc ?_ (by first | (simp; done) | (simp; omega)) _ | refine Below.drew ?_))⟩
  unfold o36 o6 at S0
  generalize (World.alloc _ _ : World) = W1 at S0 ⊢
  refine (HV.out _).mono ?_
  intro e W4 hp
  obtain ⟨gl, cl, rfl, ho, hb⟩ := LP.out hp
  have hl := (ho.lt gl rfl).1
  have ho0 := own_mono ho (Nat.zero_le _)
  have S4 : Hid (Mx7 w f (w.heap.size + 1 + 1) (mt7 f 0) W4 ∧ W4.ownsRow 0 32 2 (.slice (some ⟨gl, 0, none⟩) (vl 36).length cl) (vl 36).length (cv (vl 36)) ∧ w.heap.size + 1 + 1 ≠ gl) := Lib.hid ⟨S0.out.below hb rfl, ho0, by have := S0.out.2.2.2.2.1; omega⟩
  clear S0 ho0 hp hb HV hl ho
  have h36 : ((vl 36).length : Int) = 36 := by rw [vl_len]; rfl
  go_wp2_with fail
  go_loopw [8] (fun n wr => ∃ k : Nat, k ≤ 36 ∧ n = .int .i64 k ∧ Hid (Mx7 w f (w.heap.size + 1 + 1) (mt7 f k) wr ∧ wr.ownsRow 0 32 2 (.slice (some ⟨gl, 0, none⟩) (vl 36).length cl) (vl 36).length (cv (vl 36)) ∧ w.heap.size + 1 + 1 ≠ gl)) (fun n _ => 36 - (intOf n).toNat)
  case atStart => exact ⟨0, by omega, rfl, S4⟩
  case round =>
    obtain ⟨k, hk, rfl, HS⟩ := hrel
    by_cases hlt : k < 36
    · have hlt' : (k : Int) < 36 := by omega
      have hltv : k < (vl 36).length := by rw [vl_len]; exact hlt
      have hk0 : (0 : Int) ≤ k := by omega
      have hx : k / 6 < 6 := by omega
      have hy : k % 6 < 6 := Nat.mod_lt _ (by decide)
      have H1 := Lib.hid (shiftedby_n f hx hy)
      have H2 := Lib.hid (ishared_f f (sf (k / 6) (k % 6) f))
      have H3 := Lib.hid (fieldof_s (af f (sf (k / 6) (k % 6) f)))
      have H4 := Lib.hid (fsize_s (af f (sf (k / 6) (k % 6) f)))
      have e6 : 6 * (k / 6) + k % 6 = k := by omega
      obtain ⟨p1, p2⟩ := cv_at (vl 36) k hltv
      rw [vl_get 36 k hltv] at p1 p2
      have a1 := own_at HS.out.2.1 p1
      have a2 := own_at HS.out.2.1 p2
      dsimp only at a1 a2
      clear p1 p2
      have HST := Lib.hid (mt7_step f k)
      obtain ⟨s, hs⟩ : ∃ s, s = pc36 (af f (sf (k / 6) (k % 6) f)) := ⟨_, rfl⟩
      rw [← hs] at H4 HST
      clear hs
      generalize fd36 (af f (sf (k / 6) (k % 6) f)) = n at *
      generalize af f (sf (k / 6) (k % 6) f) = q at *
      generalize sf (k / 6) (k % 6) f = p at *
      have E6 := Lib.hid e6
      clear e6
      generalize k / 6 = x at *
      generalize k % 6 = y at *
      go_wp2_with fail
      have hq : My7 w f (w.heap.size + 1 + 1) (mt7 f k) gl cl wr.heap.size x y (wr.alloc (.cells #[.int .i64 (x : Int), .int .i64 (y : Int)] 32)) := ⟨HS.out.1.below ((Below.refl _ _).alloc (Nat.le_refl _) _) rfl, HS.out.2.1.alloc _, alloc_at rfl, HS.out.1.2.2.2.2.1, HS.out.2.2⟩
      clear HS a1 a2
      generalize mt7 f k = mm at hq HST
      have hxy : x * 6 + y < 36 := by omega
      have hxy2 : 6 * x + y < 36 := by omega
      have hxi : (x : Int) < 6 := by omega
      have hyi : (y : Int) < 6 := by omega
      have hx0 : (0 : Int) ≤ x := by omega
      have hy0 : (0 : Int) ≤ y := by omega
      generalize (World.alloc _ _ : World) = W5 at hq ⊢
      generalize wr.heap.size = gc at hq ⊢
      go_region_held3 (fun U => U.cell? ⟨w.heap.size, 0, none⟩ = some (.int .i64 (rowv (f 0))) ∧ U.cell? ⟨w.heap.size, 1, none⟩ = some (.int .i64 (rowv (f 1))) ∧ U.cell? ⟨w.heap.size, 2, none⟩ = some (.int .i64 (rowv (f 2))) ∧ U.cell? ⟨w.heap.size, 3, none⟩ = some (.int .i64 (rowv (f 3))) ∧ U.cell? ⟨w.heap.size, 4, none⟩ = some (.int .i64 (rowv (f 4))) ∧ U.cell? ⟨w.heap.size, 5, none⟩ = some (.int .i64 (rowv (f 5))) ∧ U.cell? ⟨gc, 0, none⟩ = some (.int .i64 (x : Int)) ∧ U.cell? ⟨gc, 1, none⟩ = some (.int .i64 (y : Int)) ∧ (∀ j, U.cell? ⟨w.heap.size + 1 + 1, j, none⟩ = if j < 36 then some (.int .i64 (wm U (w.heap.size + 1 + 1) j)) else none) ∧ (∀ j, U.frozen? ⟨w.heap.size + 1 + 1, j, none⟩ = false) ∧ Mz7 w f (w.heap.size + 1 + 1) gl cl gc x y U) (first | (with_reducible refine SKy (m := mm) ?_; (first | with_reducible assumption | (with_reducible refine My7.drew ?_; with_reducible assumption))) | (with_reducible refine SKy (m := up36 mm (x * 6 + y) s) ?_; (first | (with_reducible refine My7.put ?_ hxy _; (first | with_reducible assumption | (with_reducible refine My7.drew ?_; with_reducible assumption))) | (with_reducible refine My7.drew ?_; with_reducible refine My7.put ?_ hxy _; with_reducible assumption)))) (first | (go_at_call 127; with_reducible refine (H1.out _).mono ?_; rintro e w' ⟨rfl, hb'⟩; have hq : My7 w f (w.heap.size + 1 + 1) mm gl cl gc x y w' := My7.below (by (first | with_reducible assumption | (with_reducible refine My7.drew ?_; with_reducible assumption))) hb' rfl) | (go_at_call 107; with_reducible refine (H2.out _).mono ?_; rintro e w' ⟨rfl, hb'⟩; have hq : My7 w f (w.heap.size + 1 + 1) mm gl cl gc x y w' := My7.below (by (first | with_reducible assumption | (with_reducible refine My7.drew ?_; with_reducible assumption))) hb' rfl) | (go_at_call 135; with_reducible refine (H3.out _).mono ?_; rintro e w' ⟨rfl, hb'⟩; have hq : My7 w f (w.heap.size + 1 + 1) mm gl cl gc x y w' := My7.below (by (first | with_reducible assumption | (with_reducible refine My7.drew ?_; with_reducible assumption))) hb' rfl) | (go_at_call 136; with_reducible refine (H4.out _).mono ?_; rintro e w' ⟨rfl, hb'⟩; have hq : My7 w f (w.heap.size + 1 + 1) mm gl cl gc x y w' := My7.below (by (first | with_reducible assumption | (with_reducible refine My7.drew ?_; with_reducible assumption))) hb' rfl))
      all_goals
        have HJ := Lib.hid (hq.put hxy s)
        rename_i hS
        clear hS hq H1 H2 H3 H4
        generalize (World.setCell _ _ _ : World) = X at HJ ⊢
        go_wp2_with fail
        go_roundw
        case rel => exact ⟨k + 1, by omega, by go_num, Lib.hid ⟨by rw [← HST.out, ← show x * 6 + y = k by have := E6.out; omega]; exact HJ.out.1, HJ.out.2.1, HJ.out.2.2.2.2⟩⟩
        case measure => simp [intOf]; omega
    · obtain rfl : k = 36 := by omega
      have q1 := HS.out.1.2.1
      have q2 := HS.out.1.2.2.1
      have hB := HS.out.1.2.2.2.2.2
      clear HS S4
      obtain ⟨m, hm⟩ : ∃ m, m = mt7 f 36 := ⟨_, rfl⟩
      rw [← hm] at q2
      have HM := Lib.hid hm
      clear hm
      have hc : wr.rangeAt (w.heap.size + 1 + 1) 0 [.int .i64 (m 0), .int .i64 (m 1), .int .i64 (m 2), .int .i64 (m 3), .int .i64 (m 4), .int .i64 (m 5), .int .i64 (m 6), .int .i64 (m 7), .int .i64 (m 8), .int .i64 (m 9), .int .i64 (m 10), .int .i64 (m 11), .int .i64 (m 12), .int .i64 (m 13), .int .i64 (m 14), .int .i64 (m 15), .int .i64 (m 16), .int .i64 (m 17), .int .i64 (m 18), .int .i64 (m 19), .int .i64 (m 20), .int .i64 (m 21), .int .i64 (m 22), .int .i64 (m 23), .int .i64 (m 24), .int .i64 (m 25), .int .i64 (m 26), .int .i64 (m 27), .int .i64 (m 28), .int .i64 (m 29), .int .i64 (m 30), .int .i64 (m 31), .int .i64 (m 32), .int .i64 (m 33), .int .i64 (m 34), .int .i64 (m 35)] := by
        intro j v hv
        rw [Nat.zero_add, cell_of_row wr _ j _ _ _ (by unfold o36 at q2; exact q2)]
        simpa using hv
      have ht : wr.there (w.heap.size + 1) 0 36 := by
        intro j hj
        refine ⟨?_, frozen_of_row wr _ _ _ _ (by unfold o36 at q1; exact q1)⟩
        rw [Nat.zero_add, o36_at q1 hj]
        rfl
      have hc := Lib.hid hc
      have ht := Lib.hid ht
      clear q1 q2
      go_wp2_with (first | refine wpList_load_mid rfl 23 (.tmp 3) rfl (w.heap.size + 1 + 1) 0 rfl [.int .i64 (m 0), .int .i64 (m 1), .int .i64 (m 2), .int .i64 (m 3), .int .i64 (m 4), .int .i64 (m 5), .int .i64 (m 6), .int .i64 (m 7), .int .i64 (m 8), .int .i64 (m 9), .int .i64 (m 10), .int .i64 (m 11), .int .i64 (m 12), .int .i64 (m 13), .int .i64 (m 14), .int .i64 (m 15), .int .i64 (m 16), .int .i64 (m 17), .int .i64 (m 18), .int .i64 (m 19), .int .i64 (m 20), .int .i64 (m 21), .int .i64 (m 22), .int .i64 (m 23), .int .i64 (m 24), .int .i64 (m 25), .int .i64 (m 26), .int .i64 (m 27), .int .i64 (m 28), .int .i64 (m 29), .int .i64 (m 30), .int .i64 (m 31), .int .i64 (m 32), .int .i64 (m 33), .int .i64 (m 34), .int .i64 (m 35)] (.array 6 22) hc.out (by kernel_rfl) rfl (by kernel_rfl) ?_ | refine wpList_store_mid rfl 23 (.tmp 2) (.tmp 26) rfl (w.heap.size + 1) 0 #[.int .i64 (m 0), .int .i64 (m 1), .int .i64 (m 2), .int .i64 (m 3), .int .i64 (m 4), .int .i64 (m 5), .int .i64 (m 6), .int .i64 (m 7), .int .i64 (m 8), .int .i64 (m 9), .int .i64 (m 10), .int .i64 (m 11), .int .i64 (m 12), .int .i64 (m 13), .int .i64 (m 14), .int .i64 (m 15), .int .i64 (m 16), .int .i64 (m 17), .int .i64 (m 18), .int .i64 (m 19), .int .i64 (m 20), .int .i64 (m 21), .int .i64 (m 22), .int .i64 (m 23), .int .i64 (m 24), .int .i64 (m 25), .int .i64 (m 26), .int .i64 (m 27), .int .i64 (m 28), .int .i64 (m 29), .int .i64 (m 30), .int .i64 (m 31), .int .i64 (m 32), .int .i64 (m 33), .int .i64 (m 34), .int .i64 (m 35)] rfl rfl ht.out (by kernel_rfl) (by kernel_rfl) ?_)
      have hB' := below_cells (b := w.heap.size + 1) [.int .i64 (m 0), .int .i64 (m 1), .int .i64 (m 2), .int .i64 (m 3), .int .i64 (m 4), .int .i64 (m 5), .int .i64 (m 6), .int .i64 (m 7), .int .i64 (m 8), .int .i64 (m 9), .int .i64 (m 10), .int .i64 (m 11), .int .i64 (m 12), .int .i64 (m 13), .int .i64 (m 14), .int .i64 (m 15), .int .i64 (m 16), .int .i64 (m 17), .int .i64 (m 18), .int .i64 (m 19), .int .i64 (m 20), .int .i64 (m 21), .int .i64 (m 22), .int .i64 (m 23), .int .i64 (m 24), .int .i64 (m 25), .int .i64 (m 26), .int .i64 (m 27), .int .i64 (m 28), .int .i64 (m 29), .int .i64 (m 30), .int .i64 (m 31), .int .i64 (m 32), .int .i64 (m 33), .int .i64 (m 34), .int .i64 (m 35)] 0 hB (by omega)
      have hr := World.rangeAt_setCells_same wr (w.heap.size + 1) 0 [.int .i64 (m 0), .int .i64 (m 1), .int .i64 (m 2), .int .i64 (m 3), .int .i64 (m 4), .int .i64 (m 5), .int .i64 (m 6), .int .i64 (m 7), .int .i64 (m 8), .int .i64 (m 9), .int .i64 (m 10), .int .i64 (m 11), .int .i64 (m 12), .int .i64 (m 13), .int .i64 (m 14), .int .i64 (m 15), .int .i64 (m 16), .int .i64 (m 17), .int .i64 (m 18), .int .i64 (m 19), .int .i64 (m 20), .int .i64 (m 21), .int .i64 (m 22), .int .i64 (m 23), .int .i64 (m 24), .int .i64 (m 25), .int .i64 (m 26), .int .i64 (m 27), .int .i64 (m 28), .int .i64 (m 29), .int .i64 (m 30), .int .i64 (m 31), .int .i64 (m 32), .int .i64 (m 33), .int .i64 (m 34), .int .i64 (m 35)] ht.out
      generalize (World.setCells _ _ _ _ : World) = X at hB' hr ⊢
      have hl := run_loadVar_mid (P := Try.prog) X (w.heap.size + 1) 0 23 [.int .i64 (m 0), .int .i64 (m 1), .int .i64 (m 2), .int .i64 (m 3), .int .i64 (m 4), .int .i64 (m 5), .int .i64 (m 6), .int .i64 (m 7), .int .i64 (m 8), .int .i64 (m 9), .int .i64 (m 10), .int .i64 (m 11), .int .i64 (m 12), .int .i64 (m 13), .int .i64 (m 14), .int .i64 (m 15), .int .i64 (m 16), .int .i64 (m 17), .int .i64 (m 18), .int .i64 (m 19), .int .i64 (m 20), .int .i64 (m 21), .int .i64 (m 22), .int .i64 (m 23), .int .i64 (m 24), .int .i64 (m 25), .int .i64 (m 26), .int .i64 (m 27), .int .i64 (m 28), .int .i64 (m 29), .int .i64 (m 30), .int .i64 (m 31), .int .i64 (m 32), .int .i64 (m 33), .int .i64 (m 34), .int .i64 (m 35)] (.array 6 22) hr (by kernel_rfl) rfl (by kernel_rfl)
      rw [← HM.out]
      clear hr hc ht HM hB
      exact bodyPost_ret (v := v36 m) (results_cell1 (a := 2) (t := 23) rfl rfl hl) rfl ⟨rfl, hB'⟩
end Go.Proofs.Ytcjomhjgjdjigaa
