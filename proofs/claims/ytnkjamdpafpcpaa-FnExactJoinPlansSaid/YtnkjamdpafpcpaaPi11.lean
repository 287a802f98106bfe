/- CONTRACTS: the sheet of a plan, of the model; all sheets of a plan, of the code. -/
import Derived.Test.YtnkjamdpafpcpaaPh11
import Derived.Test.YtnkjamdpafpcpaaPf11
import Derived.Test.YtnkjamdpafpcpaaRa11
import Derived.StillTailTactics
import Derived.Maps.AppendAt
import Derived.WalkKit
import Derived.ProofKit
import Derived.OpenShut
import Derived.Lib.Hide
import Derived.WalkSpells
import Derived.Below
import Derived.BigQuiet
import Derived.LoopN
namespace Go.Proofs.Ytnkjamdpafpcpaa
open Go.ChangeShapes Go.WideShapes Go.ChangeAt Go.RowKit
set_option linter.unusedVariables false
theorem lnext_11 (f : Fn11) (F : List Fn11) (k : Int) (hk1 : 1 ≤ k) (hk3 : k ≤ 3) (s x y g1 c1 : Nat) (hs : s < F.length) (hx : x < 6) (hy : y < 6) (w : World) (hr : w.rangeAt g1 0 (hv11 (F.map t11))) : Calls Try.prog 197 #[.agg #[.int .i64 (rowv (f 0)), .int .i64 (rowv (f 1)), .int .i64 (rowv (f 2)), .int .i64 (rowv (f 3)), .int .i64 (rowv (f 4)), .int .i64 (rowv (f 5))], .slice (some ⟨g1, 0, none⟩) F.length c1, .agg #[.int .i64 k, .int .i64 (s : Int), .int .i64 (x : Int), .int .i64 (y : Int)]] w fun e w' => e = .returned (.agg #[.int .i64 (rowv (nx11 F f ⟨k, s, x, y⟩ 0)), .int .i64 (rowv (nx11 F f ⟨k, s, x, y⟩ 1)), .int .i64 (rowv (nx11 F f ⟨k, s, x, y⟩ 2)), .int .i64 (rowv (nx11 F f ⟨k, s, x, y⟩ 3)), .int .i64 (rowv (nx11 F f ⟨k, s, x, y⟩ 4)), .int .i64 (rowv (nx11 F f ⟨k, s, x, y⟩ 5))]) ∧ Below w.heap.size w w' := by
  rw [nx11_at F f k hs]
  have : k = 1 ∨ k = 2 ∨ k = 3 := by omega
  rcases this with rfl | rfl | rfl
  · exact lnext_1 f F s x y g1 c1 hs hx hy w hr
  · exact lnext_2 f F s x y g1 c1 hs hx hy w hr
  · exact lnext_3 f F s x y g1 c1 hs hx hy w hr
theorem ipress_11 (m0 m1 m2 m3 m4 m5 : Int) (V2 : Value) (f : Fn11) (F : List Fn11) (k : Int) (hk1 : 1 ≤ k) (hk3 : k ≤ 3) (s x y g1 c1 : Nat) (hs : s < F.length) (hx : x < 6) (hy : y < 6) (w : World) (hr : w.rangeAt g1 0 (hv11 (F.map t11))) : Calls Try.prog 226 #[.agg #[.int .i64 m0, .int .i64 m1, .int .i64 m2, .int .i64 m3, .int .i64 m4, .int .i64 m5, .slice (some ⟨g1, 0, none⟩) F.length c1, V2], .agg #[.int .i64 (rowv (f 0)), .int .i64 (rowv (f 1)), .int .i64 (rowv (f 2)), .int .i64 (rowv (f 3)), .int .i64 (rowv (f 4)), .int .i64 (rowv (f 5))], .agg #[.int .i64 k, .int .i64 (s : Int), .int .i64 (x : Int), .int .i64 (y : Int)]] w fun e w' => e = .returned (.agg #[.int .i64 (rowv (nx11 F f ⟨k, s, x, y⟩ 0)), .int .i64 (rowv (nx11 F f ⟨k, s, x, y⟩ 1)), .int .i64 (rowv (nx11 F f ⟨k, s, x, y⟩ 2)), .int .i64 (rowv (nx11 F f ⟨k, s, x, y⟩ 3)), .int .i64 (rowv (nx11 F f ⟨k, s, x, y⟩ 4)), .int .i64 (rowv (nx11 F f ⟨k, s, x, y⟩ 5))]) ∧ Below w.heap.size w w' := by
  rw [nx11_at F f k hs]
  have : k = 1 ∨ k = 2 ∨ k = 3 := by omega
  rcases this with rfl | rfl | rfl
  · exact ipress_1 m0 m1 m2 m3 m4 m5 V2 f F s x y g1 c1 hs hx hy w hr
  · exact ipress_2 m0 m1 m2 m3 m4 m5 V2 f F s x y g1 c1 hs hx hy w hr
  · exact ipress_3 m0 m1 m2 m3 m4 m5 V2 f F s x y g1 c1 hs hx hy w hr
/-- Midway: the plan's box, and the sheet behind the first steps. -/
def Ra11 (m0 m1 m2 m3 m4 m5 : Int) (V1 V2 : Value) (f : Fn11) (w U : World) : Prop := U.heap[w.heap.size]? = some (o8_11 m0 m1 m2 m3 m4 m5 V1 V2) ∧ U.heap[w.heap.size + 1]? = some (o6_11 f) ∧ U.heap[w.heap.size + 1 + 1]? = some oz ∧ Below w.heap.size w U
theorem Ra11.far {m0 m1 m2 m3 m4 m5 : Int} {V1 V2 : Value} {f : Fn11} {w U V : World} {M : Nat} (h : Ra11 m0 m1 m2 m3 m4 m5 V1 V2 f w U) (hb : Below M U V) (hM : M = U.heap.size) : Ra11 m0 m1 m2 m3 m4 m5 V1 V2 f w V := ⟨rowk h.1 hb hM, rowk h.2.1 hb hM, rowk h.2.2.1 hb hM, below_of h.2.2.2 hb (by have := h.2.2.2.size; omega)⟩
theorem Ra11.put {m0 m1 m2 m3 m4 m5 : Int} {V1 V2 : Value} {f : Fn11} {w U : World} (G : Fn11) (h : Ra11 m0 m1 m2 m3 m4 m5 V1 V2 f w U) : Ra11 m0 m1 m2 m3 m4 m5 V1 V2 G w ((((((U.setCell ⟨w.heap.size + 1, 0, none⟩ (.int .i64 (rowv (G 0)))).setCell ⟨w.heap.size + 1, 1, none⟩ (.int .i64 (rowv (G 1)))).setCell ⟨w.heap.size + 1, 2, none⟩ (.int .i64 (rowv (G 2)))).setCell ⟨w.heap.size + 1, 3, none⟩ (.int .i64 (rowv (G 3)))).setCell ⟨w.heap.size + 1, 4, none⟩ (.int .i64 (rowv (G 4)))).setCell ⟨w.heap.size + 1, 5, none⟩ (.int .i64 (rowv (G 5)))) := by
  have o : ∀ k, k ≠ w.heap.size + 1 → ((((((U.setCell ⟨w.heap.size + 1, 0, none⟩ (.int .i64 (rowv (G 0)))).setCell ⟨w.heap.size + 1, 1, none⟩ (.int .i64 (rowv (G 1)))).setCell ⟨w.heap.size + 1, 2, none⟩ (.int .i64 (rowv (G 2)))).setCell ⟨w.heap.size + 1, 3, none⟩ (.int .i64 (rowv (G 3)))).setCell ⟨w.heap.size + 1, 4, none⟩ (.int .i64 (rowv (G 4)))).setCell ⟨w.heap.size + 1, 5, none⟩ (.int .i64 (rowv (G 5)))).heap[k]? = U.heap[k]? := fun k hne => by
    rw [Below.heap_setCell _ _ _ _ hne, Below.heap_setCell _ _ _ _ hne, Below.heap_setCell _ _ _ _ hne, Below.heap_setCell _ _ _ _ hne, Below.heap_setCell _ _ _ _ hne, Below.heap_setCell _ _ _ _ hne]
  exact ⟨(o _ (by omega)).trans h.1, set6a _ _ _ _ _ _ h.2.1, (o _ (by omega)).trans h.2.2.1, below6 h.2.2.2 (by omega)⟩
set_option maxRecDepth 20000 in
set_option maxHeartbeats 2000000 in
theorem lat_11 (m0 m1 m2 m3 m4 m5 : Int) (f : Fn11) (F : List Fn11) (st : List S11) (g1 c1 g2 c2 n : Nat) (hn : n ≤ st.length) (hst : st.length ≤ 40) (hF : F.length ≤ 4) (hv : ∀ p ∈ st, okS F.length p = true) (w : World) (h1 : w.rangeAt g1 0 (hv11 (F.map t11))) (h2 : w.rangeAt g2 0 (sv11 st)) : Calls Try.prog 132 #[.agg #[.int .i64 m0, .int .i64 m1, .int .i64 m2, .int .i64 m3, .int .i64 m4, .int .i64 m5, .slice (some ⟨g1, 0, none⟩) F.length c1, .slice (some ⟨g2, 0, none⟩) st.length c2], .agg #[.int .i64 (rowv (f 0)), .int .i64 (rowv (f 1)), .int .i64 (rowv (f 2)), .int .i64 (rowv (f 3)), .int .i64 (rowv (f 4)), .int .i64 (rowv (f 5))], .int .i64 (n : Int)] w fun e w' => e = .returned (.agg #[.int .i64 (rowv (at11 F st f n 0)), .int .i64 (rowv (at11 F st f n 1)), .int .i64 (rowv (at11 F st f n 2)), .int .i64 (rowv (at11 F st f n 3)), .int .i64 (rowv (at11 F st f n 4)), .int .i64 (rowv (at11 F st f n 5))]) ∧ Below w.heap.size w w' := by
  have HV := Lib.hid hv
  have R1 := Lib.hid h1
  have R2 := Lib.hid h2
  clear hv h1 h2
  go_enter Try.func132, Try.ntmps132
  go_wp2_with fail
  generalize hW : (World.alloc _ _ : World) = W0
  have S0 : Hid (Ra11 m0 m1 m2 m3 m4 m5 (.slice (some ⟨g1, 0, none⟩) F.length c1) (.slice (some ⟨g2, 0, none⟩) st.length c2) (at11 F st f 0) w W0) := Lib.hid (by
    rw [at11_zero, ← hW]
    exact ⟨alloc_past (alloc_past (alloc_at rfl)), alloc_past (alloc_at (by simp)), alloc_at (by simp), by (repeat (first | exact Below.refl _ _ | assumption | refine Below.setCell ?_ (by first | (simp; done) | (simp; omega)) _ | refine Below.alloc ?_ (by first | (simp; done) | (simp; omega)) _ | refine Below.drew ?_))⟩)
  clear hW
  go_loopw [7] (fun i wr => ∃ k : Nat, k ≤ n ∧ i = .int .i64 k ∧ Hid (Ra11 m0 m1 m2 m3 m4 m5 (.slice (some ⟨g1, 0, none⟩) F.length c1) (.slice (some ⟨g2, 0, none⟩) st.length c2) (at11 F st f k) w wr)) (fun i _ => n - (intOf i).toNat)
  case atStart => exact ⟨0, by omega, rfl, S0⟩
  case round =>
    obtain ⟨k, hk, rfl, HB⟩ := hrel
    by_cases hlt : k < n
    · have hlt' : (k : Int) < n := by omega
      have hk0 : (0 : Int) ≤ k := by omega
      have hk1 : k < st.length := by omega
      have hk2 : (k : Int) < st.length := by omega
      have HD := Lib.hid (HB.out.far (M := wr.heap.size) (Below.refl _ _).drew rfl)
      have r2 := fm_range cs11_len (ra_below R2.out HD.out.2.2.2 rfl) hk1
      have HE := Lib.hid (at11_succ F st f hk1)
      generalize at11 F st f k = G at HB HD HE
      obtain ⟨h3, h4, s, x, y, e1, e2, e3, hs, hx, hy⟩ := okS_get (HV.out _ (List.getElem_mem hk1))
      generalize st[k] = p at r2 HE h3 h4 e1 e2 e3
      obtain ⟨pk, ps, px, py⟩ := p
      dsimp only [cs11] at r2 h3 h4 e1 e2 e3
      subst e1 e2 e3
      have HN := Lib.hid (fun W h => lnext_11 G F pk h3 h4 s x y g1 c1 hs hx hy W h)
      generalize nx11 F G ⟨pk, s, x, y⟩ = G2 at HN HE
      clear h3 h4 hs hx hy
      have q0 := r2 0 _ rfl
      have q1 := r2 1 _ rfl
      have q2 := r2 2 _ rfl
      have q3 := r2 3 _ rfl
      simp only [Nat.add_zero] at q0
      have a_c := fun j => cell_of_row _ _ j _ _ _ HD.out.1
      have d_c := fun j => cell_of_row _ _ j _ _ _ HD.out.2.1
      clear r2
      go_wp2_with fail
      refine wp_region_still_tail 8 (by kernel_rfl) (by kernel_rfl) ?_
      simp only [List.take_succ_cons, List.take_zero, List.drop_succ_cons, List.drop_zero]
      repeat still_step
      refine wpStill_nil ?_
      change wpList _ _ _ _ _ wr.drew
      clear a_c d_c q0 q1 q2 q3
      go_wp2_with fail
      refine (HN.out _ (ra_below R1.out HD.out.2.2.2 rfl)).mono ?_
      rintro e W2 ⟨rfl, hb⟩
      have HA := Lib.hid (HD.out.far hb rfl)
      clear hb HN HD HB
      have d_f := fun j => frozen_of_row W2 _ j _ _ HA.out.2.1
      have d_c := fun j => cell_of_row W2 _ j _ _ _ HA.out.2.1
      go_wp2_with fail
      have HP := Lib.hid (HA.out.put G2)
      rw [← HE.out] at HP
      clear HA d_f d_c
      rw [← HE.out]
      generalize (World.setCell _ _ _ : World) = X at HP ⊢
      go_roundw
      case rel => exact ⟨k + 1, by omega, by go_num, HP⟩
      case measure => simp [intOf]; omega
    · obtain rfl : k = n := by omega
      have d_c := fun j => cell_of_row wr _ j _ _ _ HB.out.2.1
      have z_c := fun j => cell_of_row wr _ j _ _ _ HB.out.2.2.1
      have z_f := fun j => frozen_of_row wr _ j _ _ HB.out.2.2.1
      have HR := Lib.hid HB.out
      obtain ⟨G, hG⟩ : ∃ G, G = at11 F st f k := ⟨_, rfl⟩
      rw [← hG] at HR
      simp only [← hG] at d_c
      have HG := Lib.hid hG
      clear hG HB
      go_wp2_with fail
      have qx := set6a (.int .i64 (rowv (G 0))) (.int .i64 (rowv (G 1))) (.int .i64 (rowv (G 2))) (.int .i64 (rowv (G 3))) (.int .i64 (rowv (G 4))) (.int .i64 (rowv (G 5))) HR.out.2.2.1
      have hB := below6 (g := w.heap.size + 1 + 1) (v0 := .int .i64 (rowv (G 0))) (v1 := .int .i64 (rowv (G 1))) (v2 := .int .i64 (rowv (G 2))) (v3 := .int .i64 (rowv (G 3))) (v4 := .int .i64 (rowv (G 4))) (v5 := .int .i64 (rowv (G 5))) HR.out.2.2.2 (by omega)
      clear d_c z_c z_f
      generalize (World.setCell _ _ _ : World) = X at qx hB ⊢
      have x_c := fun j => cell_of_row X _ j _ _ _ qx
      exact bodyPost_ret (v := .agg #[.int .i64 (rowv (G 0)), .int .i64 (rowv (G 1)), .int .i64 (rowv (G 2)), .int .i64 (rowv (G 3)), .int .i64 (rowv (G 4)), .int .i64 (rowv (G 5))]) (by simp [results, Try.results132, go_sem, x_c]) rfl ⟨by rw [HG.out], hB⟩
end Go.Proofs.Ytnkjamdpafpcpaa
