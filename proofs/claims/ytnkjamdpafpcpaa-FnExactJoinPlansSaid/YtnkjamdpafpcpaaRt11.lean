/- CONTRACTS: the laws' copy of a plan, its size, and equal plans. -/
import Derived.Test.YtnkjamdpafpcpaaRb11
import Derived.Test.YtnkjamdpafpcpaaPf11
import Derived.WalkKit
import Derived.ProofKit
import Derived.OpenShut
import Derived.Lib.Hide
import Derived.WalkSpells
import Derived.Below
import Derived.BigQuiet
import Derived.LoopN
namespace Go.Proofs.Ytnkjamdpafpcpaa
open Go.ChangeShapes Go.WideShapes Go.ChangeAt Go.RowKit
set_option linter.unusedVariables false
theorem set8a {g : Nat} {W : World} {T : TypeId} {v0 v1 v2 v3 v4 v5 v6 v7 : Value} (u0 u1 u2 u3 u4 u5 : Value) (h : W.heap[g]? = some (.cells #[v0, v1, v2, v3, v4, v5, v6, v7] T (0, 0))) : ((((((W.setCell ⟨g, 0, none⟩ u0).setCell ⟨g, 1, none⟩ u1).setCell ⟨g, 2, none⟩ u2).setCell ⟨g, 3, none⟩ u3).setCell ⟨g, 4, none⟩ u4).setCell ⟨g, 5, none⟩ u5).heap[g]? = some (.cells #[u0, u1, u2, u3, u4, u5, v6, v7] T (0, 0)) := by
  have h0 := heap_setCell_same W g 0 _ _ u0 h
  have h1 := heap_setCell_same _ g 1 _ _ u1 h0
  have h2 := heap_setCell_same _ g 2 _ _ u2 h1
  have h3 := heap_setCell_same _ g 3 _ _ u3 h2
  have h4 := heap_setCell_same _ g 4 _ _ u4 h3
  exact heap_setCell_same _ g 5 _ _ u5 h4
theorem set8b {g : Nat} {W : World} {T : TypeId} {v0 v1 v2 v3 v4 v5 v6 v7 : Value} (u0 u1 u2 u3 u4 u5 u6 u7 : Value) (h : W.heap[g]? = some (.cells #[v0, v1, v2, v3, v4, v5, v6, v7] T (0, 0))) : ((((((((W.setCell ⟨g, 0, none⟩ u0).setCell ⟨g, 1, none⟩ u1).setCell ⟨g, 2, none⟩ u2).setCell ⟨g, 3, none⟩ u3).setCell ⟨g, 4, none⟩ u4).setCell ⟨g, 5, none⟩ u5).setCell ⟨g, 6, none⟩ u6).setCell ⟨g, 7, none⟩ u7).heap[g]? = some (.cells #[u0, u1, u2, u3, u4, u5, u6, u7] T (0, 0)) :=
  heap_setCell_same _ g 7 _ _ u7 (heap_setCell_same _ g 6 _ _ u6 (set8a u0 u1 u2 u3 u4 u5 h))
theorem other8 {g h : Nat} {W : World} (hne : h ≠ g) (u0 u1 u2 u3 u4 u5 : Value) : ((((((W.setCell ⟨g, 0, none⟩ u0).setCell ⟨g, 1, none⟩ u1).setCell ⟨g, 2, none⟩ u2).setCell ⟨g, 3, none⟩ u3).setCell ⟨g, 4, none⟩ u4).setCell ⟨g, 5, none⟩ u5).heap[h]? = W.heap[h]? := by
  rw [Below.heap_setCell _ _ _ _ hne, Below.heap_setCell _ _ _ _ hne, Below.heap_setCell _ _ _ _ hne, Below.heap_setCell _ _ _ _ hne, Below.heap_setCell _ _ _ _ hne, Below.heap_setCell _ _ _ _ hne]
theorem bel8a {B g : Nat} {w W : World} (u0 u1 u2 u3 u4 u5 : Value) (h : Below B w W) (hB : B ≤ g) : Below B w ((((((W.setCell ⟨g, 0, none⟩ u0).setCell ⟨g, 1, none⟩ u1).setCell ⟨g, 2, none⟩ u2).setCell ⟨g, 3, none⟩ u3).setCell ⟨g, 4, none⟩ u4).setCell ⟨g, 5, none⟩ u5) := (((((h.setCell hB _).setCell hB _).setCell hB _).setCell hB _).setCell hB _).setCell hB _
theorem bel8b {B g : Nat} {w W : World} (u0 u1 u2 u3 u4 u5 u6 u7 : Value) (h : Below B w W) (hB : B ≤ g) : Below B w ((((((((W.setCell ⟨g, 0, none⟩ u0).setCell ⟨g, 1, none⟩ u1).setCell ⟨g, 2, none⟩ u2).setCell ⟨g, 3, none⟩ u3).setCell ⟨g, 4, none⟩ u4).setCell ⟨g, 5, none⟩ u5).setCell ⟨g, 6, none⟩ u6).setCell ⟨g, 7, none⟩ u7) := ((bel8a u0 u1 u2 u3 u4 u5 h hB).setCell hB _).setCell hB _
theorem same8b {lo hi g : Nat} {W : World} (h : g < lo) (u0 u1 u2 u3 u4 u5 u6 u7 : Value) : SameIn lo hi W ((((((((W.setCell ⟨g, 0, none⟩ u0).setCell ⟨g, 1, none⟩ u1).setCell ⟨g, 2, none⟩ u2).setCell ⟨g, 3, none⟩ u3).setCell ⟨g, 4, none⟩ u4).setCell ⟨g, 5, none⟩ u5).setCell ⟨g, 6, none⟩ u6).setCell ⟨g, 7, none⟩ u7) := by
  intro k h1 _
  have hne : k ≠ g := by omega
  rw [Below.heap_setCell _ _ _ _ hne, Below.heap_setCell _ _ _ _ hne]
  exact other8 hne _ _ _ _ _ _
/-- A fact of one block alone is kept over a store into another one. -/
theorem setRow_keeps {g h : Nat} {U : World} {o : Obj} (j : Nat) (v : Value) (hne : h ≠ g) (hr : U.heap[h]? = some o) : (U.setCell ⟨g, j, none⟩ v).heap[h]? = some o := by
  rw [Below.heap_setCell _ _ _ _ hne]
  exact hr
abbrev pz11 (T : TypeId) : Obj := .cells #[.int .i64 0, .int .i64 0, .int .i64 0, .int .i64 0, .int .i64 0, .int .i64 0, .slice none 0 0, .slice none 0 0] T (0, 0)
/-- What is answered: the plan in rows of its own. -/
def PP11 (m0 m1 m2 m3 m4 m5 : Int) (l : List H11) (st : List S11) (w : World) (E : Ending) (w' : World) : Prop := ∃ g1 g2, E = .returned (.agg #[.int .i64 m0, .int .i64 m1, .int .i64 m2, .int .i64 m3, .int .i64 m4, .int .i64 m5, .slice (some ⟨g1, 0, none⟩) l.length l.length, .slice (some ⟨g2, 0, none⟩) st.length st.length]) ∧ Pr11 w.heap.size w'.heap.size (.slice (some ⟨g1, 0, none⟩) l.length l.length) (.slice (some ⟨g2, 0, none⟩) st.length st.length) l st w' ∧ Below w.heap.size w w'
theorem PP11.get {m0 m1 m2 m3 m4 m5 : Int} {l : List H11} {st : List S11} {w w' : World} {E : Ending} (h : PP11 m0 m1 m2 m3 m4 m5 l st w E w') : ∃ g1 g2, E = .returned (.agg #[.int .i64 m0, .int .i64 m1, .int .i64 m2, .int .i64 m3, .int .i64 m4, .int .i64 m5, .slice (some ⟨g1, 0, none⟩) l.length l.length, .slice (some ⟨g2, 0, none⟩) st.length st.length]) ∧ Pr11 w.heap.size w'.heap.size (.slice (some ⟨g1, 0, none⟩) l.length l.length) (.slice (some ⟨g2, 0, none⟩) st.length st.length) l st w' ∧ Below w.heap.size w w' := h
set_option maxRecDepth 8000 in
set_option maxHeartbeats 2000000 in
theorem to_plan11 (m0 m1 m2 m3 m4 m5 : Int) (a1 : Option Addr) (cap1 : Nat) (z1 : List H11) (a2 : Option Addr) (cap2 : Nat) (z2 : List S11) (hz1 : z1.length ≤ 1048576) (hz2 : z2.length ≤ 1048576) (w : World) (I1 : Is11 ch11 6 w a1 z1) (I2 : Is11 cs11 4 w a2 z2) : Calls Try.prog 36 #[.agg #[.int .i64 m0, .int .i64 m1, .int .i64 m2, .int .i64 m3, .int .i64 m4, .int .i64 m5, .slice a1 z1.length cap1, .slice a2 z2.length cap2]] w (PP11 m0 m1 m2 m3 m4 m5 z1 z2 w) := by
  have HS := Lib.hid (to_sheet m0 m1 m2 m3 m4 m5)
  have H1 := Lib.hid (fun W hI => to_sheets11 z1 hz1 a1 cap1 W hI)
  have H2 := Lib.hid (fun W hI => to_steps11 z2 hz2 a2 cap2 W hI)
  have J1 := Lib.hid I1
  have J2 := Lib.hid I2
  clear I1 I2
  go_enter Try.func36, Try.ntmps36
  go_wp2_with fail
  generalize hW : (World.alloc _ _ : World) = W0
  have r0 : W0.heap[w.heap.size]? = some (.cells #[.int .i64 m0, .int .i64 m1, .int .i64 m2, .int .i64 m3, .int .i64 m4, .int .i64 m5, .slice a1 z1.length cap1, .slice a2 z2.length cap2] 57 (0, 0)) := by rw [← hW]; exact alloc_past (alloc_past (alloc_at rfl))
  have r1 : W0.heap[w.heap.size + 1]? = some (pz11 62) := by rw [← hW]; exact alloc_past (alloc_at (by simp))
  have r2 : W0.heap[w.heap.size + 1 + 1]? = some (pz11 62) := by rw [← hW]; exact alloc_at (by simp)
  have hB0 : Below w.heap.size w W0 := by rw [← hW]; (repeat (first | exact Below.refl _ _ | assumption | refine Below.setCell ?_ (by first | (simp; done) | (simp; omega)) _ | refine Below.alloc ?_ (by first | (simp; done) | (simp; omega)) _ | refine Below.drew ?_))
  clear hW
  refine (HS.out _).mono ?_
  rintro e W1 ⟨rfl, hb⟩
  have R0 := Lib.hid (rowk r0 hb rfl)
  have R1 := Lib.hid (rowk r1 hb rfl)
  have R2 := Lib.hid (rowk r2 hb rfl)
  have HB := Lib.hid (below_of hB0 hb (by have := hB0.size; omega))
  clear hb r0 r1 r2 hB0 HS
  have a_c := fun j => cell_of_row W1 _ j _ _ _ R0.out
  have c_f := fun j => frozen_of_row W1 _ j _ _ R2.out
  have c_c := fun j => cell_of_row W1 _ j _ _ _ R2.out
  go_wp2_with fail
  clear a_c c_f c_c
  generalize hW : (World.setCell _ _ _ : World) = V1
  have r0 : V1.heap[w.heap.size]? = some (.cells #[.int .i64 m0, .int .i64 m1, .int .i64 m2, .int .i64 m3, .int .i64 m4, .int .i64 m5, .slice a1 z1.length cap1, .slice a2 z2.length cap2] 57 (0, 0)) := by rw [← hW, other8 (by omega)]; exact R0.out
  have r1 : V1.heap[w.heap.size + 1]? = some (pz11 62) := by rw [← hW, other8 (by omega)]; exact R1.out
  have r2 : V1.heap[w.heap.size + 1 + 1]? = some (.cells #[.int .i64 m0, .int .i64 m1, .int .i64 m2, .int .i64 m3, .int .i64 m4, .int .i64 m5, .slice none 0 0, .slice none 0 0] 62 (0, 0)) := by rw [← hW]; exact set8a _ _ _ _ _ _ R2.out
  have hB : Below w.heap.size w V1 := by rw [← hW]; exact bel8a _ _ _ _ _ _ HB.out (by omega)
  clear hW R0 R1 R2 HB
  refine (H1.out _ (J1.out.below hB)).mono ?_
  rintro e W2 ⟨g1, rfl, ho1, hb⟩
  have hg1 := ho1.lt g1 rfl
  have R0 := Lib.hid (rowk r0 hb rfl)
  have R1 := Lib.hid (rowk r1 hb rfl)
  have R2 := Lib.hid (rowk r2 hb rfl)
  have hz : w.heap.size + 1 + 1 < V1.heap.size := (Array.getElem?_eq_some_iff.1 r2).1
  have HB := Lib.hid (below_of hB hb (by omega))
  have hg2 : w.heap.size + 1 + 1 < g1 := by omega
  have HO1 := Lib.hid (own_mono ho1 (show w.heap.size ≤ V1.heap.size by omega))
  clear hb r0 r1 r2 hB H1 ho1 J1
  have hz : w.heap.size + 1 + 1 < W2.heap.size := by omega
  have a_c := fun j => cell_of_row W2 _ j _ _ _ R0.out
  have c_f := fun j => frozen_of_row W2 _ j _ _ R2.out
  have c_c := fun j => cell_of_row W2 _ j _ _ _ R2.out
  go_wp2_with fail
  clear a_c c_f c_c
  generalize hW : (World.setCell _ _ _ : World) = V2
  have r0 : V2.heap[w.heap.size]? = some (.cells #[.int .i64 m0, .int .i64 m1, .int .i64 m2, .int .i64 m3, .int .i64 m4, .int .i64 m5, .slice a1 z1.length cap1, .slice a2 z2.length cap2] 57 (0, 0)) := by rw [← hW]; exact setRow_keeps _ _ (by omega) R0.out
  have r1 : V2.heap[w.heap.size + 1]? = some (pz11 62) := by rw [← hW]; exact setRow_keeps _ _ (by omega) R1.out
  have r2 : V2.heap[w.heap.size + 1 + 1]? = some (.cells #[.int .i64 m0, .int .i64 m1, .int .i64 m2, .int .i64 m3, .int .i64 m4, .int .i64 m5, .slice (some ⟨g1, 0, none⟩) z1.length z1.length, .slice none 0 0] 62 (0, 0)) := by rw [← hW]; exact heap_setCell_same _ _ 6 _ _ _ R2.out
  have hB : Below w.heap.size w V2 := by rw [← hW]; exact HB.out.setCell (by simp; omega) _
  have o1 : V2.ownsRow w.heap.size 28 6 (.slice (some ⟨g1, 0, none⟩) z1.length z1.length) z1.length (hv11 z1) := by rw [← hW]; exact HO1.out.kept (grow_set _ _ _) (.inr (by simp [Value.ownBlock]; omega))
  have hs2 : V2.heap.size = W2.heap.size := by rw [← hW]; simp
  clear hW R0 R1 R2 HB HO1
  refine (H2.out _ (J2.out.below hB)).mono ?_
  rintro e W3 ⟨g2, rfl, ho2, hb⟩
  have hg3 := ho2.lt g2 rfl
  have R1 := Lib.hid (rowk r1 hb rfl)
  have R2 := Lib.hid (rowk r2 hb rfl)
  have HB := Lib.hid (below_of hB hb (by omega))
  have HO1 := Lib.hid (o1.kept (grown_below hb rfl) (.inr (by simp [Value.ownBlock])))
  have HO2 := Lib.hid (own_mono ho2 (show w.heap.size ≤ V2.heap.size by omega))
  clear hb r0 r1 r2 hB H2 ho2 J2 o1
  have hne : g1 ≠ g2 := by omega
  have c_f := fun j => frozen_of_row W3 _ j _ _ R2.out
  have c_c := fun j => cell_of_row W3 _ j _ _ _ R2.out
  have b_f := fun j => frozen_of_row W3 _ j _ _ R1.out
  have b_c := fun j => cell_of_row W3 _ j _ _ _ R1.out
  go_wp2_with fail
  clear c_f c_c b_f b_c
  have qx := set8b (.int .i64 m0) (.int .i64 m1) (.int .i64 m2) (.int .i64 m3) (.int .i64 m4) (.int .i64 m5) (.slice (some ⟨g1, 0, none⟩) z1.length z1.length) (.slice (some ⟨g2, 0, none⟩) z2.length z2.length) (setRow_keeps (g := w.heap.size + 1 + 1) (h := w.heap.size + 1) 7 (.slice (some ⟨g2, 0, none⟩) z2.length z2.length) (by omega) R1.out)
  have hB := bel8b (g := w.heap.size + 1) (.int .i64 m0) (.int .i64 m1) (.int .i64 m2) (.int .i64 m3) (.int .i64 m4) (.int .i64 m5) (.slice (some ⟨g1, 0, none⟩) z1.length z1.length) (.slice (some ⟨g2, 0, none⟩) z2.length z2.length) (HB.out.setCell (p := ⟨w.heap.size + 1 + 1, 7, none⟩) (by simp; omega) (.slice (some ⟨g2, 0, none⟩) z2.length z2.length)) (by omega)
  have hS := same8b (lo := w.heap.size + 1 + 1 + 1) (hi := W3.heap.size) (g := w.heap.size + 1) (W := W3.setCell ⟨w.heap.size + 1 + 1, 7, none⟩ (.slice (some ⟨g2, 0, none⟩) z2.length z2.length)) (by omega) (.int .i64 m0) (.int .i64 m1) (.int .i64 m2) (.int .i64 m3) (.int .i64 m4) (.int .i64 m5) (.slice (some ⟨g1, 0, none⟩) z1.length z1.length) (.slice (some ⟨g2, 0, none⟩) z2.length z2.length)
  have hS2 : SameIn (w.heap.size + 1 + 1 + 1) W3.heap.size W3 (W3.setCell ⟨w.heap.size + 1 + 1, 7, none⟩ (.slice (some ⟨g2, 0, none⟩) z2.length z2.length)) := fun k h1 _ => Below.heap_setCell _ _ _ _ (by show k ≠ w.heap.size + 1 + 1; omega)
  have hz8 : ∀ (X : World) u0 u1 u2 u3 u4 u5 u6 u7 g, ((((((((X.setCell ⟨g, 0, none⟩ u0).setCell ⟨g, 1, none⟩ u1).setCell ⟨g, 2, none⟩ u2).setCell ⟨g, 3, none⟩ u3).setCell ⟨g, 4, none⟩ u4).setCell ⟨g, 5, none⟩ u5).setCell ⟨g, 6, none⟩ u6).setCell ⟨g, 7, none⟩ u7).heap.size = X.heap.size := by intros; simp
  have hz9 := hz8 (W3.setCell ⟨w.heap.size + 1 + 1, 7, none⟩ (.slice (some ⟨g2, 0, none⟩) z2.length z2.length)) (.int .i64 m0) (.int .i64 m1) (.int .i64 m2) (.int .i64 m3) (.int .i64 m4) (.int .i64 m5) (.slice (some ⟨g1, 0, none⟩) z1.length z1.length) (.slice (some ⟨g2, 0, none⟩) z2.length z2.length) (w.heap.size + 1)
  have hz10 : (W3.setCell ⟨w.heap.size + 1 + 1, 7, none⟩ (.slice (some ⟨g2, 0, none⟩) z2.length z2.length)).heap.size = W3.heap.size := by simp
  rw [hz10] at hz9
  clear hz8 hz10
  generalize (World.setCell _ _ _ : World) = X at qx hB hS hz9 ⊢
  have x_c := fun j => cell_of_row X _ j _ _ _ qx
  have hS3 : SameIn (w.heap.size + 1 + 1 + 1) W3.heap.size W3 X := fun k h1 h2 => (hS k h1 h2).trans (hS2 k h1 h2)
  have k1 : ∀ k, (Value.slice (some ⟨g1, 0, none⟩) z1.length z1.length).ownBlock = some k → g1 = k := fun k hk => by simpa [Value.ownBlock] using hk
  have k2 : ∀ k, (Value.slice (some ⟨g2, 0, none⟩) z2.length z2.length).ownBlock = some k → g2 = k := fun k hk => by simpa [Value.ownBlock] using hk
  have o1 := own_same HO1.out hS3 (fun k hk => by have := k1 k hk; omega)
  have o2 := own_same HO2.out hS3 (fun k hk => by have := k2 k hk; omega)
  exact bodyPost_ret (v := .agg #[.int .i64 m0, .int .i64 m1, .int .i64 m2, .int .i64 m3, .int .i64 m4, .int .i64 m5, .slice (some ⟨g1, 0, none⟩) z1.length z1.length, .slice (some ⟨g2, 0, none⟩) z2.length z2.length]) (by simp [results, Try.results36, go_sem, x_c]) rfl ⟨g1, g2, rfl, ⟨o1, o2, fun k hk => by have := k1 k hk; omega, fun k hk => by have := k2 k hk; omega, fun k hk hk2 => by have := k1 k hk; have := k2 k hk2; omega⟩, hB⟩
theorem Pr11.o1 {lo hi : Nat} {v1 v2 : Value} {l : List H11} {st : List S11} {U : World} (h : Pr11 lo hi v1 v2 l st U) : U.ownsRow lo 28 6 v1 l.length (hv11 l) := h.1
theorem Pr11.o2 {lo hi : Nat} {v1 v2 : Value} {l : List H11} {st : List S11} {U : World} (h : Pr11 lo hi v1 v2 l st U) : U.ownsRow lo 73 4 v2 st.length (sv11 st) := h.2.1
/-- A slice's elements can be read. -/
def Rv11 (v : Value) (n : Nat) (xs : List Value) (U : World) : Prop := (∃ a c, v = .slice a 0 c ∧ n = 0) ∨ ∃ g c, v = .slice (some ⟨g, 0, none⟩) n c ∧ U.rangeAt g 0 xs
theorem Rv11.far {v : Value} {n M : Nat} {xs : List Value} {U V : World} (h : Rv11 v n xs U) (hb : Below M U V) (hM : M = U.heap.size) : Rv11 v n xs V := by
  rcases h with h | ⟨g, c, h1, h2⟩
  · exact .inl h
  · exact .inr ⟨g, c, h1, ra_below h2 hb hM⟩
theorem Rv11.drew {v : Value} {n : Nat} {xs : List Value} {U : World} (h : Rv11 v n xs U) : Rv11 v n xs U.drew := h.far (M := U.heap.size) (Below.refl _ _).drew rfl
theorem Rv11.own {v : Value} {n B z : Nat} {t : TypeId} {xs : List Value} {U : World} (h : U.ownsRow B t z v n xs) : Rv11 v n xs U := by
  rcases h.2 with ⟨h1, h2⟩ | ⟨g, cap, cur, h1, _⟩
  · exact .inl ⟨none, 0, h1, h2⟩
  · subst h1
    exact .inr ⟨g, cap, rfl, own_range h⟩
theorem eqsheets_any11 (l : List H11) (hl : l.length ≤ 1048576) (v u : Value) (w : World) (h : Rv11 v l.length (hv11 l) w) (k : Rv11 u l.length (hv11 l) w) : Calls Try.prog 126 #[v, u] w fun e w' => e = .returned (.bool true) ∧ Below w.heap.size w w' := by
  rcases h with ⟨a, c, rfl, h0⟩ | ⟨g, c, rfl, h1⟩ <;> rcases k with ⟨a', c', rfl, k0⟩ | ⟨g', c', rfl, k1⟩
  · exact eq_sheets11_zero _ _ _ _ w
  · rw [h0]; exact eq_sheets11_zero _ _ _ _ w
  · rw [k0]; exact eq_sheets11_zero _ _ _ _ w
  · exact eq_sheets11 l hl _ _ _ _ w h1 k1
theorem eqsteps_any11 (l : List S11) (hl : l.length ≤ 1048576) (v u : Value) (w : World) (h : Rv11 v l.length (sv11 l) w) (k : Rv11 u l.length (sv11 l) w) : Calls Try.prog 127 #[v, u] w fun e w' => e = .returned (.bool true) ∧ Below w.heap.size w w' := by
  rcases h with ⟨a, c, rfl, h0⟩ | ⟨g, c, rfl, h1⟩ <;> rcases k with ⟨a', c', rfl, k0⟩ | ⟨g', c', rfl, k1⟩
  · exact eq_steps11_zero _ _ _ _ w
  · rw [h0]; exact eq_steps11_zero _ _ _ _ w
  · rw [k0]; exact eq_steps11_zero _ _ _ _ w
  · exact eq_steps11 l hl _ _ _ _ w h1 k1
set_option maxRecDepth 8000 in
set_option maxHeartbeats 1000000 in
theorem eq_plan11 (m0 m1 m2 m3 m4 m5 : Int) (l : List H11) (st : List S11) (hl : l.length ≤ 1048576) (hst : st.length ≤ 1048576) (v1 v2 u1 u2 : Value) (w : World) (h1 : Rv11 v1 l.length (hv11 l) w) (h2 : Rv11 v2 st.length (sv11 st) w) (k1 : Rv11 u1 l.length (hv11 l) w) (k2 : Rv11 u2 st.length (sv11 st) w) : Calls Try.prog 38 #[.agg #[.int .i64 m0, .int .i64 m1, .int .i64 m2, .int .i64 m3, .int .i64 m4, .int .i64 m5, v1, v2], .agg #[.int .i64 m0, .int .i64 m1, .int .i64 m2, .int .i64 m3, .int .i64 m4, .int .i64 m5, u1, u2]] w fun e w' => e = .returned (.bool true) ∧ Below w.heap.size w w' := by
  have HS := Lib.hid (eq_same m0 m1 m2 m3 m4 m5)
  have H1 := Lib.hid (eqsheets_any11 l hl v1 u1)
  have H2 := Lib.hid (eqsteps_any11 st hst v2 u2)
  have J := Lib.hid (And.intro h1 (And.intro h2 (And.intro k1 k2)))
  clear h1 h2 k1 k2
  go_enter Try.func38, Try.ntmps38
  go_wp2_with fail
  generalize hW : (World.alloc _ _ : World) = W0
  have r0 : W0.heap[w.heap.size]? = some (.cells #[.int .i64 m0, .int .i64 m1, .int .i64 m2, .int .i64 m3, .int .i64 m4, .int .i64 m5, v1, v2] 62 (0, 0)) := by rw [← hW]; exact alloc_past (alloc_at rfl)
  have r1 : W0.heap[w.heap.size + 1]? = some (.cells #[.int .i64 m0, .int .i64 m1, .int .i64 m2, .int .i64 m3, .int .i64 m4, .int .i64 m5, u1, u2] 62 (0, 0)) := by rw [← hW]; exact alloc_at (by simp)
  have hB0 : Below w.heap.size w W0 := by rw [← hW]; (repeat (first | exact Below.refl _ _ | assumption | refine Below.setCell ?_ (by first | (simp; done) | (simp; omega)) _ | refine Below.alloc ?_ (by first | (simp; done) | (simp; omega)) _ | refine Below.drew ?_))
  clear hW
  refine (HS.out _).mono ?_
  rintro e W1 ⟨rfl, hb⟩
  have r0 := rowk r0 hb rfl
  have r1 := rowk r1 hb rfl
  have hB := below_of hB0 hb (by have := hB0.size; omega)
  clear hb hB0
  have a_c := fun j => cell_of_row W1 _ j _ _ _ r0
  have b_c := fun j => cell_of_row W1 _ j _ _ _ r1
  go_wp2_with fail
  refine (H1.out _ (J.out.1.far hB rfl) (J.out.2.2.1.far hB rfl)).mono ?_
  rintro e W2 ⟨rfl, hb⟩
  have r0 := rowk r0 hb rfl
  have r1 := rowk r1 hb rfl
  have hB := below_of hB hb (by have := hB.size; omega)
  clear hb a_c b_c
  have a_c := fun j => cell_of_row W2 _ j _ _ _ r0
  have b_c := fun j => cell_of_row W2 _ j _ _ _ r1
  go_wp2_with fail
  refine (H2.out _ (J.out.2.1.far hB rfl) (J.out.2.2.2.far hB rfl)).mono ?_
  rintro e W3 ⟨rfl, hb⟩
  have hB := below_of hB hb (by have := hB.size; omega)
  clear hb a_c b_c
  go_wp2_with fail
  go_ret
  exact ⟨rfl, hB⟩
set_option maxHeartbeats 1000000 in
theorem size_plan11 (m0 m1 m2 m3 m4 m5 : Int) (a1 : Option Addr) (n1 cap1 : Nat) (a2 : Option Addr) (n2 cap2 : Nat) (hn1 : n1 ≤ maxLen) (hn2 : n2 ≤ maxLen) (w : World) : Calls Try.prog 34 #[.agg #[.int .i64 m0, .int .i64 m1, .int .i64 m2, .int .i64 m3, .int .i64 m4, .int .i64 m5, .slice a1 n1 cap1, .slice a2 n2 cap2], .int .i64 1048576] w fun e w' => e = .returned (.int .i64 (if 1048576 < n1 + n2 then -1 else 1048576 - ((n1 + n2 : Nat) : Int))) ∧ Below w.heap.size w w' := by
  have H1 := Lib.hid (size_sheets11 a1 n1 cap1 hn1 1048576 (by omega) (by omega))
  by_cases h : (1048576 : Int) < (n1 : Int)
  · rw [if_pos (by omega)]
    simp only [if_pos h] at H1
    go_enter Try.func34, Try.ntmps34
    go_wp2_with fail
    refine (H1.out _).mono ?_
    rintro e W1 ⟨rfl, hb⟩
    obtain rfl := hb.symm
    go_wp2_with fail
    go_ret
    exact ⟨rfl, by (repeat (first | exact Below.refl _ _ | assumption | refine Below.setCell ?_ (by first | (simp; done) | (simp; omega)) _ | refine Below.alloc ?_ (by first | (simp; done) | (simp; omega)) _ | refine Below.drew ?_))⟩
  · simp only [if_neg h] at H1
    have H2 := Lib.hid (size_steps11 a2 n2 cap2 hn2 (1048576 - (n1 : Int)) (by omega) (by omega))
    have hq : ¬ (1048576 - (n1 : Int) < 0) := by omega
    obtain ⟨L, hL⟩ : ∃ L : Int, L = 1048576 - (n1 : Int) := ⟨_, rfl⟩
    rw [← hL] at H1 H2 hq
    by_cases h2 : L < (n2 : Int)
    · rw [if_pos (by omega)]
      simp only [if_pos h2] at H2
      clear hL
      go_enter Try.func34, Try.ntmps34
      go_wp2_with fail
      refine (H1.out _).mono ?_
      rintro e W1 ⟨rfl, hb⟩
      obtain rfl := hb.symm
      go_wp2_with fail
      refine (H2.out _).mono ?_
      rintro e W1 ⟨rfl, hb⟩
      obtain rfl := hb.symm
      go_wp2_with fail
      go_ret
      exact ⟨rfl, by (repeat (first | exact Below.refl _ _ | assumption | refine Below.setCell ?_ (by first | (simp; done) | (simp; omega)) _ | refine Below.alloc ?_ (by first | (simp; done) | (simp; omega)) _ | refine Below.drew ?_))⟩
    · rw [if_neg (by omega)]
      simp only [if_neg h2] at H2
      have hq2 : ¬ (L - (n2 : Int) < 0) := by omega
      have hR : Hid (1048576 - ((n1 + n2 : Nat) : Int) = L - n2) := Lib.hid (by omega)
      clear hL
      go_enter Try.func34, Try.ntmps34
      go_wp2_with fail
      refine (H1.out _).mono ?_
      rintro e W1 ⟨rfl, hb⟩
      obtain rfl := hb.symm
      go_wp2_with fail
      refine (H2.out _).mono ?_
      rintro e W1 ⟨rfl, hb⟩
      obtain rfl := hb.symm
      go_wp2_with fail
      go_ret
      exact ⟨by rw [hR.out]; rfl, by (repeat (first | exact Below.refl _ _ | assumption | refine Below.setCell ?_ (by first | (simp; done) | (simp; omega)) _ | refine Below.alloc ?_ (by first | (simp; done) | (simp; omega)) _ | refine Below.drew ?_))⟩
end Go.Proofs.Ytnkjamdpafpcpaa
