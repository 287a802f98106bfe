/- MERGED, for one claim's sake: Ow11, Hv11, Un11, Pv11, Pw11, Vp11, Dr11, Hn11, Dp11, Dq11. -/
import Derived.Test.YtnkjamdpafpcpaaRt11
import Derived.Test.YtnkjamdpafpcpaaAp11
import Derived.Test.YtnkjamdpafpcpaaPg11
import Derived.Test.YtnkjamdpafpcpaaPk11
import Derived.Test.YtnkjamdpafpcpaaEq
import Derived.RegionTactic
import Derived.WalkKit
import Derived.ProofKit
import Derived.OpenShut
import Derived.Lib.Hide
import Derived.WalkSpells
import Derived.Below
import Derived.BigQuiet
import Derived.LoopN
import Derived.StillTailTactics
namespace Go.Proofs.Ytnkjamdpafpcpaa
open Go.ChangeShapes Go.WideShapes Go.ChangeAt Go.RowKit
set_option linter.unusedVariables false
/- Ow11 -/
/-- Two rows under construction: of sheets (block, room, number, cells) and of steps. -/
def St11 (b : Nat) (o0 o1 : Obj) (X Y : Option (Nat × Nat × Nat × List Value)) (w U : World) : Prop := U.heap[w.heap.size]? = some o0 ∧ U.heap[w.heap.size + 1]? = some o1 ∧ (∀ a, X = some a → U.ownsRow (w.heap.size + b) 28 6 (.slice (some ⟨a.1, 0, none⟩) a.2.2.1 a.2.1) a.2.2.1 a.2.2.2) ∧ (∀ a, Y = some a → U.ownsRow (w.heap.size + b) 73 4 (.slice (some ⟨a.1, 0, none⟩) a.2.2.1 a.2.1) a.2.2.1 a.2.2.2) ∧ (∀ a c, X = some a → Y = some c → a.1 ≠ c.1) ∧ w.heap.size + b ≤ U.heap.size ∧ 2 ≤ b ∧ Below w.heap.size w U
section
variable {b : Nat} {o0 o1 : Obj} {X Y : Option (Nat × Nat × Nat × List Value)} {w U V : World}
theorem St11.far {M : Nat} (h : St11 b o0 o1 X Y w U) (hb : Below M U V) (hM : M = U.heap.size) : St11 b o0 o1 X Y w V :=
  ⟨rowk h.1 hb hM, rowk h.2.1 hb hM, fun a ha => (h.2.2.1 a ha).kept (grown_below hb hM) (.inr (by simp [Value.ownBlock])), fun a ha => (h.2.2.2.1 a ha).kept (grown_below hb hM) (.inr (by simp [Value.ownBlock])), h.2.2.2.2.1, Nat.le_trans h.2.2.2.2.2.1 hb.size, h.2.2.2.2.2.2.1, below_of h.2.2.2.2.2.2.2 hb (by have := h.2.2.2.2.2.2.2.size; omega)⟩
theorem St11.drew (h : St11 b o0 o1 X Y w U) : St11 b o0 o1 X Y w U.drew := h.far (M := U.heap.size) (Below.refl _ _).drew rfl
theorem St11.al (h : St11 b o0 o1 X Y w U) (o : Obj) : St11 b o0 o1 X Y w (U.alloc o) := h.far (M := U.heap.size) ((Below.refl _ _).alloc (Nat.le_refl _) o) rfl
theorem St11.bel (h : St11 b o0 o1 X Y w U) : Below w.heap.size w U := h.2.2.2.2.2.2.2
theorem St11.le (h : St11 b o0 o1 X Y w U) : w.heap.size + b ≤ U.heap.size := h.2.2.2.2.2.1
theorem St11.x {a : Nat × Nat × Nat × List Value} (h : St11 b o0 o1 (some a) Y w U) : U.ownsRow (w.heap.size + b) 28 6 (.slice (some ⟨a.1, 0, none⟩) a.2.2.1 a.2.1) a.2.2.1 a.2.2.2 := h.2.2.1 a rfl
theorem St11.y {a : Nat × Nat × Nat × List Value} (h : St11 b o0 o1 X (some a) w U) : U.ownsRow (w.heap.size + b) 73 4 (.slice (some ⟨a.1, 0, none⟩) a.2.2.1 a.2.1) a.2.2.1 a.2.2.2 := h.2.2.2.1 a rfl
theorem St11.mkx (h : St11 b o0 o1 none Y w U) : St11 b o0 o1 (some (U.heap.size, 0, 0, [])) Y w (U.alloc (.cells #[] 28)) := by
  have h2 := h.al (.cells #[] 28)
  refine ⟨h2.1, h2.2.1, fun a ha => ?_, h2.2.2.2.1, fun a c ha hc => ?_, h2.2.2.2.2.2⟩
  · cases ha
    exact World.ownsRow_lit (base := w.heap.size + b) (e := 28) (size := 6) U #[] 0 h.le (by unfold maxLen; omega) rfl
  · cases ha
    have := ((h.2.2.2.1 c hc).lt c.1 rfl).2
    show U.heap.size ≠ c.1
    omega
theorem St11.mky (h : St11 b o0 o1 X none w U) : St11 b o0 o1 X (some (U.heap.size, 0, 0, [])) w (U.alloc (.cells #[] 73)) := by
  have h2 := h.al (.cells #[] 73)
  refine ⟨h2.1, h2.2.1, h2.2.2.1, fun a ha => ?_, fun a c ha hc => ?_, h2.2.2.2.2.2⟩
  · cases ha
    exact World.ownsRow_lit (base := w.heap.size + b) (e := 73) (size := 4) U #[] 0 h.le (by unfold maxLen; omega) rfl
  · cases hc
    have := ((h.2.2.1 a ha).lt a.1 rfl).2
    show a.1 ≠ U.heap.size
    omega
theorem St11.grow {g : Nat} (h : St11 b o0 o1 X Y w U) (hg : U.grownBy V (some g)) (hgb : w.heap.size + b ≤ g) : V.heap[w.heap.size]? = some o0 ∧ V.heap[w.heap.size + 1]? = some o1 ∧ w.heap.size + b ≤ V.heap.size ∧ 2 ≤ b ∧ Below w.heap.size w V := by
  have h2 := h.2.2.2.2.2.2.1
  have hl := h.le
  refine ⟨?_, ?_, Nat.le_trans h.le hg.size, h2, h.bel.grown hg h.bel.size (fun k hk => by cases hk; omega)⟩
  · rw [hg.block _ (by omega) (by simp; omega)]; exact h.1
  · rw [hg.block _ (by omega) (by simp; omega)]; exact h.2.1
theorem St11.appx {a : Nat × Nat × Nat × List Value} {g' cap' n' : Nat} {xs' : List Value} (h : St11 b o0 o1 (some a) Y w U) (ho : V.ownsRow (w.heap.size + b) 28 6 (.slice (some ⟨g', 0, none⟩) n' cap') n' xs') (hg : U.grownBy V (some a.1)) (hat : g' = a.1 ∨ g' = U.heap.size) : St11 b o0 o1 (some (g', cap', n', xs')) Y w V := by
  have hq := h.grow hg (h.x.lt a.1 rfl).1
  refine ⟨hq.1, hq.2.1, fun c hc => by cases hc; exact ho, fun c hc => (h.2.2.2.1 c hc).kept hg (.inr (by simp [Value.ownBlock]; exact fun e => h.2.2.2.2.1 a c rfl hc e.symm)), fun c d hc hd => ?_, hq.2.2⟩
  cases hc
  have h1 := h.2.2.2.2.1 a d rfl hd
  have h2 := ((h.2.2.2.1 d hd).lt d.1 rfl).2
  show g' ≠ d.1
  rcases hat with e | e
  · rw [e]; exact h1
  · omega
theorem St11.appy {a : Nat × Nat × Nat × List Value} {g' cap' n' : Nat} {xs' : List Value} (h : St11 b o0 o1 X (some a) w U) (ho : V.ownsRow (w.heap.size + b) 73 4 (.slice (some ⟨g', 0, none⟩) n' cap') n' xs') (hg : U.grownBy V (some a.1)) (hat : g' = a.1 ∨ g' = U.heap.size) : St11 b o0 o1 X (some (g', cap', n', xs')) w V := by
  have hq := h.grow hg (h.y.lt a.1 rfl).1
  refine ⟨hq.1, hq.2.1, fun c hc => (h.2.2.1 c hc).kept hg (.inr (by simp [Value.ownBlock]; exact fun e => h.2.2.2.2.1 c a hc rfl e)), fun c hc => by cases hc; exact ho, fun c d hc hd => ?_, hq.2.2⟩
  cases hd
  have h1 := h.2.2.2.2.1 c a hc rfl
  have h2 := ((h.2.2.1 c hc).lt c.1 rfl).2
  show c.1 ≠ g'
  rcases hat with e | e
  · rw [e]; exact h1
  · omega
end
/-- What is answered: the plan in rows of its own. -/
def OP11 (m0 m1 m2 m3 m4 m5 : Int) (l : List H11) (st : List S11) (w : World) (E : Ending) (w' : World) : Prop := ∃ g1 k1 g2 k2, E = .returned (.agg #[.int .i64 m0, .int .i64 m1, .int .i64 m2, .int .i64 m3, .int .i64 m4, .int .i64 m5, .slice (some ⟨g1, 0, none⟩) l.length k1, .slice (some ⟨g2, 0, none⟩) st.length k2]) ∧ Pr11 w.heap.size w'.heap.size (.slice (some ⟨g1, 0, none⟩) l.length k1) (.slice (some ⟨g2, 0, none⟩) st.length k2) l st w' ∧ Below w.heap.size w w'
theorem hv11_one (l : List H11) : ∀ u ∈ hv11 l, u.oneCell' = true := by
  intro u hu
  obtain ⟨t, _, ht⟩ := List.mem_flatMap.mp hu
  simp [ch11] at ht
  rcases ht with rfl | rfl | rfl | rfl | rfl | rfl <;> rfl
theorem sv11_one (l : List S11) : ∀ u ∈ sv11 l, u.oneCell' = true := by
  intro u hu
  obtain ⟨t, _, ht⟩ := List.mem_flatMap.mp hu
  simp [cs11] at ht
  rcases ht with rfl | rfl | rfl | rfl <;> rfl
theorem ra_add {g : Nat} {cs : List Value} {U : World} (h : U.rangeAt g 0 cs) : ∀ j u, cs[j]? = some u → U.cell? ((⟨g, 0, none⟩ : Addr).add j) = some u := fun j u hu => by rw [Addr.add_mid]; exact h j u hu
/-- A plan stored whole into the box of the answer. -/
theorem St11.fin {b g1 k1 g2 k2 : Nat} {m0 m1 m2 m3 m4 m5 : Int} {T : TypeId} {v0 v1 v2 v3 v4 v5 v6 v7 : Value} {o0 : Obj} {l : List H11} {st : List S11} {w U : World} (h : St11 b o0 (.cells #[v0, v1, v2, v3, v4, v5, v6, v7] T (0, 0)) (some (g1, k1, l.length, hv11 l)) (some (g2, k2, st.length, sv11 st)) w U) {X : World} (hX : ((((((((U.setCell ⟨w.heap.size + 1, 0, none⟩ (.int .i64 m0)).setCell ⟨w.heap.size + 1, 1, none⟩ (.int .i64 m1)).setCell ⟨w.heap.size + 1, 2, none⟩ (.int .i64 m2)).setCell ⟨w.heap.size + 1, 3, none⟩ (.int .i64 m3)).setCell ⟨w.heap.size + 1, 4, none⟩ (.int .i64 m4)).setCell ⟨w.heap.size + 1, 5, none⟩ (.int .i64 m5)).setCell ⟨w.heap.size + 1, 6, none⟩ (.slice (some ⟨g1, 0, none⟩) l.length k1)).setCell ⟨w.heap.size + 1, 7, none⟩ (.slice (some ⟨g2, 0, none⟩) st.length k2)) = X) : X.heap[w.heap.size + 1]? = some (.cells #[.int .i64 m0, .int .i64 m1, .int .i64 m2, .int .i64 m3, .int .i64 m4, .int .i64 m5, .slice (some ⟨g1, 0, none⟩) l.length k1, .slice (some ⟨g2, 0, none⟩) st.length k2] T (0, 0)) ∧ Pr11 w.heap.size X.heap.size (.slice (some ⟨g1, 0, none⟩) l.length k1) (.slice (some ⟨g2, 0, none⟩) st.length k2) l st X ∧ Below w.heap.size w X := by
  have hb2 := h.2.2.2.2.2.2.1
  have hx := h.x
  have hy := h.y
  have hne := h.2.2.2.2.1 _ _ rfl rfl
  have hg1 := hx.lt g1 rfl
  have hg2 := hy.lt g2 rfl
  have hs := same8b (lo := w.heap.size + 2) (hi := U.heap.size) (g := w.heap.size + 1) (W := U) (by omega) (.int .i64 m0) (.int .i64 m1) (.int .i64 m2) (.int .i64 m3) (.int .i64 m4) (.int .i64 m5) (.slice (some ⟨g1, 0, none⟩) l.length k1) (.slice (some ⟨g2, 0, none⟩) st.length k2)
  have hq := set8b (.int .i64 m0) (.int .i64 m1) (.int .i64 m2) (.int .i64 m3) (.int .i64 m4) (.int .i64 m5) (.slice (some ⟨g1, 0, none⟩) l.length k1) (.slice (some ⟨g2, 0, none⟩) st.length k2) h.2.1
  have hbl := bel8b (g := w.heap.size + 1) (.int .i64 m0) (.int .i64 m1) (.int .i64 m2) (.int .i64 m3) (.int .i64 m4) (.int .i64 m5) (.slice (some ⟨g1, 0, none⟩) l.length k1) (.slice (some ⟨g2, 0, none⟩) st.length k2) h.bel (by omega)
  have hsz : X.heap.size = U.heap.size := by rw [← hX]; simp
  rw [hX] at hs hq hbl
  have e1 : ∀ k, (Value.slice (some ⟨g1, 0, none⟩) l.length k1).ownBlock = some k → g1 = k := fun k hk => by simpa [Value.ownBlock] using hk
  have e2 : ∀ k, (Value.slice (some ⟨g2, 0, none⟩) st.length k2).ownBlock = some k → g2 = k := fun k hk => by simpa [Value.ownBlock] using hk
  refine ⟨hq, ⟨own_same (lo := w.heap.size + 2) (hi := U.heap.size) (own_mono hx (by omega)) hs (fun k hk => by have := e1 k hk; omega), own_same (lo := w.heap.size + 2) (hi := U.heap.size) (own_mono hy (by omega)) hs (fun k hk => by have := e2 k hk; omega), fun k hk => by have := e1 k hk; omega, fun k hk => by have := e2 k hk; omega, fun k hk hk2 => by have := e1 k hk; have := e2 k hk2; exact hne (by omega)⟩, hbl⟩
theorem SKset11 {b : Nat} {o1 : Obj} {X Y : Option (Nat × Nat × Nat × List Value)} {m0 m1 m2 m3 m4 m5 : Int} {V1 V2 u0 u1 u2 u3 u4 u5 u6 u7 : Value} {w U : World} (h : St11 b (.cells #[.int .i64 m0, .int .i64 m1, .int .i64 m2, .int .i64 m3, .int .i64 m4, .int .i64 m5, V1, V2] 62 (0, 0)) o1 X Y w U) : (fun U => U.cell? ⟨w.heap.size, 0, none⟩ = some (.int .i64 m0) ∧ U.cell? ⟨w.heap.size, 1, none⟩ = some (.int .i64 m1) ∧ U.cell? ⟨w.heap.size, 2, none⟩ = some (.int .i64 m2) ∧ U.cell? ⟨w.heap.size, 3, none⟩ = some (.int .i64 m3) ∧ U.cell? ⟨w.heap.size, 4, none⟩ = some (.int .i64 m4) ∧ U.cell? ⟨w.heap.size, 5, none⟩ = some (.int .i64 m5) ∧ U.cell? ⟨w.heap.size, 6, none⟩ = some V1) ((((((((U.setCell ⟨w.heap.size + 1, 0, none⟩ u0).setCell ⟨w.heap.size + 1, 1, none⟩ u1).setCell ⟨w.heap.size + 1, 2, none⟩ u2).setCell ⟨w.heap.size + 1, 3, none⟩ u3).setCell ⟨w.heap.size + 1, 4, none⟩ u4).setCell ⟨w.heap.size + 1, 5, none⟩ u5).setCell ⟨w.heap.size + 1, 6, none⟩ u6).setCell ⟨w.heap.size + 1, 7, none⟩ u7) := by
  have hs := same8b (lo := w.heap.size + 2) (hi := 0) (g := w.heap.size + 1) (W := U) (by omega) u0 u1 u2 u3 u4 u5 u6 u7
  have hr : ((((((((U.setCell ⟨w.heap.size + 1, 0, none⟩ u0).setCell ⟨w.heap.size + 1, 1, none⟩ u1).setCell ⟨w.heap.size + 1, 2, none⟩ u2).setCell ⟨w.heap.size + 1, 3, none⟩ u3).setCell ⟨w.heap.size + 1, 4, none⟩ u4).setCell ⟨w.heap.size + 1, 5, none⟩ u5).setCell ⟨w.heap.size + 1, 6, none⟩ u6).setCell ⟨w.heap.size + 1, 7, none⟩ u7).heap[w.heap.size]? = some (.cells #[.int .i64 m0, .int .i64 m1, .int .i64 m2, .int .i64 m3, .int .i64 m4, .int .i64 m5, V1, V2] 62 (0, 0)) := (by
    have hne : w.heap.size ≠ w.heap.size + 1 := by omega
    rw [Below.heap_setCell _ _ _ _ hne, Below.heap_setCell _ _ _ _ hne, other8 hne]
    exact h.1)
  have h0 := fun j => cell_of_row _ _ j _ _ _ hr
  exact ⟨h0 0, h0 1, h0 2, h0 3, h0 4, h0 5, h0 6⟩
theorem SKo11 {b : Nat} {o1 : Obj} {X Y : Option (Nat × Nat × Nat × List Value)} {m0 m1 m2 m3 m4 m5 : Int} {V1 V2 : Value} {w U : World} (h : St11 b (.cells #[.int .i64 m0, .int .i64 m1, .int .i64 m2, .int .i64 m3, .int .i64 m4, .int .i64 m5, V1, V2] 62 (0, 0)) o1 X Y w U) : U.cell? ⟨w.heap.size, 0, none⟩ = some (.int .i64 m0) ∧ U.cell? ⟨w.heap.size, 1, none⟩ = some (.int .i64 m1) ∧ U.cell? ⟨w.heap.size, 2, none⟩ = some (.int .i64 m2) ∧ U.cell? ⟨w.heap.size, 3, none⟩ = some (.int .i64 m3) ∧ U.cell? ⟨w.heap.size, 4, none⟩ = some (.int .i64 m4) ∧ U.cell? ⟨w.heap.size, 5, none⟩ = some (.int .i64 m5) ∧ U.cell? ⟨w.heap.size, 6, none⟩ = some V1 := by
  have h0 := fun j => cell_of_row U _ j _ _ _ h.1
  exact ⟨h0 0, h0 1, h0 2, h0 3, h0 4, h0 5, h0 6⟩
set_option maxRecDepth 20000 in
set_option maxHeartbeats 4000000 in
theorem lown_11 (m0 m1 m2 m3 m4 m5 : Int) (V2 : Value) (l : List H11) (st : List S11) (g1 c1 g2 c2 : Nat) (hl : l.length ≤ 1000) (hst : st.length ≤ 1000) (w : World) (h1 : w.rangeAt g1 0 (hv11 l)) (h2 : w.rangeAt g2 0 (sv11 st)) : Calls Try.prog 120 #[.agg #[.int .i64 m0, .int .i64 m1, .int .i64 m2, .int .i64 m3, .int .i64 m4, .int .i64 m5, .slice (some ⟨g1, 0, none⟩) l.length c1, V2], .slice (some ⟨g2, 0, none⟩) st.length c2] w (OP11 m0 m1 m2 m3 m4 m5 l st w) := by
  obtain ⟨ia, hia, hia0, hia1, hia2⟩ := infos_sheets11
  obtain ⟨ib, hib, hib0, hib1, hib2⟩ := infos_steps11
  have R1 := Lib.hid h1
  have R2 := Lib.hid h2
  clear h1 h2
  go_enter Try.func120, Try.ntmps120
  go_wp2_with fail
  generalize hW : (World.alloc _ _ : World) = W0
  have HS : Hid (St11 2 (.cells #[.int .i64 m0, .int .i64 m1, .int .i64 m2, .int .i64 m3, .int .i64 m4, .int .i64 m5, .slice (some ⟨g1, 0, none⟩) l.length c1, V2] 62 (0, 0)) (pz11 62) none none w W0) := Lib.hid (by
    rw [← hW]
    exact ⟨alloc_past (alloc_at rfl), alloc_at (by simp), fun a ha => by (cases ha), fun a ha => by (cases ha), fun a c ha => by (cases ha), by simp, by omega, by (repeat (first | exact Below.refl _ _ | assumption | refine Below.setCell ?_ (by first | (simp; done) | (simp; omega)) _ | refine Below.alloc ?_ (by first | (simp; done) | (simp; omega)) _ | refine Below.drew ?_))⟩)
  clear hW
  refine wp_region_held_drew (S := fun U => U.cell? ⟨w.heap.size, 0, none⟩ = some (.int .i64 m0) ∧ U.cell? ⟨w.heap.size, 1, none⟩ = some (.int .i64 m1) ∧ U.cell? ⟨w.heap.size, 2, none⟩ = some (.int .i64 m2) ∧ U.cell? ⟨w.heap.size, 3, none⟩ = some (.int .i64 m3) ∧ U.cell? ⟨w.heap.size, 4, none⟩ = some (.int .i64 m4) ∧ U.cell? ⟨w.heap.size, 5, none⟩ = some (.int .i64 m5) ∧ U.cell? ⟨w.heap.size, 6, none⟩ = some (.slice (some ⟨g1, 0, none⟩) l.length c1)) (by kernel_rfl) ?_ (fun hHeld => ?_)
  · (try dsimp only)
    exact SKo11 HS.out.drew
  replace HS := Lib.hid HS.out.drew
  obtain ⟨V, hV⟩ : ∃ X, X = W0.drew := ⟨_, rfl⟩
  rw [← hV] at HS hHeld ⊢
  clear hV
  refine wpAnyH_take (i := 0) (oi := { dst := some 5, op := Go.Op.fieldAddr 62 (Go.Operand.tmp 2) 0, type := 0, pos := "l11_plans.go:66", after := #[], guard := none }) (v := ?_) rfl (by kernel_rfl) (by kernel_rfl) (by kernel_rfl) (fun _ _ _ h => h) (Or.inl ⟨by rfl, ?_⟩) (by assumption) ?_
  rotate_left
  · intro w hSw; (try dsimp only at hSw); go_simp; (try with_reducible rfl)
  simp only [Act.put, List.setIfInBounds_toArray, List.set_cons_zero, List.set_cons_succ]
  refine wpAnyH_take (i := 1) (oi := { dst := some 6, op := Go.Op.load 28 (Go.Operand.tmp 5), type := 28, pos := "l11_plans.go:66", after := #[{ on := 0, ground := Go.Ground.data }], guard := none }) (v := ?_) rfl (by kernel_rfl) (by kernel_rfl) (by kernel_rfl) (fun _ _ _ h => h) (Or.inl ⟨by rfl, ?_⟩) (by assumption) ?_
  rotate_left
  · intro w hSw; (try dsimp only at hSw); go_simp; (try with_reducible rfl)
  simp only [Act.put, List.setIfInBounds_toArray, List.set_cons_zero, List.set_cons_succ]
  refine wpAnyH_take (i := 3) (oi := { dst := some 8, op := Go.Op.fieldAddr 62 (Go.Operand.tmp 2) 1, type := 0, pos := "l11_plans.go:66", after := #[], guard := none }) (v := ?_) rfl (by kernel_rfl) (by kernel_rfl) (by kernel_rfl) (fun _ _ _ h => h) (Or.inl ⟨by rfl, ?_⟩) (by assumption) ?_
  rotate_left
  · intro w hSw; (try dsimp only at hSw); go_simp; (try with_reducible rfl)
  simp only [Act.put, List.setIfInBounds_toArray, List.set_cons_zero, List.set_cons_succ]
  refine wpAnyH_take (i := 4) (oi := { dst := some 9, op := Go.Op.load 59 (Go.Operand.tmp 8), type := 59, pos := "l11_plans.go:66", after := #[{ on := 3, ground := Go.Ground.data }], guard := none }) (v := ?_) rfl (by kernel_rfl) (by kernel_rfl) (by kernel_rfl) (fun _ _ _ h => h) (Or.inl ⟨by rfl, ?_⟩) (by assumption) ?_
  rotate_left
  · intro w hSw; (try dsimp only at hSw); go_simp; (try with_reducible rfl)
  simp only [Act.put, List.setIfInBounds_toArray, List.set_cons_zero, List.set_cons_succ]
  refine wpAnyH_take (i := 7) (oi := { dst := some 12, op := Go.Op.move (Go.Operand.tmp 1), type := 60, pos := "l11_plans.go:66", after := #[], guard := none }) (v := ?_) rfl (by kernel_rfl) (by kernel_rfl) (by kernel_rfl) (fun _ _ _ h => h) (Or.inl ⟨by rfl, ?_⟩) (by assumption) ?_
  rotate_left
  · intro w hSw; (try dsimp only at hSw); go_simp; (try with_reducible rfl)
  simp only [Act.put, List.setIfInBounds_toArray, List.set_cons_zero, List.set_cons_succ]
  refine wpAnyH_ready (rs := [2, 6]) (by kernel_rfl) (by simp) ?_
  refine (AllReadyH.cons (o := { dst := some 7, op := Go.Op.buildSlice 59 0 #[], type := 59, pos := "l11_plans.go:66", after := #[], guard := none }) rfl (fun K hK => ?_) (AllReadyH.cons (o := { dst := some 11, op := Go.Op.buildSlice 60 0 #[], type := 60, pos := "l11_plans.go:66", after := #[], guard := none }) rfl (fun K hK => ?_) AllReadyH.nil))
  · go_simp
    replace HS := Lib.hid HS.out.mkx
    refine hK.out _ _ ?_ (fun hHeld => ?_)
    · (try dsimp only)
      exact SKo11 HS.out
    clear hK K
    (try simp only [Act.put, List.setIfInBounds_toArray, List.set_cons_zero, List.set_cons_succ])
    generalize V.heap.size = gx1 at HS ⊢
    generalize (World.alloc V _ : World) = Y1 at HS hHeld ⊢
    refine wpAnyH_ready (rs := [5, 6]) (by kernel_rfl) (by simp) ?_
    refine (AllReadyH.cons (o := { dst := some 10, op := Go.Op.call { callee := Go.Callee.builtin Go.Builtin.append, args := #[Go.Operand.tmp 7, Go.Operand.tmp 9], argTypes := #[59, 59] }, type := 59, pos := "l11_plans.go:66", after := #[{ on := 2, ground := Go.Ground.data }, { on := 4, ground := Go.Ground.data }], guard := none }) rfl (fun K hK => ?_) (AllReadyH.cons (o := { dst := some 11, op := Go.Op.buildSlice 60 0 #[], type := 60, pos := "l11_plans.go:66", after := #[], guard := none }) rfl (fun K hK => ?_) AllReadyH.nil))
    · refine step_keep11 rfl _ _ 59 rfl (w.heap.size + 2) 28 ia (.agg #[.int .i64 0, .int .i64 0, .int .i64 0, .int .i64 0, .int .i64 0, .int .i64 0]) 6 48 Try.underlying59 hia hia0 hia1 hia2 rfl (by decide) gx1 0 0 [] rfl HS.out.x ⟨g1, 0, none⟩ l.length c1 (hv11 l) rfl (hv11_len l) (ra_add (ra_below R1.out HS.out.bel rfl)) (hv11_one l) (by unfold maxLen; omega) (by omega) HS.out.le ?_
      intro gx2 kx Y2 hown hgr hat _
      simp only [Nat.zero_add, List.nil_append] at hown ⊢
      replace HS := Lib.hid (HS.out.appx hown hgr hat)
      clear hown hgr hat
      refine hK.out _ _ ?_ (fun hHeld => ?_)
      · (try dsimp only)
        exact SKo11 HS.out
      clear hK K
      (try simp only [Act.put, List.setIfInBounds_toArray, List.set_cons_zero, List.set_cons_succ])
      refine wpAnyH_ready (rs := [6]) (by kernel_rfl) (by simp) ?_
      refine (AllReadyH.cons (o := { dst := some 11, op := Go.Op.buildSlice 60 0 #[], type := 60, pos := "l11_plans.go:66", after := #[], guard := none }) rfl (fun K hK => ?_) AllReadyH.nil)
      go_simp
      replace HS := Lib.hid HS.out.mky
      refine hK.out _ _ ?_ (fun hHeld => ?_)
      · (try dsimp only)
        exact SKo11 HS.out
      clear hK K
      (try simp only [Act.put, List.setIfInBounds_toArray, List.set_cons_zero, List.set_cons_succ])
      generalize Y2.heap.size = gy3 at HS ⊢
      generalize (World.alloc Y2 _ : World) = Y3 at HS hHeld ⊢
      refine wpAnyH_ready (rs := [8]) (by kernel_rfl) (by simp) ?_
      refine (AllReadyH.cons (o := { dst := some 13, op := Go.Op.call { callee := Go.Callee.builtin Go.Builtin.append, args := #[Go.Operand.tmp 11, Go.Operand.tmp 12], argTypes := #[60, 60] }, type := 60, pos := "l11_plans.go:66", after := #[{ on := 6, ground := Go.Ground.data }, { on := 7, ground := Go.Ground.data }, { on := 5, ground := Go.Ground.chain }], guard := none }) rfl (fun K hK => ?_) AllReadyH.nil)
      refine step_keep11 rfl _ _ 60 rfl (w.heap.size + 2) 73 ib (.agg #[.int .i64 0, .int .i64 0, .int .i64 0, .int .i64 0]) 4 32 Try.underlying60 hib hib0 hib1 hib2 rfl (by decide) gy3 0 0 [] rfl HS.out.y ⟨g2, 0, none⟩ st.length c2 (sv11 st) rfl (sv11_len st) (ra_add (ra_below R2.out HS.out.bel rfl)) (sv11_one st) (by unfold maxLen; omega) (by omega) HS.out.le ?_
      intro gy4 ky Y4 hown hgr hat _
      simp only [Nat.zero_add, List.nil_append] at hown ⊢
      replace HS := Lib.hid (HS.out.appy hown hgr hat)
      clear hown hgr hat
      refine hK.out _ _ ?_ (fun hHeld => ?_)
      · (try dsimp only)
        exact SKo11 HS.out
      clear hK K
      (try simp only [Act.put, List.setIfInBounds_toArray, List.set_cons_zero, List.set_cons_succ])
      refine wpAnyH_take (i := 9) (oi := { dst := some 14, op := Go.Op.build 62 #[(0, Go.Operand.tmp 6), (1, Go.Operand.tmp 10), (2, Go.Operand.tmp 13)], type := 62, pos := "l11_plans.go:66", after := #[{ on := 1, ground := Go.Ground.data }, { on := 5, ground := Go.Ground.data }, { on := 8, ground := Go.Ground.data }], guard := none }) (v := ?_) rfl (by kernel_rfl) (by kernel_rfl) (by kernel_rfl) (fun _ _ _ h => h) (Or.inl ⟨by rfl, ?_⟩) (by assumption) ?_
      rotate_left
      · intro w hSw; (try dsimp only at hSw); go_simp; (try with_reducible rfl)
      simp only [Act.put, List.setIfInBounds_toArray, List.set_cons_zero, List.set_cons_succ]
      refine wpAnyH_ready (rs := [10]) (by kernel_rfl) (by simp) ?_
      refine AllReadyH.cons (o := { dst := none, op := Go.Op.store 62 (Go.Operand.tmp 4) (Go.Operand.tmp 14), type := 0, pos := "l11_plans.go:66", after := #[{ on := 9, ground := Go.Ground.data }, { on := 8, ground := Go.Ground.chain }, { on := 0, ground := Go.Ground.phase }, { on := 1, ground := Go.Ground.phase }, { on := 2, ground := Go.Ground.phase }, { on := 3, ground := Go.Ground.phase }, { on := 4, ground := Go.Ground.phase }, { on := 5, ground := Go.Ground.phase }, { on := 6, ground := Go.Ground.phase }, { on := 7, ground := Go.Ground.phase }, { on := 8, ground := Go.Ground.phase }, { on := 9, ground := Go.Ground.phase }], guard := none }) rfl (fun K hK => ?_) AllReadyH.nil
      have z_c := fun j => cell_of_row Y4 _ j _ _ _ HS.out.2.1
      have z_f := fun j => frozen_of_row Y4 _ j _ _ HS.out.2.1
      go_simp
      clear z_c z_f
      have HF := fun X hX => Lib.hid (HS.out.fin (m0 := m0) (m1 := m1) (m2 := m2) (m3 := m3) (m4 := m4) (m5 := m5) (X := X) hX)
      generalize hX : (World.setCell _ _ _ : World) = X
      replace HF := HF X hX
      refine hK.out _ _ ?_ (fun hHeld => ?_)
      · (try dsimp only)
        rw [← hX]
        exact SKset11 HS.out
      clear hK K hX
      (try simp only [Act.put, List.setIfInBounds_toArray, List.set_cons_zero, List.set_cons_succ])
      refine wpAnyH_done (by kernel_rfl) ?_ _
      have x_c := fun j => cell_of_row X _ j _ _ _ HF.out.1
      go_wp2_with fail
      exact bodyPost_ret (v := .agg #[.int .i64 m0, .int .i64 m1, .int .i64 m2, .int .i64 m3, .int .i64 m4, .int .i64 m5, .slice (some ⟨gx2, 0, none⟩) l.length kx, .slice (some ⟨gy4, 0, none⟩) st.length ky]) (by simp [results, Try.results120, go_sem, x_c]) rfl ⟨gx2, kx, gy4, ky, rfl, HF.out.2⟩
    · go_simp
      replace HS := Lib.hid HS.out.mky
      refine hK.out _ _ ?_ (fun hHeld => ?_)
      · (try dsimp only)
        exact SKo11 HS.out
      clear hK K
      (try simp only [Act.put, List.setIfInBounds_toArray, List.set_cons_zero, List.set_cons_succ])
      generalize Y1.heap.size = gy5 at HS ⊢
      generalize (World.alloc Y1 _ : World) = Y5 at HS hHeld ⊢
      refine wpAnyH_ready (rs := [5]) (by kernel_rfl) (by simp) ?_
      refine (AllReadyH.cons (o := { dst := some 10, op := Go.Op.call { callee := Go.Callee.builtin Go.Builtin.append, args := #[Go.Operand.tmp 7, Go.Operand.tmp 9], argTypes := #[59, 59] }, type := 59, pos := "l11_plans.go:66", after := #[{ on := 2, ground := Go.Ground.data }, { on := 4, ground := Go.Ground.data }], guard := none }) rfl (fun K hK => ?_) AllReadyH.nil)
      refine step_keep11 rfl _ _ 59 rfl (w.heap.size + 2) 28 ia (.agg #[.int .i64 0, .int .i64 0, .int .i64 0, .int .i64 0, .int .i64 0, .int .i64 0]) 6 48 Try.underlying59 hia hia0 hia1 hia2 rfl (by decide) gx1 0 0 [] rfl HS.out.x ⟨g1, 0, none⟩ l.length c1 (hv11 l) rfl (hv11_len l) (ra_add (ra_below R1.out HS.out.bel rfl)) (hv11_one l) (by unfold maxLen; omega) (by omega) HS.out.le ?_
      intro gx6 kx Y6 hown hgr hat _
      simp only [Nat.zero_add, List.nil_append] at hown ⊢
      replace HS := Lib.hid (HS.out.appx hown hgr hat)
      clear hown hgr hat
      refine hK.out _ _ ?_ (fun hHeld => ?_)
      · (try dsimp only)
        exact SKo11 HS.out
      clear hK K
      (try simp only [Act.put, List.setIfInBounds_toArray, List.set_cons_zero, List.set_cons_succ])
      refine wpAnyH_ready (rs := [8]) (by kernel_rfl) (by simp) ?_
      refine (AllReadyH.cons (o := { dst := some 13, op := Go.Op.call { callee := Go.Callee.builtin Go.Builtin.append, args := #[Go.Operand.tmp 11, Go.Operand.tmp 12], argTypes := #[60, 60] }, type := 60, pos := "l11_plans.go:66", after := #[{ on := 6, ground := Go.Ground.data }, { on := 7, ground := Go.Ground.data }, { on := 5, ground := Go.Ground.chain }], guard := none }) rfl (fun K hK => ?_) AllReadyH.nil)
      refine step_keep11 rfl _ _ 60 rfl (w.heap.size + 2) 73 ib (.agg #[.int .i64 0, .int .i64 0, .int .i64 0, .int .i64 0]) 4 32 Try.underlying60 hib hib0 hib1 hib2 rfl (by decide) gy5 0 0 [] rfl HS.out.y ⟨g2, 0, none⟩ st.length c2 (sv11 st) rfl (sv11_len st) (ra_add (ra_below R2.out HS.out.bel rfl)) (sv11_one st) (by unfold maxLen; omega) (by omega) HS.out.le ?_
      intro gy7 ky Y7 hown hgr hat _
      simp only [Nat.zero_add, List.nil_append] at hown ⊢
      replace HS := Lib.hid (HS.out.appy hown hgr hat)
      clear hown hgr hat
      refine hK.out _ _ ?_ (fun hHeld => ?_)
      · (try dsimp only)
        exact SKo11 HS.out
      clear hK K
      (try simp only [Act.put, List.setIfInBounds_toArray, List.set_cons_zero, List.set_cons_succ])
      refine wpAnyH_take (i := 9) (oi := { dst := some 14, op := Go.Op.build 62 #[(0, Go.Operand.tmp 6), (1, Go.Operand.tmp 10), (2, Go.Operand.tmp 13)], type := 62, pos := "l11_plans.go:66", after := #[{ on := 1, ground := Go.Ground.data }, { on := 5, ground := Go.Ground.data }, { on := 8, ground := Go.Ground.data }], guard := none }) (v := ?_) rfl (by kernel_rfl) (by kernel_rfl) (by kernel_rfl) (fun _ _ _ h => h) (Or.inl ⟨by rfl, ?_⟩) (by assumption) ?_
      rotate_left
      · intro w hSw; (try dsimp only at hSw); go_simp; (try with_reducible rfl)
      simp only [Act.put, List.setIfInBounds_toArray, List.set_cons_zero, List.set_cons_succ]
      refine wpAnyH_ready (rs := [10]) (by kernel_rfl) (by simp) ?_
      refine AllReadyH.cons (o := { dst := none, op := Go.Op.store 62 (Go.Operand.tmp 4) (Go.Operand.tmp 14), type := 0, pos := "l11_plans.go:66", after := #[{ on := 9, ground := Go.Ground.data }, { on := 8, ground := Go.Ground.chain }, { on := 0, ground := Go.Ground.phase }, { on := 1, ground := Go.Ground.phase }, { on := 2, ground := Go.Ground.phase }, { on := 3, ground := Go.Ground.phase }, { on := 4, ground := Go.Ground.phase }, { on := 5, ground := Go.Ground.phase }, { on := 6, ground := Go.Ground.phase }, { on := 7, ground := Go.Ground.phase }, { on := 8, ground := Go.Ground.phase }, { on := 9, ground := Go.Ground.phase }], guard := none }) rfl (fun K hK => ?_) AllReadyH.nil
      have z_c := fun j => cell_of_row Y7 _ j _ _ _ HS.out.2.1
      have z_f := fun j => frozen_of_row Y7 _ j _ _ HS.out.2.1
      go_simp
      clear z_c z_f
      have HF := fun X hX => Lib.hid (HS.out.fin (m0 := m0) (m1 := m1) (m2 := m2) (m3 := m3) (m4 := m4) (m5 := m5) (X := X) hX)
      generalize hX : (World.setCell _ _ _ : World) = X
      replace HF := HF X hX
      refine hK.out _ _ ?_ (fun hHeld => ?_)
      · (try dsimp only)
        rw [← hX]
        exact SKset11 HS.out
      clear hK K hX
      (try simp only [Act.put, List.setIfInBounds_toArray, List.set_cons_zero, List.set_cons_succ])
      refine wpAnyH_done (by kernel_rfl) ?_ _
      have x_c := fun j => cell_of_row X _ j _ _ _ HF.out.1
      go_wp2_with fail
      exact bodyPost_ret (v := .agg #[.int .i64 m0, .int .i64 m1, .int .i64 m2, .int .i64 m3, .int .i64 m4, .int .i64 m5, .slice (some ⟨gx6, 0, none⟩) l.length kx, .slice (some ⟨gy7, 0, none⟩) st.length ky]) (by simp [results, Try.results120, go_sem, x_c]) rfl ⟨gx6, kx, gy7, ky, rfl, HF.out.2⟩
  · go_simp
    replace HS := Lib.hid HS.out.mky
    refine hK.out _ _ ?_ (fun hHeld => ?_)
    · (try dsimp only)
      exact SKo11 HS.out
    clear hK K
    (try simp only [Act.put, List.setIfInBounds_toArray, List.set_cons_zero, List.set_cons_succ])
    generalize V.heap.size = gy8 at HS ⊢
    generalize (World.alloc V _ : World) = Y8 at HS hHeld ⊢
    refine wpAnyH_ready (rs := [2]) (by kernel_rfl) (by simp) ?_
    refine (AllReadyH.cons (o := { dst := some 7, op := Go.Op.buildSlice 59 0 #[], type := 59, pos := "l11_plans.go:66", after := #[], guard := none }) rfl (fun K hK => ?_) AllReadyH.nil)
    go_simp
    replace HS := Lib.hid HS.out.mkx
    refine hK.out _ _ ?_ (fun hHeld => ?_)
    · (try dsimp only)
      exact SKo11 HS.out
    clear hK K
    (try simp only [Act.put, List.setIfInBounds_toArray, List.set_cons_zero, List.set_cons_succ])
    generalize Y8.heap.size = gx9 at HS ⊢
    generalize (World.alloc Y8 _ : World) = Y9 at HS hHeld ⊢
    refine wpAnyH_ready (rs := [5]) (by kernel_rfl) (by simp) ?_
    refine (AllReadyH.cons (o := { dst := some 10, op := Go.Op.call { callee := Go.Callee.builtin Go.Builtin.append, args := #[Go.Operand.tmp 7, Go.Operand.tmp 9], argTypes := #[59, 59] }, type := 59, pos := "l11_plans.go:66", after := #[{ on := 2, ground := Go.Ground.data }, { on := 4, ground := Go.Ground.data }], guard := none }) rfl (fun K hK => ?_) AllReadyH.nil)
    refine step_keep11 rfl _ _ 59 rfl (w.heap.size + 2) 28 ia (.agg #[.int .i64 0, .int .i64 0, .int .i64 0, .int .i64 0, .int .i64 0, .int .i64 0]) 6 48 Try.underlying59 hia hia0 hia1 hia2 rfl (by decide) gx9 0 0 [] rfl HS.out.x ⟨g1, 0, none⟩ l.length c1 (hv11 l) rfl (hv11_len l) (ra_add (ra_below R1.out HS.out.bel rfl)) (hv11_one l) (by unfold maxLen; omega) (by omega) HS.out.le ?_
    intro gx10 kx Y10 hown hgr hat _
    simp only [Nat.zero_add, List.nil_append] at hown ⊢
    replace HS := Lib.hid (HS.out.appx hown hgr hat)
    clear hown hgr hat
    refine hK.out _ _ ?_ (fun hHeld => ?_)
    · (try dsimp only)
      exact SKo11 HS.out
    clear hK K
    (try simp only [Act.put, List.setIfInBounds_toArray, List.set_cons_zero, List.set_cons_succ])
    refine wpAnyH_ready (rs := [8]) (by kernel_rfl) (by simp) ?_
    refine (AllReadyH.cons (o := { dst := some 13, op := Go.Op.call { callee := Go.Callee.builtin Go.Builtin.append, args := #[Go.Operand.tmp 11, Go.Operand.tmp 12], argTypes := #[60, 60] }, type := 60, pos := "l11_plans.go:66", after := #[{ on := 6, ground := Go.Ground.data }, { on := 7, ground := Go.Ground.data }, { on := 5, ground := Go.Ground.chain }], guard := none }) rfl (fun K hK => ?_) AllReadyH.nil)
    refine step_keep11 rfl _ _ 60 rfl (w.heap.size + 2) 73 ib (.agg #[.int .i64 0, .int .i64 0, .int .i64 0, .int .i64 0]) 4 32 Try.underlying60 hib hib0 hib1 hib2 rfl (by decide) gy8 0 0 [] rfl HS.out.y ⟨g2, 0, none⟩ st.length c2 (sv11 st) rfl (sv11_len st) (ra_add (ra_below R2.out HS.out.bel rfl)) (sv11_one st) (by unfold maxLen; omega) (by omega) HS.out.le ?_
    intro gy11 ky Y11 hown hgr hat _
    simp only [Nat.zero_add, List.nil_append] at hown ⊢
    replace HS := Lib.hid (HS.out.appy hown hgr hat)
    clear hown hgr hat
    refine hK.out _ _ ?_ (fun hHeld => ?_)
    · (try dsimp only)
      exact SKo11 HS.out
    clear hK K
    (try simp only [Act.put, List.setIfInBounds_toArray, List.set_cons_zero, List.set_cons_succ])
    refine wpAnyH_take (i := 9) (oi := { dst := some 14, op := Go.Op.build 62 #[(0, Go.Operand.tmp 6), (1, Go.Operand.tmp 10), (2, Go.Operand.tmp 13)], type := 62, pos := "l11_plans.go:66", after := #[{ on := 1, ground := Go.Ground.data }, { on := 5, ground := Go.Ground.data }, { on := 8, ground := Go.Ground.data }], guard := none }) (v := ?_) rfl (by kernel_rfl) (by kernel_rfl) (by kernel_rfl) (fun _ _ _ h => h) (Or.inl ⟨by rfl, ?_⟩) (by assumption) ?_
    rotate_left
    · intro w hSw; (try dsimp only at hSw); go_simp; (try with_reducible rfl)
    simp only [Act.put, List.setIfInBounds_toArray, List.set_cons_zero, List.set_cons_succ]
    refine wpAnyH_ready (rs := [10]) (by kernel_rfl) (by simp) ?_
    refine AllReadyH.cons (o := { dst := none, op := Go.Op.store 62 (Go.Operand.tmp 4) (Go.Operand.tmp 14), type := 0, pos := "l11_plans.go:66", after := #[{ on := 9, ground := Go.Ground.data }, { on := 8, ground := Go.Ground.chain }, { on := 0, ground := Go.Ground.phase }, { on := 1, ground := Go.Ground.phase }, { on := 2, ground := Go.Ground.phase }, { on := 3, ground := Go.Ground.phase }, { on := 4, ground := Go.Ground.phase }, { on := 5, ground := Go.Ground.phase }, { on := 6, ground := Go.Ground.phase }, { on := 7, ground := Go.Ground.phase }, { on := 8, ground := Go.Ground.phase }, { on := 9, ground := Go.Ground.phase }], guard := none }) rfl (fun K hK => ?_) AllReadyH.nil
    have z_c := fun j => cell_of_row Y11 _ j _ _ _ HS.out.2.1
    have z_f := fun j => frozen_of_row Y11 _ j _ _ HS.out.2.1
    go_simp
    clear z_c z_f
    have HF := fun X hX => Lib.hid (HS.out.fin (m0 := m0) (m1 := m1) (m2 := m2) (m3 := m3) (m4 := m4) (m5 := m5) (X := X) hX)
    generalize hX : (World.setCell _ _ _ : World) = X
    replace HF := HF X hX
    refine hK.out _ _ ?_ (fun hHeld => ?_)
    · (try dsimp only)
      rw [← hX]
      exact SKset11 HS.out
    clear hK K hX
    (try simp only [Act.put, List.setIfInBounds_toArray, List.set_cons_zero, List.set_cons_succ])
    refine wpAnyH_done (by kernel_rfl) ?_ _
    have x_c := fun j => cell_of_row X _ j _ _ _ HF.out.1
    go_wp2_with fail
    exact bodyPost_ret (v := .agg #[.int .i64 m0, .int .i64 m1, .int .i64 m2, .int .i64 m3, .int .i64 m4, .int .i64 m5, .slice (some ⟨gx10, 0, none⟩) l.length kx, .slice (some ⟨gy11, 0, none⟩) st.length ky]) (by simp [results, Try.results120, go_sem, x_c]) rfl ⟨gx10, kx, gy11, ky, rfl, HF.out.2⟩
/- Hv11 -/
theorem form11 {W : World} {B n k : Nat} {e : TypeId} {v : Value} {xs : List Value} (h : W.ownsRow B e k v n xs) (hn : v ≠ .slice none 0 0) : ∃ g c, v = .slice (some ⟨g, 0, none⟩) n c := by
  rcases h.2 with ⟨e1, _⟩ | ⟨g, c, _, e1, _⟩
  · exact absurd e1 hn
  · exact ⟨g, c, e1⟩
section
variable {b : Nat} {o0 o1 : Obj} {X Y : Option (Nat × Nat × Nat × List Value)} {w U V : World}
theorem St11.setx {g' k n : Nat} {xs : List Value} (h : St11 b o0 o1 none Y w U) (ho : V.ownsRow U.heap.size 28 6 (.slice (some ⟨g', 0, none⟩) n k) n xs) (hb : Below U.heap.size U V) : St11 b o0 o1 (some (g', k, n, xs)) Y w V := by
  have h2 := h.far hb rfl
  refine ⟨h2.1, h2.2.1, fun a ha => by cases ha; exact own_mono ho h.le, h2.2.2.2.1, fun a c ha hc => ?_, h2.2.2.2.2.2⟩
  cases ha
  have h3 := ((h.2.2.2.1 c hc).lt c.1 rfl).2
  have h4 := (ho.lt g' rfl).1
  show g' ≠ c.1
  omega
theorem St11.sety {g' k n : Nat} {xs : List Value} (h : St11 b o0 o1 X none w U) (ho : V.ownsRow U.heap.size 73 4 (.slice (some ⟨g', 0, none⟩) n k) n xs) (hb : Below U.heap.size U V) : St11 b o0 o1 X (some (g', k, n, xs)) w V := by
  have h2 := h.far hb rfl
  refine ⟨h2.1, h2.2.1, h2.2.2.1, fun a ha => by cases ha; exact own_mono ho h.le, fun a c ha hc => ?_, h2.2.2.2.2.2⟩
  cases hc
  have h3 := ((h.2.2.1 a ha).lt a.1 rfl).2
  have h4 := (ho.lt g' rfl).1
  show a.1 ≠ g'
  omega
end
set_option maxRecDepth 8000 in
theorem clone_sheets11 (l : List H11) (g c : Nat) (hl : l.length ≤ 1000) (w : World) (h : w.rangeAt g 0 (hv11 l)) : Calls Try.prog 200 #[.slice (some ⟨g, 0, none⟩) l.length c] w fun e w' => ∃ g' k, e = .returned (.slice (some ⟨g', 0, none⟩) l.length k) ∧ w'.ownsRow w.heap.size 28 6 (.slice (some ⟨g', 0, none⟩) l.length k) l.length (hv11 l) ∧ Below w.heap.size w w' := by
  obtain ⟨ia, hia, hia0, hia1, hia2⟩ := infos_sheets11
  have R1 := Lib.hid h
  clear h
  have HO : Hid ((w.alloc (.cells #[] 28)).ownsRow w.heap.size 28 6 (.slice (some ⟨w.heap.size, 0, none⟩) 0 0) 0 []) := Lib.hid (World.ownsRow_lit (base := w.heap.size) (e := 28) (size := 6) w #[] 0 (Nat.le_refl _) (by unfold maxLen; omega) rfl)
  have hB : Below w.heap.size w (w.alloc (.cells #[] 28)) := by (repeat (first | exact Below.refl _ _ | assumption | refine Below.setCell ?_ (by first | (simp; done) | (simp; omega)) _ | refine Below.alloc ?_ (by first | (simp; done) | (simp; omega)) _ | refine Below.drew ?_))
  have HB := Lib.hid hB
  clear hB
  have he : ∀ W : World, (binOp .eql 59 (.slice (some ⟨g, 0, none⟩) l.length c) (.slice none 0 0)).run Try.prog W = .ok (.bool false) W := fun _ => rfl
  go_enter Try.func200, Try.ntmps200
  go_wp2_with (at_builtin; go_loud (refine wpList_append_own_at _ rfl _ _ 59 rfl w.heap.size 28 ia (.agg #[.int .i64 0, .int .i64 0, .int .i64 0, .int .i64 0, .int .i64 0, .int .i64 0]) 6 48 Try.underlying59 hia hia0 hia1 hia2 rfl (by decide) (.slice (some ⟨w.heap.size, 0, none⟩) 0 0) 0 [] rfl HO.out ⟨g, 0, none⟩ l.length c (hv11 l) rfl (hv11_len l) (ra_add (ra_below R1.out HB.out rfl)) (hv11_one l) (by unfold maxLen; omega) (by omega) (by simp) ?_; intro v' w1 hown hgr hnn hat; simp only [Nat.zero_add, List.nil_append] at hown; have HF := Lib.hid (And.intro hown (HB.out.grown hgr (by simp) (fun k hk => by simp [Value.ownBlock] at hk; omega))); obtain ⟨g', k', rfl⟩ := form11 hown (fun e => by have := (hnn.mp e).1; simp at this); clear hown hgr hnn hat))
  go_ret
  exact ⟨g', k', rfl, HF.out.1, HF.out.2⟩
set_option maxRecDepth 20000 in
theorem clone_sheets11_nil (w : World) : Calls Try.prog 200 #[.slice none 0 0] w fun e w' => e = .returned (.slice none 0 0) ∧ w' = w := by
  have he : ∀ W : World, (binOp .eql 59 (.slice none 0 0) (.slice none 0 0)).run Try.prog W = .ok (.bool true) W := fun _ => rfl
  go_enter Try.func200, Try.ntmps200
  go_wp2_with fail
  go_ret
  exact ⟨rfl, rfl⟩
set_option maxRecDepth 8000 in
theorem clone_steps11 (l : List S11) (g c : Nat) (hl : l.length ≤ 1000) (w : World) (h : w.rangeAt g 0 (sv11 l)) : Calls Try.prog 201 #[.slice (some ⟨g, 0, none⟩) l.length c] w fun e w' => ∃ g' k, e = .returned (.slice (some ⟨g', 0, none⟩) l.length k) ∧ w'.ownsRow w.heap.size 73 4 (.slice (some ⟨g', 0, none⟩) l.length k) l.length (sv11 l) ∧ Below w.heap.size w w' := by
  obtain ⟨ia, hia, hia0, hia1, hia2⟩ := infos_steps11
  have R1 := Lib.hid h
  clear h
  have HO : Hid ((w.alloc (.cells #[] 73)).ownsRow w.heap.size 73 4 (.slice (some ⟨w.heap.size, 0, none⟩) 0 0) 0 []) := Lib.hid (World.ownsRow_lit (base := w.heap.size) (e := 73) (size := 4) w #[] 0 (Nat.le_refl _) (by unfold maxLen; omega) rfl)
  have hB : Below w.heap.size w (w.alloc (.cells #[] 73)) := by (repeat (first | exact Below.refl _ _ | assumption | refine Below.setCell ?_ (by first | (simp; done) | (simp; omega)) _ | refine Below.alloc ?_ (by first | (simp; done) | (simp; omega)) _ | refine Below.drew ?_))
  have HB := Lib.hid hB
  clear hB
  have he : ∀ W : World, (binOp .eql 60 (.slice (some ⟨g, 0, none⟩) l.length c) (.slice none 0 0)).run Try.prog W = .ok (.bool false) W := fun _ => rfl
  go_enter Try.func201, Try.ntmps201
  go_wp2_with (at_builtin; go_loud (refine wpList_append_own_at _ rfl _ _ 60 rfl w.heap.size 73 ia (.agg #[.int .i64 0, .int .i64 0, .int .i64 0, .int .i64 0]) 4 32 Try.underlying60 hia hia0 hia1 hia2 rfl (by decide) (.slice (some ⟨w.heap.size, 0, none⟩) 0 0) 0 [] rfl HO.out ⟨g, 0, none⟩ l.length c (sv11 l) rfl (sv11_len l) (ra_add (ra_below R1.out HB.out rfl)) (sv11_one l) (by unfold maxLen; omega) (by omega) (by simp) ?_; intro v' w1 hown hgr hnn hat; simp only [Nat.zero_add, List.nil_append] at hown; have HF := Lib.hid (And.intro hown (HB.out.grown hgr (by simp) (fun k hk => by simp [Value.ownBlock] at hk; omega))); obtain ⟨g', k', rfl⟩ := form11 hown (fun e => by have := (hnn.mp e).1; simp at this); clear hown hgr hnn hat))
  go_ret
  exact ⟨g', k', rfl, HF.out.1, HF.out.2⟩
set_option maxRecDepth 20000 in
theorem clone_steps11_nil (w : World) : Calls Try.prog 201 #[.slice none 0 0] w fun e w' => e = .returned (.slice none 0 0) ∧ w' = w := by
  have he : ∀ W : World, (binOp .eql 60 (.slice none 0 0) (.slice none 0 0)).run Try.prog W = .ok (.bool true) W := fun _ => rfl
  go_enter Try.func201, Try.ntmps201
  go_wp2_with fail
  go_ret
  exact ⟨rfl, rfl⟩
set_option maxRecDepth 20000 in
set_option maxHeartbeats 4000000 in
theorem ihav_11 (m0 m1 m2 m3 m4 m5 : Int) (VV : Value) (l : List H11) (st : List S11) (g1 c1 g2 c2 : Nat) (hl : l.length ≤ 1000) (hst : st.length ≤ 1000) (w : World) (h1 : w.rangeAt g1 0 (hv11 l)) (h2 : w.rangeAt g2 0 (sv11 st)) : Calls Try.prog 125 #[.agg #[.int .i64 m0, .int .i64 m1, .int .i64 m2, .int .i64 m3, .int .i64 m4, .int .i64 m5, .slice (some ⟨g1, 0, none⟩) l.length c1, VV], .slice (some ⟨g2, 0, none⟩) st.length c2] w (OP11 m0 m1 m2 m3 m4 m5 l st w) := by
  have HC1 := Lib.hid (fun W h => clone_sheets11 l g1 c1 hl W h)
  have HC2 := Lib.hid (fun W h => clone_steps11 st g2 c2 hst W h)
  have R1 := Lib.hid h1
  have R2 := Lib.hid h2
  clear h1 h2
  go_enter Try.func125, Try.ntmps125
  go_wp2_with fail
  generalize hW : (World.alloc _ _ : World) = W0
  have HS : Hid (St11 2 (.cells #[.int .i64 m0, .int .i64 m1, .int .i64 m2, .int .i64 m3, .int .i64 m4, .int .i64 m5, .slice (some ⟨g1, 0, none⟩) l.length c1, VV] 62 (0, 0)) (pz11 62) none none w W0) := Lib.hid (by
    rw [← hW]
    exact ⟨alloc_past (alloc_at rfl), alloc_at (by simp), fun a ha => by (cases ha), fun a ha => by (cases ha), fun a c ha => by (cases ha), by simp, by omega, by (repeat (first | exact Below.refl _ _ | assumption | refine Below.setCell ?_ (by first | (simp; done) | (simp; omega)) _ | refine Below.alloc ?_ (by first | (simp; done) | (simp; omega)) _ | refine Below.drew ?_))⟩)
  clear hW
  refine wp_region_held_drew (S := fun U => U.cell? ⟨w.heap.size, 0, none⟩ = some (.int .i64 m0) ∧ U.cell? ⟨w.heap.size, 1, none⟩ = some (.int .i64 m1) ∧ U.cell? ⟨w.heap.size, 2, none⟩ = some (.int .i64 m2) ∧ U.cell? ⟨w.heap.size, 3, none⟩ = some (.int .i64 m3) ∧ U.cell? ⟨w.heap.size, 4, none⟩ = some (.int .i64 m4) ∧ U.cell? ⟨w.heap.size, 5, none⟩ = some (.int .i64 m5) ∧ U.cell? ⟨w.heap.size, 6, none⟩ = some (.slice (some ⟨g1, 0, none⟩) l.length c1)) (by kernel_rfl) ?_ (fun hHeld => ?_)
  · (try dsimp only)
    exact SKo11 HS.out.drew
  replace HS := Lib.hid HS.out.drew
  obtain ⟨V, hV⟩ : ∃ X, X = W0.drew := ⟨_, rfl⟩
  rw [← hV] at HS hHeld ⊢
  clear hV
  refine wpAnyH_take (i := 0) (oi := { dst := some 5, op := Go.Op.fieldAddr 62 (Go.Operand.tmp 2) 0, type := 0, pos := "l11_plans.go:57", after := #[], guard := none }) (v := ?_) rfl (by kernel_rfl) (by kernel_rfl) (by kernel_rfl) (fun _ _ _ h => h) (Or.inl ⟨by rfl, ?_⟩) (by assumption) ?_
  rotate_left
  · intro w hSw; (try dsimp only at hSw); go_simp; (try with_reducible rfl)
  simp only [Act.put, List.setIfInBounds_toArray, List.set_cons_zero, List.set_cons_succ]
  refine wpAnyH_take (i := 1) (oi := { dst := some 6, op := Go.Op.load 28 (Go.Operand.tmp 5), type := 28, pos := "l11_plans.go:57", after := #[{ on := 0, ground := Go.Ground.data }], guard := none }) (v := ?_) rfl (by kernel_rfl) (by kernel_rfl) (by kernel_rfl) (fun _ _ _ h => h) (Or.inl ⟨by rfl, ?_⟩) (by assumption) ?_
  rotate_left
  · intro w hSw; (try dsimp only at hSw); go_simp; (try with_reducible rfl)
  simp only [Act.put, List.setIfInBounds_toArray, List.set_cons_zero, List.set_cons_succ]
  refine wpAnyH_take (i := 2) (oi := { dst := some 7, op := Go.Op.fieldAddr 62 (Go.Operand.tmp 2) 1, type := 0, pos := "l11_plans.go:57", after := #[], guard := none }) (v := ?_) rfl (by kernel_rfl) (by kernel_rfl) (by kernel_rfl) (fun _ _ _ h => h) (Or.inl ⟨by rfl, ?_⟩) (by assumption) ?_
  rotate_left
  · intro w hSw; (try dsimp only at hSw); go_simp; (try with_reducible rfl)
  simp only [Act.put, List.setIfInBounds_toArray, List.set_cons_zero, List.set_cons_succ]
  refine wpAnyH_take (i := 3) (oi := { dst := some 8, op := Go.Op.load 59 (Go.Operand.tmp 7), type := 59, pos := "l11_plans.go:57", after := #[{ on := 2, ground := Go.Ground.data }], guard := none }) (v := ?_) rfl (by kernel_rfl) (by kernel_rfl) (by kernel_rfl) (fun _ _ _ h => h) (Or.inl ⟨by rfl, ?_⟩) (by assumption) ?_
  rotate_left
  · intro w hSw; (try dsimp only at hSw); go_simp; (try with_reducible rfl)
  simp only [Act.put, List.setIfInBounds_toArray, List.set_cons_zero, List.set_cons_succ]
  refine wpAnyH_take (i := 5) (oi := { dst := some 10, op := Go.Op.move (Go.Operand.tmp 1), type := 60, pos := "l11_plans.go:57", after := #[], guard := none }) (v := ?_) rfl (by kernel_rfl) (by kernel_rfl) (by kernel_rfl) (fun _ _ _ h => h) (Or.inl ⟨by rfl, ?_⟩) (by assumption) ?_
  rotate_left
  · intro w hSw; (try dsimp only at hSw); go_simp; (try with_reducible rfl)
  simp only [Act.put, List.setIfInBounds_toArray, List.set_cons_zero, List.set_cons_succ]
  refine wpAnyH_ready (rs := [4]) (by kernel_rfl) (by simp) ?_
  refine AllReadyH.cons (o := { dst := some 9, op := Go.Op.call { callee := Go.Callee.value (Go.Operand.func 200), args := #[Go.Operand.tmp 8], argTypes := #[59] }, type := 59, pos := "l11_plans.go:57", after := #[{ on := 3, ground := Go.Ground.data }], guard := none }) rfl (fun K hK => ?_) AllReadyH.nil
  go_simp
  refine (HC1.out _ (ra_below R1.out HS.out.bel rfl)).mono ?_
  rintro e V1 ⟨gx, kx, rfl, ho, hb⟩
  replace HS := Lib.hid (HS.out.setx ho hb)
  clear ho hb
  refine hK.out _ _ ?_ (fun hHeld => ?_)
  · (try dsimp only)
    exact SKo11 HS.out
  clear hK K
  (try simp only [Act.put, List.setIfInBounds_toArray, List.set_cons_zero, List.set_cons_succ])
  refine wpAnyH_ready (rs := [6]) (by kernel_rfl) (by simp) ?_
  refine AllReadyH.cons (o := { dst := some 11, op := Go.Op.call { callee := Go.Callee.value (Go.Operand.func 201), args := #[Go.Operand.tmp 10], argTypes := #[60] }, type := 60, pos := "l11_plans.go:57", after := #[{ on := 5, ground := Go.Ground.data }, { on := 4, ground := Go.Ground.chain }], guard := none }) rfl (fun K hK => ?_) AllReadyH.nil
  go_simp
  refine (HC2.out _ (ra_below R2.out HS.out.bel rfl)).mono ?_
  rintro e V2 ⟨gy, ky, rfl, ho, hb⟩
  replace HS := Lib.hid (HS.out.sety ho hb)
  clear ho hb
  refine hK.out _ _ ?_ (fun hHeld => ?_)
  · (try dsimp only)
    exact SKo11 HS.out
  clear hK K
  (try simp only [Act.put, List.setIfInBounds_toArray, List.set_cons_zero, List.set_cons_succ])
  refine wpAnyH_take (i := 7) (oi := { dst := some 12, op := Go.Op.build 62 #[(0, Go.Operand.tmp 6), (1, Go.Operand.tmp 9), (2, Go.Operand.tmp 11)], type := 62, pos := "l11_plans.go:57", after := #[{ on := 1, ground := Go.Ground.data }, { on := 4, ground := Go.Ground.data }, { on := 6, ground := Go.Ground.data }], guard := none }) (v := ?_) rfl (by kernel_rfl) (by kernel_rfl) (by kernel_rfl) (fun _ _ _ h => h) (Or.inl ⟨by rfl, ?_⟩) (by assumption) ?_
  rotate_left
  · intro w hSw; (try dsimp only at hSw); go_simp; (try with_reducible rfl)
  simp only [Act.put, List.setIfInBounds_toArray, List.set_cons_zero, List.set_cons_succ]
  refine wpAnyH_ready (rs := [8]) (by kernel_rfl) (by simp) ?_
  refine AllReadyH.cons (o := { dst := none, op := Go.Op.store 62 (Go.Operand.tmp 4) (Go.Operand.tmp 12), type := 0, pos := "l11_plans.go:57", after := #[{ on := 7, ground := Go.Ground.data }, { on := 6, ground := Go.Ground.chain }, { on := 0, ground := Go.Ground.phase }, { on := 1, ground := Go.Ground.phase }, { on := 2, ground := Go.Ground.phase }, { on := 3, ground := Go.Ground.phase }, { on := 4, ground := Go.Ground.phase }, { on := 5, ground := Go.Ground.phase }, { on := 6, ground := Go.Ground.phase }, { on := 7, ground := Go.Ground.phase }], guard := none }) rfl (fun K hK => ?_) AllReadyH.nil
  have z_c := fun j => cell_of_row V2 _ j _ _ _ HS.out.2.1
  have z_f := fun j => frozen_of_row V2 _ j _ _ HS.out.2.1
  go_simp
  clear z_c z_f
  have HF := fun X hX => Lib.hid (HS.out.fin (m0 := m0) (m1 := m1) (m2 := m2) (m3 := m3) (m4 := m4) (m5 := m5) (X := X) hX)
  generalize hX : (World.setCell _ _ _ : World) = X
  replace HF := HF X hX
  refine hK.out _ _ ?_ (fun hHeld => ?_)
  · (try dsimp only)
    rw [← hX]
    exact SKset11 HS.out
  clear hK K hX
  (try simp only [Act.put, List.setIfInBounds_toArray, List.set_cons_zero, List.set_cons_succ])
  refine wpAnyH_done (by kernel_rfl) ?_ _
  have x_c := fun j => cell_of_row X _ j _ _ _ HF.out.1
  go_wp2_with fail
  exact bodyPost_ret (v := .agg #[.int .i64 m0, .int .i64 m1, .int .i64 m2, .int .i64 m3, .int .i64 m4, .int .i64 m5, .slice (some ⟨gx, 0, none⟩) l.length kx, .slice (some ⟨gy, 0, none⟩) st.length ky]) (by simp [results, Try.results125, go_sem, x_c]) rfl ⟨gx, kx, gy, ky, rfl, HF.out.2⟩
/- Un11 -/
/-- What is answered: a plan in rows of its own, and whether there is one. -/
def TP11 (m0 m1 m2 m3 m4 m5 : Int) (l : List H11) (st : List S11) (t : Bool) (w : World) (E : Ending) (w' : World) : Prop := ∃ v1 v2, E = .returned (.tuple #[.agg #[.int .i64 m0, .int .i64 m1, .int .i64 m2, .int .i64 m3, .int .i64 m4, .int .i64 m5, v1, v2], .bool t]) ∧ Pr11 w.heap.size w'.heap.size v1 v2 l st w' ∧ Below w.heap.size w w'
theorem Pr11.mono {lo hi lo' hi' : Nat} {v1 v2 : Value} {l : List H11} {st : List S11} {U : World} (h : Pr11 lo hi v1 v2 l st U) (h1 : lo' ≤ lo) (h2 : hi ≤ hi') : Pr11 lo' hi' v1 v2 l st U := ⟨own_mono h.1 h1, own_mono h.2.1 h1, fun k hk => Nat.lt_of_lt_of_le (h.2.2.1 k hk) h2, fun k hk => Nat.lt_of_lt_of_le (h.2.2.2.1 k hk) h2, h.2.2.2.2⟩
theorem own_one11 {W : World} {B n k : Nat} {e : TypeId} {v : Value} {xs : List Value} (h : W.ownsRow B e k v n xs) : v.oneCell' = true := by
  rcases h.2 with ⟨e1, _⟩ | ⟨g, c, _, e1, _⟩ <;> rw [e1] <;> rfl
theorem st_one11 {v : Value} (hv : v.oneCell' = true) (W : World) (a : Addr) (hc : (W.cell? a).isSome = true) (hf : W.frozen? a = false) : (store a v).run Try.prog W = .ok () (W.setCell a v) := by
  obtain ⟨u, hu⟩ := Option.isSome_iff_exists.mp hc
  rw [run_store _ _ _ _ _ hv, hu]
  simp [hf]
theorem Pr11.nil (lo hi : Nat) (U : World) : Pr11 lo hi (.slice none 0 0) (.slice none 0 0) [] [] U := ⟨World.ownsRow_nil U lo _ 6, World.ownsRow_nil U lo _ 4, fun k hk => by simp [Value.ownBlock] at hk, fun k hk => by simp [Value.ownBlock] at hk, fun k hk => by simp [Value.ownBlock] at hk⟩
/-- A plan stored whole into a box below its rows. -/
theorem box_put11 {g lo : Nat} {T : TypeId} {w U X : World} {v0 v1 v2 v3 v4 v5 v6 v7 u6 u7 : Value} {m0 m1 m2 m3 m4 m5 : Int} {l : List H11} {st : List S11} (hr : U.heap[g]? = some (.cells #[v0, v1, v2, v3, v4, v5, v6, v7] T (0, 0))) (hp : Pr11 lo U.heap.size u6 u7 l st U) (hg : g < lo) (hB : w.heap.size ≤ g) (hlo : w.heap.size ≤ lo) (hb : Below w.heap.size w U) (hX : ((((((((U.setCell ⟨g, 0, none⟩ (.int .i64 m0)).setCell ⟨g, 1, none⟩ (.int .i64 m1)).setCell ⟨g, 2, none⟩ (.int .i64 m2)).setCell ⟨g, 3, none⟩ (.int .i64 m3)).setCell ⟨g, 4, none⟩ (.int .i64 m4)).setCell ⟨g, 5, none⟩ (.int .i64 m5)).setCell ⟨g, 6, none⟩ u6).setCell ⟨g, 7, none⟩ u7) = X) : X.heap[g]? = some (.cells #[.int .i64 m0, .int .i64 m1, .int .i64 m2, .int .i64 m3, .int .i64 m4, .int .i64 m5, u6, u7] T (0, 0)) ∧ Pr11 w.heap.size X.heap.size u6 u7 l st X ∧ Below w.heap.size w X := by
  have hs := same8b (lo := lo) (hi := U.heap.size) (g := g) (W := U) hg (.int .i64 m0) (.int .i64 m1) (.int .i64 m2) (.int .i64 m3) (.int .i64 m4) (.int .i64 m5) u6 u7
  have hq := set8b (.int .i64 m0) (.int .i64 m1) (.int .i64 m2) (.int .i64 m3) (.int .i64 m4) (.int .i64 m5) u6 u7 hr
  have hbl := bel8b (g := g) (.int .i64 m0) (.int .i64 m1) (.int .i64 m2) (.int .i64 m3) (.int .i64 m4) (.int .i64 m5) u6 u7 hb hB
  have hsz : X.heap.size = U.heap.size := by rw [← hX]; simp
  rw [hX] at hs hq hbl
  exact ⟨hq, (hp.st U X hs).mono hlo (by omega), hbl⟩
theorem tk_len (st : List S11) {j : Nat} (h : j ≤ st.length) : (st.take j).length = j := by rw [List.length_take]; omega
/- Pv11 -/
def eqH (a b : H11) : Bool := a.1 == b.1 && a.2.1 == b.2.1 && a.2.2.1 == b.2.2.1 && a.2.2.2.1 == b.2.2.2.1 && a.2.2.2.2.1 == b.2.2.2.2.1 && a.2.2.2.2.2 == b.2.2.2.2.2
/-- The numbers of the vain ones among the first n steps. -/
def vn11 (F : List Fn11) (st : List S11) (f : Fn11) (n : Nat) : List Nat := (List.range n).filter fun i => eqH (t11 (at11 F st f (i + 1))) (t11 (at11 F st f i))
theorem vn11_zero (F : List Fn11) (st : List S11) (f : Fn11) : vn11 F st f 0 = [] := rfl
theorem vn11_succ (F : List Fn11) (st : List S11) (f : Fn11) (n : Nat) : vn11 F st f (n + 1) = vn11 F st f n ++ if eqH (t11 (at11 F st f (n + 1))) (t11 (at11 F st f n)) then [n] else [] := by
  unfold vn11
  rw [List.range_succ, List.filter_append]
  congr 1
  cases h : eqH (t11 (at11 F st f (n + 1))) (t11 (at11 F st f n)) <;> simp [h]
theorem vn11_len (F : List Fn11) (st : List S11) (f : Fn11) (n : Nat) : (vn11 F st f n).length ≤ n := by
  unfold vn11
  refine Nat.le_trans (List.length_filter_le _ _) ?_
  simp
def iv11 (z : List Nat) : List Value := z.map fun n : Nat => Value.int .i64 ((n : Nat) : Int)
theorem iv11_len (z : List Nat) : (iv11 z).length = z.length := by simp [iv11]
theorem iv11_snoc (z : List Nat) (n : Nat) : iv11 (z ++ [n]) = iv11 z ++ [.int .i64 (n : Int)] := by simp [iv11]
theorem one_new11 (W : World) (u0 : Value) (t : TypeId) (j : Nat) (u : Value) (h : ([u0] : List Value)[j]? = some u) : (W.alloc (.cells #[u0] t)).cell? ((⟨W.heap.size, 0, none⟩ : Addr).add j) = some u := by
  rcases j with _ | j
  · simp only [List.getElem?_cons_zero, Option.some.injEq] at h; subst h; go_simp
  · simp at h
theorem ints_one11 (a : Int) : ∀ u ∈ ([.int .i64 a] : List Value), u.oneCell' = true := by intro u hu; simp at hu; subst hu; rfl
theorem info_int11 : (Try.prog.info? 3).map (fun i => (i.zero, i.size, i.bytes)) = some (some (.int .i64 0), 1, 8) := by kernel_rfl
theorem infos_int11 : ∃ i0, Try.prog.info? 3 = some i0 ∧ i0.zero = some (.int .i64 0) ∧ i0.size = 1 ∧ i0.bytes = 8 := by
  have h := info_int11
  cases hh : Try.prog.info? 3 with
  | none => rw [hh] at h; simp at h
  | some i0 =>
    rw [hh] at h
    simp only [Option.map_some, Option.some.injEq, Prod.mk.injEq] at h
    exact ⟨i0, rfl, h.1, h.2.1, h.2.2⟩
/-- Midway: the numbers so far in a row of their own, beside the sheets. -/
def Rv_11 (gs : Nat) (l : List H11) (z : List Nat) (v : Value) (w U : World) : Prop := U.ownsRow (w.heap.size + 1) 3 1 v z.length (iv11 z) ∧ v ≠ .slice none 0 0 ∧ v.ownBlock ≠ some gs ∧ gs < U.heap.size ∧ U.rangeAt gs 0 (hv11 l) ∧ w.heap.size + 1 ≤ U.heap.size ∧ Below w.heap.size w U
theorem Rv_11.far {gs M : Nat} {l : List H11} {z : List Nat} {v : Value} {w U V : World} (h : Rv_11 gs l z v w U) (hb : Below M U V) (hM : M = U.heap.size) : Rv_11 gs l z v w V := ⟨h.1.kept (grown_below hb hM) (by cases hq : v.ownBlock <;> simp), h.2.1, h.2.2.1, Nat.lt_of_lt_of_le h.2.2.2.1 hb.size, ra_below h.2.2.2.2.1 hb hM, Nat.le_trans h.2.2.2.2.2.1 hb.size, below_of h.2.2.2.2.2.2 hb (by have := h.2.2.2.2.2.2.size; omega)⟩
theorem Rv_11.snoc {gs n : Nat} {l : List H11} {z : List Nat} {v v' : Value} {w U V : World} (h : Rv_11 gs l z v w U) (ho : V.ownsRow (w.heap.size + 1) 3 1 v' (z.length + 1) (iv11 z ++ [.int .i64 (n : Int)])) (hg : U.grownBy V v.ownBlock) (hn : v' = .slice none 0 0 ↔ v = .slice none 0 0 ∧ (1 : Nat) = 0) (hat : v'.ownBlock = v.ownBlock ∨ v'.ownBlock = some U.heap.size) : Rv_11 gs l (z ++ [n]) v' w V := by
  obtain ⟨h1, h2, h3, h4, h5, h6, h7⟩ := h
  refine ⟨by rw [iv11_snoc, List.length_append]; exact ho, fun e => by have := hn.mp e; omega, ?_, Nat.lt_of_lt_of_le h4 hg.size, ?_, Nat.le_trans h6 hg.size, h7.grown hg h7.size (fun k hk => by have := (h1.lt k hk).1; omega)⟩
  · rcases hat with e | e
    · rw [e]; exact h3
    · rw [e]; intro e2; cases e2; omega
  · intro j u hu
    exact hg.cell (h5 j u hu) (fun e => h3 (by rw [← e]))
theorem own_form11 {W : World} {B n k : Nat} {e : TypeId} {v : Value} {xs : List Value} (h : W.ownsRow B e k v n xs) (hn : v ≠ .slice none 0 0) : ∃ g c, v = .slice (some ⟨g, 0, none⟩) n c := by
  rcases h.2 with ⟨e1, _⟩ | ⟨g, c, _, e1, _⟩
  · exact absurd e1 hn
  · exact ⟨g, c, e1⟩
/-- What is answered. -/
def VP11 (z : List Nat) (t : Bool) (w : World) (E : Ending) (w' : World) : Prop := ∃ g cap, E = .returned (.tuple #[.slice (some ⟨g, 0, none⟩) z.length cap, .bool t]) ∧ w'.ownsRow w.heap.size 3 1 (.slice (some ⟨g, 0, none⟩) z.length cap) z.length (iv11 z) ∧ Below w.heap.size w w'
theorem SKv11 {gs k : Nat} {l : List H11} {w U : World} {z : List Nat} {v : Value} {f f' : Fn11} (h : Rv_11 gs l z v w U) (h1 : k + 1 < l.length) (e : l[k]'(by omega) = t11 f) (e' : l[k + 1] = t11 f') : U.cell? ⟨gs, k * 6, none⟩ = some (.int .i64 (rowv (f 0))) ∧ U.cell? ⟨gs, k * 6 + 1, none⟩ = some (.int .i64 (rowv (f 1))) ∧ U.cell? ⟨gs, k * 6 + 2, none⟩ = some (.int .i64 (rowv (f 2))) ∧ U.cell? ⟨gs, k * 6 + 3, none⟩ = some (.int .i64 (rowv (f 3))) ∧ U.cell? ⟨gs, k * 6 + 4, none⟩ = some (.int .i64 (rowv (f 4))) ∧ U.cell? ⟨gs, k * 6 + 5, none⟩ = some (.int .i64 (rowv (f 5))) ∧ U.cell? ⟨gs, (k + 1) * 6, none⟩ = some (.int .i64 (rowv (f' 0))) ∧ U.cell? ⟨gs, (k + 1) * 6 + 1, none⟩ = some (.int .i64 (rowv (f' 1))) ∧ U.cell? ⟨gs, (k + 1) * 6 + 2, none⟩ = some (.int .i64 (rowv (f' 2))) ∧ U.cell? ⟨gs, (k + 1) * 6 + 3, none⟩ = some (.int .i64 (rowv (f' 3))) ∧ U.cell? ⟨gs, (k + 1) * 6 + 4, none⟩ = some (.int .i64 (rowv (f' 4))) ∧ U.cell? ⟨gs, (k + 1) * 6 + 5, none⟩ = some (.int .i64 (rowv (f' 5))) := by
  have a := fm_range ch11_len h.2.2.2.2.1 (i := k) (by omega)
  have b := fm_range ch11_len h.2.2.2.2.1 (i := k + 1) h1
  rw [e] at a
  rw [e'] at b
  exact ⟨a 0 _ rfl, a 1 _ rfl, a 2 _ rfl, a 3 _ rfl, a 4 _ rfl, a 5 _ rfl, b 0 _ rfl, b 1 _ rfl, b 2 _ rfl, b 3 _ rfl, b 4 _ rfl, b 5 _ rfl⟩
set_option maxRecDepth 20000 in
set_option maxHeartbeats 4000000 in
theorem ivain_yes (f : Fn11) (F : List Fn11) (st : List S11) (g1 c1 g2 c2 : Nat) (hst : st.length ≤ 40) (hF : F.length ≤ 4) (hv : ∀ p ∈ st, okS F.length p = true) (w : World) (h1 : w.rangeAt g1 0 (hv11 (F.map t11))) (h2 : w.rangeAt g2 0 (sv11 st)) : Calls Try.prog 123 #[.agg #[.int .i64 (rowv (f 0)), .int .i64 (rowv (f 1)), .int .i64 (rowv (f 2)), .int .i64 (rowv (f 3)), .int .i64 (rowv (f 4)), .int .i64 (rowv (f 5)), .slice (some ⟨g1, 0, none⟩) F.length c1, .slice (some ⟨g2, 0, none⟩) st.length c2]] w (VP11 (vn11 F st f st.length) true w) := by
  have hn4 : (F.map t11).length = F.length := List.length_map t11
  have HP := Lib.hid (fun W a b => iplan_11 (rowv (f 0)) (rowv (f 1)) (rowv (f 2)) (rowv (f 3)) (rowv (f 4)) (rowv (f 5)) (F.map t11) st g1 c1 g2 c2 (by rw [hn4]; omega) (by omega) (wfs_of hv) W a b)
  rw [show okP (rowv (f 0), rowv (f 1), rowv (f 2), rowv (f 3), rowv (f 4), rowv (f 5)) (F.map t11) st = true from okP_of (f := f) hF hst hv, hn4] at HP
  have R1 := Lib.hid h1
  have R2 := Lib.hid h2
  have HX := Lib.hid (fun W a b => sheets_11 (rowv (f 0)) (rowv (f 1)) (rowv (f 2)) (rowv (f 3)) (rowv (f 4)) (rowv (f 5)) f F st g1 c1 g2 c2 hst hF hv W a b)
  clear h1 h2 hn4
  obtain ⟨i0, hi, hz0, hz1, hz2⟩ := infos_int11
  go_enter Try.func123, Try.ntmps123
  go_wp2_with fail
  generalize hW : (World.alloc _ _ : World) = W0
  have q0 : W0.heap[w.heap.size]? = some (Obj.cells #[.int .i64 (rowv (f 0)), .int .i64 (rowv (f 1)), .int .i64 (rowv (f 2)), .int .i64 (rowv (f 3)), .int .i64 (rowv (f 4)), .int .i64 (rowv (f 5)), .slice (some ⟨g1, 0, none⟩) F.length c1, .slice (some ⟨g2, 0, none⟩) st.length c2] 62 (0, 0)) := by rw [← hW]; exact alloc_past (alloc_at rfl)
  have ho0 : W0.ownsRow (w.heap.size + 1) 3 1 (.slice (some ⟨w.heap.size + 1, 0, none⟩) 0 0) 0 (iv11 []) := by
    rw [← hW]
    have h := World.ownsRow_lit (base := w.heap.size + 1) (e := 3) (size := 1) (w.alloc (.cells #[.int .i64 (rowv (f 0)), .int .i64 (rowv (f 1)), .int .i64 (rowv (f 2)), .int .i64 (rowv (f 3)), .int .i64 (rowv (f 4)), .int .i64 (rowv (f 5)), .slice (some ⟨g1, 0, none⟩) F.length c1, .slice (some ⟨g2, 0, none⟩) st.length c2] 62)) #[] 0 (by simp) (by unfold maxLen; omega) rfl
    rw [show (w.alloc (.cells #[.int .i64 (rowv (f 0)), .int .i64 (rowv (f 1)), .int .i64 (rowv (f 2)), .int .i64 (rowv (f 3)), .int .i64 (rowv (f 4)), .int .i64 (rowv (f 5)), .slice (some ⟨g1, 0, none⟩) F.length c1, .slice (some ⟨g2, 0, none⟩) st.length c2] 62)).heap.size = w.heap.size + 1 by simp] at h
    exact h
  have hsz : w.heap.size + 1 < W0.heap.size := by rw [← hW]; simp
  have hB : Below w.heap.size w W0 := by rw [← hW]; (repeat (first | exact Below.refl _ _ | assumption | refine Below.setCell ?_ (by first | (simp; done) | (simp; omega)) _ | refine Below.alloc ?_ (by first | (simp; done) | (simp; omega)) _ | refine Below.drew ?_))
  clear hW
  refine (HP.out _ (ra_below R1.out hB rfl) (ra_below R2.out hB rfl)).mono ?_
  rintro e W1 ⟨rfl, hb⟩
  replace q0 := rowk q0 hb rfl
  replace ho0 := ho0.kept (grown_below hb rfl) (.inr (by simp [Value.ownBlock]))
  replace hsz := Nat.lt_of_lt_of_le hsz hb.size
  replace hB := below_of hB hb (by have := hB.size; omega)
  clear hb HP
  have a_c := fun j => cell_of_row W1 _ j _ _ _ q0
  go_wp2_with fail
  refine (HX.out _ (ra_below R1.out hB rfl) (ra_below R2.out hB rfl)).mono ?_
  rintro e W2 ⟨gs, cap, rfl, hs, hb⟩
  replace q0 := rowk q0 hb rfl
  replace ho0 := ho0.kept (grown_below hb rfl) (.inr (by simp [Value.ownBlock]))
  have hlt := hs.lt gs rfl
  have HO := Lib.hid (own_range hs)
  have S0 : Hid (Rv_11 gs (sh11 F st f st.length) (vn11 F st f 0) (.slice (some ⟨w.heap.size + 1, 0, none⟩) 0 0) w W2) := Lib.hid ⟨by rw [vn11_zero]; exact ho0, by simp, by simp [Value.ownBlock]; omega, hlt.2, HO.out, by have := hb.size; omega, below_of hB hb (by have := hB.size; omega)⟩
  clear hb HX ho0 hB hsz R1 R2 hs hlt HO a_c
  have a_c := fun j => cell_of_row W2 _ j _ _ _ q0
  go_wp2_with fail
  clear a_c q0
  go_loopw [4, 19] (fun a i wr => ∃ k : Nat, k ≤ st.length ∧ i = .int .i64 k ∧ Hid (Rv_11 gs (sh11 F st f st.length) (vn11 F st f k) a w wr)) (fun _ i _ => st.length - (intOf i).toNat)
  case atStart => exact ⟨0, by omega, rfl, S0⟩
  case round =>
    obtain ⟨k, hk, rfl, HB⟩ := hrel
    by_cases hlt : k < st.length
    · have hlt' : (k : Int) < st.length := by omega
      have hk0 : (0 : Int) ≤ k := by omega
      have hk2 : (k : Int) < ((st.length + 1 : Nat) : Int) := by omega
      have hk3 : (k : Int) + 1 < ((st.length + 1 : Nat) : Int) := by omega
      have e1 : wrap64 ((k : Int) + 1) = ((k + 1 : Nat) : Int) := by unfold wrap64; omega
      have e2 : IntKind.i64.wrap ((k : Int) + 1) = ((k + 1 : Nat) : Int) := by rw [IntKind.wrap_i64]; omega
      have hk4 : ((k + 1 : Nat) : Int) < ((st.length + 1 : Nat) : Int) := by omega
      have HV := Lib.hid (vn11_succ F st f k)
      have HL := Lib.hid (vn11_len F st f k)
      obtain ⟨c0, c1', c2', c3, c4, c5, d0, d1, d2, d3, d4, d5⟩ := SKv11 (k := k) HB.out (by rw [sh11_len]; omega) (sh11_get F st f (by omega)) (sh11_get F st f (by omega))
      have hE := fun W => eq26 (rowv (at11 F st f (k + 1) 0)) (rowv (at11 F st f (k + 1) 1)) (rowv (at11 F st f (k + 1) 2)) (rowv (at11 F st f (k + 1) 3)) (rowv (at11 F st f (k + 1) 4)) (rowv (at11 F st f (k + 1) 5)) (rowv (at11 F st f k 0)) (rowv (at11 F st f k 1)) (rowv (at11 F st f k 2)) (rowv (at11 F st f k 3)) (rowv (at11 F st f k 4)) (rowv (at11 F st f k 5)) W
      have hH : eqH (t11 (at11 F st f (k + 1))) (t11 (at11 F st f k)) = (rowv (at11 F st f (k + 1) 0) == rowv (at11 F st f k 0) && rowv (at11 F st f (k + 1) 1) == rowv (at11 F st f k 1) && rowv (at11 F st f (k + 1) 2) == rowv (at11 F st f k 2) && rowv (at11 F st f (k + 1) 3) == rowv (at11 F st f k 3) && rowv (at11 F st f (k + 1) 4) == rowv (at11 F st f k 4) && rowv (at11 F st f (k + 1) 5) == rowv (at11 F st f k 5)) := rfl
      rw [← hH] at hE
      clear hH
      generalize eqH (t11 (at11 F st f (k + 1))) (t11 (at11 F st f k)) = b at hE HV
      generalize vn11 F st f k = z at HB HV HL
      obtain ⟨ga, ca, rfl⟩ := own_form11 HB.out.1 HB.out.2.1
      go_wp2_with fail
      go_quiet (fail)
      generalize hWq : (World.drewN wr _) = Wq
      have HK : Hid (Rv_11 gs (sh11 F st f st.length) z (.slice (some ⟨ga, 0, none⟩) z.length ca) w Wq) := Lib.hid (by
        rw [← hWq]
        exact HB.out.far (M := wr.heap.size) ⟨rfl, rfl, rfl, Nat.le_refl _, fun _ _ => rfl⟩ rfl)
      clear hWq HB c0 c1' c2' c3 c4 c5 d0 d1 d2 d3 d4 d5 hE
      cases b
      · have HV2 : Hid (vn11 F st f (k + 1) = z) := Lib.hid (by have := HV.out; simpa using this)
        go_wp2_with fail
        go_roundw
        case rel => exact ⟨k + 1, by omega, by go_num, by rw [HV2.out]; exact HK⟩
        case measure => simp [intOf]; omega
      · have HV2 : Hid (vn11 F st f (k + 1) = z ++ [k]) := Lib.hid (by have := HV.out; simpa using this)
        have HA := Lib.hid (HK.out.far (M := Wq.heap.size) ((Below.refl _ _).alloc (Nat.le_refl _) (.cells #[.int .i64 (k : Int)] 3)) rfl)
        clear HV HK
        go_wp2_with (at_builtin; refine wpList_append_own_at _ rfl _ _ 126 rfl (w.heap.size + 1) 3 i0 (.int .i64 0) 1 8 Try.underlying126 hi hz0 hz1 hz2 rfl (by decide) _ _ _ rfl HA.out.1 ⟨Wq.heap.size, 0, none⟩ 1 1 [.int .i64 (k : Int)] rfl rfl (one_new11 _ _ _) (ints_one11 _) (by have := HL.out; unfold maxLen; omega) (by have := HL.out; omega) HA.out.2.2.2.2.2.1 ?_; intro v' w1 hown hgr hnn hat; have R := Lib.hid (HA.out.snoc hown hgr hnn hat); clear hown hgr hnn hat HA)
        go_roundw
        case rel => exact ⟨k + 1, by omega, by go_num, by rw [HV2.out]; exact R⟩
        case measure => simp [intOf]; omega
    · obtain rfl : k = st.length := by omega
      obtain ⟨ga, ca, rfl⟩ := own_form11 HB.out.1 HB.out.2.1
      have HO := Lib.hid (own_mono HB.out.1 (show w.heap.size ≤ w.heap.size + 1 by omega))
      go_wp2_with fail
      exact bodyPost_ret (v := .tuple #[.slice (some ⟨ga, 0, none⟩) (vn11 F st f st.length).length ca, .bool true]) (by simp [results, Try.results123, go_sem]) rfl ⟨ga, ca, rfl, HO.out, HB.out.2.2.2.2.2.2⟩
/- Pw11 -/
/-- Midway: the plan's box, the sheet's box, the numbers so far in a row of their own. -/
def Rm11 (m0 m1 m2 m3 m4 m5 : Int) (V1 V2 : Value) (gb : Nat) (f : Fn11) (z : List Nat) (v : Value) (w U : World) : Prop := U.heap[w.heap.size]? = some (o8_11 m0 m1 m2 m3 m4 m5 V1 V2) ∧ U.heap[gb]? = some (o6_11 f) ∧ U.ownsRow (w.heap.size + 1) 3 1 v z.length (iv11 z) ∧ v ≠ .slice none 0 0 ∧ v.ownBlock ≠ some gb ∧ w.heap.size + 1 ≤ gb ∧ Below w.heap.size w U
theorem Rm11.far {m0 m1 m2 m3 m4 m5 : Int} {V1 V2 v : Value} {gb M : Nat} {f : Fn11} {z : List Nat} {w U V : World} (h : Rm11 m0 m1 m2 m3 m4 m5 V1 V2 gb f z v w U) (hb : Below M U V) (hM : M = U.heap.size) : Rm11 m0 m1 m2 m3 m4 m5 V1 V2 gb f z v w V := ⟨rowk h.1 hb hM, rowk h.2.1 hb hM, h.2.2.1.kept (grown_below hb hM) (by cases hq : v.ownBlock <;> simp), h.2.2.2.1, h.2.2.2.2.1, h.2.2.2.2.2.1, below_of h.2.2.2.2.2.2 hb (by have := h.2.2.2.2.2.2.size; omega)⟩
theorem Rm11.al {m0 m1 m2 m3 m4 m5 : Int} {V1 V2 v : Value} {gb : Nat} {f : Fn11} {z : List Nat} {w U : World} (h : Rm11 m0 m1 m2 m3 m4 m5 V1 V2 gb f z v w U) (o : Obj) : Rm11 m0 m1 m2 m3 m4 m5 V1 V2 gb f z v w (U.alloc o) := h.far (M := U.heap.size) ((Below.refl _ _).alloc (Nat.le_refl _) o) rfl
theorem Rm11.drew {m0 m1 m2 m3 m4 m5 : Int} {V1 V2 v : Value} {gb : Nat} {f : Fn11} {z : List Nat} {w U : World} (h : Rm11 m0 m1 m2 m3 m4 m5 V1 V2 gb f z v w U) : Rm11 m0 m1 m2 m3 m4 m5 V1 V2 gb f z v w U.drew := h.far (M := U.heap.size) (Below.refl _ _).drew rfl
theorem Rm11.set {m0 m1 m2 m3 m4 m5 : Int} {V1 V2 v : Value} {gb gn i : Nat} {f : Fn11} {z : List Nat} {w U : World} {u : Value} (h : Rm11 m0 m1 m2 m3 m4 m5 V1 V2 gb f z v w U) (h1 : gn ≠ gb) (h2 : v.ownBlock ≠ some gn) (h3 : w.heap.size + 1 ≤ gn) : Rm11 m0 m1 m2 m3 m4 m5 V1 V2 gb f z v w (U.setCell ⟨gn, i, none⟩ u) := by
  have n0 : w.heap.size ≠ gn := by omega
  have n1 : gb ≠ gn := fun e => h1 e.symm
  exact ⟨by rw [Below.heap_setCell _ _ _ _ n0]; exact h.1, by rw [Below.heap_setCell _ _ _ _ n1]; exact h.2.1, h.2.2.1.kept (grow_set _ _ _) (.inr h2), h.2.2.2.1, h.2.2.2.2.1, h.2.2.2.2.2.1, h.2.2.2.2.2.2.setCell (by show w.heap.size ≤ gn; omega) _⟩
theorem Rm11.lt {m0 m1 m2 m3 m4 m5 : Int} {V1 V2 v : Value} {gb : Nat} {f : Fn11} {z : List Nat} {w U : World} (h : Rm11 m0 m1 m2 m3 m4 m5 V1 V2 gb f z v w U) : gb < U.heap.size ∧ ∀ k, v.ownBlock = some k → k < U.heap.size := ⟨(Array.getElem?_eq_some_iff.1 h.2.1).1, fun k hk => (h.2.2.1.lt k hk).2⟩
theorem blk_ex {U : World} {g : Nat} {o : Obj} (h : U.heap[g]? = some o) : ∃ k, k = g := ⟨g, rfl⟩
theorem grown_row {U V : World} {g ga n c : Nat} {o : Obj} (h : U.heap[g]? = some o) (hg : U.grownBy V (Value.slice (some ⟨ga, 0, none⟩) n c).ownBlock) (hne : g ≠ ga) : V.heap[g]? = some o := by
  rw [hg.block _ (Array.getElem?_eq_some_iff.1 h).1 (by simp [Value.ownBlock]; exact hne)]
  exact h
theorem Rm11.put {m0 m1 m2 m3 m4 m5 : Int} {V1 V2 v : Value} {gb : Nat} {f : Fn11} {z : List Nat} {w U : World} (G : Fn11) (h : Rm11 m0 m1 m2 m3 m4 m5 V1 V2 gb f z v w U) : Rm11 m0 m1 m2 m3 m4 m5 V1 V2 gb G z v w ((((((U.setCell ⟨gb, 0, none⟩ (.int .i64 (rowv (G 0)))).setCell ⟨gb, 1, none⟩ (.int .i64 (rowv (G 1)))).setCell ⟨gb, 2, none⟩ (.int .i64 (rowv (G 2)))).setCell ⟨gb, 3, none⟩ (.int .i64 (rowv (G 3)))).setCell ⟨gb, 4, none⟩ (.int .i64 (rowv (G 4)))).setCell ⟨gb, 5, none⟩ (.int .i64 (rowv (G 5)))) := by
  obtain ⟨h1, h2, h3, h4, h5, h6, h7⟩ := h
  have n0 : w.heap.size ≠ gb := by omega
  have gs : ∀ (W : World) (j : Nat) (u : Value), W.ownsRow (w.heap.size + 1) 3 1 v z.length (iv11 z) → (W.setCell ⟨gb, j, none⟩ u).ownsRow (w.heap.size + 1) 3 1 v z.length (iv11 z) := fun W j u ho => ho.kept (grow_set _ _ _) (.inr h5)
  exact ⟨by rw [Below.heap_setCell _ _ _ _ n0, Below.heap_setCell _ _ _ _ n0, Below.heap_setCell _ _ _ _ n0, Below.heap_setCell _ _ _ _ n0, Below.heap_setCell _ _ _ _ n0, Below.heap_setCell _ _ _ _ n0]; exact h1, set6a _ _ _ _ _ _ h2, gs _ _ _ (gs _ _ _ (gs _ _ _ (gs _ _ _ (gs _ _ _ (gs _ _ _ h3))))), h4, h5, h6, below6 h7 (by omega)⟩
theorem Rm11.snoc {m0 m1 m2 m3 m4 m5 : Int} {V1 V2 v v' : Value} {gb n : Nat} {f : Fn11} {z : List Nat} {w U V : World} (h : Rm11 m0 m1 m2 m3 m4 m5 V1 V2 gb f z v w U) (ho : V.ownsRow (w.heap.size + 1) 3 1 v' (z.length + 1) (iv11 z ++ [.int .i64 (n : Int)])) (hg : U.grownBy V v.ownBlock) (hn : v' = .slice none 0 0 ↔ v = .slice none 0 0 ∧ (1 : Nat) = 0) (hat : v'.ownBlock = v.ownBlock ∨ v'.ownBlock = some U.heap.size) : Rm11 m0 m1 m2 m3 m4 m5 V1 V2 gb f (z ++ [n]) v' w V := by
  obtain ⟨h1, h2, h3, h4, h5, h6, h7⟩ := h
  have hl := (Array.getElem?_eq_some_iff.1 h2).1
  refine ⟨?_, ?_, by rw [iv11_snoc, List.length_append]; exact ho, fun e => by have := hn.mp e; omega, ?_, h6, h7.grown hg h7.size (fun k hk => by have := (h3.lt k hk).1; omega)⟩
  · rw [hg.block _ (Array.getElem?_eq_some_iff.1 h1).1 (fun e => by have := (h3.lt _ e.symm).1; omega)]; exact h1
  · rw [hg.block _ hl (fun e => h5 e.symm)]; exact h2
  · rcases hat with e | e
    · rw [e]; exact h5
    · rw [e]; intro e2; cases e2; omega
theorem Rm11.ltb {m0 m1 m2 m3 m4 m5 : Int} {V1 V2 v : Value} {gb : Nat} {f : Fn11} {z : List Nat} {w U : World} (h : Rm11 m0 m1 m2 m3 m4 m5 V1 V2 gb f z v w U) : gb < U.heap.size := (Array.getElem?_eq_some_iff.1 h.2.1).1
theorem Rm11.ltv {m0 m1 m2 m3 m4 m5 : Int} {V1 V2 : Value} {gb ga n c : Nat} {f : Fn11} {z : List Nat} {w U : World} (h : Rm11 m0 m1 m2 m3 m4 m5 V1 V2 gb f z (.slice (some ⟨ga, 0, none⟩) n c) w U) : ga < U.heap.size := (h.2.2.1.lt ga rfl).2
theorem Rm11.ltw {m0 m1 m2 m3 m4 m5 : Int} {V1 V2 v : Value} {gb : Nat} {f : Fn11} {z : List Nat} {w U : World} (h : Rm11 m0 m1 m2 m3 m4 m5 V1 V2 gb f z v w U) : w.heap.size + 1 ≤ U.heap.size := by
  have := (Array.getElem?_eq_some_iff.1 h.1).1
  omega
theorem Rm11.bel {m0 m1 m2 m3 m4 m5 : Int} {V1 V2 v : Value} {gb : Nat} {f : Fn11} {z : List Nat} {w U : World} (h : Rm11 m0 m1 m2 m3 m4 m5 V1 V2 gb f z v w U) : Below w.heap.size w U := h.2.2.2.2.2.2
theorem SKm11 {m0 m1 m2 m3 m4 m5 k : Int} {v : Value} {gb g1 n1 c1 g2 c2 s x y i : Nat} {f : Fn11} {z : List Nat} {st : List S11} {w U : World} (R2 : w.rangeAt g2 0 (sv11 st)) (hi : i < st.length) (he : st[i] = ⟨k, s, x, y⟩) (h : Rm11 m0 m1 m2 m3 m4 m5 (.slice (some ⟨g1, 0, none⟩) n1 c1) (.slice (some ⟨g2, 0, none⟩) st.length c2) gb f z v w U) :
    U.cell? ⟨gb, 0, none⟩ = some (.int .i64 (rowv (f 0))) ∧ U.cell? ⟨gb, 1, none⟩ = some (.int .i64 (rowv (f 1))) ∧ U.cell? ⟨gb, 2, none⟩ = some (.int .i64 (rowv (f 2))) ∧ U.cell? ⟨gb, 3, none⟩ = some (.int .i64 (rowv (f 3))) ∧ U.cell? ⟨gb, 4, none⟩ = some (.int .i64 (rowv (f 4))) ∧ U.cell? ⟨gb, 5, none⟩ = some (.int .i64 (rowv (f 5))) ∧ U.cell? ⟨w.heap.size, 6, none⟩ = some (.slice (some ⟨g1, 0, none⟩) n1 c1) ∧ U.cell? ⟨w.heap.size, 7, none⟩ = some (.slice (some ⟨g2, 0, none⟩) st.length c2) ∧ U.cell? ⟨g2, i * 4, none⟩ = some (.int .i64 k) ∧ U.cell? ⟨g2, i * 4 + 1, none⟩ = some (.int .i64 (s : Int)) ∧ U.cell? ⟨g2, i * 4 + 2, none⟩ = some (.int .i64 (x : Int)) ∧ U.cell? ⟨g2, i * 4 + 3, none⟩ = some (.int .i64 (y : Int)) ∧ Rm11 m0 m1 m2 m3 m4 m5 (.slice (some ⟨g1, 0, none⟩) n1 c1) (.slice (some ⟨g2, 0, none⟩) st.length c2) gb f z v w U := by
  have h0 := fun j => cell_of_row U _ j _ _ _ h.1
  have h2 := fun j => cell_of_row U _ j _ _ _ h.2.1
  have hr := fm_range cs11_len (ra_below R2 h.2.2.2.2.2.2 rfl) hi
  rw [he] at hr
  exact ⟨h2 0, h2 1, h2 2, h2 3, h2 4, h2 5, h0 6, h0 7, hr 0 _ rfl, hr 1 _ rfl, hr 2 _ rfl, hr 3 _ rfl, h⟩
set_option maxRecDepth 20000 in
set_option maxHeartbeats 4000000 in
theorem lvain_11 (f : Fn11) (F : List Fn11) (st : List S11) (g1 c1 g2 c2 : Nat) (hst : st.length ≤ 40) (hF : F.length ≤ 4) (hv : ∀ p ∈ st, okS F.length p = true) (w : World) (h1 : w.rangeAt g1 0 (hv11 (F.map t11))) (h2 : w.rangeAt g2 0 (sv11 st)) : Calls Try.prog 118 #[.agg #[.int .i64 (rowv (f 0)), .int .i64 (rowv (f 1)), .int .i64 (rowv (f 2)), .int .i64 (rowv (f 3)), .int .i64 (rowv (f 4)), .int .i64 (rowv (f 5)), .slice (some ⟨g1, 0, none⟩) F.length c1, .slice (some ⟨g2, 0, none⟩) st.length c2]] w fun e w' => ∃ g cap, e = .returned (.slice (some ⟨g, 0, none⟩) (vn11 F st f st.length).length cap) ∧ w'.ownsRow w.heap.size 3 1 (.slice (some ⟨g, 0, none⟩) (vn11 F st f st.length).length cap) (vn11 F st f st.length).length (iv11 (vn11 F st f st.length)) ∧ Below w.heap.size w w' := by
  have R1 := Lib.hid h1
  have R2 := Lib.hid h2
  have HV := Lib.hid hv
  clear h1 h2 hv
  obtain ⟨i0, hi, hz0, hz1, hz2⟩ := infos_int11
  go_enter Try.func118, Try.ntmps118
  go_wp2_with fail
  generalize hW : (World.alloc _ _ : World) = W0
  have q0 : W0.heap[w.heap.size]? = some (o8_11 (rowv (f 0)) (rowv (f 1)) (rowv (f 2)) (rowv (f 3)) (rowv (f 4)) (rowv (f 5)) (.slice (some ⟨g1, 0, none⟩) F.length c1) (.slice (some ⟨g2, 0, none⟩) st.length c2)) := by rw [← hW]; exact alloc_at rfl
  have hB : Below w.heap.size w W0 := by rw [← hW]; (repeat (first | exact Below.refl _ _ | assumption | refine Below.setCell ?_ (by first | (simp; done) | (simp; omega)) _ | refine Below.alloc ?_ (by first | (simp; done) | (simp; omega)) _ | refine Below.drew ?_))
  have hs0 : W0.heap.size = w.heap.size + 1 := by rw [← hW]; simp
  clear hW
  have a_c := fun j => cell_of_row W0 _ j _ _ _ q0
  have a_d := fun j => cell_of_row W0.drew _ j _ _ _ q0
  go_region
  · generalize hX : (World.drew _ : World) = X
    have S0 : Hid (Rm11 (rowv (f 0)) (rowv (f 1)) (rowv (f 2)) (rowv (f 3)) (rowv (f 4)) (rowv (f 5)) (.slice (some ⟨g1, 0, none⟩) F.length c1) (.slice (some ⟨g2, 0, none⟩) st.length c2) (w.heap.size + 1 + 1) (at11 F st f 0) (vn11 F st f 0) (.slice (some ⟨(w.heap.size + 1), 0, none⟩) 0 0) w X) := Lib.hid (by
      rw [at11_zero, vn11_zero, ← hX]
      exact ⟨drew_row (alloc_past (alloc_past q0)), drew_row (by rw [show w.heap.size + 1 + 1 = (W0.alloc (Obj.cells #[] 3)).heap.size by simp [hs0]]; exact alloc_at rfl), ⟨rfl, .inr ⟨(w.heap.size + 1), 0, #[], rfl, by omega, drew_row (alloc_past (by rw [← hs0]; exact alloc_at rfl)), Nat.le_refl _, by unfold maxLen; omega, rfl, rfl⟩⟩, by simp, by simp [Value.ownBlock], by omega, ((hB.alloc hB.size _).alloc (by have := hB.size; simp; omega) _).drew⟩)
    clear hX q0 hB hs0 a_c a_d
    go_wp2_with fail
    go_loopw [3, 5] (fun a i wr => ∃ k : Nat, k ≤ st.length ∧ i = .int .i64 k ∧ Hid (Rm11 (rowv (f 0)) (rowv (f 1)) (rowv (f 2)) (rowv (f 3)) (rowv (f 4)) (rowv (f 5)) (.slice (some ⟨g1, 0, none⟩) F.length c1) (.slice (some ⟨g2, 0, none⟩) st.length c2) (w.heap.size + 1 + 1) (at11 F st f k) (vn11 F st f k) a w wr)) (fun _ i _ => st.length - (intOf i).toNat)
    case atStart => exact ⟨0, by omega, rfl, S0⟩
    case round =>
      obtain ⟨k, hk, rfl, HB⟩ := hrel
      have a_c := fun j => cell_of_row wr _ j _ _ _ HB.out.1
      by_cases hlt : k < st.length
      · have hlt' : (k : Int) < st.length := by omega
        have hk0 : (0 : Int) ≤ k := by omega
        have HE := Lib.hid (at11_succ F st f hlt)
        have HVS := Lib.hid (vn11_succ F st f k)
        have HL := Lib.hid (vn11_len F st f k)
        have hE := fun W => eq26 (rowv (at11 F st f (k + 1) 0)) (rowv (at11 F st f (k + 1) 1)) (rowv (at11 F st f (k + 1) 2)) (rowv (at11 F st f (k + 1) 3)) (rowv (at11 F st f (k + 1) 4)) (rowv (at11 F st f (k + 1) 5)) (rowv (at11 F st f k 0)) (rowv (at11 F st f k 1)) (rowv (at11 F st f k 2)) (rowv (at11 F st f k 3)) (rowv (at11 F st f k 4)) (rowv (at11 F st f k 5)) W
        have hH : eqH (t11 (at11 F st f (k + 1))) (t11 (at11 F st f k)) = (rowv (at11 F st f (k + 1) 0) == rowv (at11 F st f k 0) && rowv (at11 F st f (k + 1) 1) == rowv (at11 F st f k 1) && rowv (at11 F st f (k + 1) 2) == rowv (at11 F st f k 2) && rowv (at11 F st f (k + 1) 3) == rowv (at11 F st f k 3) && rowv (at11 F st f (k + 1) 4) == rowv (at11 F st f k 4) && rowv (at11 F st f (k + 1) 5) == rowv (at11 F st f k 5)) := rfl
        rw [← hH] at hE
        clear hH
        generalize eqH (t11 (at11 F st f (k + 1))) (t11 (at11 F st f k)) = b at hE HVS
        generalize vn11 F st f k = z at HB HVS HL
        obtain ⟨G2, hG2⟩ : ∃ G2, G2 = at11 F st f (k + 1) := ⟨_, rfl⟩
        rw [← hG2] at HE
        simp only [← hG2] at hE
        have HG2 := Lib.hid hG2
        clear hG2
        generalize at11 F st f k = G at HB HE hE
        obtain ⟨ga, ca, rfl⟩ := own_form11 HB.out.2.2.1 HB.out.2.2.2.1
        obtain ⟨h3, h4, s, x, y, e1, e2, e3, hs, hx, hy⟩ := okS_get (HV.out _ (List.getElem_mem hlt))
        obtain ⟨p, hp⟩ : ∃ p, st[k] = p := ⟨_, rfl⟩
        rw [hp] at HE h3 h4 e1 e2 e3
        obtain ⟨pk, ps, px, py⟩ := p
        dsimp only at h3 h4 e1 e2 e3
        subst e1 e2 e3
        have HQ := Lib.hid hp
        have HN := Lib.hid (fun W h => lnext_11 G F pk h3 h4 s x y g1 c1 hs hx hy W h)
        rw [← HE.out] at HN
        clear h3 h4 hs hx hy hp HE
        have hk9 := HB.out
        have hb0 := Rm11.ltb hk9
        have hv0 := Rm11.ltv hk9
        have hw0 := Rm11.ltw hk9
        have hbn : w.heap.size + 1 ≤ (w.heap.size + 1 + 1) := by omega
        go_wp2_with fail
        clear a_c
        have HBel := Lib.hid (fun (U : World) (h : Rm11 (rowv (f 0)) (rowv (f 1)) (rowv (f 2)) (rowv (f 3)) (rowv (f 4)) (rowv (f 5)) (.slice (some ⟨g1, 0, none⟩) F.length c1) (.slice (some ⟨g2, 0, none⟩) st.length c2) (w.heap.size + 1 + 1) G z (.slice (some ⟨ga, 0, none⟩) z.length ca) w U) => ra_below R1.out h.bel rfl)
        go_region_held3 (fun U => U.cell? ⟨(w.heap.size + 1 + 1), 0, none⟩ = some (.int .i64 (rowv (G 0))) ∧ U.cell? ⟨(w.heap.size + 1 + 1), 1, none⟩ = some (.int .i64 (rowv (G 1))) ∧ U.cell? ⟨(w.heap.size + 1 + 1), 2, none⟩ = some (.int .i64 (rowv (G 2))) ∧ U.cell? ⟨(w.heap.size + 1 + 1), 3, none⟩ = some (.int .i64 (rowv (G 3))) ∧ U.cell? ⟨(w.heap.size + 1 + 1), 4, none⟩ = some (.int .i64 (rowv (G 4))) ∧ U.cell? ⟨(w.heap.size + 1 + 1), 5, none⟩ = some (.int .i64 (rowv (G 5))) ∧ U.cell? ⟨w.heap.size, 6, none⟩ = some (.slice (some ⟨g1, 0, none⟩) F.length c1) ∧ U.cell? ⟨w.heap.size, 7, none⟩ = some (.slice (some ⟨g2, 0, none⟩) st.length c2) ∧ U.cell? ⟨g2, k * 4, none⟩ = some (.int .i64 pk) ∧ U.cell? ⟨g2, k * 4 + 1, none⟩ = some (.int .i64 (s : Int)) ∧ U.cell? ⟨g2, k * 4 + 2, none⟩ = some (.int .i64 (x : Int)) ∧ U.cell? ⟨g2, k * 4 + 3, none⟩ = some (.int .i64 (y : Int)) ∧ Rm11 (rowv (f 0)) (rowv (f 1)) (rowv (f 2)) (rowv (f 3)) (rowv (f 4)) (rowv (f 5)) (.slice (some ⟨g1, 0, none⟩) F.length c1) (.slice (some ⟨g2, 0, none⟩) st.length c2) (w.heap.size + 1 + 1) G z (.slice (some ⟨ga, 0, none⟩) z.length ca) w U) (with_reducible refine SKm11 R2.out hlt HQ.out ?_; (repeat (first | with_reducible assumption | with_reducible refine Rm11.al ?_ _ | with_reducible refine Rm11.drew ?_ | with_reducible refine Rm11.set ?_ (by first | omega | (simp; omega)) (by simp [Value.ownBlock]; omega) (by first | omega | (simp; omega))))) ((go_at_call 197; with_reducible refine (HN.out _ (HBel.out _ (by (repeat (first | with_reducible assumption | with_reducible refine Rm11.al ?_ _ | with_reducible refine Rm11.drew ?_ | with_reducible refine Rm11.set ?_ (by first | omega | (simp; omega)) (by simp [Value.ownBlock]; omega) (by first | omega | (simp; omega))))))).mono ?_; rintro e w' ⟨rfl, hb'⟩; have hk9 : Rm11 (rowv (f 0)) (rowv (f 1)) (rowv (f 2)) (rowv (f 3)) (rowv (f 4)) (rowv (f 5)) (.slice (some ⟨g1, 0, none⟩) F.length c1) (.slice (some ⟨g2, 0, none⟩) st.length c2) (w.heap.size + 1 + 1) G z (.slice (some ⟨ga, 0, none⟩) z.length ca) w w' := Rm11.far (by (repeat (first | with_reducible assumption | with_reducible refine Rm11.al ?_ _ | with_reducible refine Rm11.drew ?_ | with_reducible refine Rm11.set ?_ (by first | omega | (simp; omega)) (by simp [Value.ownBlock]; omega) (by first | omega | (simp; omega))))) hb' rfl; have hb1 := Rm11.ltb hk9; have hv1 := Rm11.ltv hk9; have hw1 := Rm11.ltw hk9; (first | have hn := rowk hn hb' rfl | have hn := rowk (drew_row (alloc_at rfl)) hb' rfl | have hn := rowk (alloc_at rfl) hb' rfl | skip); (try (have hnz := oz_c11 hn; have hnf := oz_f11 hn))))
        all_goals
          first
            | (have hx := set6a (.int .i64 (rowv (G2 0))) (.int .i64 (rowv (G2 1))) (.int .i64 (rowv (G2 2))) (.int .i64 (rowv (G2 3))) (.int .i64 (rowv (G2 4))) (.int .i64 (rowv (G2 5))) hn
               generalize hX : (World.setCell _ _ _ : World) = X at hx ⊢)
            | (generalize hX : (World.alloc _ _ : World) = X
               have hx := alloc_is11 hX)
          have hk2 : Rm11 (rowv (f 0)) (rowv (f 1)) (rowv (f 2)) (rowv (f 3)) (rowv (f 4)) (rowv (f 5)) (.slice (some ⟨g1, 0, none⟩) F.length c1) (.slice (some ⟨g2, 0, none⟩) st.length c2) (w.heap.size + 1 + 1) G z (.slice (some ⟨ga, 0, none⟩) z.length ca) w X := by rw [← hX]; (repeat (first | with_reducible assumption | with_reducible refine Rm11.al ?_ _ | with_reducible refine Rm11.drew ?_ | with_reducible refine Rm11.set ?_ (by first | omega | (simp; omega)) (by simp [Value.ownBlock]; omega) (by first | omega | (simp; omega))))
          obtain ⟨gn, hgn⟩ := blk_ex hx
          have hd1 : gn ≠ (w.heap.size + 1 + 1) := by first | omega | (simp at hgn; omega)
          have hd2 : gn ≠ ga := by first | omega | (simp at hgn; omega)
          rw [← hgn] at hx ⊢
          clear hgn hX hk9 HBel HN
          have n_c := fun j => cell_of_row X _ j _ _ _ hx
          have b_c := fun j => cell_of_row X _ j _ _ _ hk2.2.1
          have HK2 := Lib.hid hk2
          have HX2 := Lib.hid hx
          clear hk2 hx
          cases b
          · have HV2 : Hid (vn11 F st f (k + 1) = z) := Lib.hid (by have := HVS.out; simpa using this)
            have b_f := fun j => frozen_of_row X _ j _ _ HK2.out.2.1
            go_wp2_with fail
            have HP := Lib.hid (HK2.out.put G2)
            clear n_c b_c b_f HK2 HX2
            generalize (World.setCell _ _ _ : World) = Y at HP ⊢
            go_roundw
            case rel => exact ⟨k + 1, by omega, by go_num, by rw [HV2.out, ← HG2.out]; exact HP⟩
            case measure => simp [intOf]; omega
          · have HV2 : Hid (vn11 F st f (k + 1) = z ++ [k]) := Lib.hid (by have := HVS.out; simpa using this)
            have HA := Lib.hid (HK2.out.al (.cells #[.int .i64 (k : Int)] 3))
            have HXA := Lib.hid (alloc_past (o := .cells #[.int .i64 (k : Int)] 3) HX2.out)
            go_wp2_with (at_builtin; refine wpList_append_own_at _ rfl _ _ 126 rfl (w.heap.size + 1) 3 i0 (.int .i64 0) 1 8 Try.underlying126 hi hz0 hz1 hz2 rfl (by decide) _ _ _ rfl HA.out.2.2.1 ⟨X.heap.size, 0, none⟩ 1 1 [.int .i64 (k : Int)] rfl rfl (one_new11 _ _ _) (ints_one11 _) (by have := HL.out; unfold maxLen; omega) (by have := HL.out; omega) HA.out.ltw ?_; intro v' w1 hown hgr hnn hat; have R := Lib.hid (HA.out.snoc hown hgr hnn hat); have hx1 := grown_row HXA.out hgr hd2; have n_d := fun j => cell_of_row w1 _ j _ _ _ hx1; have b_d := fun j => cell_of_row w1 _ j _ _ _ R.out.2.1; have b_f := fun j => frozen_of_row w1 _ j _ _ R.out.2.1; clear hown hgr hnn hat HA HXA hx1 n_c b_c HK2 HX2)
            have HP := Lib.hid (R.out.put G2)
            clear n_d b_d b_f R
            generalize (World.setCell _ _ _ : World) = Y at HP ⊢
            go_roundw
            case rel => exact ⟨k + 1, by omega, by go_num, by rw [HV2.out, ← HG2.out]; exact HP⟩
            case measure => simp [intOf]; omega
      · obtain rfl : k = st.length := by omega
        obtain ⟨ga, ca, rfl⟩ := own_form11 HB.out.2.2.1 HB.out.2.2.2.1
        have HO := Lib.hid (own_mono HB.out.2.2.1 (show w.heap.size ≤ w.heap.size + 1 by omega))
        go_wp2_with fail
        go_ret
        exact ⟨ga, ca, rfl, HO.out, HB.out.2.2.2.2.2.2⟩
  · generalize hX : (World.drew _ : World) = X
    have S0 : Hid (Rm11 (rowv (f 0)) (rowv (f 1)) (rowv (f 2)) (rowv (f 3)) (rowv (f 4)) (rowv (f 5)) (.slice (some ⟨g1, 0, none⟩) F.length c1) (.slice (some ⟨g2, 0, none⟩) st.length c2) (w.heap.size + 1) (at11 F st f 0) (vn11 F st f 0) (.slice (some ⟨(w.heap.size + 1 + 1), 0, none⟩) 0 0) w X) := Lib.hid (by
      rw [at11_zero, vn11_zero, ← hX]
      exact ⟨drew_row (alloc_past (alloc_past q0)), drew_row (alloc_past (by rw [← hs0]; exact alloc_at rfl)), ⟨rfl, .inr ⟨(w.heap.size + 1 + 1), 0, #[], rfl, by omega, drew_row (by rw [show w.heap.size + 1 + 1 = (W0.alloc (o6_11 f)).heap.size by simp [hs0]]; exact alloc_at rfl), Nat.le_refl _, by unfold maxLen; omega, rfl, rfl⟩⟩, by simp, by simp [Value.ownBlock], by omega, ((hB.alloc hB.size _).alloc (by have := hB.size; simp; omega) _).drew⟩)
    clear hX q0 hB hs0 a_c a_d
    go_wp2_with fail
    go_loopw [3, 5] (fun a i wr => ∃ k : Nat, k ≤ st.length ∧ i = .int .i64 k ∧ Hid (Rm11 (rowv (f 0)) (rowv (f 1)) (rowv (f 2)) (rowv (f 3)) (rowv (f 4)) (rowv (f 5)) (.slice (some ⟨g1, 0, none⟩) F.length c1) (.slice (some ⟨g2, 0, none⟩) st.length c2) (w.heap.size + 1) (at11 F st f k) (vn11 F st f k) a w wr)) (fun _ i _ => st.length - (intOf i).toNat)
    case atStart => exact ⟨0, by omega, rfl, S0⟩
    case round =>
      obtain ⟨k, hk, rfl, HB⟩ := hrel
      have a_c := fun j => cell_of_row wr _ j _ _ _ HB.out.1
      by_cases hlt : k < st.length
      · have hlt' : (k : Int) < st.length := by omega
        have hk0 : (0 : Int) ≤ k := by omega
        have HE := Lib.hid (at11_succ F st f hlt)
        have HVS := Lib.hid (vn11_succ F st f k)
        have HL := Lib.hid (vn11_len F st f k)
        have hE := fun W => eq26 (rowv (at11 F st f (k + 1) 0)) (rowv (at11 F st f (k + 1) 1)) (rowv (at11 F st f (k + 1) 2)) (rowv (at11 F st f (k + 1) 3)) (rowv (at11 F st f (k + 1) 4)) (rowv (at11 F st f (k + 1) 5)) (rowv (at11 F st f k 0)) (rowv (at11 F st f k 1)) (rowv (at11 F st f k 2)) (rowv (at11 F st f k 3)) (rowv (at11 F st f k 4)) (rowv (at11 F st f k 5)) W
        have hH : eqH (t11 (at11 F st f (k + 1))) (t11 (at11 F st f k)) = (rowv (at11 F st f (k + 1) 0) == rowv (at11 F st f k 0) && rowv (at11 F st f (k + 1) 1) == rowv (at11 F st f k 1) && rowv (at11 F st f (k + 1) 2) == rowv (at11 F st f k 2) && rowv (at11 F st f (k + 1) 3) == rowv (at11 F st f k 3) && rowv (at11 F st f (k + 1) 4) == rowv (at11 F st f k 4) && rowv (at11 F st f (k + 1) 5) == rowv (at11 F st f k 5)) := rfl
        rw [← hH] at hE
        clear hH
        generalize eqH (t11 (at11 F st f (k + 1))) (t11 (at11 F st f k)) = b at hE HVS
        generalize vn11 F st f k = z at HB HVS HL
        obtain ⟨G2, hG2⟩ : ∃ G2, G2 = at11 F st f (k + 1) := ⟨_, rfl⟩
        rw [← hG2] at HE
        simp only [← hG2] at hE
        have HG2 := Lib.hid hG2
        clear hG2
        generalize at11 F st f k = G at HB HE hE
        obtain ⟨ga, ca, rfl⟩ := own_form11 HB.out.2.2.1 HB.out.2.2.2.1
        obtain ⟨h3, h4, s, x, y, e1, e2, e3, hs, hx, hy⟩ := okS_get (HV.out _ (List.getElem_mem hlt))
        obtain ⟨p, hp⟩ : ∃ p, st[k] = p := ⟨_, rfl⟩
        rw [hp] at HE h3 h4 e1 e2 e3
        obtain ⟨pk, ps, px, py⟩ := p
        dsimp only at h3 h4 e1 e2 e3
        subst e1 e2 e3
        have HQ := Lib.hid hp
        have HN := Lib.hid (fun W h => lnext_11 G F pk h3 h4 s x y g1 c1 hs hx hy W h)
        rw [← HE.out] at HN
        clear h3 h4 hs hx hy hp HE
        have hk9 := HB.out
        have hb0 := Rm11.ltb hk9
        have hv0 := Rm11.ltv hk9
        have hw0 := Rm11.ltw hk9
        have hbn : w.heap.size + 1 ≤ (w.heap.size + 1) := by omega
        go_wp2_with fail
        clear a_c
        have HBel := Lib.hid (fun (U : World) (h : Rm11 (rowv (f 0)) (rowv (f 1)) (rowv (f 2)) (rowv (f 3)) (rowv (f 4)) (rowv (f 5)) (.slice (some ⟨g1, 0, none⟩) F.length c1) (.slice (some ⟨g2, 0, none⟩) st.length c2) (w.heap.size + 1) G z (.slice (some ⟨ga, 0, none⟩) z.length ca) w U) => ra_below R1.out h.bel rfl)
        go_region_held3 (fun U => U.cell? ⟨(w.heap.size + 1), 0, none⟩ = some (.int .i64 (rowv (G 0))) ∧ U.cell? ⟨(w.heap.size + 1), 1, none⟩ = some (.int .i64 (rowv (G 1))) ∧ U.cell? ⟨(w.heap.size + 1), 2, none⟩ = some (.int .i64 (rowv (G 2))) ∧ U.cell? ⟨(w.heap.size + 1), 3, none⟩ = some (.int .i64 (rowv (G 3))) ∧ U.cell? ⟨(w.heap.size + 1), 4, none⟩ = some (.int .i64 (rowv (G 4))) ∧ U.cell? ⟨(w.heap.size + 1), 5, none⟩ = some (.int .i64 (rowv (G 5))) ∧ U.cell? ⟨w.heap.size, 6, none⟩ = some (.slice (some ⟨g1, 0, none⟩) F.length c1) ∧ U.cell? ⟨w.heap.size, 7, none⟩ = some (.slice (some ⟨g2, 0, none⟩) st.length c2) ∧ U.cell? ⟨g2, k * 4, none⟩ = some (.int .i64 pk) ∧ U.cell? ⟨g2, k * 4 + 1, none⟩ = some (.int .i64 (s : Int)) ∧ U.cell? ⟨g2, k * 4 + 2, none⟩ = some (.int .i64 (x : Int)) ∧ U.cell? ⟨g2, k * 4 + 3, none⟩ = some (.int .i64 (y : Int)) ∧ Rm11 (rowv (f 0)) (rowv (f 1)) (rowv (f 2)) (rowv (f 3)) (rowv (f 4)) (rowv (f 5)) (.slice (some ⟨g1, 0, none⟩) F.length c1) (.slice (some ⟨g2, 0, none⟩) st.length c2) (w.heap.size + 1) G z (.slice (some ⟨ga, 0, none⟩) z.length ca) w U) (with_reducible refine SKm11 R2.out hlt HQ.out ?_; (repeat (first | with_reducible assumption | with_reducible refine Rm11.al ?_ _ | with_reducible refine Rm11.drew ?_ | with_reducible refine Rm11.set ?_ (by first | omega | (simp; omega)) (by simp [Value.ownBlock]; omega) (by first | omega | (simp; omega))))) ((go_at_call 197; with_reducible refine (HN.out _ (HBel.out _ (by (repeat (first | with_reducible assumption | with_reducible refine Rm11.al ?_ _ | with_reducible refine Rm11.drew ?_ | with_reducible refine Rm11.set ?_ (by first | omega | (simp; omega)) (by simp [Value.ownBlock]; omega) (by first | omega | (simp; omega))))))).mono ?_; rintro e w' ⟨rfl, hb'⟩; have hk9 : Rm11 (rowv (f 0)) (rowv (f 1)) (rowv (f 2)) (rowv (f 3)) (rowv (f 4)) (rowv (f 5)) (.slice (some ⟨g1, 0, none⟩) F.length c1) (.slice (some ⟨g2, 0, none⟩) st.length c2) (w.heap.size + 1) G z (.slice (some ⟨ga, 0, none⟩) z.length ca) w w' := Rm11.far (by (repeat (first | with_reducible assumption | with_reducible refine Rm11.al ?_ _ | with_reducible refine Rm11.drew ?_ | with_reducible refine Rm11.set ?_ (by first | omega | (simp; omega)) (by simp [Value.ownBlock]; omega) (by first | omega | (simp; omega))))) hb' rfl; have hb1 := Rm11.ltb hk9; have hv1 := Rm11.ltv hk9; have hw1 := Rm11.ltw hk9; (first | have hn := rowk hn hb' rfl | have hn := rowk (drew_row (alloc_at rfl)) hb' rfl | have hn := rowk (alloc_at rfl) hb' rfl | skip); (try (have hnz := oz_c11 hn; have hnf := oz_f11 hn))))
        all_goals
          first
            | (have hx := set6a (.int .i64 (rowv (G2 0))) (.int .i64 (rowv (G2 1))) (.int .i64 (rowv (G2 2))) (.int .i64 (rowv (G2 3))) (.int .i64 (rowv (G2 4))) (.int .i64 (rowv (G2 5))) hn
               generalize hX : (World.setCell _ _ _ : World) = X at hx ⊢)
            | (generalize hX : (World.alloc _ _ : World) = X
               have hx := alloc_is11 hX)
          have hk2 : Rm11 (rowv (f 0)) (rowv (f 1)) (rowv (f 2)) (rowv (f 3)) (rowv (f 4)) (rowv (f 5)) (.slice (some ⟨g1, 0, none⟩) F.length c1) (.slice (some ⟨g2, 0, none⟩) st.length c2) (w.heap.size + 1) G z (.slice (some ⟨ga, 0, none⟩) z.length ca) w X := by rw [← hX]; (repeat (first | with_reducible assumption | with_reducible refine Rm11.al ?_ _ | with_reducible refine Rm11.drew ?_ | with_reducible refine Rm11.set ?_ (by first | omega | (simp; omega)) (by simp [Value.ownBlock]; omega) (by first | omega | (simp; omega))))
          obtain ⟨gn, hgn⟩ := blk_ex hx
          have hd1 : gn ≠ (w.heap.size + 1) := by first | omega | (simp at hgn; omega)
          have hd2 : gn ≠ ga := by first | omega | (simp at hgn; omega)
          rw [← hgn] at hx ⊢
          clear hgn hX hk9 HBel HN
          have n_c := fun j => cell_of_row X _ j _ _ _ hx
          have b_c := fun j => cell_of_row X _ j _ _ _ hk2.2.1
          have HK2 := Lib.hid hk2
          have HX2 := Lib.hid hx
          clear hk2 hx
          cases b
          · have HV2 : Hid (vn11 F st f (k + 1) = z) := Lib.hid (by have := HVS.out; simpa using this)
            have b_f := fun j => frozen_of_row X _ j _ _ HK2.out.2.1
            go_wp2_with fail
            have HP := Lib.hid (HK2.out.put G2)
            clear n_c b_c b_f HK2 HX2
            generalize (World.setCell _ _ _ : World) = Y at HP ⊢
            go_roundw
            case rel => exact ⟨k + 1, by omega, by go_num, by rw [HV2.out, ← HG2.out]; exact HP⟩
            case measure => simp [intOf]; omega
          · have HV2 : Hid (vn11 F st f (k + 1) = z ++ [k]) := Lib.hid (by have := HVS.out; simpa using this)
            have HA := Lib.hid (HK2.out.al (.cells #[.int .i64 (k : Int)] 3))
            have HXA := Lib.hid (alloc_past (o := .cells #[.int .i64 (k : Int)] 3) HX2.out)
            go_wp2_with (at_builtin; refine wpList_append_own_at _ rfl _ _ 126 rfl (w.heap.size + 1) 3 i0 (.int .i64 0) 1 8 Try.underlying126 hi hz0 hz1 hz2 rfl (by decide) _ _ _ rfl HA.out.2.2.1 ⟨X.heap.size, 0, none⟩ 1 1 [.int .i64 (k : Int)] rfl rfl (one_new11 _ _ _) (ints_one11 _) (by have := HL.out; unfold maxLen; omega) (by have := HL.out; omega) HA.out.ltw ?_; intro v' w1 hown hgr hnn hat; have R := Lib.hid (HA.out.snoc hown hgr hnn hat); have hx1 := grown_row HXA.out hgr hd2; have n_d := fun j => cell_of_row w1 _ j _ _ _ hx1; have b_d := fun j => cell_of_row w1 _ j _ _ _ R.out.2.1; have b_f := fun j => frozen_of_row w1 _ j _ _ R.out.2.1; clear hown hgr hnn hat HA HXA hx1 n_c b_c HK2 HX2)
            have HP := Lib.hid (R.out.put G2)
            clear n_d b_d b_f R
            generalize (World.setCell _ _ _ : World) = Y at HP ⊢
            go_roundw
            case rel => exact ⟨k + 1, by omega, by go_num, by rw [HV2.out, ← HG2.out]; exact HP⟩
            case measure => simp [intOf]; omega
      · obtain rfl : k = st.length := by omega
        obtain ⟨ga, ca, rfl⟩ := own_form11 HB.out.2.2.1 HB.out.2.2.2.1
        have HO := Lib.hid (own_mono HB.out.2.2.1 (show w.heap.size ≤ w.heap.size + 1 by omega))
        go_wp2_with fail
        go_ret
        exact ⟨ga, ca, rfl, HO.out, HB.out.2.2.2.2.2.2⟩
/- Vp11 -/
set_option maxRecDepth 20000 in
set_option maxHeartbeats 2000000 in
theorem ivain_no (m0 m1 m2 m3 m4 m5 : Int) (l : List H11) (st : List S11) (g1 c1 g2 c2 : Nat) (hl : l.length ≤ 1048576) (hst : st.length ≤ 1048576) (hwf : ∀ p ∈ st, (Lit.int .i64 p.x).wf = true ∧ (Lit.int .i64 p.y).wf = true) (hq : okP (m0, m1, m2, m3, m4, m5) l st = false) (w : World) (h1 : w.rangeAt g1 0 (hv11 l)) (h2 : w.rangeAt g2 0 (sv11 st)) : Calls Try.prog 123 #[.agg #[.int .i64 m0, .int .i64 m1, .int .i64 m2, .int .i64 m3, .int .i64 m4, .int .i64 m5, .slice (some ⟨g1, 0, none⟩) l.length c1, .slice (some ⟨g2, 0, none⟩) st.length c2]] w (VP11 [] false w) := by
  have HP := Lib.hid (fun W a b => iplan_11 m0 m1 m2 m3 m4 m5 l st g1 c1 g2 c2 hl hst hwf W a b)
  rw [hq] at HP
  have R1 := Lib.hid h1
  have R2 := Lib.hid h2
  clear h1 h2 hq hwf
  obtain ⟨i0, hi, hz0, hz1, hz2⟩ := infos_int11
  go_enter Try.func123, Try.ntmps123
  go_wp2_with fail
  generalize hW : (World.alloc _ _ : World) = W0
  have q0 : W0.heap[w.heap.size]? = some (Obj.cells #[.int .i64 m0, .int .i64 m1, .int .i64 m2, .int .i64 m3, .int .i64 m4, .int .i64 m5, .slice (some ⟨g1, 0, none⟩) l.length c1, .slice (some ⟨g2, 0, none⟩) st.length c2] 62 (0, 0)) := by rw [← hW]; exact alloc_past (alloc_at rfl)
  have ho0 : W0.ownsRow (w.heap.size + 1) 3 1 (.slice (some ⟨w.heap.size + 1, 0, none⟩) 0 0) 0 (iv11 []) := by
    rw [← hW]
    have h := World.ownsRow_lit (base := w.heap.size + 1) (e := 3) (size := 1) (w.alloc (.cells #[.int .i64 m0, .int .i64 m1, .int .i64 m2, .int .i64 m3, .int .i64 m4, .int .i64 m5, .slice (some ⟨g1, 0, none⟩) l.length c1, .slice (some ⟨g2, 0, none⟩) st.length c2] 62)) #[] 0 (by simp) (by unfold maxLen; omega) rfl
    rw [show (w.alloc (.cells #[.int .i64 m0, .int .i64 m1, .int .i64 m2, .int .i64 m3, .int .i64 m4, .int .i64 m5, .slice (some ⟨g1, 0, none⟩) l.length c1, .slice (some ⟨g2, 0, none⟩) st.length c2] 62)).heap.size = w.heap.size + 1 by simp] at h
    exact h
  have hsz : w.heap.size + 1 < W0.heap.size := by rw [← hW]; simp
  have hB : Below w.heap.size w W0 := by rw [← hW]; (repeat (first | exact Below.refl _ _ | assumption | refine Below.setCell ?_ (by first | (simp; done) | (simp; omega)) _ | refine Below.alloc ?_ (by first | (simp; done) | (simp; omega)) _ | refine Below.drew ?_))
  clear hW
  refine (HP.out _ (ra_below R1.out hB rfl) (ra_below R2.out hB rfl)).mono ?_
  rintro e W1 ⟨rfl, hb⟩
  replace ho0 := ho0.kept (grown_below hb rfl) (.inr (by simp [Value.ownBlock]))
  replace hB := below_of hB hb (by have := hB.size; omega)
  clear hb HP q0
  go_wp2_with fail
  exact bodyPost_ret (v := .tuple #[.slice (some ⟨w.heap.size + 1, 0, none⟩) 0 0, .bool false]) (by simp [results, Try.results123, go_sem]) rfl ⟨_, _, rfl, own_mono ho0 (by omega), hB⟩
/- Dr11 -/
theorem iv11_cell {z : List Nat} {g : Nat} {w : World} (h : w.rangeAt g 0 (iv11 z)) {i : Nat} (hi : i < z.length) : w.cell? ⟨g, i, none⟩ = some (.int .i64 (z[i] : Int)) := by
  have := h i (.int .i64 (z[i] : Int)) (by simp [iv11, hi])
  rwa [Nat.zero_add] at this
theorem cont_yes {z : List Nat} {k i : Nat} (hi : i < z.length) (h : (z[i] : Int) = (k : Int)) : z.contains k = true := by
  have : z[i] = k := by omega
  rw [List.contains_iff_mem, ← this]
  exact List.getElem_mem hi
theorem cont_no {z : List Nat} {k : Nat} (h : ∀ j (hj : j < z.length), j < z.length → (z[j] : Int) ≠ (k : Int)) : z.contains k = false := by
  rw [Bool.eq_false_iff]
  intro hh
  rw [List.contains_iff_mem] at hh
  obtain ⟨j, hj, he⟩ := List.getElem_of_mem hh
  exact h j hj hj (by rw [he])
set_option maxRecDepth 8000 in
set_option maxHeartbeats 1000000 in
theorem lhas_11 (z : List Nat) (k : Nat) (hl : z.length ≤ 1000) (g c : Nat) (w : World) (h : w.rangeAt g 0 (iv11 z)) : Calls Try.prog 119 #[.slice (some ⟨g, 0, none⟩) z.length c, .int .i64 (k : Int)] w fun e w' => e = .returned (.bool (z.contains k)) ∧ w' = w := by
  have HC := Lib.hid (fun i hi => iv11_cell h (i := i) hi)
  clear h
  obtain ⟨R, hR⟩ : ∃ R, R = z.contains k := ⟨_, rfl⟩
  rw [← hR]
  have HY := Lib.hid (fun (i : Nat) (hi : i < z.length) (he : (z[i] : Int) = (k : Int)) => show R = true by rw [hR]; exact cont_yes hi he)
  have HN : Hid ((∀ j (hj : j < z.length), j < z.length → (z[j] : Int) ≠ (k : Int)) → R = false) := Lib.hid fun h => by rw [hR]; exact cont_no h
  clear hR
  generalize (k : Int) = a at HY HN ⊢
  go_enter Try.func119, Try.ntmps119
  go_wp2_with fail
  go_loopw [5] (fun n wr => ∃ i : Nat, i ≤ z.length ∧ n = .int .i64 i ∧ Hid (∀ j (hj : j < z.length), j < i → (z[j] : Int) ≠ a) ∧ wr = w) (fun n _ => z.length - (intOf n).toNat)
  case atStart => exact ⟨0, by omega, rfl, Lib.hid (fun j _ h => absurd h (Nat.not_lt_zero _)), rfl⟩
  case round =>
    obtain ⟨i, hi, rfl, HS, rfl⟩ := hrel
    have hi0 : (0 : Int) ≤ i := by omega
    by_cases hlt : i < z.length
    · have hlt' : (i : Int) < z.length := by omega
      have cx := HC.out i hlt
      have HYY := Lib.hid (HY.out i hlt)
      have HNN := Lib.hid (fun (hne : (z[i] : Int) ≠ a) => show ∀ j (hj : j < z.length), j < i + 1 → (z[j] : Int) ≠ a from fun j hj h => by
        by_cases e : j = i
        · subst e; exact hne
        · exact HS.out j hj (by omega))
      generalize (z[i] : Int) = x at cx HYY HNN
      by_cases hx : x = a
      · have E := Lib.hid (HYY.out hx)
        subst hx
        have hq : (x == x) = true := by simp
        clear HYY HNN HY HN HS HC
        go_wp2_with fail
        go_ret
        exact ⟨by rw [E.out]; rfl, rfl⟩
      · have E := Lib.hid (HNN.out hx)
        have hq : (x == a) = false := by simpa using hx
        clear HYY HNN HS hx
        go_wp2_with fail
        go_roundw
        case rel => exact ⟨i + 1, by omega, by go_num, E, by first | rfl | trivial⟩
        case measure => simp [intOf]; omega
    · obtain rfl : i = z.length := by omega
      have E := Lib.hid (HN.out HS.out)
      clear HY HN HC HS
      go_wp2_with fail
      go_ret
      exact ⟨by rw [E.out]; rfl, rfl⟩
set_option maxRecDepth 8000 in
set_option maxHeartbeats 1000000 in
theorem idx_11 (z : List Nat) (k : Nat) (hl : z.length ≤ 1000) (g c : Nat) (w : World) (h : w.rangeAt g 0 (iv11 z)) : Calls Try.prog 199 #[.slice (some ⟨g, 0, none⟩) z.length c, .int .i64 (k : Int)] w fun e w' => (∃ r : Int, e = .returned (.int .i64 r) ∧ decide (0 ≤ r) = z.contains k) ∧ w' = w := by
  have HC := Lib.hid (fun i hi => iv11_cell h (i := i) hi)
  clear h
  obtain ⟨R, hR⟩ : ∃ R, R = z.contains k := ⟨_, rfl⟩
  rw [← hR]
  have HY := Lib.hid (fun (i : Nat) (hi : i < z.length) (he : (z[i] : Int) = (k : Int)) => show R = true by rw [hR]; exact cont_yes hi he)
  have HN : Hid ((∀ j (hj : j < z.length), j < z.length → (z[j] : Int) ≠ (k : Int)) → R = false) := Lib.hid fun h => by rw [hR]; exact cont_no h
  clear hR
  generalize (k : Int) = a at HY HN ⊢
  go_enter Try.func199, Try.ntmps199
  go_wp2_with fail
  go_loopw [5, 8] (fun _ n wr => ∃ i : Nat, i ≤ z.length ∧ n = .int .i64 i ∧ Hid (∀ j (hj : j < z.length), j < i → (z[j] : Int) ≠ a) ∧ wr = w) (fun _ n _ => z.length - (intOf n).toNat)
  case atStart => exact ⟨0, by omega, rfl, Lib.hid (fun j _ h => absurd h (Nat.not_lt_zero _)), rfl⟩
  case round =>
    obtain ⟨i, hi, rfl, HS, rfl⟩ := hrel
    have hi0 : (0 : Int) ≤ i := by omega
    by_cases hlt : i < z.length
    · have hlt' : (i : Int) < z.length := by omega
      have cx := HC.out i hlt
      have HYY := Lib.hid (HY.out i hlt)
      have HNN := Lib.hid (fun (hne : (z[i] : Int) ≠ a) => show ∀ j (hj : j < z.length), j < i + 1 → (z[j] : Int) ≠ a from fun j hj h => by
        by_cases e : j = i
        · subst e; exact hne
        · exact HS.out j hj (by omega))
      generalize (z[i] : Int) = x at cx HYY HNN
      by_cases hx : x = a
      · have E := Lib.hid (HYY.out hx)
        subst hx
        have hq : (x == x) = true := by simp
        clear HYY HNN HY HN HS HC
        go_wp2_with fail
        go_ret
        exact ⟨⟨_, rfl, by rw [E.out]; simp⟩, rfl⟩
      · have E := Lib.hid (HNN.out hx)
        have hq : (a == x) = false := by simpa using fun h => hx h.symm
        clear HYY HNN HS hx
        go_wp2_with fail
        go_roundw
        case rel => exact ⟨i + 1, by omega, by go_num, E, by first | rfl | trivial⟩
        case measure => simp [intOf]; omega
    · obtain rfl : i = z.length := by omega
      have E := Lib.hid (HN.out HS.out)
      clear HY HN HC HS
      go_wp2_with fail
      go_ret
      exact ⟨⟨_, rfl, by rw [E.out]; decide⟩, rfl⟩
set_option maxHeartbeats 1000000 in
theorem icont_11 (z : List Nat) (k : Nat) (hl : z.length ≤ 1000) (g c : Nat) (w : World) (h : w.rangeAt g 0 (iv11 z)) : Calls Try.prog 124 #[.slice (some ⟨g, 0, none⟩) z.length c, .int .i64 (k : Int)] w fun e w' => e = .returned (.bool (z.contains k)) ∧ w' = w := by
  have HI := Lib.hid (idx_11 z k hl g c w h)
  clear h
  generalize (k : Int) = a at HI ⊢
  go_enter Try.func124, Try.ntmps124
  go_wp2_with fail
  refine HI.out.mono ?_
  rintro e w' ⟨⟨r, rfl, hr⟩, hw⟩
  obtain rfl := hw.symm
  have HR := Lib.hid hr
  clear hr
  go_wp2_with fail
  go_ret
  exact ⟨by rw [← HR.out]; first | rfl | simp, rfl⟩
/-- The steps among the first n whose numbers are not in z. -/
def dr11 (st : List S11) (z : List Nat) : Nat → List S11
  | 0 => []
  | n + 1 => dr11 st z n ++ if z.contains n then [] else [st.getD n s0_11]
theorem dr11_yes {st : List S11} {z : List Nat} {n : Nat} (h : z.contains n = true) : dr11 st z (n + 1) = dr11 st z n := by
  show dr11 st z n ++ _ = _
  rw [if_pos h, List.append_nil]
theorem dr11_no {st : List S11} {z : List Nat} {n : Nat} (hn : n < st.length) (h : z.contains n = false) : dr11 st z (n + 1) = dr11 st z n ++ [st[n]] := by
  show dr11 st z n ++ _ = _
  rw [if_neg (by rw [h]; decide), List.getD_eq_getElem?_getD, List.getElem?_eq_getElem hn]
  rfl
theorem dr11_len (st : List S11) (z : List Nat) : ∀ n, (dr11 st z n).length ≤ n
  | 0 => Nat.le_refl _
  | n + 1 => by
    have := dr11_len st z n
    show (dr11 st z n ++ _).length ≤ _
    rw [List.length_append]
    split <;> simp <;> omega
theorem sv11_snoc (l : List S11) (p : S11) : sv11 (l ++ [p]) = sv11 l ++ cs11 p := by simp [sv11, List.flatMap_append]
/-- Midway: the two boxes, the row of steps so far, the row of vain ones. -/
def Rd_11 (o0 o1 : Obj) (gz : Nat) (z : List Nat) (l : List S11) (v : Value) (w U : World) : Prop := U.heap[w.heap.size]? = some o0 ∧ U.heap[w.heap.size + 1]? = some o1 ∧ U.ownsRow (w.heap.size + 2) 73 4 v l.length (sv11 l) ∧ v.ownBlock ≠ some gz ∧ gz < U.heap.size ∧ U.rangeAt gz 0 (iv11 z) ∧ w.heap.size + 2 ≤ U.heap.size ∧ Below w.heap.size w U
section
variable {o0 o1 : Obj} {gz : Nat} {z : List Nat} {l : List S11} {v v' : Value} {w U V : World}
theorem Rd_11.far {M : Nat} (h : Rd_11 o0 o1 gz z l v w U) (hb : Below M U V) (hM : M = U.heap.size) : Rd_11 o0 o1 gz z l v w V := ⟨rowk h.1 hb hM, rowk h.2.1 hb hM, h.2.2.1.kept (grown_below hb hM) (by cases hq : v.ownBlock <;> simp), h.2.2.2.1, Nat.lt_of_lt_of_le h.2.2.2.2.1 hb.size, ra_below h.2.2.2.2.2.1 hb hM, Nat.le_trans h.2.2.2.2.2.2.1 hb.size, below_of h.2.2.2.2.2.2.2 hb (by have := h.2.2.2.2.2.2.2.size; omega)⟩
theorem Rd_11.al (h : Rd_11 o0 o1 gz z l v w U) (o : Obj) : Rd_11 o0 o1 gz z l v w (U.alloc o) := h.far (M := U.heap.size) ((Below.refl _ _).alloc (Nat.le_refl _) o) rfl
theorem Rd_11.snoc {p : S11} (h : Rd_11 o0 o1 gz z l v w U) (ho : V.ownsRow (w.heap.size + 2) 73 4 v' (l.length + 1) (sv11 l ++ cs11 p)) (hg : U.grownBy V v.ownBlock) (hat : v'.ownBlock = v.ownBlock ∨ v'.ownBlock = some U.heap.size) : Rd_11 o0 o1 gz z (l ++ [p]) v' w V := by
  have hb : ∀ k, v.ownBlock = some k → w.heap.size + 2 ≤ k := fun k hk => (h.2.2.1.lt k hk).1
  have hlt0 := (Array.getElem?_eq_some_iff.1 h.1).1
  have hlt1 := (Array.getElem?_eq_some_iff.1 h.2.1).1
  refine ⟨(hg.block _ hlt0 (fun e => by have := hb _ e.symm; omega)).trans h.1, (hg.block _ hlt1 (fun e => by have := hb _ e.symm; omega)).trans h.2.1, ?_, ?_, Nat.lt_of_lt_of_le h.2.2.2.2.1 hg.size, ?_, Nat.le_trans h.2.2.2.2.2.2.1 hg.size, h.2.2.2.2.2.2.2.grown hg (by have := h.2.2.2.2.2.2.1; omega) (fun k hk => by have := hb k hk; omega)⟩
  · rw [List.length_append, List.length_singleton, sv11_snoc]
    exact ho
  · rcases hat with e | e
    · rw [e]; exact h.2.2.2.1
    · rw [e]
      intro hh
      have := h.2.2.2.2.1
      injection hh with hh
      omega
  · intro j u hu
    have h1 := h.2.2.2.2.2.1 j u hu
    have h2 := hg.block gz h.2.2.2.2.1 (fun e => h.2.2.2.1 e.symm)
    have : V.cell? ⟨gz, 0 + j, none⟩ = U.cell? ⟨gz, 0 + j, none⟩ := by simp only [World.cell?, h2]
    rw [this]
    exact h1
end
theorem cs11_one (p : S11) : ∀ u ∈ cs11 p, u.oneCell' = true := by
  intro u hu
  simp only [cs11, List.mem_cons, List.not_mem_nil, or_false] at hu
  rcases hu with rfl | rfl | rfl | rfl <;> rfl
theorem step_new11 (W : World) (p : S11) (t : TypeId) : ∀ j u, (cs11 p)[j]? = some u → (W.alloc (.cells #[.int .i64 p.k, .int .i64 p.s, .int .i64 p.x, .int .i64 p.y] t)).cell? ((⟨W.heap.size, 0, none⟩ : Addr).add j) = some u := by
  intro j u hu
  rw [Addr.add_mid, Nat.zero_add]
  have h := cell_of_row (W.alloc (.cells #[.int .i64 p.k, .int .i64 p.s, .int .i64 p.x, .int .i64 p.y] t)) W.heap.size j _ _ _ (alloc_at rfl)
  rw [h, ← hu]
  show ((cs11 p).toArray)[j]? = _
  simp
theorem Rd_11.step {p : S11} {v : Value} {o0 o1 : Obj} {gz : Nat} {z : List Nat} {l : List S11} {w U : World} {gs : Nat} {st : List S11} {k : Nat} (h : Rd_11 o0 o1 gz z l v w U) (R : w.rangeAt gs 0 (sv11 st)) (hk : k < st.length) (hp : st[k] = p) : U.cell? ⟨gs, k * 4, none⟩ = some (.int .i64 p.k) ∧ U.cell? ⟨gs, k * 4 + 1, none⟩ = some (.int .i64 p.s) ∧ U.cell? ⟨gs, k * 4 + 2, none⟩ = some (.int .i64 p.x) ∧ U.cell? ⟨gs, k * 4 + 3, none⟩ = some (.int .i64 p.y) := by
  have h1 := fm_range cs11_len (ra_below R h.2.2.2.2.2.2.2 rfl) hk
  rw [hp] at h1
  exact ⟨h1 0 _ rfl, h1 1 _ rfl, h1 2 _ rfl, h1 3 _ rfl⟩
theorem own_cases11 {W : World} {B n k : Nat} {e : TypeId} {v : Value} {xs : List Value} (h : W.ownsRow B e k v n xs) : (v = .slice none 0 0 ∧ n = 0) ∨ ∃ g c, v = .slice (some ⟨g, 0, none⟩) n c := by
  rcases h.2 with h | ⟨g, c, _, e1, _⟩
  · exact .inl h
  · exact .inr ⟨g, c, e1⟩
/- Hn11 -/
theorem St11.fin_nil {b g1 k1 : Nat} {m0 m1 m2 m3 m4 m5 : Int} {T : TypeId} {v0 v1 v2 v3 v4 v5 v6 v7 : Value} {o0 : Obj} {l : List H11} {w U : World} (h : St11 b o0 (.cells #[v0, v1, v2, v3, v4, v5, v6, v7] T (0, 0)) (some (g1, k1, l.length, hv11 l)) none w U) {X : World} (hX : ((((((((U.setCell ⟨w.heap.size + 1, 0, none⟩ (.int .i64 m0)).setCell ⟨w.heap.size + 1, 1, none⟩ (.int .i64 m1)).setCell ⟨w.heap.size + 1, 2, none⟩ (.int .i64 m2)).setCell ⟨w.heap.size + 1, 3, none⟩ (.int .i64 m3)).setCell ⟨w.heap.size + 1, 4, none⟩ (.int .i64 m4)).setCell ⟨w.heap.size + 1, 5, none⟩ (.int .i64 m5)).setCell ⟨w.heap.size + 1, 6, none⟩ (.slice (some ⟨g1, 0, none⟩) l.length k1)).setCell ⟨w.heap.size + 1, 7, none⟩ (.slice none 0 0)) = X) : X.heap[w.heap.size + 1]? = some (.cells #[.int .i64 m0, .int .i64 m1, .int .i64 m2, .int .i64 m3, .int .i64 m4, .int .i64 m5, .slice (some ⟨g1, 0, none⟩) l.length k1, .slice none 0 0] T (0, 0)) ∧ Pr11 w.heap.size X.heap.size (.slice (some ⟨g1, 0, none⟩) l.length k1) (.slice none 0 0) l [] X ∧ Below w.heap.size w X := by
  have hb2 := h.2.2.2.2.2.2.1
  have hx := h.x
  have hg1 := hx.lt g1 rfl
  have hs := same8b (lo := w.heap.size + 2) (hi := U.heap.size) (g := w.heap.size + 1) (W := U) (by omega) (.int .i64 m0) (.int .i64 m1) (.int .i64 m2) (.int .i64 m3) (.int .i64 m4) (.int .i64 m5) (.slice (some ⟨g1, 0, none⟩) l.length k1) (.slice none 0 0)
  have hq := set8b (.int .i64 m0) (.int .i64 m1) (.int .i64 m2) (.int .i64 m3) (.int .i64 m4) (.int .i64 m5) (.slice (some ⟨g1, 0, none⟩) l.length k1) (.slice none 0 0) h.2.1
  have hbl := bel8b (g := w.heap.size + 1) (.int .i64 m0) (.int .i64 m1) (.int .i64 m2) (.int .i64 m3) (.int .i64 m4) (.int .i64 m5) (.slice (some ⟨g1, 0, none⟩) l.length k1) (.slice none 0 0) h.bel (by omega)
  have hsz : X.heap.size = U.heap.size := by rw [← hX]; simp
  rw [hX] at hs hq hbl
  have e1 : ∀ k, (Value.slice (some ⟨g1, 0, none⟩) l.length k1).ownBlock = some k → g1 = k := fun k hk => by simpa [Value.ownBlock] using hk
  refine ⟨hq, ⟨own_same (lo := w.heap.size + 2) (hi := U.heap.size) (own_mono hx (by omega)) hs (fun k hk => by have := e1 k hk; omega), World.ownsRow_nil X w.heap.size _ 4, fun k hk => by have := e1 k hk; omega, fun k hk => by simp [Value.ownBlock] at hk, fun k hk hk2 => by simp [Value.ownBlock] at hk2⟩, hbl⟩

def ON11 (m0 m1 m2 m3 m4 m5 : Int) (l : List H11) (w : World) (E : Ending) (w' : World) : Prop := ∃ g1 k1, E = .returned (.agg #[.int .i64 m0, .int .i64 m1, .int .i64 m2, .int .i64 m3, .int .i64 m4, .int .i64 m5, .slice (some ⟨g1, 0, none⟩) l.length k1, .slice none 0 0]) ∧ Pr11 w.heap.size w'.heap.size (.slice (some ⟨g1, 0, none⟩) l.length k1) (.slice none 0 0) l [] w' ∧ Below w.heap.size w w'
set_option maxRecDepth 20000 in
set_option maxHeartbeats 4000000 in
theorem ihav_11_nil (m0 m1 m2 m3 m4 m5 : Int) (VV : Value) (l : List H11) (g1 c1 : Nat) (hl : l.length ≤ 1000) (w : World) (h1 : w.rangeAt g1 0 (hv11 l)) : Calls Try.prog 125 #[.agg #[.int .i64 m0, .int .i64 m1, .int .i64 m2, .int .i64 m3, .int .i64 m4, .int .i64 m5, .slice (some ⟨g1, 0, none⟩) l.length c1, VV], .slice none 0 0] w (ON11 m0 m1 m2 m3 m4 m5 l w) := by
  have HC1 := Lib.hid (fun W h => clone_sheets11 l g1 c1 hl W h)
  have HC2 := Lib.hid (fun W => clone_steps11_nil W)
  have R1 := Lib.hid h1
  clear h1
  go_enter Try.func125, Try.ntmps125
  go_wp2_with fail
  generalize hW : (World.alloc _ _ : World) = W0
  have HS : Hid (St11 2 (.cells #[.int .i64 m0, .int .i64 m1, .int .i64 m2, .int .i64 m3, .int .i64 m4, .int .i64 m5, .slice (some ⟨g1, 0, none⟩) l.length c1, VV] 62 (0, 0)) (pz11 62) none none w W0) := Lib.hid (by
    rw [← hW]
    exact ⟨alloc_past (alloc_at rfl), alloc_at (by simp), fun a ha => by (cases ha), fun a ha => by (cases ha), fun a c ha => by (cases ha), by simp, by omega, by (repeat (first | exact Below.refl _ _ | assumption | refine Below.setCell ?_ (by first | (simp; done) | (simp; omega)) _ | refine Below.alloc ?_ (by first | (simp; done) | (simp; omega)) _ | refine Below.drew ?_))⟩)
  clear hW
  refine wp_region_held_drew (S := fun U => U.cell? ⟨w.heap.size, 0, none⟩ = some (.int .i64 m0) ∧ U.cell? ⟨w.heap.size, 1, none⟩ = some (.int .i64 m1) ∧ U.cell? ⟨w.heap.size, 2, none⟩ = some (.int .i64 m2) ∧ U.cell? ⟨w.heap.size, 3, none⟩ = some (.int .i64 m3) ∧ U.cell? ⟨w.heap.size, 4, none⟩ = some (.int .i64 m4) ∧ U.cell? ⟨w.heap.size, 5, none⟩ = some (.int .i64 m5) ∧ U.cell? ⟨w.heap.size, 6, none⟩ = some (.slice (some ⟨g1, 0, none⟩) l.length c1)) (by kernel_rfl) ?_ (fun hHeld => ?_)
  · (try dsimp only)
    exact SKo11 HS.out.drew
  replace HS := Lib.hid HS.out.drew
  obtain ⟨V, hV⟩ : ∃ X, X = W0.drew := ⟨_, rfl⟩
  rw [← hV] at HS hHeld ⊢
  clear hV
  refine wpAnyH_take (i := 0) (oi := { dst := some 5, op := Go.Op.fieldAddr 62 (Go.Operand.tmp 2) 0, type := 0, pos := "l11_plans.go:57", after := #[], guard := none }) (v := ?_) rfl (by kernel_rfl) (by kernel_rfl) (by kernel_rfl) (fun _ _ _ h => h) (Or.inl ⟨by rfl, ?_⟩) (by assumption) ?_
  rotate_left
  · intro w hSw; (try dsimp only at hSw); go_simp; (try with_reducible rfl)
  simp only [Act.put, List.setIfInBounds_toArray, List.set_cons_zero, List.set_cons_succ]
  refine wpAnyH_take (i := 1) (oi := { dst := some 6, op := Go.Op.load 28 (Go.Operand.tmp 5), type := 28, pos := "l11_plans.go:57", after := #[{ on := 0, ground := Go.Ground.data }], guard := none }) (v := ?_) rfl (by kernel_rfl) (by kernel_rfl) (by kernel_rfl) (fun _ _ _ h => h) (Or.inl ⟨by rfl, ?_⟩) (by assumption) ?_
  rotate_left
  · intro w hSw; (try dsimp only at hSw); go_simp; (try with_reducible rfl)
  simp only [Act.put, List.setIfInBounds_toArray, List.set_cons_zero, List.set_cons_succ]
  refine wpAnyH_take (i := 2) (oi := { dst := some 7, op := Go.Op.fieldAddr 62 (Go.Operand.tmp 2) 1, type := 0, pos := "l11_plans.go:57", after := #[], guard := none }) (v := ?_) rfl (by kernel_rfl) (by kernel_rfl) (by kernel_rfl) (fun _ _ _ h => h) (Or.inl ⟨by rfl, ?_⟩) (by assumption) ?_
  rotate_left
  · intro w hSw; (try dsimp only at hSw); go_simp; (try with_reducible rfl)
  simp only [Act.put, List.setIfInBounds_toArray, List.set_cons_zero, List.set_cons_succ]
  refine wpAnyH_take (i := 3) (oi := { dst := some 8, op := Go.Op.load 59 (Go.Operand.tmp 7), type := 59, pos := "l11_plans.go:57", after := #[{ on := 2, ground := Go.Ground.data }], guard := none }) (v := ?_) rfl (by kernel_rfl) (by kernel_rfl) (by kernel_rfl) (fun _ _ _ h => h) (Or.inl ⟨by rfl, ?_⟩) (by assumption) ?_
  rotate_left
  · intro w hSw; (try dsimp only at hSw); go_simp; (try with_reducible rfl)
  simp only [Act.put, List.setIfInBounds_toArray, List.set_cons_zero, List.set_cons_succ]
  refine wpAnyH_take (i := 5) (oi := { dst := some 10, op := Go.Op.move (Go.Operand.tmp 1), type := 60, pos := "l11_plans.go:57", after := #[], guard := none }) (v := ?_) rfl (by kernel_rfl) (by kernel_rfl) (by kernel_rfl) (fun _ _ _ h => h) (Or.inl ⟨by rfl, ?_⟩) (by assumption) ?_
  rotate_left
  · intro w hSw; (try dsimp only at hSw); go_simp; (try with_reducible rfl)
  simp only [Act.put, List.setIfInBounds_toArray, List.set_cons_zero, List.set_cons_succ]
  refine wpAnyH_ready (rs := [4]) (by kernel_rfl) (by simp) ?_
  refine AllReadyH.cons (o := { dst := some 9, op := Go.Op.call { callee := Go.Callee.value (Go.Operand.func 200), args := #[Go.Operand.tmp 8], argTypes := #[59] }, type := 59, pos := "l11_plans.go:57", after := #[{ on := 3, ground := Go.Ground.data }], guard := none }) rfl (fun K hK => ?_) AllReadyH.nil
  go_simp
  refine (HC1.out _ (ra_below R1.out HS.out.bel rfl)).mono ?_
  rintro e V1 ⟨gx, kx, rfl, ho, hb⟩
  replace HS := Lib.hid (HS.out.setx ho hb)
  clear ho hb
  refine hK.out _ _ ?_ (fun hHeld => ?_)
  · (try dsimp only)
    exact SKo11 HS.out
  clear hK K
  (try simp only [Act.put, List.setIfInBounds_toArray, List.set_cons_zero, List.set_cons_succ])
  refine wpAnyH_ready (rs := [6]) (by kernel_rfl) (by simp) ?_
  refine AllReadyH.cons (o := { dst := some 11, op := Go.Op.call { callee := Go.Callee.value (Go.Operand.func 201), args := #[Go.Operand.tmp 10], argTypes := #[60] }, type := 60, pos := "l11_plans.go:57", after := #[{ on := 5, ground := Go.Ground.data }, { on := 4, ground := Go.Ground.chain }], guard := none }) rfl (fun K hK => ?_) AllReadyH.nil
  go_simp
  refine (HC2.out _).mono ?_
  rintro e V2 ⟨rfl, hw⟩
  obtain rfl := hw.symm
  refine hK.out _ _ ?_ (fun hHeld => ?_)
  · (try dsimp only)
    exact SKo11 HS.out
  clear hK K
  (try simp only [Act.put, List.setIfInBounds_toArray, List.set_cons_zero, List.set_cons_succ])
  refine wpAnyH_take (i := 7) (oi := { dst := some 12, op := Go.Op.build 62 #[(0, Go.Operand.tmp 6), (1, Go.Operand.tmp 9), (2, Go.Operand.tmp 11)], type := 62, pos := "l11_plans.go:57", after := #[{ on := 1, ground := Go.Ground.data }, { on := 4, ground := Go.Ground.data }, { on := 6, ground := Go.Ground.data }], guard := none }) (v := ?_) rfl (by kernel_rfl) (by kernel_rfl) (by kernel_rfl) (fun _ _ _ h => h) (Or.inl ⟨by rfl, ?_⟩) (by assumption) ?_
  rotate_left
  · intro w hSw; (try dsimp only at hSw); go_simp; (try with_reducible rfl)
  simp only [Act.put, List.setIfInBounds_toArray, List.set_cons_zero, List.set_cons_succ]
  refine wpAnyH_ready (rs := [8]) (by kernel_rfl) (by simp) ?_
  refine AllReadyH.cons (o := { dst := none, op := Go.Op.store 62 (Go.Operand.tmp 4) (Go.Operand.tmp 12), type := 0, pos := "l11_plans.go:57", after := #[{ on := 7, ground := Go.Ground.data }, { on := 6, ground := Go.Ground.chain }, { on := 0, ground := Go.Ground.phase }, { on := 1, ground := Go.Ground.phase }, { on := 2, ground := Go.Ground.phase }, { on := 3, ground := Go.Ground.phase }, { on := 4, ground := Go.Ground.phase }, { on := 5, ground := Go.Ground.phase }, { on := 6, ground := Go.Ground.phase }, { on := 7, ground := Go.Ground.phase }], guard := none }) rfl (fun K hK => ?_) AllReadyH.nil
  have z_c := fun j => cell_of_row V1 _ j _ _ _ HS.out.2.1
  have z_f := fun j => frozen_of_row V1 _ j _ _ HS.out.2.1
  go_simp
  clear z_c z_f
  have HF := fun X hX => Lib.hid (HS.out.fin_nil (m0 := m0) (m1 := m1) (m2 := m2) (m3 := m3) (m4 := m4) (m5 := m5) (X := X) hX)
  generalize hX : (World.setCell _ _ _ : World) = X
  replace HF := HF X hX
  refine hK.out _ _ ?_ (fun hHeld => ?_)
  · (try dsimp only)
    rw [← hX]
    exact SKset11 HS.out
  clear hK K hX
  (try simp only [Act.put, List.setIfInBounds_toArray, List.set_cons_zero, List.set_cons_succ])
  refine wpAnyH_done (by kernel_rfl) ?_ _
  have x_c := fun j => cell_of_row X _ j _ _ _ HF.out.1
  go_wp2_with fail
  exact bodyPost_ret (v := .agg #[.int .i64 m0, .int .i64 m1, .int .i64 m2, .int .i64 m3, .int .i64 m4, .int .i64 m5, .slice (some ⟨gx, 0, none⟩) l.length kx, .slice none 0 0]) (by simp [results, Try.results125, go_sem, x_c]) rfl ⟨gx, kx, rfl, HF.out.2⟩
/- Dp11 -/
set_option maxRecDepth 20000 in
set_option maxHeartbeats 4000000 in
theorem idrop_yes (f : Fn11) (F : List Fn11) (st : List S11) (g1 c1 g2 c2 : Nat) (hst : st.length ≤ 40) (hF : F.length ≤ 4) (hv : ∀ p ∈ st, okS F.length p = true) (w : World) (h1 : w.rangeAt g1 0 (hv11 (F.map t11))) (h2 : w.rangeAt g2 0 (sv11 st)) : Calls Try.prog 37 #[.agg #[.int .i64 (rowv (f 0)), .int .i64 (rowv (f 1)), .int .i64 (rowv (f 2)), .int .i64 (rowv (f 3)), .int .i64 (rowv (f 4)), .int .i64 (rowv (f 5)), .slice (some ⟨g1, 0, none⟩) F.length c1, .slice (some ⟨g2, 0, none⟩) st.length c2]] w (TP11 (rowv (f 0)) (rowv (f 1)) (rowv (f 2)) (rowv (f 3)) (rowv (f 4)) (rowv (f 5)) (F.map t11) (dr11 st (vn11 F st f st.length) st.length) true w) := by
  have hn4 : (F.map t11).length = F.length := List.length_map t11
  have HX := Lib.hid (fun W a b => ivain_yes f F st g1 c1 g2 c2 hst hF hv W a b)
  have hzl := vn11_len F st f st.length
  obtain ⟨z, hz⟩ : ∃ z, z = vn11 F st f st.length := ⟨_, rfl⟩
  rw [← hz] at HX hzl ⊢
  clear hz
  have hz1 : z.length ≤ 1000 := by omega
  have R1 := Lib.hid h1
  have R2 := Lib.hid h2
  have HC := Lib.hid (fun (k g c : Nat) (W : World) h => icont_11 z k hz1 g c W h)
  have HV := Lib.hid (fun (l : List S11) (hl : l.length ≤ 1000) (g2' c2' : Nat) W a b => ihav_11 (rowv (f 0)) (rowv (f 1)) (rowv (f 2)) (rowv (f 3)) (rowv (f 4)) (rowv (f 5)) (.slice (some ⟨g2, 0, none⟩) st.length c2) (F.map t11) l g1 c1 g2' c2' (by rw [hn4]; omega) hl W a b)
  have HN := Lib.hid (fun W a => ihav_11_nil (rowv (f 0)) (rowv (f 1)) (rowv (f 2)) (rowv (f 3)) (rowv (f 4)) (rowv (f 5)) (.slice (some ⟨g2, 0, none⟩) st.length c2) (F.map t11) g1 c1 (by rw [hn4]; omega) W a)
  rw [hn4] at HV HN
  clear h1 h2 hF hv hz1 hzl
  have HFL := Lib.hid hn4
  clear hn4
  obtain ⟨i0, hi, hz0, hz1, hz2⟩ := infos_steps11
  go_enter Try.func37, Try.ntmps37
  go_wp2_with fail
  generalize hW : (World.alloc _ _ : World) = W0
  have q0 : W0.heap[w.heap.size]? = some (Obj.cells #[.int .i64 (rowv (f 0)), .int .i64 (rowv (f 1)), .int .i64 (rowv (f 2)), .int .i64 (rowv (f 3)), .int .i64 (rowv (f 4)), .int .i64 (rowv (f 5)), .slice (some ⟨g1, 0, none⟩) F.length c1, .slice (some ⟨g2, 0, none⟩) st.length c2] 62 (0, 0)) := by rw [← hW]; exact alloc_past (alloc_at rfl)
  have q1 : W0.heap[w.heap.size + 1]? = some (pz11 62) := by rw [← hW]; exact alloc_at (by simp)
  have hB : Below w.heap.size w W0 := by rw [← hW]; (repeat (first | exact Below.refl _ _ | assumption | refine Below.setCell ?_ (by first | (simp; done) | (simp; omega)) _ | refine Below.alloc ?_ (by first | (simp; done) | (simp; omega)) _ | refine Below.drew ?_))
  have hsz : w.heap.size + 2 ≤ W0.heap.size := by rw [← hW]; simp
  clear hW
  refine (HX.out _ (ra_below R1.out hB rfl) (ra_below R2.out hB rfl)).mono ?_
  rintro e W1 ⟨gz, cz, rfl, ho, hb⟩
  have S0 : Hid (Rd_11 (Obj.cells #[.int .i64 (rowv (f 0)), .int .i64 (rowv (f 1)), .int .i64 (rowv (f 2)), .int .i64 (rowv (f 3)), .int .i64 (rowv (f 4)), .int .i64 (rowv (f 5)), .slice (some ⟨g1, 0, none⟩) F.length c1, .slice (some ⟨g2, 0, none⟩) st.length c2] 62 (0, 0)) (pz11 62) gz z (dr11 st z 0) (.slice none 0 0) w W1) := Lib.hid ⟨rowk q0 hb rfl, rowk q1 hb rfl, World.ownsRow_nil W1 _ _ 4, by simp [Value.ownBlock], (ho.lt gz rfl).2, own_range ho, Nat.le_trans hsz hb.size, below_of hB hb (by omega)⟩
  clear q0 q1 hB hsz ho hb HX
  have a_c := fun j => cell_of_row W1 _ j _ _ _ S0.out.1
  go_wp2_with fail
  clear a_c
  go_loopw [6, 7, 8, 20] (fun a _ _ i wr => ∃ k : Nat, k ≤ st.length ∧ i = .int .i64 k ∧ Hid (Rd_11 (Obj.cells #[.int .i64 (rowv (f 0)), .int .i64 (rowv (f 1)), .int .i64 (rowv (f 2)), .int .i64 (rowv (f 3)), .int .i64 (rowv (f 4)), .int .i64 (rowv (f 5)), .slice (some ⟨g1, 0, none⟩) F.length c1, .slice (some ⟨g2, 0, none⟩) st.length c2] 62 (0, 0)) (pz11 62) gz z (dr11 st z k) a w wr)) (fun _ _ _ i _ => st.length - (intOf i).toNat)
  case atStart => exact ⟨0, by omega, rfl, S0⟩
  case round =>
    obtain ⟨k, hk, rfl, HB⟩ := hrel
    clear S0
    by_cases hlt : k < st.length
    · have hlt' : (k : Int) < st.length := by omega
      have hk0 : (0 : Int) ≤ k := by omega
      have HDL := Lib.hid (dr11_len st z k)
      have HY := Lib.hid (fun h => dr11_yes (st := st) (z := z) (n := k) h)
      have HNo := Lib.hid (fun h => dr11_no (st := st) (z := z) (n := k) hlt h)
      obtain ⟨p, hp⟩ : ∃ p, p = st[k] := ⟨_, rfl⟩
      rw [← hp] at HNo
      obtain ⟨c0, c1', c2', c3⟩ := HB.out.step R2.out hlt hp.symm
      clear hp
      have HCk := Lib.hid (fun (U : World) (h : U.rangeAt gz 0 (iv11 z)) => HC.out k gz cz U h)
      obtain ⟨l, hl⟩ : ∃ l, l = dr11 st z k := ⟨_, rfl⟩
      rw [← hl] at HB HDL HY HNo
      clear hl
      generalize z.contains k = b at HCk HY HNo
      go_wp2_with fail
      have HB1 := Lib.hid (HB.out.al (.cells #[.int .i64 p.k, .int .i64 p.s, .int .i64 p.x, .int .i64 p.y] 73))
      have q8 : (wr.alloc (.cells #[.int .i64 p.k, .int .i64 p.s, .int .i64 p.x, .int .i64 p.y] 73)).heap[wr.heap.size]? = some (.cells #[.int .i64 p.k, .int .i64 p.s, .int .i64 p.x, .int .i64 p.y] 73 (0, 0)) := alloc_at rfl
      clear c0 c1' c2' c3 HB
      refine (HCk.out _ HB1.out.2.2.2.2.2.1).mono ?_
      rintro e w' ⟨rfl, hw⟩
      obtain rfl := hw.symm
      clear hw
      generalize hgb : wr.heap.size = gb at q8 ⊢
      clear hgb
      generalize (World.alloc _ _ : World) = W5 at HB1 q8 ⊢
      cases b
      · have HD2 := Lib.hid (HNo.out rfl)
        have HA := Lib.hid (HB1.out.al (.cells #[.int .i64 p.k, .int .i64 p.s, .int .i64 p.x, .int .i64 p.y] 73))
        have a_c := fun j => cell_of_row W5 _ j _ _ _ q8
        have HL := Lib.hid HDL.out
        clear HNo HY HCk HDL q8 HB1
        go_wp2_with (at_builtin; refine wpList_append_own_at _ rfl _ _ 60 rfl (w.heap.size + 2) 73 i0 (.agg #[.int .i64 0, .int .i64 0, .int .i64 0, .int .i64 0]) 4 32 Try.underlying60 hi hz0 hz1 hz2 rfl (by decide) _ _ _ rfl HA.out.2.2.1 ⟨W5.heap.size, 0, none⟩ 1 1 (cs11 p) rfl rfl (step_new11 W5 p _) (cs11_one p) (by have := HL.out; unfold maxLen; omega) (by have := HL.out; omega) HA.out.2.2.2.2.2.2.1 ?_; intro v' w1 hown hgr hnn hat; have R := Lib.hid (HA.out.snoc hown hgr hat); clear hown hgr hnn hat HA)
        go_roundw
        case rel => exact ⟨k + 1, by omega, by go_num, by rw [HD2.out]; exact R⟩
        case measure => simp [intOf]; omega
      · have HD2 := Lib.hid (HY.out rfl)
        clear HNo HY HCk HDL q8
        go_wp2_with fail
        go_roundw
        case rel => exact ⟨k + 1, by omega, by go_num, by rw [HD2.out]; exact HB1⟩
        case measure => simp [intOf]; omega
    · obtain rfl : k = st.length := by omega
      clear hi hz0 hz1 hz2 HC
      have hlen9 := dr11_len st z st.length
      obtain ⟨l, hl⟩ : ∃ l, l = dr11 st z st.length := ⟨_, rfl⟩
      rw [← hl] at HB hlen9
      have HLE := Lib.hid hl.symm
      clear hl
      obtain ⟨rfl, hn⟩ | ⟨gd, cd, rfl⟩ := own_cases11 HB.out.2.2.1
      · obtain rfl : l = [] := List.length_eq_zero_iff.1 hn
        have q0 := HB.out.1
        have q1 := HB.out.2.1
        have hB := HB.out.2.2.2.2.2.2.2
        have hz1 := (Array.getElem?_eq_some_iff.1 q1).1
        clear HV
        clear HB
        generalize hWr : wr = W9 at *
        clear hWr
        have a_c := fun j => cell_of_row W9 _ j _ _ _ q0
        go_wp2_with fail
        clear a_c
        refine (HN.out _ (ra_below R1.out hB rfl)).mono ?_
        rintro e W3 ⟨ga, ka, he, hp, hb⟩
        rw [HFL.out] at he hp
        subst he
        replace q1 := rowk q1 hb rfl
        have hB3 := below_of hB hb (by have := hB.size; exact this)
        clear hb q0
        have z_f := fun j => frozen_of_row W3 _ j _ _ q1
        have z_c := fun j => cell_of_row W3 _ j _ _ _ q1
        have HPP := Lib.hid hp
        have Q1 := Lib.hid q1
        clear hp q1
        go_wp2_with fail
        clear z_f z_c
        have HF := fun X hX => Lib.hid (box_put11 (w := w) (X := X) (m0 := rowv (f 0)) (m1 := rowv (f 1)) (m2 := rowv (f 2)) (m3 := rowv (f 3)) (m4 := rowv (f 4)) (m5 := rowv (f 5)) Q1.out HPP.out hz1 (by omega) (by omega) hB3 hX)
        generalize hX : (World.setCell _ _ _ : World) = X
        replace HF := HF X hX
        have x_c := fun j => cell_of_row X _ j _ _ _ HF.out.1
        exact bodyPost_ret (v := .tuple #[.agg #[.int .i64 (rowv (f 0)), .int .i64 (rowv (f 1)), .int .i64 (rowv (f 2)), .int .i64 (rowv (f 3)), .int .i64 (rowv (f 4)), .int .i64 (rowv (f 5)), .slice (some ⟨ga, 0, none⟩) F.length ka, .slice none 0 0], .bool true]) (by simp [results, Try.results37, go_sem, x_c]) rfl ⟨_, _, rfl, by rw [HLE.out]; exact HF.out.2⟩
      · have OR := Lib.hid (own_range HB.out.2.2.1)
        have q0 := HB.out.1
        have q1 := HB.out.2.1
        have hB := HB.out.2.2.2.2.2.2.2
        have hz1 := (Array.getElem?_eq_some_iff.1 q1).1
        clear HN
        clear HB
        generalize hWr : wr = W9 at *
        clear hWr
        have a_c := fun j => cell_of_row W9 _ j _ _ _ q0
        go_wp2_with fail
        clear a_c
        refine (HV.out l (by omega) gd cd _ (ra_below R1.out hB rfl) OR.out).mono ?_
        rintro e W3 ⟨ga, ka, gb, kb, he, hp, hb⟩
        rw [HFL.out] at he hp
        subst he
        replace q1 := rowk q1 hb rfl
        have hB3 := below_of hB hb (by have := hB.size; exact this)
        clear hb q0
        have z_f := fun j => frozen_of_row W3 _ j _ _ q1
        have z_c := fun j => cell_of_row W3 _ j _ _ _ q1
        have HPP := Lib.hid hp
        have Q1 := Lib.hid q1
        clear hp q1
        go_wp2_with fail
        clear z_f z_c
        have HF := fun X hX => Lib.hid (box_put11 (w := w) (X := X) (m0 := rowv (f 0)) (m1 := rowv (f 1)) (m2 := rowv (f 2)) (m3 := rowv (f 3)) (m4 := rowv (f 4)) (m5 := rowv (f 5)) Q1.out HPP.out hz1 (by omega) (by omega) hB3 hX)
        generalize hX : (World.setCell _ _ _ : World) = X
        replace HF := HF X hX
        have x_c := fun j => cell_of_row X _ j _ _ _ HF.out.1
        exact bodyPost_ret (v := .tuple #[.agg #[.int .i64 (rowv (f 0)), .int .i64 (rowv (f 1)), .int .i64 (rowv (f 2)), .int .i64 (rowv (f 3)), .int .i64 (rowv (f 4)), .int .i64 (rowv (f 5)), .slice (some ⟨ga, 0, none⟩) F.length ka, .slice (some ⟨gb, 0, none⟩) l.length kb], .bool true]) (by simp [results, Try.results37, go_sem, x_c]) rfl ⟨_, _, rfl, by rw [HLE.out]; exact HF.out.2⟩
/- Dq11 -/
set_option maxRecDepth 20000 in
set_option maxHeartbeats 4000000 in
theorem sdrop_yes (f : Fn11) (F : List Fn11) (st : List S11) (g1 c1 g2 c2 : Nat) (hst : st.length ≤ 40) (hF : F.length ≤ 4) (hv : ∀ p ∈ st, okS F.length p = true) (w : World) (h1 : w.rangeAt g1 0 (hv11 (F.map t11))) (h2 : w.rangeAt g2 0 (sv11 st)) : Calls Try.prog 35 #[.agg #[.int .i64 (rowv (f 0)), .int .i64 (rowv (f 1)), .int .i64 (rowv (f 2)), .int .i64 (rowv (f 3)), .int .i64 (rowv (f 4)), .int .i64 (rowv (f 5)), .slice (some ⟨g1, 0, none⟩) F.length c1, .slice (some ⟨g2, 0, none⟩) st.length c2]] w (TP11 (rowv (f 0)) (rowv (f 1)) (rowv (f 2)) (rowv (f 3)) (rowv (f 4)) (rowv (f 5)) (F.map t11) (dr11 st (vn11 F st f st.length) st.length) true w) := by
  have hn4 : (F.map t11).length = F.length := List.length_map t11
  have HP := Lib.hid (fun W a b => lplan_11 (rowv (f 0)) (rowv (f 1)) (rowv (f 2)) (rowv (f 3)) (rowv (f 4)) (rowv (f 5)) (F.map t11) st g1 c1 g2 c2 (by rw [hn4]; omega) (by omega) W a b)
  rw [show okP (rowv (f 0), rowv (f 1), rowv (f 2), rowv (f 3), rowv (f 4), rowv (f 5)) (F.map t11) st = true from okP_of (f := f) hF hst hv, hn4] at HP
  have HX := Lib.hid (fun W a b => lvain_11 f F st g1 c1 g2 c2 hst hF hv W a b)
  have hzl := vn11_len F st f st.length
  obtain ⟨z, hz⟩ : ∃ z, z = vn11 F st f st.length := ⟨_, rfl⟩
  rw [← hz] at HX hzl ⊢
  clear hz
  have hz1 : z.length ≤ 1000 := by omega
  have R1 := Lib.hid h1
  have R2 := Lib.hid h2
  have HC := Lib.hid (fun (k g c : Nat) (W : World) h => lhas_11 z k hz1 g c W h)
  have HV := Lib.hid (fun (l : List S11) (hl : l.length ≤ 1000) (g2' c2' : Nat) W a b => lown_11 (rowv (f 0)) (rowv (f 1)) (rowv (f 2)) (rowv (f 3)) (rowv (f 4)) (rowv (f 5)) (.slice (some ⟨g2, 0, none⟩) st.length c2) (F.map t11) l g1 c1 g2' c2' (by rw [hn4]; omega) hl W a b)
  rw [hn4] at HV
  clear h1 h2 hF hv hz1 hzl
  have HFL := Lib.hid hn4
  clear hn4
  obtain ⟨i0, hi, hz0, hz1, hz2⟩ := infos_steps11
  go_enter Try.func35, Try.ntmps35
  go_wp2_with fail
  generalize hW : (World.alloc _ _ : World) = W0
  have q0 : W0.heap[w.heap.size]? = some (Obj.cells #[.int .i64 (rowv (f 0)), .int .i64 (rowv (f 1)), .int .i64 (rowv (f 2)), .int .i64 (rowv (f 3)), .int .i64 (rowv (f 4)), .int .i64 (rowv (f 5)), .slice (some ⟨g1, 0, none⟩) F.length c1, .slice (some ⟨g2, 0, none⟩) st.length c2] 62 (0, 0)) := by rw [← hW]; exact alloc_past (alloc_at rfl)
  have q1 : W0.heap[w.heap.size + 1]? = some (pz11 62) := by rw [← hW]; exact alloc_at (by simp)
  have hB : Below w.heap.size w W0 := by rw [← hW]; (repeat (first | exact Below.refl _ _ | assumption | refine Below.setCell ?_ (by first | (simp; done) | (simp; omega)) _ | refine Below.alloc ?_ (by first | (simp; done) | (simp; omega)) _ | refine Below.drew ?_))
  have hsz : w.heap.size + 2 ≤ W0.heap.size := by rw [← hW]; simp
  clear hW
  refine (HP.out _ (ra_below R1.out hB rfl) (ra_below R2.out hB rfl)).mono ?_
  rintro e W1 ⟨rfl, hb⟩
  replace q0 := rowk q0 hb rfl
  replace q1 := rowk q1 hb rfl
  replace hB := below_of hB hb (by omega)
  replace hsz := Nat.le_trans hsz hb.size
  clear hb HP
  have a_c := fun j => cell_of_row W1 _ j _ _ _ q0
  go_wp2_with fail
  clear a_c
  refine (HX.out _ (ra_below R1.out hB rfl) (ra_below R2.out hB rfl)).mono ?_
  rintro e W2 ⟨gz, cz, rfl, ho, hb⟩
  have hlt9 := (ho.lt gz rfl).2
  have OR := Lib.hid (own_range ho)
  replace q0 := rowk q0 hb rfl
  replace q1 := rowk q1 hb rfl
  replace hB := below_of hB hb (by omega)
  replace hsz := Nat.le_trans hsz hb.size
  clear hb HX ho
  have S0 : Hid (Rd_11 (Obj.cells #[.int .i64 (rowv (f 0)), .int .i64 (rowv (f 1)), .int .i64 (rowv (f 2)), .int .i64 (rowv (f 3)), .int .i64 (rowv (f 4)), .int .i64 (rowv (f 5)), .slice (some ⟨g1, 0, none⟩) F.length c1, .slice (some ⟨g2, 0, none⟩) st.length c2] 62 (0, 0)) (pz11 62) gz z (dr11 st z 0) (.slice (some ⟨W2.heap.size, 0, none⟩) 0 0) w (W2.alloc (.cells #[] 73))) := Lib.hid ⟨alloc_past q0, alloc_past q1, World.ownsRow_lit (base := w.heap.size + 2) (e := 73) (size := 4) W2 #[] 0 hsz (by unfold maxLen; omega) rfl, by simp [Value.ownBlock]; omega, by simp; omega, ra_below OR.out ((Below.refl _ _).alloc (Nat.le_refl _) _) rfl, by simp; omega, hB.alloc (by omega) _⟩
  have NN : Hid ((Value.slice (some ⟨W2.heap.size, 0, none⟩) 0 0) ≠ .slice none 0 0) := Lib.hid (by simp)
  clear q1 hB hsz hlt9 OR
  go_wp2_with fail
  generalize (World.alloc _ _ : World) = W3 at S0 ⊢
  clear q0
  go_loopw [5, 6] (fun a i wr => ∃ k : Nat, k ≤ st.length ∧ i = .int .i64 k ∧ Hid (Rd_11 (Obj.cells #[.int .i64 (rowv (f 0)), .int .i64 (rowv (f 1)), .int .i64 (rowv (f 2)), .int .i64 (rowv (f 3)), .int .i64 (rowv (f 4)), .int .i64 (rowv (f 5)), .slice (some ⟨g1, 0, none⟩) F.length c1, .slice (some ⟨g2, 0, none⟩) st.length c2] 62 (0, 0)) (pz11 62) gz z (dr11 st z k) a w wr) ∧ Hid (a ≠ .slice none 0 0)) (fun _ i _ => st.length - (intOf i).toNat)
  case atStart => exact ⟨0, by omega, rfl, S0, NN⟩
  case round =>
    obtain ⟨k, hk, rfl, HB, HNN⟩ := hrel
    clear S0 NN
    have a_c := fun j => cell_of_row _ _ j _ _ _ HB.out.1
    by_cases hlt : k < st.length
    · have hlt' : (k : Int) < st.length := by omega
      have hk0 : (0 : Int) ≤ k := by omega
      have HDL := Lib.hid (dr11_len st z k)
      have HY := Lib.hid (fun h => dr11_yes (st := st) (z := z) (n := k) h)
      have HNo := Lib.hid (fun h => dr11_no (st := st) (z := z) (n := k) hlt h)
      obtain ⟨p, hp⟩ : ∃ p, p = st[k] := ⟨_, rfl⟩
      rw [← hp] at HNo
      obtain ⟨c0, c1', c2', c3⟩ := HB.out.step R2.out hlt hp.symm
      clear hp
      have HCk := Lib.hid (fun (U : World) (h : U.rangeAt gz 0 (iv11 z)) => HC.out k gz cz U h)
      obtain ⟨l, hl⟩ : ∃ l, l = dr11 st z k := ⟨_, rfl⟩
      rw [← hl] at HB HDL HY HNo
      clear hl
      generalize z.contains k = b at HCk HY HNo
      go_wp2_with fail
      refine (HCk.out _ HB.out.2.2.2.2.2.1).mono ?_
      rintro e w' ⟨rfl, hw⟩
      obtain rfl := hw.symm
      clear hw
      cases b
      · have HD2 := Lib.hid (HNo.out rfl)
        have HA := Lib.hid (HB.out.al (.cells #[.int .i64 p.k, .int .i64 p.s, .int .i64 p.x, .int .i64 p.y] 73))
        have HL := Lib.hid HDL.out
        clear HNo HY HCk HDL HB
        go_wp2_with (at_builtin; refine wpList_append_own_at _ rfl _ _ 60 rfl (w.heap.size + 2) 73 i0 (.agg #[.int .i64 0, .int .i64 0, .int .i64 0, .int .i64 0]) 4 32 Try.underlying60 hi hz0 hz1 hz2 rfl (by decide) _ _ _ rfl HA.out.2.2.1 ⟨wr.heap.size, 0, none⟩ 1 1 (cs11 p) rfl rfl (step_new11 wr p _) (cs11_one p) (by have := HL.out; unfold maxLen; omega) (by have := HL.out; omega) HA.out.2.2.2.2.2.2.1 ?_; intro v' w1 hown hgr hnn hat; have R := Lib.hid (HA.out.snoc hown hgr hat); have HN2 := Lib.hid (fun e => HNN.out (hnn.mp e).1); clear hown hgr hnn hat HA)
        go_roundw
        case rel => exact ⟨k + 1, by omega, by go_num, by rw [HD2.out]; exact R, Lib.hid HN2.out⟩
        case measure => simp [intOf]; omega
      · have HD2 := Lib.hid (HY.out rfl)
        clear HNo HY HCk HDL c0 c1' c2' c3
        go_wp2_with fail
        go_roundw
        case rel => exact ⟨k + 1, by omega, by go_num, by rw [HD2.out]; exact HB, HNN⟩
        case measure => simp [intOf]; omega
    · obtain rfl : k = st.length := by omega
      clear hi hz0 hz1 hz2 HC
      have hlen9 := dr11_len st z st.length
      obtain ⟨l, hl⟩ : ∃ l, l = dr11 st z st.length := ⟨_, rfl⟩
      rw [← hl] at HB hlen9
      have HLE := Lib.hid hl.symm
      clear hl
      obtain ⟨gd, cd, rfl⟩ := own_form11 HB.out.2.2.1 HNN.out
      have OR := Lib.hid (own_range HB.out.2.2.1)

      have q0 := HB.out.1
      have q1 := HB.out.2.1
      have hB := HB.out.2.2.2.2.2.2.2
      have hz1 := (Array.getElem?_eq_some_iff.1 q1).1
      skip
      clear HB
      generalize hWr : wr = W9 at *
      clear hWr
      clear a_c
      have a_c := fun j => cell_of_row W9 _ j _ _ _ q0
      go_wp2_with fail
      clear a_c
      refine (HV.out l (by omega) gd cd _ (ra_below R1.out hB rfl) OR.out).mono ?_
      rintro e W3 ⟨ga, ka, gb, kb, he, hp, hb⟩
      rw [HFL.out] at he hp
      subst he
      replace q1 := rowk q1 hb rfl
      have hB3 := below_of hB hb (by have := hB.size; exact this)
      clear hb q0
      have z_f := fun j => frozen_of_row W3 _ j _ _ q1
      have z_c := fun j => cell_of_row W3 _ j _ _ _ q1
      have HPP := Lib.hid hp
      have Q1 := Lib.hid q1
      clear hp q1
      go_wp2_with fail
      clear z_f z_c
      have HF := fun X hX => Lib.hid (box_put11 (w := w) (X := X) (m0 := rowv (f 0)) (m1 := rowv (f 1)) (m2 := rowv (f 2)) (m3 := rowv (f 3)) (m4 := rowv (f 4)) (m5 := rowv (f 5)) Q1.out HPP.out hz1 (by omega) (by omega) hB3 hX)
      generalize hX : (World.setCell _ _ _ : World) = X
      replace HF := HF X hX
      have x_c := fun j => cell_of_row X _ j _ _ _ HF.out.1
      exact bodyPost_ret (v := .tuple #[.agg #[.int .i64 (rowv (f 0)), .int .i64 (rowv (f 1)), .int .i64 (rowv (f 2)), .int .i64 (rowv (f 3)), .int .i64 (rowv (f 4)), .int .i64 (rowv (f 5)), .slice (some ⟨ga, 0, none⟩) F.length ka, .slice (some ⟨gb, 0, none⟩) l.length kb], .bool true]) (by simp [results, Try.results35, go_sem, x_c]) rfl ⟨_, _, rfl, by rw [HLE.out]; exact HF.out.2⟩
set_option maxRecDepth 20000 in
set_option maxHeartbeats 2000000 in
theorem idrop_no (m0 m1 m2 m3 m4 m5 : Int) (l : List H11) (st : List S11) (g1 c1 g2 c2 : Nat) (hl : l.length ≤ 1048576) (hst : st.length ≤ 1048576) (hwf : ∀ p ∈ st, (Lit.int .i64 p.x).wf = true ∧ (Lit.int .i64 p.y).wf = true) (hq : okP (m0, m1, m2, m3, m4, m5) l st = false) (w : World) (h1 : w.rangeAt g1 0 (hv11 l)) (h2 : w.rangeAt g2 0 (sv11 st)) : Calls Try.prog 37 #[.agg #[.int .i64 m0, .int .i64 m1, .int .i64 m2, .int .i64 m3, .int .i64 m4, .int .i64 m5, .slice (some ⟨g1, 0, none⟩) l.length c1, .slice (some ⟨g2, 0, none⟩) st.length c2]] w (TP11 0 0 0 0 0 0 [] [] false w) := by
  have HP := Lib.hid (fun W a b => ivain_no m0 m1 m2 m3 m4 m5 l st g1 c1 g2 c2 hl hst hwf hq W a b)
  have R1 := Lib.hid h1
  have R2 := Lib.hid h2
  clear h1 h2 hq
  go_enter Try.func37, Try.ntmps37
  go_wp2_with fail
  generalize hW : (World.alloc _ _ : World) = W0
  have q0 : W0.heap[w.heap.size]? = some (Obj.cells #[.int .i64 m0, .int .i64 m1, .int .i64 m2, .int .i64 m3, .int .i64 m4, .int .i64 m5, .slice (some ⟨g1, 0, none⟩) l.length c1, .slice (some ⟨g2, 0, none⟩) st.length c2] 62 (0, 0)) := by rw [← hW]; exact alloc_past (alloc_at rfl)
  have q1 : W0.heap[w.heap.size + 1]? = some (pz11 62) := by rw [← hW]; exact alloc_at (by simp)
  have hB : Below w.heap.size w W0 := by rw [← hW]; (repeat (first | exact Below.refl _ _ | assumption | refine Below.setCell ?_ (by first | (simp; done) | (simp; omega)) _ | refine Below.alloc ?_ (by first | (simp; done) | (simp; omega)) _ | refine Below.drew ?_))
  clear hW
  refine (HP.out _ (ra_below R1.out hB rfl) (ra_below R2.out hB rfl)).mono ?_
  rintro e W1 ⟨gz, cz, rfl, ho, hb⟩
  replace q1 := rowk q1 hb rfl
  replace hB := below_of hB hb (by have := hB.size; omega)
  clear hb HP q0
  have z_f := fun j => frozen_of_row W1 _ j _ _ q1
  have z_c := fun j => cell_of_row W1 _ j _ _ _ q1
  have hz1 : w.heap.size + 1 < W1.heap.size := (Array.getElem?_eq_some_iff.1 q1).1
  have Q1 := Lib.hid q1
  clear q1
  go_wp2_with fail
  clear z_f z_c
  have HF := fun X hX => Lib.hid (box_put11 (w := w) (X := X) (lo := W1.heap.size) (m0 := 0) (m1 := 0) (m2 := 0) (m3 := 0) (m4 := 0) (m5 := 0) Q1.out (Pr11.nil _ _ _) hz1 (by omega) (by omega) hB hX)
  generalize hX : (World.setCell _ _ _ : World) = X
  replace HF := HF X hX
  have x_c := fun j => cell_of_row X _ j _ _ _ HF.out.1
  exact bodyPost_ret (v := .tuple #[.agg #[.int .i64 0, .int .i64 0, .int .i64 0, .int .i64 0, .int .i64 0, .int .i64 0, .slice none 0 0, .slice none 0 0], .bool false]) (by simp [results, Try.results37, go_sem, x_c]) rfl ⟨_, _, rfl, HF.out.2⟩
set_option maxRecDepth 20000 in
set_option maxHeartbeats 2000000 in
theorem sdrop_no (m0 m1 m2 m3 m4 m5 : Int) (l : List H11) (st : List S11) (g1 c1 g2 c2 : Nat) (hl : l.length ≤ 1048576) (hst : st.length ≤ 1048576) (hq : okP (m0, m1, m2, m3, m4, m5) l st = false) (w : World) (h1 : w.rangeAt g1 0 (hv11 l)) (h2 : w.rangeAt g2 0 (sv11 st)) : Calls Try.prog 35 #[.agg #[.int .i64 m0, .int .i64 m1, .int .i64 m2, .int .i64 m3, .int .i64 m4, .int .i64 m5, .slice (some ⟨g1, 0, none⟩) l.length c1, .slice (some ⟨g2, 0, none⟩) st.length c2]] w (TP11 0 0 0 0 0 0 [] [] false w) := by
  have HP := Lib.hid (fun W a b => lplan_11 m0 m1 m2 m3 m4 m5 l st g1 c1 g2 c2 hl hst W a b)
  rw [hq] at HP
  have R1 := Lib.hid h1
  have R2 := Lib.hid h2
  clear h1 h2 hq
  go_enter Try.func35, Try.ntmps35
  go_wp2_with fail
  generalize hW : (World.alloc _ _ : World) = W0
  have q0 : W0.heap[w.heap.size]? = some (Obj.cells #[.int .i64 m0, .int .i64 m1, .int .i64 m2, .int .i64 m3, .int .i64 m4, .int .i64 m5, .slice (some ⟨g1, 0, none⟩) l.length c1, .slice (some ⟨g2, 0, none⟩) st.length c2] 62 (0, 0)) := by rw [← hW]; exact alloc_past (alloc_at rfl)
  have q1 : W0.heap[w.heap.size + 1]? = some (pz11 62) := by rw [← hW]; exact alloc_at (by simp)
  have hB : Below w.heap.size w W0 := by rw [← hW]; (repeat (first | exact Below.refl _ _ | assumption | refine Below.setCell ?_ (by first | (simp; done) | (simp; omega)) _ | refine Below.alloc ?_ (by first | (simp; done) | (simp; omega)) _ | refine Below.drew ?_))
  clear hW
  refine (HP.out _ (ra_below R1.out hB rfl) (ra_below R2.out hB rfl)).mono ?_
  rintro e W1 ⟨rfl, hb⟩
  replace q1 := rowk q1 hb rfl
  replace hB := below_of hB hb (by have := hB.size; omega)
  clear hb HP q0
  have z_f := fun j => frozen_of_row W1 _ j _ _ q1
  have z_c := fun j => cell_of_row W1 _ j _ _ _ q1
  have hz1 : w.heap.size + 1 < W1.heap.size := (Array.getElem?_eq_some_iff.1 q1).1
  have Q1 := Lib.hid q1
  clear q1
  go_wp2_with fail
  clear z_f z_c
  have HF := fun X hX => Lib.hid (box_put11 (w := w) (X := X) (lo := W1.heap.size) (m0 := 0) (m1 := 0) (m2 := 0) (m3 := 0) (m4 := 0) (m5 := 0) Q1.out (Pr11.nil _ _ _) hz1 (by omega) (by omega) hB hX)
  generalize hX : (World.setCell _ _ _ : World) = X
  replace HF := HF X hX
  have x_c := fun j => cell_of_row X _ j _ _ _ HF.out.1
  exact bodyPost_ret (v := .tuple #[.agg #[.int .i64 0, .int .i64 0, .int .i64 0, .int .i64 0, .int .i64 0, .int .i64 0, .slice none 0 0, .slice none 0 0], .bool false]) (by simp [results, Try.results35, go_sem, x_c]) rfl ⟨_, _, rfl, HF.out.2⟩
theorem drop_pair (m0 m1 m2 m3 m4 m5 : Int) (l : List H11) (st : List S11) (hl : l.length ≤ 1048576) (hst : st.length ≤ 1048576) (hwf : ∀ p ∈ st, (Lit.int .i64 p.x).wf = true ∧ (Lit.int .i64 p.y).wf = true) : ∃ (r0 r1 r2 r3 r4 r5 : Int) (l' : List H11) (st' : List S11) (t : Bool), l'.length ≤ 1000 ∧ st'.length ≤ 1000 ∧ (∀ (g1 c1 g2 c2 : Nat) (W : World), st.length ≤ c2 → W.rangeAt g1 0 (hv11 l) → W.rangeAt g2 0 (sv11 st) → Calls Try.prog 35 #[.agg #[.int .i64 m0, .int .i64 m1, .int .i64 m2, .int .i64 m3, .int .i64 m4, .int .i64 m5, .slice (some ⟨g1, 0, none⟩) l.length c1, .slice (some ⟨g2, 0, none⟩) st.length c2]] W (TP11 r0 r1 r2 r3 r4 r5 l' st' t W)) ∧ (∀ (g1 c1 g2 c2 : Nat) (W : World), st.length ≤ c2 → W.rangeAt g1 0 (hv11 l) → W.rangeAt g2 0 (sv11 st) → Calls Try.prog 37 #[.agg #[.int .i64 m0, .int .i64 m1, .int .i64 m2, .int .i64 m3, .int .i64 m4, .int .i64 m5, .slice (some ⟨g1, 0, none⟩) l.length c1, .slice (some ⟨g2, 0, none⟩) st.length c2]] W (TP11 r0 r1 r2 r3 r4 r5 l' st' t W)) := by
  cases hq : okP (m0, m1, m2, m3, m4, m5) l st
  · exact ⟨0, 0, 0, 0, 0, 0, [], [], false, by simp, by simp, fun g1 c1 g2 c2 W _ a b => sdrop_no m0 m1 m2 m3 m4 m5 l st g1 c1 g2 c2 hl hst hq W a b, fun g1 c1 g2 c2 W _ a b => idrop_no m0 m1 m2 m3 m4 m5 l st g1 c1 g2 c2 hl hst hwf hq W a b⟩
  · obtain ⟨f, F, e1, rfl, h2, h3, h5⟩ := okP_get hq
    simp only [t11, Prod.mk.injEq] at e1
    obtain ⟨rfl, rfl, rfl, rfl, rfl, rfl⟩ := e1
    have hm : (F.map t11).length = F.length := List.length_map t11
    rw [hm]
    have hdl := dr11_len st (vn11 F st f st.length) st.length
    exact ⟨rowv (f 0), rowv (f 1), rowv (f 2), rowv (f 3), rowv (f 4), rowv (f 5), F.map t11, dr11 st (vn11 F st f st.length) st.length, true, by rw [hm]; omega, by omega, fun g1 c1 g2 c2 W _ a b => sdrop_yes f F st g1 c1 g2 c2 h3 h2 h5 W a b, fun g1 c1 g2 c2 W _ a b => idrop_yes f F st g1 c1 g2 c2 h3 h2 h5 W a b⟩
end Go.Proofs.Ytnkjamdpafpcpaa
