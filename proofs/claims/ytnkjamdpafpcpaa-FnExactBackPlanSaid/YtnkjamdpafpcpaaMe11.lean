/- MERGED, for one claim's sake: Ow11, Hv11, Un11, Rev11, Pm11, Bk11, Bl11. -/
import Derived.Test.YtnkjamdpafpcpaaRt11
import Derived.Test.YtnkjamdpafpcpaaAp11
import Derived.Test.YtnkjamdpafpcpaaPg11
import Derived.Test.YtnkjamdpafpcpaaPk11
import Derived.Test.YtnkjamdpafpcpaaRev0
import Derived.RegionTactic
import Derived.WalkKit
import Derived.ProofKit
import Derived.OpenShut
import Derived.Lib.Hide
import Derived.WalkSpells
import Derived.Below
import Derived.BigQuiet
import Derived.LoopN
import Derived.StillTailTactics
import Derived.Shelf.SlicesQ.Reverse
namespace Go.Proofs.Ytnkjamdpafpcpaa
open Go.ChangeShapes Go.WideShapes Go.ChangeAt Go.RowKit
set_option linter.unusedVariables false
/- Ow11 -/
/-- Two rows under construction: of sheets (block, room, number, cells) and of steps. -/
def St11 (b : Nat) (o0 o1 : Obj) (X Y : Option (Nat × Nat × Nat × List Value)) (w U : World) : Prop := U.heap[w.heap.size]? = some o0 ∧ U.heap[w.heap.size + 1]? = some o1 ∧ (∀ a, X = some a → U.ownsRow (w.heap.size + b) 28 6 (.slice (some ⟨a.1, 0, none⟩) a.2.2.1 a.2.1) a.2.2.1 a.2.2.2) ∧ (∀ a, Y = some a → U.ownsRow (w.heap.size + b) 73 4 (.slice (some ⟨a.1, 0, none⟩) a.2.2.1 a.2.1) a.2.2.1 a.2.2.2) ∧ (∀ a c, X = some a → Y = some c → a.1 ≠ c.1) ∧ w.heap.size + b ≤ U.heap.size ∧ 2 ≤ b ∧ Below w.heap.size w U
section
variable {b : Nat} {o0 o1 : Obj} {X Y : Option (Nat × Nat × Nat × List Value)} {w U V : World}
theorem St11.far {M : Nat} (h : St11 b o0 o1 X Y w U) (hb : Below M U V) (hM : M = U.heap.size) : St11 b o0 o1 X Y w V :=
  ⟨rowk h.1 hb hM, rowk h.2.1 hb hM, fun a ha => (h.2.2.1 a ha).kept (grown_below hb hM) (.inr (by simp [Value.ownBlock])), fun a ha => (h.2.2.2.1 a ha).kept (grown_below hb hM) (.inr (by simp [Value.ownBlock])), h.2.2.2.2.1, Nat.le_trans h.2.2.2.2.2.1 hb.size, h.2.2.2.2.2.2.1, below_of h.2.2.2.2.2.2.2 hb (by have := h.2.2.2.2.2.2.2.size; omega)⟩
theorem St11.drew (h : St11 b o0 o1 X Y w U) : St11 b o0 o1 X Y w U.drew := h.far (M := U.heap.size) (Below.refl _ _).drew rfl
theorem St11.al (h : St11 b o0 o1 X Y w U) (o : Obj) : St11 b o0 o1 X Y w (U.alloc o) := h.far (M := U.heap.size) ((Below.refl _ _).alloc (Nat.le_refl _) o) rfl
theorem St11.bel (h : St11 b o0 o1 X Y w U) : Below w.heap.size w U := h.2.2.2.2.2.2.2
theorem St11.le (h : St11 b o0 o1 X Y w U) : w.heap.size + b ≤ U.heap.size := h.2.2.2.2.2.1
theorem St11.x {a : Nat × Nat × Nat × List Value} (h : St11 b o0 o1 (some a) Y w U) : U.ownsRow (w.heap.size + b) 28 6 (.slice (some ⟨a.1, 0, none⟩) a.2.2.1 a.2.1) a.2.2.1 a.2.2.2 := h.2.2.1 a rfl
theorem St11.y {a : Nat × Nat × Nat × List Value} (h : St11 b o0 o1 X (some a) w U) : U.ownsRow (w.heap.size + b) 73 4 (.slice (some ⟨a.1, 0, none⟩) a.2.2.1 a.2.1) a.2.2.1 a.2.2.2 := h.2.2.2.1 a rfl
theorem St11.mkx (h : St11 b o0 o1 none Y w U) : St11 b o0 o1 (some (U.heap.size, 0, 0, [])) Y w (U.alloc (.cells #[] 28)) := by
  have h2 := h.al (.cells #[] 28)
  refine ⟨h2.1, h2.2.1, fun a ha => ?_, h2.2.2.2.1, fun a c ha hc => ?_, h2.2.2.2.2.2⟩
  · cases ha
    exact World.ownsRow_lit (base := w.heap.size + b) (e := 28) (size := 6) U #[] 0 h.le (by unfold maxLen; omega) rfl
  · cases ha
    have := ((h.2.2.2.1 c hc).lt c.1 rfl).2
    show U.heap.size ≠ c.1
    omega
theorem St11.mky (h : St11 b o0 o1 X none w U) : St11 b o0 o1 X (some (U.heap.size, 0, 0, [])) w (U.alloc (.cells #[] 73)) := by
  have h2 := h.al (.cells #[] 73)
  refine ⟨h2.1, h2.2.1, h2.2.2.1, fun a ha => ?_, fun a c ha hc => ?_, h2.2.2.2.2.2⟩
  · cases ha
    exact World.ownsRow_lit (base := w.heap.size + b) (e := 73) (size := 4) U #[] 0 h.le (by unfold maxLen; omega) rfl
  · cases hc
    have := ((h.2.2.1 a ha).lt a.1 rfl).2
    show a.1 ≠ U.heap.size
    omega
theorem St11.grow {g : Nat} (h : St11 b o0 o1 X Y w U) (hg : U.grownBy V (some g)) (hgb : w.heap.size + b ≤ g) : V.heap[w.heap.size]? = some o0 ∧ V.heap[w.heap.size + 1]? = some o1 ∧ w.heap.size + b ≤ V.heap.size ∧ 2 ≤ b ∧ Below w.heap.size w V := by
  have h2 := h.2.2.2.2.2.2.1
  have hl := h.le
  refine ⟨?_, ?_, Nat.le_trans h.le hg.size, h2, h.bel.grown hg h.bel.size (fun k hk => by cases hk; omega)⟩
  · rw [hg.block _ (by omega) (by simp; omega)]; exact h.1
  · rw [hg.block _ (by omega) (by simp; omega)]; exact h.2.1
theorem St11.appx {a : Nat × Nat × Nat × List Value} {g' cap' n' : Nat} {xs' : List Value} (h : St11 b o0 o1 (some a) Y w U) (ho : V.ownsRow (w.heap.size + b) 28 6 (.slice (some ⟨g', 0, none⟩) n' cap') n' xs') (hg : U.grownBy V (some a.1)) (hat : g' = a.1 ∨ g' = U.heap.size) : St11 b o0 o1 (some (g', cap', n', xs')) Y w V := by
  have hq := h.grow hg (h.x.lt a.1 rfl).1
  refine ⟨hq.1, hq.2.1, fun c hc => by cases hc; exact ho, fun c hc => (h.2.2.2.1 c hc).kept hg (.inr (by simp [Value.ownBlock]; exact fun e => h.2.2.2.2.1 a c rfl hc e.symm)), fun c d hc hd => ?_, hq.2.2⟩
  cases hc
  have h1 := h.2.2.2.2.1 a d rfl hd
  have h2 := ((h.2.2.2.1 d hd).lt d.1 rfl).2
  show g' ≠ d.1
  rcases hat with e | e
  · rw [e]; exact h1
  · omega
theorem St11.appy {a : Nat × Nat × Nat × List Value} {g' cap' n' : Nat} {xs' : List Value} (h : St11 b o0 o1 X (some a) w U) (ho : V.ownsRow (w.heap.size + b) 73 4 (.slice (some ⟨g', 0, none⟩) n' cap') n' xs') (hg : U.grownBy V (some a.1)) (hat : g' = a.1 ∨ g' = U.heap.size) : St11 b o0 o1 X (some (g', cap', n', xs')) w V := by
  have hq := h.grow hg (h.y.lt a.1 rfl).1
  refine ⟨hq.1, hq.2.1, fun c hc => (h.2.2.1 c hc).kept hg (.inr (by simp [Value.ownBlock]; exact fun e => h.2.2.2.2.1 c a hc rfl e)), fun c hc => by cases hc; exact ho, fun c d hc hd => ?_, hq.2.2⟩
  cases hd
  have h1 := h.2.2.2.2.1 c a hc rfl
  have h2 := ((h.2.2.1 c hc).lt c.1 rfl).2
  show c.1 ≠ g'
  rcases hat with e | e
  · rw [e]; exact h1
  · omega
end
/-- What is answered: the plan in rows of its own. -/
def OP11 (m0 m1 m2 m3 m4 m5 : Int) (l : List H11) (st : List S11) (w : World) (E : Ending) (w' : World) : Prop := ∃ g1 k1 g2 k2, E = .returned (.agg #[.int .i64 m0, .int .i64 m1, .int .i64 m2, .int .i64 m3, .int .i64 m4, .int .i64 m5, .slice (some ⟨g1, 0, none⟩) l.length k1, .slice (some ⟨g2, 0, none⟩) st.length k2]) ∧ Pr11 w.heap.size w'.heap.size (.slice (some ⟨g1, 0, none⟩) l.length k1) (.slice (some ⟨g2, 0, none⟩) st.length k2) l st w' ∧ Below w.heap.size w w'
theorem hv11_one (l : List H11) : ∀ u ∈ hv11 l, u.oneCell' = true := by
  intro u hu
  obtain ⟨t, _, ht⟩ := List.mem_flatMap.mp hu
  simp [ch11] at ht
  rcases ht with rfl | rfl | rfl | rfl | rfl | rfl <;> rfl
theorem sv11_one (l : List S11) : ∀ u ∈ sv11 l, u.oneCell' = true := by
  intro u hu
  obtain ⟨t, _, ht⟩ := List.mem_flatMap.mp hu
  simp [cs11] at ht
  rcases ht with rfl | rfl | rfl | rfl <;> rfl
theorem ra_add {g : Nat} {cs : List Value} {U : World} (h : U.rangeAt g 0 cs) : ∀ j u, cs[j]? = some u → U.cell? ((⟨g, 0, none⟩ : Addr).add j) = some u := fun j u hu => by rw [Addr.add_mid]; exact h j u hu
/-- A plan stored whole into the box of the answer. -/
theorem St11.fin {b g1 k1 g2 k2 : Nat} {m0 m1 m2 m3 m4 m5 : Int} {T : TypeId} {v0 v1 v2 v3 v4 v5 v6 v7 : Value} {o0 : Obj} {l : List H11} {st : List S11} {w U : World} (h : St11 b o0 (.cells #[v0, v1, v2, v3, v4, v5, v6, v7] T (0, 0)) (some (g1, k1, l.length, hv11 l)) (some (g2, k2, st.length, sv11 st)) w U) {X : World} (hX : ((((((((U.setCell ⟨w.heap.size + 1, 0, none⟩ (.int .i64 m0)).setCell ⟨w.heap.size + 1, 1, none⟩ (.int .i64 m1)).setCell ⟨w.heap.size + 1, 2, none⟩ (.int .i64 m2)).setCell ⟨w.heap.size + 1, 3, none⟩ (.int .i64 m3)).setCell ⟨w.heap.size + 1, 4, none⟩ (.int .i64 m4)).setCell ⟨w.heap.size + 1, 5, none⟩ (.int .i64 m5)).setCell ⟨w.heap.size + 1, 6, none⟩ (.slice (some ⟨g1, 0, none⟩) l.length k1)).setCell ⟨w.heap.size + 1, 7, none⟩ (.slice (some ⟨g2, 0, none⟩) st.length k2)) = X) : X.heap[w.heap.size + 1]? = some (.cells #[.int .i64 m0, .int .i64 m1, .int .i64 m2, .int .i64 m3, .int .i64 m4, .int .i64 m5, .slice (some ⟨g1, 0, none⟩) l.length k1, .slice (some ⟨g2, 0, none⟩) st.length k2] T (0, 0)) ∧ Pr11 w.heap.size X.heap.size (.slice (some ⟨g1, 0, none⟩) l.length k1) (.slice (some ⟨g2, 0, none⟩) st.length k2) l st X ∧ Below w.heap.size w X := by
  have hb2 := h.2.2.2.2.2.2.1
  have hx := h.x
  have hy := h.y
  have hne := h.2.2.2.2.1 _ _ rfl rfl
  have hg1 := hx.lt g1 rfl
  have hg2 := hy.lt g2 rfl
  have hs := same8b (lo := w.heap.size + 2) (hi := U.heap.size) (g := w.heap.size + 1) (W := U) (by omega) (.int .i64 m0) (.int .i64 m1) (.int .i64 m2) (.int .i64 m3) (.int .i64 m4) (.int .i64 m5) (.slice (some ⟨g1, 0, none⟩) l.length k1) (.slice (some ⟨g2, 0, none⟩) st.length k2)
  have hq := set8b (.int .i64 m0) (.int .i64 m1) (.int .i64 m2) (.int .i64 m3) (.int .i64 m4) (.int .i64 m5) (.slice (some ⟨g1, 0, none⟩) l.length k1) (.slice (some ⟨g2, 0, none⟩) st.length k2) h.2.1
  have hbl := bel8b (g := w.heap.size + 1) (.int .i64 m0) (.int .i64 m1) (.int .i64 m2) (.int .i64 m3) (.int .i64 m4) (.int .i64 m5) (.slice (some ⟨g1, 0, none⟩) l.length k1) (.slice (some ⟨g2, 0, none⟩) st.length k2) h.bel (by omega)
  have hsz : X.heap.size = U.heap.size := by rw [← hX]; simp
  rw [hX] at hs hq hbl
  have e1 : ∀ k, (Value.slice (some ⟨g1, 0, none⟩) l.length k1).ownBlock = some k → g1 = k := fun k hk => by simpa [Value.ownBlock] using hk
  have e2 : ∀ k, (Value.slice (some ⟨g2, 0, none⟩) st.length k2).ownBlock = some k → g2 = k := fun k hk => by simpa [Value.ownBlock] using hk
  refine ⟨hq, ⟨own_same (lo := w.heap.size + 2) (hi := U.heap.size) (own_mono hx (by omega)) hs (fun k hk => by have := e1 k hk; omega), own_same (lo := w.heap.size + 2) (hi := U.heap.size) (own_mono hy (by omega)) hs (fun k hk => by have := e2 k hk; omega), fun k hk => by have := e1 k hk; omega, fun k hk => by have := e2 k hk; omega, fun k hk hk2 => by have := e1 k hk; have := e2 k hk2; exact hne (by omega)⟩, hbl⟩
theorem SKset11 {b : Nat} {o1 : Obj} {X Y : Option (Nat × Nat × Nat × List Value)} {m0 m1 m2 m3 m4 m5 : Int} {V1 V2 u0 u1 u2 u3 u4 u5 u6 u7 : Value} {w U : World} (h : St11 b (.cells #[.int .i64 m0, .int .i64 m1, .int .i64 m2, .int .i64 m3, .int .i64 m4, .int .i64 m5, V1, V2] 62 (0, 0)) o1 X Y w U) : (fun U => U.cell? ⟨w.heap.size, 0, none⟩ = some (.int .i64 m0) ∧ U.cell? ⟨w.heap.size, 1, none⟩ = some (.int .i64 m1) ∧ U.cell? ⟨w.heap.size, 2, none⟩ = some (.int .i64 m2) ∧ U.cell? ⟨w.heap.size, 3, none⟩ = some (.int .i64 m3) ∧ U.cell? ⟨w.heap.size, 4, none⟩ = some (.int .i64 m4) ∧ U.cell? ⟨w.heap.size, 5, none⟩ = some (.int .i64 m5) ∧ U.cell? ⟨w.heap.size, 6, none⟩ = some V1) ((((((((U.setCell ⟨w.heap.size + 1, 0, none⟩ u0).setCell ⟨w.heap.size + 1, 1, none⟩ u1).setCell ⟨w.heap.size + 1, 2, none⟩ u2).setCell ⟨w.heap.size + 1, 3, none⟩ u3).setCell ⟨w.heap.size + 1, 4, none⟩ u4).setCell ⟨w.heap.size + 1, 5, none⟩ u5).setCell ⟨w.heap.size + 1, 6, none⟩ u6).setCell ⟨w.heap.size + 1, 7, none⟩ u7) := by
  have hs := same8b (lo := w.heap.size + 2) (hi := 0) (g := w.heap.size + 1) (W := U) (by omega) u0 u1 u2 u3 u4 u5 u6 u7
  have hr : ((((((((U.setCell ⟨w.heap.size + 1, 0, none⟩ u0).setCell ⟨w.heap.size + 1, 1, none⟩ u1).setCell ⟨w.heap.size + 1, 2, none⟩ u2).setCell ⟨w.heap.size + 1, 3, none⟩ u3).setCell ⟨w.heap.size + 1, 4, none⟩ u4).setCell ⟨w.heap.size + 1, 5, none⟩ u5).setCell ⟨w.heap.size + 1, 6, none⟩ u6).setCell ⟨w.heap.size + 1, 7, none⟩ u7).heap[w.heap.size]? = some (.cells #[.int .i64 m0, .int .i64 m1, .int .i64 m2, .int .i64 m3, .int .i64 m4, .int .i64 m5, V1, V2] 62 (0, 0)) := (by
    have hne : w.heap.size ≠ w.heap.size + 1 := by omega
    rw [Below.heap_setCell _ _ _ _ hne, Below.heap_setCell _ _ _ _ hne, other8 hne]
    exact h.1)
  have h0 := fun j => cell_of_row _ _ j _ _ _ hr
  exact ⟨h0 0, h0 1, h0 2, h0 3, h0 4, h0 5, h0 6⟩
theorem SKo11 {b : Nat} {o1 : Obj} {X Y : Option (Nat × Nat × Nat × List Value)} {m0 m1 m2 m3 m4 m5 : Int} {V1 V2 : Value} {w U : World} (h : St11 b (.cells #[.int .i64 m0, .int .i64 m1, .int .i64 m2, .int .i64 m3, .int .i64 m4, .int .i64 m5, V1, V2] 62 (0, 0)) o1 X Y w U) : U.cell? ⟨w.heap.size, 0, none⟩ = some (.int .i64 m0) ∧ U.cell? ⟨w.heap.size, 1, none⟩ = some (.int .i64 m1) ∧ U.cell? ⟨w.heap.size, 2, none⟩ = some (.int .i64 m2) ∧ U.cell? ⟨w.heap.size, 3, none⟩ = some (.int .i64 m3) ∧ U.cell? ⟨w.heap.size, 4, none⟩ = some (.int .i64 m4) ∧ U.cell? ⟨w.heap.size, 5, none⟩ = some (.int .i64 m5) ∧ U.cell? ⟨w.heap.size, 6, none⟩ = some V1 := by
  have h0 := fun j => cell_of_row U _ j _ _ _ h.1
  exact ⟨h0 0, h0 1, h0 2, h0 3, h0 4, h0 5, h0 6⟩
set_option maxRecDepth 20000 in
set_option maxHeartbeats 4000000 in
theorem lown_11 (m0 m1 m2 m3 m4 m5 : Int) (V2 : Value) (l : List H11) (st : List S11) (g1 c1 g2 c2 : Nat) (hl : l.length ≤ 1000) (hst : st.length ≤ 1000) (w : World) (h1 : w.rangeAt g1 0 (hv11 l)) (h2 : w.rangeAt g2 0 (sv11 st)) : Calls Try.prog 120 #[.agg #[.int .i64 m0, .int .i64 m1, .int .i64 m2, .int .i64 m3, .int .i64 m4, .int .i64 m5, .slice (some ⟨g1, 0, none⟩) l.length c1, V2], .slice (some ⟨g2, 0, none⟩) st.length c2] w (OP11 m0 m1 m2 m3 m4 m5 l st w) := by
  obtain ⟨ia, hia, hia0, hia1, hia2⟩ := infos_sheets11
  obtain ⟨ib, hib, hib0, hib1, hib2⟩ := infos_steps11
  have R1 := Lib.hid h1
  have R2 := Lib.hid h2
  clear h1 h2
  go_enter Try.func120, Try.ntmps120
  go_wp2_with fail
  generalize hW : (World.alloc _ _ : World) = W0
  have HS : Hid (St11 2 (.cells #[.int .i64 m0, .int .i64 m1, .int .i64 m2, .int .i64 m3, .int .i64 m4, .int .i64 m5, .slice (some ⟨g1, 0, none⟩) l.length c1, V2] 62 (0, 0)) (pz11 62) none none w W0) := Lib.hid (by
    rw [← hW]
    exact ⟨alloc_past (alloc_at rfl), alloc_at (by simp), fun a ha => by (cases ha), fun a ha => by (cases ha), fun a c ha => by (cases ha), by simp, by omega, by (repeat (first | exact Below.refl _ _ | assumption | refine Below.setCell ?_ (by first | (simp; done) | (simp; omega)) _ | refine Below.alloc ?_ (by first | (simp; done) | (simp; omega)) _ | refine Below.drew ?_))⟩)
  clear hW
  refine wp_region_held_drew (S := fun U => U.cell? ⟨w.heap.size, 0, none⟩ = some (.int .i64 m0) ∧ U.cell? ⟨w.heap.size, 1, none⟩ = some (.int .i64 m1) ∧ U.cell? ⟨w.heap.size, 2, none⟩ = some (.int .i64 m2) ∧ U.cell? ⟨w.heap.size, 3, none⟩ = some (.int .i64 m3) ∧ U.cell? ⟨w.heap.size, 4, none⟩ = some (.int .i64 m4) ∧ U.cell? ⟨w.heap.size, 5, none⟩ = some (.int .i64 m5) ∧ U.cell? ⟨w.heap.size, 6, none⟩ = some (.slice (some ⟨g1, 0, none⟩) l.length c1)) (by kernel_rfl) ?_ (fun hHeld => ?_)
  · (try dsimp only)
    exact SKo11 HS.out.drew
  replace HS := Lib.hid HS.out.drew
  obtain ⟨V, hV⟩ : ∃ X, X = W0.drew := ⟨_, rfl⟩
  rw [← hV] at HS hHeld ⊢
  clear hV
  refine wpAnyH_take (i := 0) (oi := { dst := some 5, op := Go.Op.fieldAddr 62 (Go.Operand.tmp 2) 0, type := 0, pos := "l11_plans.go:66", after := #[], guard := none }) (v := ?_) rfl (by kernel_rfl) (by kernel_rfl) (by kernel_rfl) (fun _ _ _ h => h) (Or.inl ⟨by rfl, ?_⟩) (by assumption) ?_
  rotate_left
  · intro w hSw; (try dsimp only at hSw); go_simp; (try with_reducible rfl)
  simp only [Act.put, List.setIfInBounds_toArray, List.set_cons_zero, List.set_cons_succ]
  refine wpAnyH_take (i := 1) (oi := { dst := some 6, op := Go.Op.load 28 (Go.Operand.tmp 5), type := 28, pos := "l11_plans.go:66", after := #[{ on := 0, ground := Go.Ground.data }], guard := none }) (v := ?_) rfl (by kernel_rfl) (by kernel_rfl) (by kernel_rfl) (fun _ _ _ h => h) (Or.inl ⟨by rfl, ?_⟩) (by assumption) ?_
  rotate_left
  · intro w hSw; (try dsimp only at hSw); go_simp; (try with_reducible rfl)
  simp only [Act.put, List.setIfInBounds_toArray, List.set_cons_zero, List.set_cons_succ]
  refine wpAnyH_take (i := 3) (oi := { dst := some 8, op := Go.Op.fieldAddr 62 (Go.Operand.tmp 2) 1, type := 0, pos := "l11_plans.go:66", after := #[], guard := none }) (v := ?_) rfl (by kernel_rfl) (by kernel_rfl) (by kernel_rfl) (fun _ _ _ h => h) (Or.inl ⟨by rfl, ?_⟩) (by assumption) ?_
  rotate_left
  · intro w hSw; (try dsimp only at hSw); go_simp; (try with_reducible rfl)
  simp only [Act.put, List.setIfInBounds_toArray, List.set_cons_zero, List.set_cons_succ]
  refine wpAnyH_take (i := 4) (oi := { dst := some 9, op := Go.Op.load 59 (Go.Operand.tmp 8), type := 59, pos := "l11_plans.go:66", after := #[{ on := 3, ground := Go.Ground.data }], guard := none }) (v := ?_) rfl (by kernel_rfl) (by kernel_rfl) (by kernel_rfl) (fun _ _ _ h => h) (Or.inl ⟨by rfl, ?_⟩) (by assumption) ?_
  rotate_left
  · intro w hSw; (try dsimp only at hSw); go_simp; (try with_reducible rfl)
  simp only [Act.put, List.setIfInBounds_toArray, List.set_cons_zero, List.set_cons_succ]
  refine wpAnyH_take (i := 7) (oi := { dst := some 12, op := Go.Op.move (Go.Operand.tmp 1), type := 60, pos := "l11_plans.go:66", after := #[], guard := none }) (v := ?_) rfl (by kernel_rfl) (by kernel_rfl) (by kernel_rfl) (fun _ _ _ h => h) (Or.inl ⟨by rfl, ?_⟩) (by assumption) ?_
  rotate_left
  · intro w hSw; (try dsimp only at hSw); go_simp; (try with_reducible rfl)
  simp only [Act.put, List.setIfInBounds_toArray, List.set_cons_zero, List.set_cons_succ]
  refine wpAnyH_ready (rs := [2, 6]) (by kernel_rfl) (by simp) ?_
  refine (AllReadyH.cons (o := { dst := some 7, op := Go.Op.buildSlice 59 0 #[], type := 59, pos := "l11_plans.go:66", after := #[], guard := none }) rfl (fun K hK => ?_) (AllReadyH.cons (o := { dst := some 11, op := Go.Op.buildSlice 60 0 #[], type := 60, pos := "l11_plans.go:66", after := #[], guard := none }) rfl (fun K hK => ?_) AllReadyH.nil))
  · go_simp
    replace HS := Lib.hid HS.out.mkx
    refine hK.out _ _ ?_ (fun hHeld => ?_)
    · (try dsimp only)
      exact SKo11 HS.out
    clear hK K
    (try simp only [Act.put, List.setIfInBounds_toArray, List.set_cons_zero, List.set_cons_succ])
    generalize V.heap.size = gx1 at HS ⊢
    generalize (World.alloc V _ : World) = Y1 at HS hHeld ⊢
    refine wpAnyH_ready (rs := [5, 6]) (by kernel_rfl) (by simp) ?_
    refine (AllReadyH.cons (o := { dst := some 10, op := Go.Op.call { callee := Go.Callee.builtin Go.Builtin.append, args := #[Go.Operand.tmp 7, Go.Operand.tmp 9], argTypes := #[59, 59] }, type := 59, pos := "l11_plans.go:66", after := #[{ on := 2, ground := Go.Ground.data }, { on := 4, ground := Go.Ground.data }], guard := none }) rfl (fun K hK => ?_) (AllReadyH.cons (o := { dst := some 11, op := Go.Op.buildSlice 60 0 #[], type := 60, pos := "l11_plans.go:66", after := #[], guard := none }) rfl (fun K hK => ?_) AllReadyH.nil))
    · refine step_keep11 rfl _ _ 59 rfl (w.heap.size + 2) 28 ia (.agg #[.int .i64 0, .int .i64 0, .int .i64 0, .int .i64 0, .int .i64 0, .int .i64 0]) 6 48 Try.underlying59 hia hia0 hia1 hia2 rfl (by decide) gx1 0 0 [] rfl HS.out.x ⟨g1, 0, none⟩ l.length c1 (hv11 l) rfl (hv11_len l) (ra_add (ra_below R1.out HS.out.bel rfl)) (hv11_one l) (by unfold maxLen; omega) (by omega) HS.out.le ?_
      intro gx2 kx Y2 hown hgr hat _
      simp only [Nat.zero_add, List.nil_append] at hown ⊢
      replace HS := Lib.hid (HS.out.appx hown hgr hat)
      clear hown hgr hat
      refine hK.out _ _ ?_ (fun hHeld => ?_)
      · (try dsimp only)
        exact SKo11 HS.out
      clear hK K
      (try simp only [Act.put, List.setIfInBounds_toArray, List.set_cons_zero, List.set_cons_succ])
      refine wpAnyH_ready (rs := [6]) (by kernel_rfl) (by simp) ?_
      refine (AllReadyH.cons (o := { dst := some 11, op := Go.Op.buildSlice 60 0 #[], type := 60, pos := "l11_plans.go:66", after := #[], guard := none }) rfl (fun K hK => ?_) AllReadyH.nil)
      go_simp
      replace HS := Lib.hid HS.out.mky
      refine hK.out _ _ ?_ (fun hHeld => ?_)
      · (try dsimp only)
        exact SKo11 HS.out
      clear hK K
      (try simp only [Act.put, List.setIfInBounds_toArray, List.set_cons_zero, List.set_cons_succ])
      generalize Y2.heap.size = gy3 at HS ⊢
      generalize (World.alloc Y2 _ : World) = Y3 at HS hHeld ⊢
      refine wpAnyH_ready (rs := [8]) (by kernel_rfl) (by simp) ?_
      refine (AllReadyH.cons (o := { dst := some 13, op := Go.Op.call { callee := Go.Callee.builtin Go.Builtin.append, args := #[Go.Operand.tmp 11, Go.Operand.tmp 12], argTypes := #[60, 60] }, type := 60, pos := "l11_plans.go:66", after := #[{ on := 6, ground := Go.Ground.data }, { on := 7, ground := Go.Ground.data }, { on := 5, ground := Go.Ground.chain }], guard := none }) rfl (fun K hK => ?_) AllReadyH.nil)
      refine step_keep11 rfl _ _ 60 rfl (w.heap.size + 2) 73 ib (.agg #[.int .i64 0, .int .i64 0, .int .i64 0, .int .i64 0]) 4 32 Try.underlying60 hib hib0 hib1 hib2 rfl (by decide) gy3 0 0 [] rfl HS.out.y ⟨g2, 0, none⟩ st.length c2 (sv11 st) rfl (sv11_len st) (ra_add (ra_below R2.out HS.out.bel rfl)) (sv11_one st) (by unfold maxLen; omega) (by omega) HS.out.le ?_
      intro gy4 ky Y4 hown hgr hat _
      simp only [Nat.zero_add, List.nil_append] at hown ⊢
      replace HS := Lib.hid (HS.out.appy hown hgr hat)
      clear hown hgr hat
      refine hK.out _ _ ?_ (fun hHeld => ?_)
      · (try dsimp only)
        exact SKo11 HS.out
      clear hK K
      (try simp only [Act.put, List.setIfInBounds_toArray, List.set_cons_zero, List.set_cons_succ])
      refine wpAnyH_take (i := 9) (oi := { dst := some 14, op := Go.Op.build 62 #[(0, Go.Operand.tmp 6), (1, Go.Operand.tmp 10), (2, Go.Operand.tmp 13)], type := 62, pos := "l11_plans.go:66", after := #[{ on := 1, ground := Go.Ground.data }, { on := 5, ground := Go.Ground.data }, { on := 8, ground := Go.Ground.data }], guard := none }) (v := ?_) rfl (by kernel_rfl) (by kernel_rfl) (by kernel_rfl) (fun _ _ _ h => h) (Or.inl ⟨by rfl, ?_⟩) (by assumption) ?_
      rotate_left
      · intro w hSw; (try dsimp only at hSw); go_simp; (try with_reducible rfl)
      simp only [Act.put, List.setIfInBounds_toArray, List.set_cons_zero, List.set_cons_succ]
      refine wpAnyH_ready (rs := [10]) (by kernel_rfl) (by simp) ?_
      refine AllReadyH.cons (o := { dst := none, op := Go.Op.store 62 (Go.Operand.tmp 4) (Go.Operand.tmp 14), type := 0, pos := "l11_plans.go:66", after := #[{ on := 9, ground := Go.Ground.data }, { on := 8, ground := Go.Ground.chain }, { on := 0, ground := Go.Ground.phase }, { on := 1, ground := Go.Ground.phase }, { on := 2, ground := Go.Ground.phase }, { on := 3, ground := Go.Ground.phase }, { on := 4, ground := Go.Ground.phase }, { on := 5, ground := Go.Ground.phase }, { on := 6, ground := Go.Ground.phase }, { on := 7, ground := Go.Ground.phase }, { on := 8, ground := Go.Ground.phase }, { on := 9, ground := Go.Ground.phase }], guard := none }) rfl (fun K hK => ?_) AllReadyH.nil
      have z_c := fun j => cell_of_row Y4 _ j _ _ _ HS.out.2.1
      have z_f := fun j => frozen_of_row Y4 _ j _ _ HS.out.2.1
      go_simp
      clear z_c z_f
      have HF := fun X hX => Lib.hid (HS.out.fin (m0 := m0) (m1 := m1) (m2 := m2) (m3 := m3) (m4 := m4) (m5 := m5) (X := X) hX)
      generalize hX : (World.setCell _ _ _ : World) = X
      replace HF := HF X hX
      refine hK.out _ _ ?_ (fun hHeld => ?_)
      · (try dsimp only)
        rw [← hX]
        exact SKset11 HS.out
      clear hK K hX
      (try simp only [Act.put, List.setIfInBounds_toArray, List.set_cons_zero, List.set_cons_succ])
      refine wpAnyH_done (by kernel_rfl) ?_ _
      have x_c := fun j => cell_of_row X _ j _ _ _ HF.out.1
      go_wp2_with fail
      exact bodyPost_ret (v := .agg #[.int .i64 m0, .int .i64 m1, .int .i64 m2, .int .i64 m3, .int .i64 m4, .int .i64 m5, .slice (some ⟨gx2, 0, none⟩) l.length kx, .slice (some ⟨gy4, 0, none⟩) st.length ky]) (by simp [results, Try.results120, go_sem, x_c]) rfl ⟨gx2, kx, gy4, ky, rfl, HF.out.2⟩
    · go_simp
      replace HS := Lib.hid HS.out.mky
      refine hK.out _ _ ?_ (fun hHeld => ?_)
      · (try dsimp only)
        exact SKo11 HS.out
      clear hK K
      (try simp only [Act.put, List.setIfInBounds_toArray, List.set_cons_zero, List.set_cons_succ])
      generalize Y1.heap.size = gy5 at HS ⊢
      generalize (World.alloc Y1 _ : World) = Y5 at HS hHeld ⊢
      refine wpAnyH_ready (rs := [5]) (by kernel_rfl) (by simp) ?_
      refine (AllReadyH.cons (o := { dst := some 10, op := Go.Op.call { callee := Go.Callee.builtin Go.Builtin.append, args := #[Go.Operand.tmp 7, Go.Operand.tmp 9], argTypes := #[59, 59] }, type := 59, pos := "l11_plans.go:66", after := #[{ on := 2, ground := Go.Ground.data }, { on := 4, ground := Go.Ground.data }], guard := none }) rfl (fun K hK => ?_) AllReadyH.nil)
      refine step_keep11 rfl _ _ 59 rfl (w.heap.size + 2) 28 ia (.agg #[.int .i64 0, .int .i64 0, .int .i64 0, .int .i64 0, .int .i64 0, .int .i64 0]) 6 48 Try.underlying59 hia hia0 hia1 hia2 rfl (by decide) gx1 0 0 [] rfl HS.out.x ⟨g1, 0, none⟩ l.length c1 (hv11 l) rfl (hv11_len l) (ra_add (ra_below R1.out HS.out.bel rfl)) (hv11_one l) (by unfold maxLen; omega) (by omega) HS.out.le ?_
      intro gx6 kx Y6 hown hgr hat _
      simp only [Nat.zero_add, List.nil_append] at hown ⊢
      replace HS := Lib.hid (HS.out.appx hown hgr hat)
      clear hown hgr hat
      refine hK.out _ _ ?_ (fun hHeld => ?_)
      · (try dsimp only)
        exact SKo11 HS.out
      clear hK K
      (try simp only [Act.put, List.setIfInBounds_toArray, List.set_cons_zero, List.set_cons_succ])
      refine wpAnyH_ready (rs := [8]) (by kernel_rfl) (by simp) ?_
      refine (AllReadyH.cons (o := { dst := some 13, op := Go.Op.call { callee := Go.Callee.builtin Go.Builtin.append, args := #[Go.Operand.tmp 11, Go.Operand.tmp 12], argTypes := #[60, 60] }, type := 60, pos := "l11_plans.go:66", after := #[{ on := 6, ground := Go.Ground.data }, { on := 7, ground := Go.Ground.data }, { on := 5, ground := Go.Ground.chain }], guard := none }) rfl (fun K hK => ?_) AllReadyH.nil)
      refine step_keep11 rfl _ _ 60 rfl (w.heap.size + 2) 73 ib (.agg #[.int .i64 0, .int .i64 0, .int .i64 0, .int .i64 0]) 4 32 Try.underlying60 hib hib0 hib1 hib2 rfl (by decide) gy5 0 0 [] rfl HS.out.y ⟨g2, 0, none⟩ st.length c2 (sv11 st) rfl (sv11_len st) (ra_add (ra_below R2.out HS.out.bel rfl)) (sv11_one st) (by unfold maxLen; omega) (by omega) HS.out.le ?_
      intro gy7 ky Y7 hown hgr hat _
      simp only [Nat.zero_add, List.nil_append] at hown ⊢
      replace HS := Lib.hid (HS.out.appy hown hgr hat)
      clear hown hgr hat
      refine hK.out _ _ ?_ (fun hHeld => ?_)
      · (try dsimp only)
        exact SKo11 HS.out
      clear hK K
      (try simp only [Act.put, List.setIfInBounds_toArray, List.set_cons_zero, List.set_cons_succ])
      refine wpAnyH_take (i := 9) (oi := { dst := some 14, op := Go.Op.build 62 #[(0, Go.Operand.tmp 6), (1, Go.Operand.tmp 10), (2, Go.Operand.tmp 13)], type := 62, pos := "l11_plans.go:66", after := #[{ on := 1, ground := Go.Ground.data }, { on := 5, ground := Go.Ground.data }, { on := 8, ground := Go.Ground.data }], guard := none }) (v := ?_) rfl (by kernel_rfl) (by kernel_rfl) (by kernel_rfl) (fun _ _ _ h => h) (Or.inl ⟨by rfl, ?_⟩) (by assumption) ?_
      rotate_left
      · intro w hSw; (try dsimp only at hSw); go_simp; (try with_reducible rfl)
      simp only [Act.put, List.setIfInBounds_toArray, List.set_cons_zero, List.set_cons_succ]
      refine wpAnyH_ready (rs := [10]) (by kernel_rfl) (by simp) ?_
      refine AllReadyH.cons (o := { dst := none, op := Go.Op.store 62 (Go.Operand.tmp 4) (Go.Operand.tmp 14), type := 0, pos := "l11_plans.go:66", after := #[{ on := 9, ground := Go.Ground.data }, { on := 8, ground := Go.Ground.chain }, { on := 0, ground := Go.Ground.phase }, { on := 1, ground := Go.Ground.phase }, { on := 2, ground := Go.Ground.phase }, { on := 3, ground := Go.Ground.phase }, { on := 4, ground := Go.Ground.phase }, { on := 5, ground := Go.Ground.phase }, { on := 6, ground := Go.Ground.phase }, { on := 7, ground := Go.Ground.phase }, { on := 8, ground := Go.Ground.phase }, { on := 9, ground := Go.Ground.phase }], guard := none }) rfl (fun K hK => ?_) AllReadyH.nil
      have z_c := fun j => cell_of_row Y7 _ j _ _ _ HS.out.2.1
      have z_f := fun j => frozen_of_row Y7 _ j _ _ HS.out.2.1
      go_simp
      clear z_c z_f
      have HF := fun X hX => Lib.hid (HS.out.fin (m0 := m0) (m1 := m1) (m2 := m2) (m3 := m3) (m4 := m4) (m5 := m5) (X := X) hX)
      generalize hX : (World.setCell _ _ _ : World) = X
      replace HF := HF X hX
      refine hK.out _ _ ?_ (fun hHeld => ?_)
      · (try dsimp only)
        rw [← hX]
        exact SKset11 HS.out
      clear hK K hX
      (try simp only [Act.put, List.setIfInBounds_toArray, List.set_cons_zero, List.set_cons_succ])
      refine wpAnyH_done (by kernel_rfl) ?_ _
      have x_c := fun j => cell_of_row X _ j _ _ _ HF.out.1
      go_wp2_with fail
      exact bodyPost_ret (v := .agg #[.int .i64 m0, .int .i64 m1, .int .i64 m2, .int .i64 m3, .int .i64 m4, .int .i64 m5, .slice (some ⟨gx6, 0, none⟩) l.length kx, .slice (some ⟨gy7, 0, none⟩) st.length ky]) (by simp [results, Try.results120, go_sem, x_c]) rfl ⟨gx6, kx, gy7, ky, rfl, HF.out.2⟩
  · go_simp
    replace HS := Lib.hid HS.out.mky
    refine hK.out _ _ ?_ (fun hHeld => ?_)
    · (try dsimp only)
      exact SKo11 HS.out
    clear hK K
    (try simp only [Act.put, List.setIfInBounds_toArray, List.set_cons_zero, List.set_cons_succ])
    generalize V.heap.size = gy8 at HS ⊢
    generalize (World.alloc V _ : World) = Y8 at HS hHeld ⊢
    refine wpAnyH_ready (rs := [2]) (by kernel_rfl) (by simp) ?_
    refine (AllReadyH.cons (o := { dst := some 7, op := Go.Op.buildSlice 59 0 #[], type := 59, pos := "l11_plans.go:66", after := #[], guard := none }) rfl (fun K hK => ?_) AllReadyH.nil)
    go_simp
    replace HS := Lib.hid HS.out.mkx
    refine hK.out _ _ ?_ (fun hHeld => ?_)
    · (try dsimp only)
      exact SKo11 HS.out
    clear hK K
    (try simp only [Act.put, List.setIfInBounds_toArray, List.set_cons_zero, List.set_cons_succ])
    generalize Y8.heap.size = gx9 at HS ⊢
    generalize (World.alloc Y8 _ : World) = Y9 at HS hHeld ⊢
    refine wpAnyH_ready (rs := [5]) (by kernel_rfl) (by simp) ?_
    refine (AllReadyH.cons (o := { dst := some 10, op := Go.Op.call { callee := Go.Callee.builtin Go.Builtin.append, args := #[Go.Operand.tmp 7, Go.Operand.tmp 9], argTypes := #[59, 59] }, type := 59, pos := "l11_plans.go:66", after := #[{ on := 2, ground := Go.Ground.data }, { on := 4, ground := Go.Ground.data }], guard := none }) rfl (fun K hK => ?_) AllReadyH.nil)
    refine step_keep11 rfl _ _ 59 rfl (w.heap.size + 2) 28 ia (.agg #[.int .i64 0, .int .i64 0, .int .i64 0, .int .i64 0, .int .i64 0, .int .i64 0]) 6 48 Try.underlying59 hia hia0 hia1 hia2 rfl (by decide) gx9 0 0 [] rfl HS.out.x ⟨g1, 0, none⟩ l.length c1 (hv11 l) rfl (hv11_len l) (ra_add (ra_below R1.out HS.out.bel rfl)) (hv11_one l) (by unfold maxLen; omega) (by omega) HS.out.le ?_
    intro gx10 kx Y10 hown hgr hat _
    simp only [Nat.zero_add, List.nil_append] at hown ⊢
    replace HS := Lib.hid (HS.out.appx hown hgr hat)
    clear hown hgr hat
    refine hK.out _ _ ?_ (fun hHeld => ?_)
    · (try dsimp only)
      exact SKo11 HS.out
    clear hK K
    (try simp only [Act.put, List.setIfInBounds_toArray, List.set_cons_zero, List.set_cons_succ])
    refine wpAnyH_ready (rs := [8]) (by kernel_rfl) (by simp) ?_
    refine (AllReadyH.cons (o := { dst := some 13, op := Go.Op.call { callee := Go.Callee.builtin Go.Builtin.append, args := #[Go.Operand.tmp 11, Go.Operand.tmp 12], argTypes := #[60, 60] }, type := 60, pos := "l11_plans.go:66", after := #[{ on := 6, ground := Go.Ground.data }, { on := 7, ground := Go.Ground.data }, { on := 5, ground := Go.Ground.chain }], guard := none }) rfl (fun K hK => ?_) AllReadyH.nil)
    refine step_keep11 rfl _ _ 60 rfl (w.heap.size + 2) 73 ib (.agg #[.int .i64 0, .int .i64 0, .int .i64 0, .int .i64 0]) 4 32 Try.underlying60 hib hib0 hib1 hib2 rfl (by decide) gy8 0 0 [] rfl HS.out.y ⟨g2, 0, none⟩ st.length c2 (sv11 st) rfl (sv11_len st) (ra_add (ra_below R2.out HS.out.bel rfl)) (sv11_one st) (by unfold maxLen; omega) (by omega) HS.out.le ?_
    intro gy11 ky Y11 hown hgr hat _
    simp only [Nat.zero_add, List.nil_append] at hown ⊢
    replace HS := Lib.hid (HS.out.appy hown hgr hat)
    clear hown hgr hat
    refine hK.out _ _ ?_ (fun hHeld => ?_)
    · (try dsimp only)
      exact SKo11 HS.out
    clear hK K
    (try simp only [Act.put, List.setIfInBounds_toArray, List.set_cons_zero, List.set_cons_succ])
    refine wpAnyH_take (i := 9) (oi := { dst := some 14, op := Go.Op.build 62 #[(0, Go.Operand.tmp 6), (1, Go.Operand.tmp 10), (2, Go.Operand.tmp 13)], type := 62, pos := "l11_plans.go:66", after := #[{ on := 1, ground := Go.Ground.data }, { on := 5, ground := Go.Ground.data }, { on := 8, ground := Go.Ground.data }], guard := none }) (v := ?_) rfl (by kernel_rfl) (by kernel_rfl) (by kernel_rfl) (fun _ _ _ h => h) (Or.inl ⟨by rfl, ?_⟩) (by assumption) ?_
    rotate_left
    · intro w hSw; (try dsimp only at hSw); go_simp; (try with_reducible rfl)
    simp only [Act.put, List.setIfInBounds_toArray, List.set_cons_zero, List.set_cons_succ]
    refine wpAnyH_ready (rs := [10]) (by kernel_rfl) (by simp) ?_
    refine AllReadyH.cons (o := { dst := none, op := Go.Op.store 62 (Go.Operand.tmp 4) (Go.Operand.tmp 14), type := 0, pos := "l11_plans.go:66", after := #[{ on := 9, ground := Go.Ground.data }, { on := 8, ground := Go.Ground.chain }, { on := 0, ground := Go.Ground.phase }, { on := 1, ground := Go.Ground.phase }, { on := 2, ground := Go.Ground.phase }, { on := 3, ground := Go.Ground.phase }, { on := 4, ground := Go.Ground.phase }, { on := 5, ground := Go.Ground.phase }, { on := 6, ground := Go.Ground.phase }, { on := 7, ground := Go.Ground.phase }, { on := 8, ground := Go.Ground.phase }, { on := 9, ground := Go.Ground.phase }], guard := none }) rfl (fun K hK => ?_) AllReadyH.nil
    have z_c := fun j => cell_of_row Y11 _ j _ _ _ HS.out.2.1
    have z_f := fun j => frozen_of_row Y11 _ j _ _ HS.out.2.1
    go_simp
    clear z_c z_f
    have HF := fun X hX => Lib.hid (HS.out.fin (m0 := m0) (m1 := m1) (m2 := m2) (m3 := m3) (m4 := m4) (m5 := m5) (X := X) hX)
    generalize hX : (World.setCell _ _ _ : World) = X
    replace HF := HF X hX
    refine hK.out _ _ ?_ (fun hHeld => ?_)
    · (try dsimp only)
      rw [← hX]
      exact SKset11 HS.out
    clear hK K hX
    (try simp only [Act.put, List.setIfInBounds_toArray, List.set_cons_zero, List.set_cons_succ])
    refine wpAnyH_done (by kernel_rfl) ?_ _
    have x_c := fun j => cell_of_row X _ j _ _ _ HF.out.1
    go_wp2_with fail
    exact bodyPost_ret (v := .agg #[.int .i64 m0, .int .i64 m1, .int .i64 m2, .int .i64 m3, .int .i64 m4, .int .i64 m5, .slice (some ⟨gx10, 0, none⟩) l.length kx, .slice (some ⟨gy11, 0, none⟩) st.length ky]) (by simp [results, Try.results120, go_sem, x_c]) rfl ⟨gx10, kx, gy11, ky, rfl, HF.out.2⟩
/- Hv11 -/
theorem form11 {W : World} {B n k : Nat} {e : TypeId} {v : Value} {xs : List Value} (h : W.ownsRow B e k v n xs) (hn : v ≠ .slice none 0 0) : ∃ g c, v = .slice (some ⟨g, 0, none⟩) n c := by
  rcases h.2 with ⟨e1, _⟩ | ⟨g, c, _, e1, _⟩
  · exact absurd e1 hn
  · exact ⟨g, c, e1⟩
section
variable {b : Nat} {o0 o1 : Obj} {X Y : Option (Nat × Nat × Nat × List Value)} {w U V : World}
theorem St11.setx {g' k n : Nat} {xs : List Value} (h : St11 b o0 o1 none Y w U) (ho : V.ownsRow U.heap.size 28 6 (.slice (some ⟨g', 0, none⟩) n k) n xs) (hb : Below U.heap.size U V) : St11 b o0 o1 (some (g', k, n, xs)) Y w V := by
  have h2 := h.far hb rfl
  refine ⟨h2.1, h2.2.1, fun a ha => by cases ha; exact own_mono ho h.le, h2.2.2.2.1, fun a c ha hc => ?_, h2.2.2.2.2.2⟩
  cases ha
  have h3 := ((h.2.2.2.1 c hc).lt c.1 rfl).2
  have h4 := (ho.lt g' rfl).1
  show g' ≠ c.1
  omega
theorem St11.sety {g' k n : Nat} {xs : List Value} (h : St11 b o0 o1 X none w U) (ho : V.ownsRow U.heap.size 73 4 (.slice (some ⟨g', 0, none⟩) n k) n xs) (hb : Below U.heap.size U V) : St11 b o0 o1 X (some (g', k, n, xs)) w V := by
  have h2 := h.far hb rfl
  refine ⟨h2.1, h2.2.1, h2.2.2.1, fun a ha => by cases ha; exact own_mono ho h.le, fun a c ha hc => ?_, h2.2.2.2.2.2⟩
  cases hc
  have h3 := ((h.2.2.1 a ha).lt a.1 rfl).2
  have h4 := (ho.lt g' rfl).1
  show a.1 ≠ g'
  omega
end
set_option maxRecDepth 8000 in
theorem clone_sheets11 (l : List H11) (g c : Nat) (hl : l.length ≤ 1000) (w : World) (h : w.rangeAt g 0 (hv11 l)) : Calls Try.prog 200 #[.slice (some ⟨g, 0, none⟩) l.length c] w fun e w' => ∃ g' k, e = .returned (.slice (some ⟨g', 0, none⟩) l.length k) ∧ w'.ownsRow w.heap.size 28 6 (.slice (some ⟨g', 0, none⟩) l.length k) l.length (hv11 l) ∧ Below w.heap.size w w' := by
  obtain ⟨ia, hia, hia0, hia1, hia2⟩ := infos_sheets11
  have R1 := Lib.hid h
  clear h
  have HO : Hid ((w.alloc (.cells #[] 28)).ownsRow w.heap.size 28 6 (.slice (some ⟨w.heap.size, 0, none⟩) 0 0) 0 []) := Lib.hid (World.ownsRow_lit (base := w.heap.size) (e := 28) (size := 6) w #[] 0 (Nat.le_refl _) (by unfold maxLen; omega) rfl)
  have hB : Below w.heap.size w (w.alloc (.cells #[] 28)) := by (repeat (first | exact Below.refl _ _ | assumption | refine Below.setCell ?_ (by first | (simp; done) | (simp; omega)) _ | refine Below.alloc ?_ (by first | (simp; done) | (simp; omega)) _ | refine Below.drew ?_))
  have HB := Lib.hid hB
  clear hB
  have he : ∀ W : World, (binOp .eql 59 (.slice (some ⟨g, 0, none⟩) l.length c) (.slice none 0 0)).run Try.prog W = .ok (.bool false) W := fun _ => rfl
  go_enter Try.func200, Try.ntmps200
  go_wp2_with (at_builtin; go_loud (refine wpList_append_own_at _ rfl _ _ 59 rfl w.heap.size 28 ia (.agg #[.int .i64 0, .int .i64 0, .int .i64 0, .int .i64 0, .int .i64 0, .int .i64 0]) 6 48 Try.underlying59 hia hia0 hia1 hia2 rfl (by decide) (.slice (some ⟨w.heap.size, 0, none⟩) 0 0) 0 [] rfl HO.out ⟨g, 0, none⟩ l.length c (hv11 l) rfl (hv11_len l) (ra_add (ra_below R1.out HB.out rfl)) (hv11_one l) (by unfold maxLen; omega) (by omega) (by simp) ?_; intro v' w1 hown hgr hnn hat; simp only [Nat.zero_add, List.nil_append] at hown; have HF := Lib.hid (And.intro hown (HB.out.grown hgr (by simp) (fun k hk => by simp [Value.ownBlock] at hk; omega))); obtain ⟨g', k', rfl⟩ := form11 hown (fun e => by have := (hnn.mp e).1; simp at this); clear hown hgr hnn hat))
  go_ret
  exact ⟨g', k', rfl, HF.out.1, HF.out.2⟩
set_option maxRecDepth 20000 in
theorem clone_sheets11_nil (w : World) : Calls Try.prog 200 #[.slice none 0 0] w fun e w' => e = .returned (.slice none 0 0) ∧ w' = w := by
  have he : ∀ W : World, (binOp .eql 59 (.slice none 0 0) (.slice none 0 0)).run Try.prog W = .ok (.bool true) W := fun _ => rfl
  go_enter Try.func200, Try.ntmps200
  go_wp2_with fail
  go_ret
  exact ⟨rfl, rfl⟩
set_option maxRecDepth 8000 in
theorem clone_steps11 (l : List S11) (g c : Nat) (hl : l.length ≤ 1000) (w : World) (h : w.rangeAt g 0 (sv11 l)) : Calls Try.prog 201 #[.slice (some ⟨g, 0, none⟩) l.length c] w fun e w' => ∃ g' k, e = .returned (.slice (some ⟨g', 0, none⟩) l.length k) ∧ w'.ownsRow w.heap.size 73 4 (.slice (some ⟨g', 0, none⟩) l.length k) l.length (sv11 l) ∧ Below w.heap.size w w' := by
  obtain ⟨ia, hia, hia0, hia1, hia2⟩ := infos_steps11
  have R1 := Lib.hid h
  clear h
  have HO : Hid ((w.alloc (.cells #[] 73)).ownsRow w.heap.size 73 4 (.slice (some ⟨w.heap.size, 0, none⟩) 0 0) 0 []) := Lib.hid (World.ownsRow_lit (base := w.heap.size) (e := 73) (size := 4) w #[] 0 (Nat.le_refl _) (by unfold maxLen; omega) rfl)
  have hB : Below w.heap.size w (w.alloc (.cells #[] 73)) := by (repeat (first | exact Below.refl _ _ | assumption | refine Below.setCell ?_ (by first | (simp; done) | (simp; omega)) _ | refine Below.alloc ?_ (by first | (simp; done) | (simp; omega)) _ | refine Below.drew ?_))
  have HB := Lib.hid hB
  clear hB
  have he : ∀ W : World, (binOp .eql 60 (.slice (some ⟨g, 0, none⟩) l.length c) (.slice none 0 0)).run Try.prog W = .ok (.bool false) W := fun _ => rfl
  go_enter Try.func201, Try.ntmps201
  go_wp2_with (at_builtin; go_loud (refine wpList_append_own_at _ rfl _ _ 60 rfl w.heap.size 73 ia (.agg #[.int .i64 0, .int .i64 0, .int .i64 0, .int .i64 0]) 4 32 Try.underlying60 hia hia0 hia1 hia2 rfl (by decide) (.slice (some ⟨w.heap.size, 0, none⟩) 0 0) 0 [] rfl HO.out ⟨g, 0, none⟩ l.length c (sv11 l) rfl (sv11_len l) (ra_add (ra_below R1.out HB.out rfl)) (sv11_one l) (by unfold maxLen; omega) (by omega) (by simp) ?_; intro v' w1 hown hgr hnn hat; simp only [Nat.zero_add, List.nil_append] at hown; have HF := Lib.hid (And.intro hown (HB.out.grown hgr (by simp) (fun k hk => by simp [Value.ownBlock] at hk; omega))); obtain ⟨g', k', rfl⟩ := form11 hown (fun e => by have := (hnn.mp e).1; simp at this); clear hown hgr hnn hat))
  go_ret
  exact ⟨g', k', rfl, HF.out.1, HF.out.2⟩
set_option maxRecDepth 20000 in
theorem clone_steps11_nil (w : World) : Calls Try.prog 201 #[.slice none 0 0] w fun e w' => e = .returned (.slice none 0 0) ∧ w' = w := by
  have he : ∀ W : World, (binOp .eql 60 (.slice none 0 0) (.slice none 0 0)).run Try.prog W = .ok (.bool true) W := fun _ => rfl
  go_enter Try.func201, Try.ntmps201
  go_wp2_with fail
  go_ret
  exact ⟨rfl, rfl⟩
set_option maxRecDepth 20000 in
set_option maxHeartbeats 4000000 in
theorem ihav_11 (m0 m1 m2 m3 m4 m5 : Int) (VV : Value) (l : List H11) (st : List S11) (g1 c1 g2 c2 : Nat) (hl : l.length ≤ 1000) (hst : st.length ≤ 1000) (w : World) (h1 : w.rangeAt g1 0 (hv11 l)) (h2 : w.rangeAt g2 0 (sv11 st)) : Calls Try.prog 125 #[.agg #[.int .i64 m0, .int .i64 m1, .int .i64 m2, .int .i64 m3, .int .i64 m4, .int .i64 m5, .slice (some ⟨g1, 0, none⟩) l.length c1, VV], .slice (some ⟨g2, 0, none⟩) st.length c2] w (OP11 m0 m1 m2 m3 m4 m5 l st w) := by
  have HC1 := Lib.hid (fun W h => clone_sheets11 l g1 c1 hl W h)
  have HC2 := Lib.hid (fun W h => clone_steps11 st g2 c2 hst W h)
  have R1 := Lib.hid h1
  have R2 := Lib.hid h2
  clear h1 h2
  go_enter Try.func125, Try.ntmps125
  go_wp2_with fail
  generalize hW : (World.alloc _ _ : World) = W0
  have HS : Hid (St11 2 (.cells #[.int .i64 m0, .int .i64 m1, .int .i64 m2, .int .i64 m3, .int .i64 m4, .int .i64 m5, .slice (some ⟨g1, 0, none⟩) l.length c1, VV] 62 (0, 0)) (pz11 62) none none w W0) := Lib.hid (by
    rw [← hW]
    exact ⟨alloc_past (alloc_at rfl), alloc_at (by simp), fun a ha => by (cases ha), fun a ha => by (cases ha), fun a c ha => by (cases ha), by simp, by omega, by (repeat (first | exact Below.refl _ _ | assumption | refine Below.setCell ?_ (by first | (simp; done) | (simp; omega)) _ | refine Below.alloc ?_ (by first | (simp; done) | (simp; omega)) _ | refine Below.drew ?_))⟩)
  clear hW
  refine wp_region_held_drew (S := fun U => U.cell? ⟨w.heap.size, 0, none⟩ = some (.int .i64 m0) ∧ U.cell? ⟨w.heap.size, 1, none⟩ = some (.int .i64 m1) ∧ U.cell? ⟨w.heap.size, 2, none⟩ = some (.int .i64 m2) ∧ U.cell? ⟨w.heap.size, 3, none⟩ = some (.int .i64 m3) ∧ U.cell? ⟨w.heap.size, 4, none⟩ = some (.int .i64 m4) ∧ U.cell? ⟨w.heap.size, 5, none⟩ = some (.int .i64 m5) ∧ U.cell? ⟨w.heap.size, 6, none⟩ = some (.slice (some ⟨g1, 0, none⟩) l.length c1)) (by kernel_rfl) ?_ (fun hHeld => ?_)
  · (try dsimp only)
    exact SKo11 HS.out.drew
  replace HS := Lib.hid HS.out.drew
  obtain ⟨V, hV⟩ : ∃ X, X = W0.drew := ⟨_, rfl⟩
  rw [← hV] at HS hHeld ⊢
  clear hV
  refine wpAnyH_take (i := 0) (oi := { dst := some 5, op := Go.Op.fieldAddr 62 (Go.Operand.tmp 2) 0, type := 0, pos := "l11_plans.go:57", after := #[], guard := none }) (v := ?_) rfl (by kernel_rfl) (by kernel_rfl) (by kernel_rfl) (fun _ _ _ h => h) (Or.inl ⟨by rfl, ?_⟩) (by assumption) ?_
  rotate_left
  · intro w hSw; (try dsimp only at hSw); go_simp; (try with_reducible rfl)
  simp only [Act.put, List.setIfInBounds_toArray, List.set_cons_zero, List.set_cons_succ]
  refine wpAnyH_take (i := 1) (oi := { dst := some 6, op := Go.Op.load 28 (Go.Operand.tmp 5), type := 28, pos := "l11_plans.go:57", after := #[{ on := 0, ground := Go.Ground.data }], guard := none }) (v := ?_) rfl (by kernel_rfl) (by kernel_rfl) (by kernel_rfl) (fun _ _ _ h => h) (Or.inl ⟨by rfl, ?_⟩) (by assumption) ?_
  rotate_left
  · intro w hSw; (try dsimp only at hSw); go_simp; (try with_reducible rfl)
  simp only [Act.put, List.setIfInBounds_toArray, List.set_cons_zero, List.set_cons_succ]
  refine wpAnyH_take (i := 2) (oi := { dst := some 7, op := Go.Op.fieldAddr 62 (Go.Operand.tmp 2) 1, type := 0, pos := "l11_plans.go:57", after := #[], guard := none }) (v := ?_) rfl (by kernel_rfl) (by kernel_rfl) (by kernel_rfl) (fun _ _ _ h => h) (Or.inl ⟨by rfl, ?_⟩) (by assumption) ?_
  rotate_left
  · intro w hSw; (try dsimp only at hSw); go_simp; (try with_reducible rfl)
  simp only [Act.put, List.setIfInBounds_toArray, List.set_cons_zero, List.set_cons_succ]
  refine wpAnyH_take (i := 3) (oi := { dst := some 8, op := Go.Op.load 59 (Go.Operand.tmp 7), type := 59, pos := "l11_plans.go:57", after := #[{ on := 2, ground := Go.Ground.data }], guard := none }) (v := ?_) rfl (by kernel_rfl) (by kernel_rfl) (by kernel_rfl) (fun _ _ _ h => h) (Or.inl ⟨by rfl, ?_⟩) (by assumption) ?_
  rotate_left
  · intro w hSw; (try dsimp only at hSw); go_simp; (try with_reducible rfl)
  simp only [Act.put, List.setIfInBounds_toArray, List.set_cons_zero, List.set_cons_succ]
  refine wpAnyH_take (i := 5) (oi := { dst := some 10, op := Go.Op.move (Go.Operand.tmp 1), type := 60, pos := "l11_plans.go:57", after := #[], guard := none }) (v := ?_) rfl (by kernel_rfl) (by kernel_rfl) (by kernel_rfl) (fun _ _ _ h => h) (Or.inl ⟨by rfl, ?_⟩) (by assumption) ?_
  rotate_left
  · intro w hSw; (try dsimp only at hSw); go_simp; (try with_reducible rfl)
  simp only [Act.put, List.setIfInBounds_toArray, List.set_cons_zero, List.set_cons_succ]
  refine wpAnyH_ready (rs := [4]) (by kernel_rfl) (by simp) ?_
  refine AllReadyH.cons (o := { dst := some 9, op := Go.Op.call { callee := Go.Callee.value (Go.Operand.func 200), args := #[Go.Operand.tmp 8], argTypes := #[59] }, type := 59, pos := "l11_plans.go:57", after := #[{ on := 3, ground := Go.Ground.data }], guard := none }) rfl (fun K hK => ?_) AllReadyH.nil
  go_simp
  refine (HC1.out _ (ra_below R1.out HS.out.bel rfl)).mono ?_
  rintro e V1 ⟨gx, kx, rfl, ho, hb⟩
  replace HS := Lib.hid (HS.out.setx ho hb)
  clear ho hb
  refine hK.out _ _ ?_ (fun hHeld => ?_)
  · (try dsimp only)
    exact SKo11 HS.out
  clear hK K
  (try simp only [Act.put, List.setIfInBounds_toArray, List.set_cons_zero, List.set_cons_succ])
  refine wpAnyH_ready (rs := [6]) (by kernel_rfl) (by simp) ?_
  refine AllReadyH.cons (o := { dst := some 11, op := Go.Op.call { callee := Go.Callee.value (Go.Operand.func 201), args := #[Go.Operand.tmp 10], argTypes := #[60] }, type := 60, pos := "l11_plans.go:57", after := #[{ on := 5, ground := Go.Ground.data }, { on := 4, ground := Go.Ground.chain }], guard := none }) rfl (fun K hK => ?_) AllReadyH.nil
  go_simp
  refine (HC2.out _ (ra_below R2.out HS.out.bel rfl)).mono ?_
  rintro e V2 ⟨gy, ky, rfl, ho, hb⟩
  replace HS := Lib.hid (HS.out.sety ho hb)
  clear ho hb
  refine hK.out _ _ ?_ (fun hHeld => ?_)
  · (try dsimp only)
    exact SKo11 HS.out
  clear hK K
  (try simp only [Act.put, List.setIfInBounds_toArray, List.set_cons_zero, List.set_cons_succ])
  refine wpAnyH_take (i := 7) (oi := { dst := some 12, op := Go.Op.build 62 #[(0, Go.Operand.tmp 6), (1, Go.Operand.tmp 9), (2, Go.Operand.tmp 11)], type := 62, pos := "l11_plans.go:57", after := #[{ on := 1, ground := Go.Ground.data }, { on := 4, ground := Go.Ground.data }, { on := 6, ground := Go.Ground.data }], guard := none }) (v := ?_) rfl (by kernel_rfl) (by kernel_rfl) (by kernel_rfl) (fun _ _ _ h => h) (Or.inl ⟨by rfl, ?_⟩) (by assumption) ?_
  rotate_left
  · intro w hSw; (try dsimp only at hSw); go_simp; (try with_reducible rfl)
  simp only [Act.put, List.setIfInBounds_toArray, List.set_cons_zero, List.set_cons_succ]
  refine wpAnyH_ready (rs := [8]) (by kernel_rfl) (by simp) ?_
  refine AllReadyH.cons (o := { dst := none, op := Go.Op.store 62 (Go.Operand.tmp 4) (Go.Operand.tmp 12), type := 0, pos := "l11_plans.go:57", after := #[{ on := 7, ground := Go.Ground.data }, { on := 6, ground := Go.Ground.chain }, { on := 0, ground := Go.Ground.phase }, { on := 1, ground := Go.Ground.phase }, { on := 2, ground := Go.Ground.phase }, { on := 3, ground := Go.Ground.phase }, { on := 4, ground := Go.Ground.phase }, { on := 5, ground := Go.Ground.phase }, { on := 6, ground := Go.Ground.phase }, { on := 7, ground := Go.Ground.phase }], guard := none }) rfl (fun K hK => ?_) AllReadyH.nil
  have z_c := fun j => cell_of_row V2 _ j _ _ _ HS.out.2.1
  have z_f := fun j => frozen_of_row V2 _ j _ _ HS.out.2.1
  go_simp
  clear z_c z_f
  have HF := fun X hX => Lib.hid (HS.out.fin (m0 := m0) (m1 := m1) (m2 := m2) (m3 := m3) (m4 := m4) (m5 := m5) (X := X) hX)
  generalize hX : (World.setCell _ _ _ : World) = X
  replace HF := HF X hX
  refine hK.out _ _ ?_ (fun hHeld => ?_)
  · (try dsimp only)
    rw [← hX]
    exact SKset11 HS.out
  clear hK K hX
  (try simp only [Act.put, List.setIfInBounds_toArray, List.set_cons_zero, List.set_cons_succ])
  refine wpAnyH_done (by kernel_rfl) ?_ _
  have x_c := fun j => cell_of_row X _ j _ _ _ HF.out.1
  go_wp2_with fail
  exact bodyPost_ret (v := .agg #[.int .i64 m0, .int .i64 m1, .int .i64 m2, .int .i64 m3, .int .i64 m4, .int .i64 m5, .slice (some ⟨gx, 0, none⟩) l.length kx, .slice (some ⟨gy, 0, none⟩) st.length ky]) (by simp [results, Try.results125, go_sem, x_c]) rfl ⟨gx, kx, gy, ky, rfl, HF.out.2⟩
/- Un11 -/
/-- What is answered: a plan in rows of its own, and whether there is one. -/
def TP11 (m0 m1 m2 m3 m4 m5 : Int) (l : List H11) (st : List S11) (t : Bool) (w : World) (E : Ending) (w' : World) : Prop := ∃ v1 v2, E = .returned (.tuple #[.agg #[.int .i64 m0, .int .i64 m1, .int .i64 m2, .int .i64 m3, .int .i64 m4, .int .i64 m5, v1, v2], .bool t]) ∧ Pr11 w.heap.size w'.heap.size v1 v2 l st w' ∧ Below w.heap.size w w'
theorem Pr11.mono {lo hi lo' hi' : Nat} {v1 v2 : Value} {l : List H11} {st : List S11} {U : World} (h : Pr11 lo hi v1 v2 l st U) (h1 : lo' ≤ lo) (h2 : hi ≤ hi') : Pr11 lo' hi' v1 v2 l st U := ⟨own_mono h.1 h1, own_mono h.2.1 h1, fun k hk => Nat.lt_of_lt_of_le (h.2.2.1 k hk) h2, fun k hk => Nat.lt_of_lt_of_le (h.2.2.2.1 k hk) h2, h.2.2.2.2⟩
theorem own_one11 {W : World} {B n k : Nat} {e : TypeId} {v : Value} {xs : List Value} (h : W.ownsRow B e k v n xs) : v.oneCell' = true := by
  rcases h.2 with ⟨e1, _⟩ | ⟨g, c, _, e1, _⟩ <;> rw [e1] <;> rfl
theorem st_one11 {v : Value} (hv : v.oneCell' = true) (W : World) (a : Addr) (hc : (W.cell? a).isSome = true) (hf : W.frozen? a = false) : (store a v).run Try.prog W = .ok () (W.setCell a v) := by
  obtain ⟨u, hu⟩ := Option.isSome_iff_exists.mp hc
  rw [run_store _ _ _ _ _ hv, hu]
  simp [hf]
theorem Pr11.nil (lo hi : Nat) (U : World) : Pr11 lo hi (.slice none 0 0) (.slice none 0 0) [] [] U := ⟨World.ownsRow_nil U lo _ 6, World.ownsRow_nil U lo _ 4, fun k hk => by simp [Value.ownBlock] at hk, fun k hk => by simp [Value.ownBlock] at hk, fun k hk => by simp [Value.ownBlock] at hk⟩
/-- A plan stored whole into a box below its rows. -/
theorem box_put11 {g lo : Nat} {T : TypeId} {w U X : World} {v0 v1 v2 v3 v4 v5 v6 v7 u6 u7 : Value} {m0 m1 m2 m3 m4 m5 : Int} {l : List H11} {st : List S11} (hr : U.heap[g]? = some (.cells #[v0, v1, v2, v3, v4, v5, v6, v7] T (0, 0))) (hp : Pr11 lo U.heap.size u6 u7 l st U) (hg : g < lo) (hB : w.heap.size ≤ g) (hlo : w.heap.size ≤ lo) (hb : Below w.heap.size w U) (hX : ((((((((U.setCell ⟨g, 0, none⟩ (.int .i64 m0)).setCell ⟨g, 1, none⟩ (.int .i64 m1)).setCell ⟨g, 2, none⟩ (.int .i64 m2)).setCell ⟨g, 3, none⟩ (.int .i64 m3)).setCell ⟨g, 4, none⟩ (.int .i64 m4)).setCell ⟨g, 5, none⟩ (.int .i64 m5)).setCell ⟨g, 6, none⟩ u6).setCell ⟨g, 7, none⟩ u7) = X) : X.heap[g]? = some (.cells #[.int .i64 m0, .int .i64 m1, .int .i64 m2, .int .i64 m3, .int .i64 m4, .int .i64 m5, u6, u7] T (0, 0)) ∧ Pr11 w.heap.size X.heap.size u6 u7 l st X ∧ Below w.heap.size w X := by
  have hs := same8b (lo := lo) (hi := U.heap.size) (g := g) (W := U) hg (.int .i64 m0) (.int .i64 m1) (.int .i64 m2) (.int .i64 m3) (.int .i64 m4) (.int .i64 m5) u6 u7
  have hq := set8b (.int .i64 m0) (.int .i64 m1) (.int .i64 m2) (.int .i64 m3) (.int .i64 m4) (.int .i64 m5) u6 u7 hr
  have hbl := bel8b (g := g) (.int .i64 m0) (.int .i64 m1) (.int .i64 m2) (.int .i64 m3) (.int .i64 m4) (.int .i64 m5) u6 u7 hb hB
  have hsz : X.heap.size = U.heap.size := by rw [← hX]; simp
  rw [hX] at hs hq hbl
  exact ⟨hq, (hp.st U X hs).mono hlo (by omega), hbl⟩
theorem tk_len (st : List S11) {j : Nat} (h : j ≤ st.length) : (st.take j).length = j := by rw [List.length_take]; omega
/- Rev11 -/
theorem flat_sv11 (l : List S11) : (Go.Sort.flatK cs11 4 l.toArray).toList = sv11 l := by
  refine List.ext_getElem (by rw [Array.length_toList, Go.Sort.size_flatK, sv11_len]; simp) (fun t h1 h2 => ?_)
  have ht : t < l.length * 4 := by rw [sv11_len] at h2; exact h2
  have hk : t / 4 < l.length := by omega
  have hm : t % 4 < 4 := Nat.mod_lt _ (by decide)
  have hp := fm_at cs11_len l (t / 4) hk (t % 4) hm
  have hg := Go.Sort.get_flatK cs11 4 l.toArray t (by simpa using ht)
  rw [getElem!_pos _ t (by rw [Go.Sort.size_flatK]; simpa using ht)] at hg
  rw [Array.getElem_toList, hg]
  have e1 : l.toArray[t / 4]! = l[t / 4] := by rw [getElem!_pos _ _ (by simpa using hk)]; simp
  rw [e1]
  have e2 : t / 4 * 4 + t % 4 = t := by omega
  rw [e2] at hp
  have hl4 : t % 4 < (cs11 l[t / 4]).length := by rw [cs11_len]; exact hm
  rw [getElem!_pos (cs11 l[t / 4]) (t % 4) hl4]
  have h3 : (sv11 l)[t]? = some ((sv11 l)[t]) := List.getElem?_eq_getElem h2
  have hp' : (sv11 l)[t]? = (cs11 l[t / 4])[t % 4]? := hp
  rw [h3, List.getElem?_eq_getElem hl4] at hp'
  exact (Option.some.inj hp').symm
theorem holds_own11 {w : World} {B g n cap : Nat} {e : TypeId} {l : List S11} (h : w.ownsRow B e 4 (.slice (some ⟨g, 0, none⟩) n cap) n (sv11 l)) (hl : l.length = n) : Go.Sort.HoldsK cs11 4 w g 0 l.toArray := by
  intro j hj
  rw [Go.Sort.size_flatK] at hj
  have hj2 : j < n * 4 := by simpa [hl] using hj
  rw [Nat.zero_add]
  refine ⟨?_, h.frozenAt j⟩
  rw [h.cellAt j hj2, ← flat_sv11, Array.getElem?_toList, getElem!_pos _ j (by rw [Go.Sort.size_flatK]; exact hj), Array.getElem?_eq_getElem (by rw [Go.Sort.size_flatK]; exact hj)]
  rfl
theorem own_rev11 {w : World} {B g n cap : Nat} {e : TypeId} {l m : List S11} (h : w.ownsRow B e 4 (.slice (some ⟨g, 0, none⟩) n cap) n (sv11 l)) (hm : m.length = n) (N : Nat) : (Go.Sort.putRowK cs11 4 (Go.Sort.ahead w N) g 0 m.toArray).ownsRow B e 4 (.slice (some ⟨g, 0, none⟩) n cap) n (sv11 m) ∧ w.grownBy (Go.Sort.putRowK cs11 4 (Go.Sort.ahead w N) g 0 m.toArray) (some g) := by
  have hg := (h.lt g rfl).2
  rcases h.2 with ⟨e1, _⟩ | ⟨g2, cap2, cur, e1, hb, hh, h1, h2, h3, ht⟩
  · exact absurd e1 (by simp)
  · simp only [Value.slice.injEq, Option.some.injEq, Addr.mk.injEq, and_true, true_and] at e1
    obtain ⟨rfl, rfl⟩ := e1
    have hblk : ∀ k, k < w.heap.size → (Go.Sort.putRowK cs11 4 (Go.Sort.ahead w N) g 0 m.toArray).heap[k]? = (Go.Sort.putRowK cs11 4 (Go.Sort.ahead w N) g 0 m.toArray).heap[k]? := fun k hk => rfl
    have hF : (Go.Sort.flatK cs11 4 m.toArray).size = n * 4 := by rw [Go.Sort.size_flatK]; simp [hm]
    refine ⟨⟨by rw [sv11_len, hm], .inr ⟨g, cap, Go.Sort.putCells id 0 (Go.Sort.flatK cs11 4 m.toArray) cur, rfl, hb, ?_, h1, h2, by rw [Go.Sort.putCells, Array.size_mapIdx, h3], ?_⟩⟩, ?_⟩
    · rw [hblk g hg]
      show ((Go.Sort.ahead w N).heap.modify g _)[g]? = _
      rw [Array.getElem?_modify, if_pos rfl, show (Go.Sort.ahead w N).heap[g]? = w.heap[g]? from rfl, hh]
      rfl
    · rw [← flat_sv11]
      refine List.ext_getElem (by simp [Go.Sort.putCells, hF, h3]; omega) (fun t a b => ?_)
      have htn : t < n * 4 := by rw [Array.length_toList, hF] at b; exact b
      rw [List.getElem_take, Array.getElem_toList, Array.getElem_toList]
      unfold Go.Sort.putCells
      rw [Array.getElem_mapIdx, if_pos ⟨Nat.zero_le _, by rw [Nat.zero_add, hF]; exact htn⟩, Nat.sub_zero, getElem!_pos _ t (by rw [hF]; exact htn)]
      rfl
    · refine ⟨rfl, rfl, rfl, ?_, fun k hk hne => ?_⟩
      · rw [Go.Sort.putRowK, Go.Sort.size_putRow]
        exact Nat.le_refl _
      · rw [hblk k hk]
        show ((Go.Sort.ahead w N).heap.modify g _)[k]? = _
        rw [Array.getElem?_modify, if_neg (fun e => hne (by rw [e]))]
        rfl
theorem cs11_one9 (p : S11) : ∀ u ∈ cs11 p, u.oneCell' = true := by
  intro u hu
  simp only [cs11, List.mem_cons, List.not_mem_nil, or_false] at hu
  rcases hu with rfl | rfl | rfl | rfl <;> rfl
theorem rev_11 (l : List S11) (hl : l.length ≤ 1000) (B g cap : Nat) (w : World) (hO : w.ownsRow B 73 4 (.slice (some ⟨g, 0, none⟩) l.length cap) l.length (sv11 l)) : Calls Try.prog 136 #[.slice (some ⟨g, 0, none⟩) l.length cap] w fun e w' => e = .returned (.tuple #[]) ∧ w'.ownsRow B 73 4 (.slice (some ⟨g, 0, none⟩) l.length cap) l.length (sv11 l.reverse) ∧ w.grownBy w' (some g) := by
  have h := Go.Proofs.AnyQ.slices_Reverse revSteps 4 Try.isAgg73 Try.sizeOf73 cs11 cs11_len (fun x => cs11_one9 x) g 0 cap l.toArray w (holds_own11 hO rfl) (by simp; omega)
  have e : l.toArray.size = l.length := by simp
  rw [e] at h
  refine h.mono ?_
  rintro e w' ⟨rfl, n, rfl⟩
  have e2 : l.toArray.reverse = l.reverse.toArray := by simp
  rw [e2]
  have := own_rev11 hO (m := l.reverse) (by simp) n
  exact ⟨rfl, this.1, this.2⟩
set_option maxRecDepth 8000 in
set_option maxHeartbeats 1000000 in
theorem iidx_11 (st : List S11) (hst : st.length ≤ 1000) (g c : Nat) (w : World) (h : w.rangeAt g 0 (sv11 st)) : Calls Try.prog 204 #[.slice (some ⟨g, 0, none⟩) st.length c, .func (.func 135) #[] #[]] w fun e w' => (∃ r : Int, e = .returned (.int .i64 r) ∧ decide (0 ≤ r) = st.any (fun p => p.k != 1)) ∧ Below w.heap.size w w' := by
  have R := Lib.hid h
  have hF : ∀ (p : S11) (W : World), Calls Try.prog 135 #[.agg #[.int .i64 p.k, .int .i64 p.s, .int .i64 p.x, .int .i64 p.y]] W fun e w' => e = .returned (.bool (p.k != 1)) ∧ Below W.heap.size W w' := by
    intro p W
    go_enter Try.func135, Try.ntmps135
    go_wp2_with fail
    go_ret
    exact ⟨rfl, by (repeat (first | exact Below.refl _ _ | assumption | refine Below.setCell ?_ (by first | (simp; done) | (simp; omega)) _ | refine Below.alloc ?_ (by first | (simp; done) | (simp; omega)) _ | refine Below.drew ?_))⟩
  have HF := Lib.hid hF
  clear h hF
  obtain ⟨T, hT⟩ : ∃ T, T = st.any (fun p => p.k != 1) := ⟨_, rfl⟩
  rw [← hT]
  have HY := Lib.hid (fun (i : Nat) (hi : i < st.length) (he : (st[i].k != 1) = true) => show T = true by rw [hT]; exact List.any_eq_true.mpr ⟨st[i], List.getElem_mem hi, he⟩)
  have HN : Hid ((∀ j (hj : j < st.length), j < st.length → (st[j].k != 1) = false) → T = false) := Lib.hid fun h => by
    rw [hT, Bool.eq_false_iff]
    intro hh
    obtain ⟨p, hp, hpp⟩ := List.any_eq_true.mp hh
    obtain ⟨j, hj, rfl⟩ := List.getElem_of_mem hp
    rw [h j hj hj] at hpp
    cases hpp
  clear hT
  go_enter Try.func204, Try.ntmps204
  go_wp2_with fail
  go_loopw [5, 8] (fun _ n wr => ∃ i : Nat, i ≤ st.length ∧ n = .int .i64 i ∧ Hid (∀ j (hj : j < st.length), j < i → (st[j].k != 1) = false) ∧ Hid (Below w.heap.size w wr)) (fun _ n _ => st.length - (intOf n).toNat)
  case atStart => exact ⟨0, by omega, rfl, Lib.hid (fun j _ h => absurd h (Nat.not_lt_zero _)), Lib.hid (Below.refl _ _)⟩
  case round =>
    obtain ⟨i, hi, rfl, HS, HB⟩ := hrel
    have hi0 : (0 : Int) ≤ i := by omega
    by_cases hlt : i < st.length
    · have hlt' : (i : Int) < st.length := by omega
      have h1 := fm_range cs11_len (ra_below R.out HB.out rfl) hlt
      have HYY := Lib.hid (HY.out i hlt)
      have HNN := Lib.hid (fun (hne : (st[i].k != 1) = false) => show ∀ j (hj : j < st.length), j < i + 1 → (st[j].k != 1) = false from fun j hj h => by
        by_cases e : j = i
        · subst e; exact hne
        · exact HS.out j hj (by omega))
      generalize st[i] = p at h1 HYY HNN
      have c0 : wr.cell? ⟨g, i * 4, none⟩ = some (.int .i64 p.k) := h1 0 _ rfl
      have c1 : wr.cell? ⟨g, i * 4 + 1, none⟩ = some (.int .i64 p.s) := h1 1 _ rfl
      have c2 : wr.cell? ⟨g, i * 4 + 2, none⟩ = some (.int .i64 p.x) := h1 2 _ rfl
      have c3 : wr.cell? ⟨g, i * 4 + 3, none⟩ = some (.int .i64 p.y) := h1 3 _ rfl
      have HP := Lib.hid (HF.out p)
      clear h1
      generalize hb : (p.k != 1) = b at HP HYY HNN
      clear hb
      go_wp2_with fail
      refine (HP.out _).mono ?_
      rintro e w' ⟨rfl, hb⟩
      have HB2 := Lib.hid (below_of HB.out hb HB.out.size)
      clear hb HB
      cases b
      · have E := Lib.hid (HNN.out rfl)
        clear HNN HYY
        go_wp2_with fail
        go_roundw
        case rel => exact ⟨i + 1, by omega, by go_num, E, HB2⟩
        case measure => simp [intOf]; omega
      · have E := Lib.hid (HYY.out rfl)
        clear HNN HYY
        go_wp2_with fail
        go_ret
        exact ⟨⟨_, rfl, by rw [E.out]; simp⟩, HB2.out⟩
    · obtain rfl : i = st.length := by omega
      have E := Lib.hid (HN.out HS.out)
      clear HY HN HS
      go_wp2_with fail
      go_ret
      exact ⟨⟨_, rfl, by rw [E.out]; decide⟩, HB.out⟩
set_option maxHeartbeats 1000000 in
theorem icf_11 (st : List S11) (hst : st.length ≤ 1000) (g c : Nat) (w : World) (h : w.rangeAt g 0 (sv11 st)) : Calls Try.prog 134 #[.slice (some ⟨g, 0, none⟩) st.length c, .func (.func 135) #[] #[]] w fun e w' => e = .returned (.bool (st.any fun p => p.k != 1)) ∧ Below w.heap.size w w' := by
  have HI := Lib.hid (iidx_11 st hst g c w h)
  clear h
  generalize (st.any fun p => p.k != 1) = T at HI ⊢
  go_enter Try.func134, Try.ntmps134
  go_wp2_with fail
  refine HI.out.mono ?_
  rintro e w' ⟨⟨r, rfl, hr⟩, hb⟩
  have HR := Lib.hid hr
  have HB := Lib.hid hb
  clear hr hb
  go_wp2_with fail
  go_ret
  exact ⟨by rw [← HR.out]; first | rfl | simp, HB.out⟩
/- Pm11 -/
theorem ok_parts11 {f : Fn11} {F : List Fn11} {st : List S11} (h2 : F.length ≤ 4) (h3 : st.length ≤ 40) (h5 : ∀ p ∈ st, okS F.length p = true) : okP (rowv (f 0), rowv (f 1), rowv (f 2), rowv (f 3), rowv (f 4), rowv (f 5)) (F.map t11) st = true := okP_of (f := f) h2 h3 h5
set_option maxRecDepth 20000 in
set_option maxHeartbeats 2000000 in
theorem isheetat_yes (f : Fn11) (F : List Fn11) (st : List S11) (k g1 c1 g2 c2 : Nat) (hk : k ≤ st.length) (hst : st.length ≤ 40) (hF : F.length ≤ 4) (hv : ∀ p ∈ st, okS F.length p = true) (w : World) (h1 : w.rangeAt g1 0 (hv11 (F.map t11))) (h2 : w.rangeAt g2 0 (sv11 st)) : Calls Try.prog 203 #[.agg #[.int .i64 (rowv (f 0)), .int .i64 (rowv (f 1)), .int .i64 (rowv (f 2)), .int .i64 (rowv (f 3)), .int .i64 (rowv (f 4)), .int .i64 (rowv (f 5)), .slice (some ⟨g1, 0, none⟩) F.length c1, .slice (some ⟨g2, 0, none⟩) st.length c2], .int .i64 (k : Int)] w fun e w' => e = .returned (.tuple #[.agg #[.int .i64 (rowv (at11 F st f k 0)), .int .i64 (rowv (at11 F st f k 1)), .int .i64 (rowv (at11 F st f k 2)), .int .i64 (rowv (at11 F st f k 3)), .int .i64 (rowv (at11 F st f k 4)), .int .i64 (rowv (at11 F st f k 5))], .bool true]) ∧ Below w.heap.size w w' := by
  have hn4 : (F.map t11).length = F.length := List.length_map t11
  have HP := Lib.hid (fun W a b => iplan_11 (rowv (f 0)) (rowv (f 1)) (rowv (f 2)) (rowv (f 3)) (rowv (f 4)) (rowv (f 5)) (F.map t11) st g1 c1 g2 c2 (by rw [hn4]; omega) (by omega) (wfs_of hv) W a b)
  rw [ok_parts11 (f := f) hF hst hv, hn4] at HP
  have R1 := Lib.hid h1
  have R2 := Lib.hid h2
  have HX := Lib.hid (fun W a b => sheets_11 (rowv (f 0)) (rowv (f 1)) (rowv (f 2)) (rowv (f 3)) (rowv (f 4)) (rowv (f 5)) f F st g1 c1 g2 c2 hst hF hv W a b)
  have HG := Lib.hid (sh11_get F st f hk)
  have HL := Lib.hid (sh11_len F st f st.length)
  clear h1 h2 hn4
  have k1 : ¬ (k : Int) < 0 := by omega
  have k2 : ¬ (st.length : Int) < (k : Int) := by omega
  have k3 : ¬ (k : Int) > (st.length : Int) := by omega
  go_enter Try.func203, Try.ntmps203
  go_wp2_with fail
  generalize hW : (World.alloc _ _ : World) = W0
  have q0 : W0.heap[w.heap.size]? = some (Obj.cells #[.int .i64 (rowv (f 0)), .int .i64 (rowv (f 1)), .int .i64 (rowv (f 2)), .int .i64 (rowv (f 3)), .int .i64 (rowv (f 4)), .int .i64 (rowv (f 5)), .slice (some ⟨g1, 0, none⟩) F.length c1, .slice (some ⟨g2, 0, none⟩) st.length c2] 62 (0, 0)) := by rw [← hW]; exact alloc_past (alloc_at rfl)
  have q1 : W0.heap[w.heap.size + 1]? = some oz := by rw [← hW]; exact alloc_at (by simp)
  have hB : Below w.heap.size w W0 := by rw [← hW]; (repeat (first | exact Below.refl _ _ | assumption | refine Below.setCell ?_ (by first | (simp; done) | (simp; omega)) _ | refine Below.alloc ?_ (by first | (simp; done) | (simp; omega)) _ | refine Below.drew ?_))
  clear hW
  refine (HP.out _ (ra_below R1.out hB rfl) (ra_below R2.out hB rfl)).mono ?_
  rintro e W1 ⟨rfl, hb⟩
  replace q0 := rowk q0 hb rfl
  replace q1 := rowk q1 hb rfl
  replace hB := below_of hB hb (by have := hB.size; omega)
  clear hb HP
  have a_c := fun j => cell_of_row W1 _ j _ _ _ q0
  go_wp2_with fail
  refine (HX.out _ (ra_below R1.out hB rfl) (ra_below R2.out hB rfl)).mono ?_
  rintro e W2 ⟨gs, cap, rfl, ho, hb⟩
  replace q1 := rowk q1 hb rfl
  replace hB := below_of hB hb (by have := hB.size; omega)
  have hr := fm_range ch11_len (own_range ho) (i := k) (by rw [HL.out]; omega)
  rw [HG.out] at hr
  obtain ⟨G, hG⟩ : ∃ G, G = at11 F st f k := ⟨_, rfl⟩
  rw [← hG] at hr
  have HGG := Lib.hid hG
  clear hG
  have d0 : W2.cell? ⟨gs, k * 6 + 0, none⟩ = some (.int .i64 (rowv (G 0))) := hr 0 _ rfl
  have d1 : W2.cell? ⟨gs, k * 6 + 1, none⟩ = some (.int .i64 (rowv (G 1))) := hr 1 _ rfl
  have d2 : W2.cell? ⟨gs, k * 6 + 2, none⟩ = some (.int .i64 (rowv (G 2))) := hr 2 _ rfl
  have d3 : W2.cell? ⟨gs, k * 6 + 3, none⟩ = some (.int .i64 (rowv (G 3))) := hr 3 _ rfl
  have d4 : W2.cell? ⟨gs, k * 6 + 4, none⟩ = some (.int .i64 (rowv (G 4))) := hr 4 _ rfl
  have d5 : W2.cell? ⟨gs, k * 6 + 5, none⟩ = some (.int .i64 (rowv (G 5))) := hr 5 _ rfl
  simp only [Nat.add_zero] at d0
  clear hb HX HG HL ho hr a_c q0
  have k4 : (k : Int) < ((st.length + 1 : Nat) : Int) := by omega
  have k5 : (0 : Int) ≤ (k : Int) := by omega
  have z_f := fun j => frozen_of_row W2 _ j _ _ q1
  have z_c := fun j => cell_of_row W2 _ j _ _ _ q1
  go_wp2_with fail
  clear d0 d1 d2 d3 d4 d5 z_f z_c
  have qx := set6a (.int .i64 (rowv (G 0))) (.int .i64 (rowv (G 1))) (.int .i64 (rowv (G 2))) (.int .i64 (rowv (G 3))) (.int .i64 (rowv (G 4))) (.int .i64 (rowv (G 5))) q1
  have hB2 := below6 (g := w.heap.size + 1) (v0 := .int .i64 (rowv (G 0))) (v1 := .int .i64 (rowv (G 1))) (v2 := .int .i64 (rowv (G 2))) (v3 := .int .i64 (rowv (G 3))) (v4 := .int .i64 (rowv (G 4))) (v5 := .int .i64 (rowv (G 5))) hB (by omega)
  generalize (World.setCell _ _ _ : World) = X at qx hB2 ⊢
  have x_c := fun j => cell_of_row X _ j _ _ _ qx
  exact bodyPost_ret (v := .tuple #[.agg #[.int .i64 (rowv (G 0)), .int .i64 (rowv (G 1)), .int .i64 (rowv (G 2)), .int .i64 (rowv (G 3)), .int .i64 (rowv (G 4)), .int .i64 (rowv (G 5))], .bool true]) (by simp [results, Try.results203, go_sem, x_c]) rfl ⟨by rw [HGG.out], hB2⟩
set_option maxRecDepth 20000 in
set_option maxHeartbeats 2000000 in
theorem isheetat_no0 (m0 m1 m2 m3 m4 m5 : Int) (l : List H11) (st : List S11) (k : Int) (g1 c1 g2 c2 : Nat) (hl : l.length ≤ 1048576) (hst : st.length ≤ 1048576) (hwf : ∀ p ∈ st, (Lit.int .i64 p.x).wf = true ∧ (Lit.int .i64 p.y).wf = true) (hq : okP (m0, m1, m2, m3, m4, m5) l st = false) (w : World) (h1 : w.rangeAt g1 0 (hv11 l)) (h2 : w.rangeAt g2 0 (sv11 st)) : Calls Try.prog 203 #[.agg #[.int .i64 m0, .int .i64 m1, .int .i64 m2, .int .i64 m3, .int .i64 m4, .int .i64 m5, .slice (some ⟨g1, 0, none⟩) l.length c1, .slice (some ⟨g2, 0, none⟩) st.length c2], .int .i64 k] w fun e w' => e = .returned (.tuple #[.agg #[.int .i64 0, .int .i64 0, .int .i64 0, .int .i64 0, .int .i64 0, .int .i64 0], .bool false]) ∧ Below w.heap.size w w' := by
  have HP := Lib.hid (fun W a b => iplan_11 m0 m1 m2 m3 m4 m5 l st g1 c1 g2 c2 hl hst hwf W a b)
  rw [hq] at HP
  have R1 := Lib.hid h1
  have R2 := Lib.hid h2
  clear h1 h2 hq hwf
  go_enter Try.func203, Try.ntmps203
  go_wp2_with fail
  generalize hW : (World.alloc _ _ : World) = W0
  have q0 : W0.heap[w.heap.size]? = some (Obj.cells #[.int .i64 m0, .int .i64 m1, .int .i64 m2, .int .i64 m3, .int .i64 m4, .int .i64 m5, .slice (some ⟨g1, 0, none⟩) l.length c1, .slice (some ⟨g2, 0, none⟩) st.length c2] 62 (0, 0)) := by rw [← hW]; exact alloc_past (alloc_at rfl)
  have q1 : W0.heap[w.heap.size + 1]? = some oz := by rw [← hW]; exact alloc_at (by simp)
  have hB : Below w.heap.size w W0 := by rw [← hW]; (repeat (first | exact Below.refl _ _ | assumption | refine Below.setCell ?_ (by first | (simp; done) | (simp; omega)) _ | refine Below.alloc ?_ (by first | (simp; done) | (simp; omega)) _ | refine Below.drew ?_))
  clear hW
  refine (HP.out _ (ra_below R1.out hB rfl) (ra_below R2.out hB rfl)).mono ?_
  rintro e W1 ⟨rfl, hb⟩
  replace q0 := rowk q0 hb rfl
  replace q1 := rowk q1 hb rfl
  replace hB := below_of hB hb (by have := hB.size; omega)
  clear hb HP
  have a_c := fun j => cell_of_row W1 _ j _ _ _ q0
  have z_f := fun j => frozen_of_row W1 _ j _ _ q1
  have z_c := fun j => cell_of_row W1 _ j _ _ _ q1
  go_wp2_with fail
  clear a_c z_f z_c
  have qx := set6a (.int .i64 0) (.int .i64 0) (.int .i64 0) (.int .i64 0) (.int .i64 0) (.int .i64 0) q1
  have hB2 := below6 (g := w.heap.size + 1) (v0 := .int .i64 0) (v1 := .int .i64 0) (v2 := .int .i64 0) (v3 := .int .i64 0) (v4 := .int .i64 0) (v5 := .int .i64 0) hB (by omega)
  generalize (World.setCell _ _ _ : World) = X at qx hB2 ⊢
  have x_c := fun j => cell_of_row X _ j _ _ _ qx
  exact bodyPost_ret (v := .tuple #[.agg #[.int .i64 0, .int .i64 0, .int .i64 0, .int .i64 0, .int .i64 0, .int .i64 0], .bool false]) (by simp [results, Try.results203, go_sem, x_c]) rfl ⟨rfl, hB2⟩
set_option maxRecDepth 20000 in
set_option maxHeartbeats 2000000 in
theorem isheetat_no1 (m0 m1 m2 m3 m4 m5 : Int) (l : List H11) (st : List S11) (k : Int) (g1 c1 g2 c2 : Nat) (hl : l.length ≤ 1048576) (hst : st.length ≤ 1048576) (hwf : ∀ p ∈ st, (Lit.int .i64 p.x).wf = true ∧ (Lit.int .i64 p.y).wf = true) (hq : okP (m0, m1, m2, m3, m4, m5) l st = true) (hk : k < 0 ∨ (st.length : Int) < k) (w : World) (h1 : w.rangeAt g1 0 (hv11 l)) (h2 : w.rangeAt g2 0 (sv11 st)) : Calls Try.prog 203 #[.agg #[.int .i64 m0, .int .i64 m1, .int .i64 m2, .int .i64 m3, .int .i64 m4, .int .i64 m5, .slice (some ⟨g1, 0, none⟩) l.length c1, .slice (some ⟨g2, 0, none⟩) st.length c2], .int .i64 k] w fun e w' => e = .returned (.tuple #[.agg #[.int .i64 0, .int .i64 0, .int .i64 0, .int .i64 0, .int .i64 0, .int .i64 0], .bool false]) ∧ Below w.heap.size w w' := by
  have HP := Lib.hid (fun W a b => iplan_11 m0 m1 m2 m3 m4 m5 l st g1 c1 g2 c2 hl hst hwf W a b)
  rw [hq] at HP
  have R1 := Lib.hid h1
  have R2 := Lib.hid h2
  clear h1 h2 hq hwf
  by_cases hk0 : k < 0
  · have hk9 := hk0
    go_enter Try.func203, Try.ntmps203
    go_wp2_with fail
    generalize hW : (World.alloc _ _ : World) = W0
    have q0 : W0.heap[w.heap.size]? = some (Obj.cells #[.int .i64 m0, .int .i64 m1, .int .i64 m2, .int .i64 m3, .int .i64 m4, .int .i64 m5, .slice (some ⟨g1, 0, none⟩) l.length c1, .slice (some ⟨g2, 0, none⟩) st.length c2] 62 (0, 0)) := by rw [← hW]; exact alloc_past (alloc_at rfl)
    have q1 : W0.heap[w.heap.size + 1]? = some oz := by rw [← hW]; exact alloc_at (by simp)
    have hB : Below w.heap.size w W0 := by rw [← hW]; (repeat (first | exact Below.refl _ _ | assumption | refine Below.setCell ?_ (by first | (simp; done) | (simp; omega)) _ | refine Below.alloc ?_ (by first | (simp; done) | (simp; omega)) _ | refine Below.drew ?_))
    clear hW
    refine (HP.out _ (ra_below R1.out hB rfl) (ra_below R2.out hB rfl)).mono ?_
    rintro e W1 ⟨rfl, hb⟩
    replace q0 := rowk q0 hb rfl
    replace q1 := rowk q1 hb rfl
    replace hB := below_of hB hb (by have := hB.size; omega)
    clear hb HP
    have a_c := fun j => cell_of_row W1 _ j _ _ _ q0
    have z_f := fun j => frozen_of_row W1 _ j _ _ q1
    have z_c := fun j => cell_of_row W1 _ j _ _ _ q1
    go_wp2_with fail
    clear a_c z_f z_c
    have qx := set6a (.int .i64 0) (.int .i64 0) (.int .i64 0) (.int .i64 0) (.int .i64 0) (.int .i64 0) q1
    have hB2 := below6 (g := w.heap.size + 1) (v0 := .int .i64 0) (v1 := .int .i64 0) (v2 := .int .i64 0) (v3 := .int .i64 0) (v4 := .int .i64 0) (v5 := .int .i64 0) hB (by omega)
    generalize (World.setCell _ _ _ : World) = X at qx hB2 ⊢
    have x_c := fun j => cell_of_row X _ j _ _ _ qx
    exact bodyPost_ret (v := .tuple #[.agg #[.int .i64 0, .int .i64 0, .int .i64 0, .int .i64 0, .int .i64 0, .int .i64 0], .bool false]) (by simp [results, Try.results203, go_sem, x_c]) rfl ⟨rfl, hB2⟩
  · have hk1 : k > (st.length : Int) := by omega
    have hk2 : (st.length : Int) < k := by omega
    go_enter Try.func203, Try.ntmps203
    go_wp2_with fail
    generalize hW : (World.alloc _ _ : World) = W0
    have q0 : W0.heap[w.heap.size]? = some (Obj.cells #[.int .i64 m0, .int .i64 m1, .int .i64 m2, .int .i64 m3, .int .i64 m4, .int .i64 m5, .slice (some ⟨g1, 0, none⟩) l.length c1, .slice (some ⟨g2, 0, none⟩) st.length c2] 62 (0, 0)) := by rw [← hW]; exact alloc_past (alloc_at rfl)
    have q1 : W0.heap[w.heap.size + 1]? = some oz := by rw [← hW]; exact alloc_at (by simp)
    have hB : Below w.heap.size w W0 := by rw [← hW]; (repeat (first | exact Below.refl _ _ | assumption | refine Below.setCell ?_ (by first | (simp; done) | (simp; omega)) _ | refine Below.alloc ?_ (by first | (simp; done) | (simp; omega)) _ | refine Below.drew ?_))
    clear hW
    refine (HP.out _ (ra_below R1.out hB rfl) (ra_below R2.out hB rfl)).mono ?_
    rintro e W1 ⟨rfl, hb⟩
    replace q0 := rowk q0 hb rfl
    replace q1 := rowk q1 hb rfl
    replace hB := below_of hB hb (by have := hB.size; omega)
    clear hb HP
    have a_c := fun j => cell_of_row W1 _ j _ _ _ q0
    have z_f := fun j => frozen_of_row W1 _ j _ _ q1
    have z_c := fun j => cell_of_row W1 _ j _ _ _ q1
    go_wp2_with fail
    clear a_c z_f z_c
    have qx := set6a (.int .i64 0) (.int .i64 0) (.int .i64 0) (.int .i64 0) (.int .i64 0) (.int .i64 0) q1
    have hB2 := below6 (g := w.heap.size + 1) (v0 := .int .i64 0) (v1 := .int .i64 0) (v2 := .int .i64 0) (v3 := .int .i64 0) (v4 := .int .i64 0) (v5 := .int .i64 0) hB (by omega)
    generalize (World.setCell _ _ _ : World) = X at qx hB2 ⊢
    have x_c := fun j => cell_of_row X _ j _ _ _ qx
    exact bodyPost_ret (v := .tuple #[.agg #[.int .i64 0, .int .i64 0, .int .i64 0, .int .i64 0, .int .i64 0, .int .i64 0], .bool false]) (by simp [results, Try.results203, go_sem, x_c]) rfl ⟨rfl, hB2⟩
set_option maxRecDepth 20000 in
set_option maxHeartbeats 2000000 in
theorem iendof_any (m0 m1 m2 m3 m4 m5 : Int) (r0 r1 r2 r3 r4 r5 : Int) (t : Bool) (l : List H11) (st : List S11) (g1 c1 g2 c2 : Nat) (HX : Hid (∀ W : World, W.rangeAt g1 0 (hv11 l) → W.rangeAt g2 0 (sv11 st) → Calls Try.prog 203 #[.agg #[.int .i64 m0, .int .i64 m1, .int .i64 m2, .int .i64 m3, .int .i64 m4, .int .i64 m5, .slice (some ⟨g1, 0, none⟩) l.length c1, .slice (some ⟨g2, 0, none⟩) st.length c2], .int .i64 (st.length : Int)] W fun e w' => e = .returned (.tuple #[.agg #[.int .i64 r0, .int .i64 r1, .int .i64 r2, .int .i64 r3, .int .i64 r4, .int .i64 r5], .bool t]) ∧ Below W.heap.size W w')) (w : World) (h1 : w.rangeAt g1 0 (hv11 l)) (h2 : w.rangeAt g2 0 (sv11 st)) : Calls Try.prog 133 #[.agg #[.int .i64 m0, .int .i64 m1, .int .i64 m2, .int .i64 m3, .int .i64 m4, .int .i64 m5, .slice (some ⟨g1, 0, none⟩) l.length c1, .slice (some ⟨g2, 0, none⟩) st.length c2]] w fun e w' => e = .returned (.tuple #[.agg #[.int .i64 r0, .int .i64 r1, .int .i64 r2, .int .i64 r3, .int .i64 r4, .int .i64 r5], .bool t]) ∧ Below w.heap.size w w' := by
  have R1 := Lib.hid h1
  have R2 := Lib.hid h2
  clear h1 h2
  go_enter Try.func133, Try.ntmps133
  go_wp2_with fail
  generalize hW : (World.alloc _ _ : World) = W0
  have q1 : W0.heap[w.heap.size + 1]? = some oz := by rw [← hW]; exact alloc_at (by simp)
  have hB : Below w.heap.size w W0 := by rw [← hW]; (repeat (first | exact Below.refl _ _ | assumption | refine Below.setCell ?_ (by first | (simp; done) | (simp; omega)) _ | refine Below.alloc ?_ (by first | (simp; done) | (simp; omega)) _ | refine Below.drew ?_))
  clear hW
  refine (HX.out _ (ra_below R1.out hB rfl) (ra_below R2.out hB rfl)).mono ?_
  rintro e W1 ⟨rfl, hb⟩
  replace q1 := rowk q1 hb rfl
  replace hB := below_of hB hb (by have := hB.size; omega)
  clear hb HX
  have z_f := fun j => frozen_of_row W1 _ j _ _ q1
  have z_c := fun j => cell_of_row W1 _ j _ _ _ q1
  go_wp2_with fail
  clear z_f z_c
  have qx := set6a (.int .i64 r0) (.int .i64 r1) (.int .i64 r2) (.int .i64 r3) (.int .i64 r4) (.int .i64 r5) q1
  have hB2 := below6 (g := w.heap.size + 1) (v0 := .int .i64 r0) (v1 := .int .i64 r1) (v2 := .int .i64 r2) (v3 := .int .i64 r3) (v4 := .int .i64 r4) (v5 := .int .i64 r5) hB (by omega)
  generalize (World.setCell _ _ _ : World) = X at qx hB2 ⊢
  have x_c := fun j => cell_of_row X _ j _ _ _ qx
  exact bodyPost_ret (v := .tuple #[.agg #[.int .i64 r0, .int .i64 r1, .int .i64 r2, .int .i64 r3, .int .i64 r4, .int .i64 r5], .bool t]) (by simp [results, Try.results133, go_sem, x_c]) rfl ⟨rfl, hB2⟩
/- Bk11 -/
theorem s8_11 {W : World} {g : Nat} {T : TypeId} {v0 v1 v2 v3 v4 v5 v6 v7 : Value} (u0 u1 u2 u3 u4 u5 : Value) (h : W.heap[g]? = some (.cells #[v0, v1, v2, v3, v4, v5, v6, v7] T (0, 0))) : ((((((W.setCell ⟨g, 0, none⟩ u0).setCell ⟨g, 1, none⟩ u1).setCell ⟨g, 2, none⟩ u2).setCell ⟨g, 3, none⟩ u3).setCell ⟨g, 4, none⟩ u4).setCell ⟨g, 5, none⟩ u5).heap[g]? = some (.cells #[u0, u1, u2, u3, u4, u5, v6, v7] T (0, 0)) := by
  have h1 := heap_setCell_same W g 0 _ _ u0 h
  have h2 := heap_setCell_same _ g 1 _ _ u1 h1
  have h3 := heap_setCell_same _ g 2 _ _ u2 h2
  have h4 := heap_setCell_same _ g 3 _ _ u3 h3
  have h5 := heap_setCell_same _ g 4 _ _ u4 h4
  have h6 := heap_setCell_same _ g 5 _ _ u5 h5
  exact h6
theorem o6k_11 {W : World} {g k : Nat} (u0 u1 u2 u3 u4 u5 : Value) (hg : k ≠ g) : ((((((W.setCell ⟨g, 0, none⟩ u0).setCell ⟨g, 1, none⟩ u1).setCell ⟨g, 2, none⟩ u2).setCell ⟨g, 3, none⟩ u3).setCell ⟨g, 4, none⟩ u4).setCell ⟨g, 5, none⟩ u5).heap[k]? = W.heap[k]? := by
  rw [Below.heap_setCell _ _ _ _ hg, Below.heap_setCell _ _ _ _ hg, Below.heap_setCell _ _ _ _ hg, Below.heap_setCell _ _ _ _ hg, Below.heap_setCell _ _ _ _ hg, Below.heap_setCell _ _ _ _ hg]
theorem b6_11 {B g : Nat} {w W : World} (u0 u1 u2 u3 u4 u5 : Value) (h : Below B w W) (hB : B ≤ g) : Below B w ((((((W.setCell ⟨g, 0, none⟩ u0).setCell ⟨g, 1, none⟩ u1).setCell ⟨g, 2, none⟩ u2).setCell ⟨g, 3, none⟩ u3).setCell ⟨g, 4, none⟩ u4).setCell ⟨g, 5, none⟩ u5) := (((((h.setCell hB _).setCell hB _).setCell hB _).setCell hB _).setCell hB _).setCell hB _
/-- A plan's rows behind six stores into a box above them. -/
theorem Pr11.six {lo g : Nat} {v1 v2 : Value} {l : List H11} {st : List S11} {W X : World} {u0 u1 u2 u3 u4 u5 : Value} (h : Pr11 lo g v1 v2 l st W) (hX : ((((((W.setCell ⟨g, 0, none⟩ u0).setCell ⟨g, 1, none⟩ u1).setCell ⟨g, 2, none⟩ u2).setCell ⟨g, 3, none⟩ u3).setCell ⟨g, 4, none⟩ u4).setCell ⟨g, 5, none⟩ u5) = X) : Pr11 lo g v1 v2 l st X := h.st W X (fun k _ hk => by rw [← hX]; exact o6k_11 _ _ _ _ _ _ (by omega))
theorem iend_yes11 (f : Fn11) (F : List Fn11) (st : List S11) (g1 c1 g2 c2 : Nat) (hst : st.length ≤ 40) (hF : F.length ≤ 4) (hv : ∀ p ∈ st, okS F.length p = true) (w : World) (h1 : w.rangeAt g1 0 (hv11 (F.map t11))) (h2 : w.rangeAt g2 0 (sv11 st)) : Calls Try.prog 133 #[.agg #[.int .i64 (rowv (f 0)), .int .i64 (rowv (f 1)), .int .i64 (rowv (f 2)), .int .i64 (rowv (f 3)), .int .i64 (rowv (f 4)), .int .i64 (rowv (f 5)), .slice (some ⟨g1, 0, none⟩) F.length c1, .slice (some ⟨g2, 0, none⟩) st.length c2]] w fun e w' => e = .returned (.tuple #[.agg #[.int .i64 (rowv (at11 F st f st.length 0)), .int .i64 (rowv (at11 F st f st.length 1)), .int .i64 (rowv (at11 F st f st.length 2)), .int .i64 (rowv (at11 F st f st.length 3)), .int .i64 (rowv (at11 F st f st.length 4)), .int .i64 (rowv (at11 F st f st.length 5))], .bool true]) ∧ Below w.heap.size w w' := by
  have hn4 : (F.map t11).length = F.length := List.length_map t11
  have h := iendof_any (rowv (f 0)) (rowv (f 1)) (rowv (f 2)) (rowv (f 3)) (rowv (f 4)) (rowv (f 5)) (rowv (at11 F st f st.length 0)) (rowv (at11 F st f st.length 1)) (rowv (at11 F st f st.length 2)) (rowv (at11 F st f st.length 3)) (rowv (at11 F st f st.length 4)) (rowv (at11 F st f st.length 5)) true (F.map t11) st g1 c1 g2 c2 (Lib.hid (fun W a b => by rw [hn4]; exact isheetat_yes f F st st.length g1 c1 g2 c2 (Nat.le_refl _) hst hF hv W a b)) w h1 h2
  rw [hn4] at h
  exact h
theorem iend_no11 (m0 m1 m2 m3 m4 m5 : Int) (l : List H11) (st : List S11) (g1 c1 g2 c2 : Nat) (hl : l.length ≤ 1048576) (hst : st.length ≤ 1048576) (hwf : ∀ p ∈ st, (Lit.int .i64 p.x).wf = true ∧ (Lit.int .i64 p.y).wf = true) (hq : okP (m0, m1, m2, m3, m4, m5) l st = false) (w : World) (h1 : w.rangeAt g1 0 (hv11 l)) (h2 : w.rangeAt g2 0 (sv11 st)) : Calls Try.prog 133 #[.agg #[.int .i64 m0, .int .i64 m1, .int .i64 m2, .int .i64 m3, .int .i64 m4, .int .i64 m5, .slice (some ⟨g1, 0, none⟩) l.length c1, .slice (some ⟨g2, 0, none⟩) st.length c2]] w fun e w' => e = .returned (.tuple #[.agg #[.int .i64 0, .int .i64 0, .int .i64 0, .int .i64 0, .int .i64 0, .int .i64 0], .bool false]) ∧ Below w.heap.size w w' :=
  iendof_any m0 m1 m2 m3 m4 m5 0 0 0 0 0 0 false l st g1 c1 g2 c2 (Lib.hid (fun W a b => isheetat_no0 m0 m1 m2 m3 m4 m5 l st (st.length : Int) g1 c1 g2 c2 hl hst hwf hq W a b)) w h1 h2
set_option maxRecDepth 20000 in
set_option maxHeartbeats 4000000 in
theorem iback_yes (f : Fn11) (F : List Fn11) (st : List S11) (g1 c1 g2 c2 : Nat) (hst : st.length ≤ 40) (hF : F.length ≤ 4) (hv : ∀ p ∈ st, okS F.length p = true) (hk : ∀ p ∈ st, p.k = 1) (w : World) (h1 : w.rangeAt g1 0 (hv11 (F.map t11))) (h2 : w.rangeAt g2 0 (sv11 st)) : Calls Try.prog 42 #[.agg #[.int .i64 (rowv (f 0)), .int .i64 (rowv (f 1)), .int .i64 (rowv (f 2)), .int .i64 (rowv (f 3)), .int .i64 (rowv (f 4)), .int .i64 (rowv (f 5)), .slice (some ⟨g1, 0, none⟩) F.length c1, .slice (some ⟨g2, 0, none⟩) st.length c2]] w (TP11 (rowv (at11 F st f st.length 0)) (rowv (at11 F st f st.length 1)) (rowv (at11 F st f st.length 2)) (rowv (at11 F st f st.length 3)) (rowv (at11 F st f st.length 4)) (rowv (at11 F st f st.length 5)) (F.map t11) st.reverse true w) := by
  have hn4 : (F.map t11).length = F.length := List.length_map t11
  have HX := Lib.hid (fun W a b => iend_yes11 f F st g1 c1 g2 c2 hst hF hv W a b)
  have hany : (st.any fun p => p.k != 1) = false := by
    rw [Bool.eq_false_iff]
    intro hh
    obtain ⟨p, hp, hpp⟩ := List.any_eq_true.mp hh
    rw [hk p hp] at hpp
    cases hpp
  have HC := Lib.hid (fun W a => icf_11 st (by omega) g2 c2 W a)
  rw [hany] at HC
  have HHV := Lib.hid (fun W a b => ihav_11 (rowv (f 0)) (rowv (f 1)) (rowv (f 2)) (rowv (f 3)) (rowv (f 4)) (rowv (f 5)) (.slice (some ⟨g2, 0, none⟩) st.length c2) (F.map t11) st g1 c1 g2 c2 (by rw [hn4]; omega) (by omega) W a b)
  rw [hn4] at HHV
  have HR := Lib.hid (fun B g cap W h => rev_11 st (by omega) B g cap W h)
  have R1 := Lib.hid h1
  have R2 := Lib.hid h2
  have HFL := Lib.hid hn4
  clear h1 h2 hF hv hn4 hany hk hst
  go_enter Try.func42, Try.ntmps42
  go_wp2_with fail
  generalize hW : (World.alloc _ _ : World) = W0
  have q0 : W0.heap[w.heap.size]? = some (Obj.cells #[.int .i64 (rowv (f 0)), .int .i64 (rowv (f 1)), .int .i64 (rowv (f 2)), .int .i64 (rowv (f 3)), .int .i64 (rowv (f 4)), .int .i64 (rowv (f 5)), .slice (some ⟨g1, 0, none⟩) F.length c1, .slice (some ⟨g2, 0, none⟩) st.length c2] 62 (0, 0)) := by rw [← hW]; exact alloc_past (alloc_at rfl)
  have q1 : W0.heap[w.heap.size + 1]? = some (pz11 62) := by rw [← hW]; exact alloc_at (by simp)
  have hB : Below w.heap.size w W0 := by rw [← hW]; (repeat (first | exact Below.refl _ _ | assumption | refine Below.setCell ?_ (by first | (simp; done) | (simp; omega)) _ | refine Below.alloc ?_ (by first | (simp; done) | (simp; omega)) _ | refine Below.drew ?_))
  have hsz : w.heap.size + 2 ≤ W0.heap.size := by rw [← hW]; simp
  clear hW
  refine (HX.out _ (ra_below R1.out hB rfl) (ra_below R2.out hB rfl)).mono ?_
  rintro e W1 ⟨rfl, hb⟩
  replace q0 := rowk q0 hb rfl
  replace q1 := rowk q1 hb rfl
  replace hB := below_of hB hb (by omega)
  replace hsz := Nat.le_trans hsz hb.size
  clear hb HX
  have q4 : (W1.alloc (.cells #[.int .i64 (rowv (at11 F st f st.length 0)), .int .i64 (rowv (at11 F st f st.length 1)), .int .i64 (rowv (at11 F st f st.length 2)), .int .i64 (rowv (at11 F st f st.length 3)), .int .i64 (rowv (at11 F st f st.length 4)), .int .i64 (rowv (at11 F st f st.length 5))] 28)).heap[W1.heap.size]? = some (.cells #[.int .i64 (rowv (at11 F st f st.length 0)), .int .i64 (rowv (at11 F st f st.length 1)), .int .i64 (rowv (at11 F st f st.length 2)), .int .i64 (rowv (at11 F st f st.length 3)), .int .i64 (rowv (at11 F st f st.length 4)), .int .i64 (rowv (at11 F st f st.length 5))] 28 (0, 0)) := alloc_at rfl
  replace q0 := alloc_past (o := .cells #[.int .i64 (rowv (at11 F st f st.length 0)), .int .i64 (rowv (at11 F st f st.length 1)), .int .i64 (rowv (at11 F st f st.length 2)), .int .i64 (rowv (at11 F st f st.length 3)), .int .i64 (rowv (at11 F st f st.length 4)), .int .i64 (rowv (at11 F st f st.length 5))] 28) q0
  replace q1 := alloc_past (o := .cells #[.int .i64 (rowv (at11 F st f st.length 0)), .int .i64 (rowv (at11 F st f st.length 1)), .int .i64 (rowv (at11 F st f st.length 2)), .int .i64 (rowv (at11 F st f st.length 3)), .int .i64 (rowv (at11 F st f st.length 4)), .int .i64 (rowv (at11 F st f st.length 5))] 28) q1
  replace hB := hB.alloc (by omega) (.cells #[.int .i64 (rowv (at11 F st f st.length 0)), .int .i64 (rowv (at11 F st f st.length 1)), .int .i64 (rowv (at11 F st f st.length 2)), .int .i64 (rowv (at11 F st f st.length 3)), .int .i64 (rowv (at11 F st f st.length 4)), .int .i64 (rowv (at11 F st f st.length 5))] 28)
  have hs4 : (W1.alloc (.cells #[.int .i64 (rowv (at11 F st f st.length 0)), .int .i64 (rowv (at11 F st f st.length 1)), .int .i64 (rowv (at11 F st f st.length 2)), .int .i64 (rowv (at11 F st f st.length 3)), .int .i64 (rowv (at11 F st f st.length 4)), .int .i64 (rowv (at11 F st f st.length 5))] 28)).heap.size = W1.heap.size + 1 := by simp
  have a_c := fun j => cell_of_row _ _ j _ _ _ q0
  go_wp2_with fail
  clear a_c
  generalize (World.alloc _ _ : World) = V at q0 q1 q4 hB hs4 ⊢
  generalize W1.heap.size = b4 at q4 hs4 hsz ⊢
  refine (HC.out _ (ra_below R2.out hB rfl)).mono ?_
  rintro e W2 ⟨rfl, hb⟩
  replace q0 := rowk q0 hb rfl
  replace q1 := rowk q1 hb rfl
  replace q4 := rowk q4 hb rfl
  have hs2 := hb.size
  replace hB := below_of hB hb (by omega)
  clear hb HC
  have a_c := fun j => cell_of_row W2 _ j _ _ _ q0
  go_wp2_with fail
  clear a_c
  refine (HHV.out _ (ra_below R1.out hB rfl) (ra_below R2.out hB rfl)).mono ?_
  rintro e W3 ⟨ga, ka, gb, kb, he, hp, hb⟩
  rw [HFL.out] at he hp
  subst he
  replace q1 := rowk q1 hb rfl
  replace q4 := rowk q4 hb rfl
  have hs3 := hb.size
  replace hB := below_of hB hb (by omega)
  clear hb HHV q0
  have a_c := fun j => cell_of_row (W3.alloc (.cells #[.int .i64 (rowv (f 0)), .int .i64 (rowv (f 1)), .int .i64 (rowv (f 2)), .int .i64 (rowv (f 3)), .int .i64 (rowv (f 4)), .int .i64 (rowv (f 5)), .slice (some ⟨ga, 0, none⟩) F.length ka, .slice (some ⟨gb, 0, none⟩) st.length kb] 62)) _ j _ _ _ (alloc_past q4)
  have gne : b4 ≠ W3.heap.size := by omega
  have gne2 : W3.heap.size ≠ b4 := by omega
  have hlo : w.heap.size + 1 < W2.heap.size := by omega
  have q6 : (W3.alloc (.cells #[.int .i64 (rowv (at11 F st f st.length 0)), .int .i64 (rowv (at11 F st f st.length 1)), .int .i64 (rowv (at11 F st f st.length 2)), .int .i64 (rowv (at11 F st f st.length 3)), .int .i64 (rowv (at11 F st f st.length 4)), .int .i64 (rowv (at11 F st f st.length 5)), .slice (some ⟨ga, 0, none⟩) F.length ka, .slice (some ⟨gb, 0, none⟩) st.length kb] 62)).heap[W3.heap.size]? = some (.cells #[.int .i64 (rowv (at11 F st f st.length 0)), .int .i64 (rowv (at11 F st f st.length 1)), .int .i64 (rowv (at11 F st f st.length 2)), .int .i64 (rowv (at11 F st f st.length 3)), .int .i64 (rowv (at11 F st f st.length 4)), .int .i64 (rowv (at11 F st f st.length 5)), .slice (some ⟨ga, 0, none⟩) F.length ka, .slice (some ⟨gb, 0, none⟩) st.length kb] 62 (0, 0)) := alloc_at rfl
  replace hp := hp.st W3 (W3.alloc (.cells #[.int .i64 (rowv (at11 F st f st.length 0)), .int .i64 (rowv (at11 F st f st.length 1)), .int .i64 (rowv (at11 F st f st.length 2)), .int .i64 (rowv (at11 F st f st.length 3)), .int .i64 (rowv (at11 F st f st.length 4)), .int .i64 (rowv (at11 F st f st.length 5)), .slice (some ⟨ga, 0, none⟩) F.length ka, .slice (some ⟨gb, 0, none⟩) st.length kb] 62)) (fun k _ hk => ((Below.refl W3.heap.size W3).alloc (Nat.le_refl _) _).block k hk)
  replace q1 := alloc_past (o := (.cells #[.int .i64 (rowv (at11 F st f st.length 0)), .int .i64 (rowv (at11 F st f st.length 1)), .int .i64 (rowv (at11 F st f st.length 2)), .int .i64 (rowv (at11 F st f st.length 3)), .int .i64 (rowv (at11 F st f st.length 4)), .int .i64 (rowv (at11 F st f st.length 5)), .slice (some ⟨ga, 0, none⟩) F.length ka, .slice (some ⟨gb, 0, none⟩) st.length kb] 62)) q1
  replace hB := hB.alloc (by omega) (.cells #[.int .i64 (rowv (at11 F st f st.length 0)), .int .i64 (rowv (at11 F st f st.length 1)), .int .i64 (rowv (at11 F st f st.length 2)), .int .i64 (rowv (at11 F st f st.length 3)), .int .i64 (rowv (at11 F st f st.length 4)), .int .i64 (rowv (at11 F st f st.length 5)), .slice (some ⟨ga, 0, none⟩) F.length ka, .slice (some ⟨gb, 0, none⟩) st.length kb] 62)
  have Q6 := Lib.hid q6
  have Q1 := Lib.hid q1
  have HPP := Lib.hid hp
  have HBB := Lib.hid hB
  have HLO := Lib.hid hlo
  clear q6 q1 hp q4 hB hlo
  go_wp2_with fail
  clear a_c gne gne2
  have hgb := HPP.out.2.2.2.1 gb rfl
  have hga := HPP.out.2.2.1 ga rfl
  have hgb2 := (HPP.out.2.1.lt gb rfl).1
  have hne : ga ≠ gb := fun e => HPP.out.2.2.2.2 ga rfl (by rw [e]; rfl)
  have hs6 : (W3.alloc (.cells #[.int .i64 (rowv (at11 F st f st.length 0)), .int .i64 (rowv (at11 F st f st.length 1)), .int .i64 (rowv (at11 F st f st.length 2)), .int .i64 (rowv (at11 F st f st.length 3)), .int .i64 (rowv (at11 F st f st.length 4)), .int .i64 (rowv (at11 F st f st.length 5)), .slice (some ⟨ga, 0, none⟩) F.length ka, .slice (some ⟨gb, 0, none⟩) st.length kb] 62)).heap.size = W3.heap.size + 1 := by simp
  generalize (World.alloc _ _ : World) = V6 at Q6 Q1 HPP HBB hs6 ⊢
  refine (HR.out _ _ _ _ HPP.out.2.1).mono ?_
  rintro e W5 ⟨rfl, ho, hg⟩
  have q6 := (hg.block _ (by omega) (by simp; omega)).trans Q6.out
  have q1 := (hg.block _ (by have := (Array.getElem?_eq_some_iff.1 Q1.out).1; exact this) (by have := HLO.out; simp; omega)).trans Q1.out
  have hs5 := hg.size
  have hp : Pr11 W2.heap.size W5.heap.size (.slice (some ⟨ga, 0, none⟩) F.length ka) (.slice (some ⟨gb, 0, none⟩) st.length kb) (F.map t11) st.reverse W5 := by
    refine ⟨HPP.out.1.kept hg (.inr (by simp [Value.ownBlock]; omega)), by rw [List.length_reverse]; exact ho, fun k hk => ?_, fun k hk => ?_, HPP.out.2.2.2.2⟩
    · have := HPP.out.2.2.1 k hk; omega
    · have := HPP.out.2.2.2.1 k hk; omega
  have hB : Below w.heap.size w W5 := HBB.out.grown hg HBB.out.size (fun k hk => by cases hk; have := HLO.out; omega)
  have hlo := HLO.out
  clear HPP Q6 Q1 HBB HLO HR ho hg hgb hga hgb2 hne hs6 hs5
  have z_f := fun j => frozen_of_row W5 _ j _ _ q1
  have z_c := fun j => cell_of_row W5 _ j _ _ _ q1
  have y_c := fun j => cell_of_row W5 _ j _ _ _ q6
  have Q1 := Lib.hid q1
  have HPP := Lib.hid hp
  have hz1 : w.heap.size + 1 < W2.heap.size := hlo
  clear q1 q6 hp
  go_wp2_with fail
  clear z_f z_c y_c
  have HF := fun X hX => Lib.hid (box_put11 (w := w) (X := X) (lo := W2.heap.size) (m0 := rowv (at11 F st f st.length 0)) (m1 := rowv (at11 F st f st.length 1)) (m2 := rowv (at11 F st f st.length 2)) (m3 := rowv (at11 F st f st.length 3)) (m4 := rowv (at11 F st f st.length 4)) (m5 := rowv (at11 F st f st.length 5)) Q1.out HPP.out hz1 (by omega) (by omega) hB hX)
  generalize hX : (World.setCell _ _ _ : World) = X
  replace HF := HF X hX
  have x_c := fun j => cell_of_row X _ j _ _ _ HF.out.1
  exact bodyPost_ret (v := .tuple #[.agg #[.int .i64 (rowv (at11 F st f st.length 0)), .int .i64 (rowv (at11 F st f st.length 1)), .int .i64 (rowv (at11 F st f st.length 2)), .int .i64 (rowv (at11 F st f st.length 3)), .int .i64 (rowv (at11 F st f st.length 4)), .int .i64 (rowv (at11 F st f st.length 5)), .slice (some ⟨ga, 0, none⟩) F.length ka, .slice (some ⟨gb, 0, none⟩) st.length kb], .bool true]) (by simp [results, Try.results42, go_sem, x_c]) rfl ⟨_, _, rfl, HF.out.2⟩

set_option maxRecDepth 20000 in
set_option maxHeartbeats 4000000 in
theorem iback_bad (f : Fn11) (F : List Fn11) (st : List S11) (g1 c1 g2 c2 : Nat) (hst : st.length ≤ 40) (hF : F.length ≤ 4) (hv : ∀ p ∈ st, okS F.length p = true) (hk : ¬ ∀ p ∈ st, p.k = 1) (w : World) (h1 : w.rangeAt g1 0 (hv11 (F.map t11))) (h2 : w.rangeAt g2 0 (sv11 st)) : Calls Try.prog 42 #[.agg #[.int .i64 (rowv (f 0)), .int .i64 (rowv (f 1)), .int .i64 (rowv (f 2)), .int .i64 (rowv (f 3)), .int .i64 (rowv (f 4)), .int .i64 (rowv (f 5)), .slice (some ⟨g1, 0, none⟩) F.length c1, .slice (some ⟨g2, 0, none⟩) st.length c2]] w (TP11 0 0 0 0 0 0 [] [] false w) := by
  have HX := Lib.hid (fun W a b => iend_yes11 f F st g1 c1 g2 c2 hst hF hv W a b)
  have hany : (st.any fun p => p.k != 1) = true := by
    cases hq : st.any fun p => p.k != 1
    · exfalso
      refine hk fun p hp => ?_
      have := List.any_eq_false.1 hq p hp
      simpa using this
    · rfl
  have HC := Lib.hid (fun W a => icf_11 st (by omega) g2 c2 W a)
  rw [hany] at HC
  have R1 := Lib.hid h1
  have R2 := Lib.hid h2
  clear h1 h2 hF hv hany hk hst
  go_enter Try.func42, Try.ntmps42
  go_wp2_with fail
  generalize hW : (World.alloc _ _ : World) = W0
  have q0 : W0.heap[w.heap.size]? = some (Obj.cells #[.int .i64 (rowv (f 0)), .int .i64 (rowv (f 1)), .int .i64 (rowv (f 2)), .int .i64 (rowv (f 3)), .int .i64 (rowv (f 4)), .int .i64 (rowv (f 5)), .slice (some ⟨g1, 0, none⟩) F.length c1, .slice (some ⟨g2, 0, none⟩) st.length c2] 62 (0, 0)) := by rw [← hW]; exact alloc_past (alloc_at rfl)
  have q1 : W0.heap[w.heap.size + 1]? = some (pz11 62) := by rw [← hW]; exact alloc_at (by simp)
  have hB : Below w.heap.size w W0 := by rw [← hW]; (repeat (first | exact Below.refl _ _ | assumption | refine Below.setCell ?_ (by first | (simp; done) | (simp; omega)) _ | refine Below.alloc ?_ (by first | (simp; done) | (simp; omega)) _ | refine Below.drew ?_))
  have hsz : w.heap.size + 2 ≤ W0.heap.size := by rw [← hW]; simp
  clear hW
  refine (HX.out _ (ra_below R1.out hB rfl) (ra_below R2.out hB rfl)).mono ?_
  rintro e W1 ⟨rfl, hb⟩
  replace q0 := rowk q0 hb rfl
  replace q1 := rowk q1 hb rfl
  replace hB := below_of hB hb (by omega)
  replace hsz := Nat.le_trans hsz hb.size
  clear hb HX
  have q4 : (W1.alloc (.cells #[.int .i64 (rowv (at11 F st f st.length 0)), .int .i64 (rowv (at11 F st f st.length 1)), .int .i64 (rowv (at11 F st f st.length 2)), .int .i64 (rowv (at11 F st f st.length 3)), .int .i64 (rowv (at11 F st f st.length 4)), .int .i64 (rowv (at11 F st f st.length 5))] 28)).heap[W1.heap.size]? = some (.cells #[.int .i64 (rowv (at11 F st f st.length 0)), .int .i64 (rowv (at11 F st f st.length 1)), .int .i64 (rowv (at11 F st f st.length 2)), .int .i64 (rowv (at11 F st f st.length 3)), .int .i64 (rowv (at11 F st f st.length 4)), .int .i64 (rowv (at11 F st f st.length 5))] 28 (0, 0)) := alloc_at rfl
  replace q0 := alloc_past (o := .cells #[.int .i64 (rowv (at11 F st f st.length 0)), .int .i64 (rowv (at11 F st f st.length 1)), .int .i64 (rowv (at11 F st f st.length 2)), .int .i64 (rowv (at11 F st f st.length 3)), .int .i64 (rowv (at11 F st f st.length 4)), .int .i64 (rowv (at11 F st f st.length 5))] 28) q0
  replace q1 := alloc_past (o := .cells #[.int .i64 (rowv (at11 F st f st.length 0)), .int .i64 (rowv (at11 F st f st.length 1)), .int .i64 (rowv (at11 F st f st.length 2)), .int .i64 (rowv (at11 F st f st.length 3)), .int .i64 (rowv (at11 F st f st.length 4)), .int .i64 (rowv (at11 F st f st.length 5))] 28) q1
  replace hB := hB.alloc (by omega) (.cells #[.int .i64 (rowv (at11 F st f st.length 0)), .int .i64 (rowv (at11 F st f st.length 1)), .int .i64 (rowv (at11 F st f st.length 2)), .int .i64 (rowv (at11 F st f st.length 3)), .int .i64 (rowv (at11 F st f st.length 4)), .int .i64 (rowv (at11 F st f st.length 5))] 28)
  have hs4 : (W1.alloc (.cells #[.int .i64 (rowv (at11 F st f st.length 0)), .int .i64 (rowv (at11 F st f st.length 1)), .int .i64 (rowv (at11 F st f st.length 2)), .int .i64 (rowv (at11 F st f st.length 3)), .int .i64 (rowv (at11 F st f st.length 4)), .int .i64 (rowv (at11 F st f st.length 5))] 28)).heap.size = W1.heap.size + 1 := by simp
  have a_c := fun j => cell_of_row _ _ j _ _ _ q0
  go_wp2_with fail
  clear a_c
  generalize (World.alloc _ _ : World) = V at q0 q1 q4 hB hs4 ⊢
  generalize W1.heap.size = b4 at q4 hs4 hsz ⊢
  refine (HC.out _ (ra_below R2.out hB rfl)).mono ?_
  rintro e W2 ⟨rfl, hb⟩
  replace q0 := rowk q0 hb rfl
  replace q1 := rowk q1 hb rfl
  replace q4 := rowk q4 hb rfl
  have hs2 := hb.size
  replace hB := below_of hB hb (by omega)
  clear hb HC
  have z_f := fun j => frozen_of_row W2 _ j _ _ q1
  have z_c := fun j => cell_of_row W2 _ j _ _ _ q1
  clear q0 q4
  have hz1 : w.heap.size + 1 < W2.heap.size := (Array.getElem?_eq_some_iff.1 q1).1
  have Q1 := Lib.hid q1
  clear q1
  go_wp2_with fail
  clear z_f z_c
  have HF := fun X hX => Lib.hid (box_put11 (w := w) (X := X) (lo := W2.heap.size) (m0 := 0) (m1 := 0) (m2 := 0) (m3 := 0) (m4 := 0) (m5 := 0) Q1.out (Pr11.nil _ _ _) hz1 (by omega) (by omega) hB hX)
  generalize hX : (World.setCell _ _ _ : World) = X
  replace HF := HF X hX
  have x_c := fun j => cell_of_row X _ j _ _ _ HF.out.1
  exact bodyPost_ret (v := .tuple #[.agg #[.int .i64 0, .int .i64 0, .int .i64 0, .int .i64 0, .int .i64 0, .int .i64 0, .slice none 0 0, .slice none 0 0], .bool false]) (by simp [results, Try.results42, go_sem, x_c]) rfl ⟨_, _, rfl, HF.out.2⟩

set_option maxRecDepth 20000 in
set_option maxHeartbeats 4000000 in
theorem iback_no (m0 m1 m2 m3 m4 m5 : Int) (l : List H11) (st : List S11) (g1 c1 g2 c2 : Nat) (hl : l.length ≤ 1048576) (hst : st.length ≤ 1048576) (hwf : ∀ p ∈ st, (Lit.int .i64 p.x).wf = true ∧ (Lit.int .i64 p.y).wf = true) (hq : okP (m0, m1, m2, m3, m4, m5) l st = false) (w : World) (h1 : w.rangeAt g1 0 (hv11 l)) (h2 : w.rangeAt g2 0 (sv11 st)) : Calls Try.prog 42 #[.agg #[.int .i64 m0, .int .i64 m1, .int .i64 m2, .int .i64 m3, .int .i64 m4, .int .i64 m5, .slice (some ⟨g1, 0, none⟩) l.length c1, .slice (some ⟨g2, 0, none⟩) st.length c2]] w (TP11 0 0 0 0 0 0 [] [] false w) := by
  have HX := Lib.hid (fun W a b => iend_no11 m0 m1 m2 m3 m4 m5 l st g1 c1 g2 c2 hl hst hwf hq W a b)
  have R1 := Lib.hid h1
  have R2 := Lib.hid h2
  clear h1 h2 hwf hq
  go_enter Try.func42, Try.ntmps42
  go_wp2_with fail
  generalize hW : (World.alloc _ _ : World) = W0
  have q0 : W0.heap[w.heap.size]? = some (Obj.cells #[.int .i64 m0, .int .i64 m1, .int .i64 m2, .int .i64 m3, .int .i64 m4, .int .i64 m5, .slice (some ⟨g1, 0, none⟩) l.length c1, .slice (some ⟨g2, 0, none⟩) st.length c2] 62 (0, 0)) := by rw [← hW]; exact alloc_past (alloc_at rfl)
  have q1 : W0.heap[w.heap.size + 1]? = some (pz11 62) := by rw [← hW]; exact alloc_at (by simp)
  have hB : Below w.heap.size w W0 := by rw [← hW]; (repeat (first | exact Below.refl _ _ | assumption | refine Below.setCell ?_ (by first | (simp; done) | (simp; omega)) _ | refine Below.alloc ?_ (by first | (simp; done) | (simp; omega)) _ | refine Below.drew ?_))
  have hsz : w.heap.size + 2 ≤ W0.heap.size := by rw [← hW]; simp
  clear hW
  refine (HX.out _ (ra_below R1.out hB rfl) (ra_below R2.out hB rfl)).mono ?_
  rintro e W1 ⟨rfl, hb⟩
  replace q1 := rowk q1 hb rfl
  replace hB := below_of hB hb (by omega)
  have hs1 : w.heap.size + 2 ≤ W1.heap.size := Nat.le_trans hsz hb.size
  clear hb HX q0
  replace q1 := alloc_past (o := .cells #[.int .i64 0, .int .i64 0, .int .i64 0, .int .i64 0, .int .i64 0, .int .i64 0] 28) q1
  have hlt1 := (Array.getElem?_eq_some_iff.1 q1).1
  replace hB := hB.alloc (by have := hB.size; omega) (.cells #[.int .i64 0, .int .i64 0, .int .i64 0, .int .i64 0, .int .i64 0, .int .i64 0] 28)
  have z_f := fun j => frozen_of_row _ _ j _ _ q1
  have z_c := fun j => cell_of_row _ _ j _ _ _ q1
  have ne1 : w.heap.size + 1 ≠ W1.heap.size := by omega
  have Q1 := Lib.hid q1
  clear q1
  go_wp2_with fail
  clear z_f z_c
  have HF := fun X hX => Lib.hid (box_put11 (w := w) (X := X) (lo := W1.heap.size + 1) (m0 := 0) (m1 := 0) (m2 := 0) (m3 := 0) (m4 := 0) (m5 := 0) Q1.out (Pr11.nil _ _ _) (by omega) (by omega) (by omega) hB hX)
  generalize hX : (World.setCell _ _ _ : World) = X
  replace HF := HF X hX
  have x_c := fun j => cell_of_row X _ j _ _ _ HF.out.1
  exact bodyPost_ret (v := .tuple #[.agg #[.int .i64 0, .int .i64 0, .int .i64 0, .int .i64 0, .int .i64 0, .int .i64 0, .slice none 0 0, .slice none 0 0], .bool false]) (by simp [results, Try.results42, go_sem, x_c]) rfl ⟨_, _, rfl, HF.out.2⟩
/- Bl11 -/
/-- The last k steps, the last one first. -/
def rt11 (st : List S11) (k : Nat) : List S11 := st.reverse.take k
theorem rt11_succ {st : List S11} {j : Nat} (hj : j < st.length) : rt11 st (st.length - 1 - j + 1) = rt11 st (st.length - 1 - j) ++ [st[j]] := by
  unfold rt11
  rw [List.take_add_one]
  congr 1
  rw [List.getElem?_reverse (by omega), show st.length - 1 - (st.length - 1 - j) = j by omega, List.getElem?_eq_getElem hj]
  rfl
theorem rt11_len (st : List S11) (k : Nat) : (rt11 st k).length ≤ k := by unfold rt11; rw [List.length_take]; omega
theorem rt11_all (st : List S11) : rt11 st st.length = st.reverse := by unfold rt11; rw [List.take_of_length_le (by simp)]
theorem sv11_snoc9 (l : List S11) (p : S11) : sv11 (l ++ [p]) = sv11 l ++ cs11 p := by simp [sv11, List.flatMap_append]
theorem step_new9 (W : World) (p : S11) (t : TypeId) : ∀ j u, (cs11 p)[j]? = some u → (W.alloc (.cells #[.int .i64 p.k, .int .i64 p.s, .int .i64 p.x, .int .i64 p.y] t)).cell? ((⟨W.heap.size, 0, none⟩ : Addr).add j) = some u := by
  intro j u hu
  rw [Addr.add_mid, Nat.zero_add]
  have h := cell_of_row (W.alloc (.cells #[.int .i64 p.k, .int .i64 p.s, .int .i64 p.x, .int .i64 p.y] t)) W.heap.size j _ _ _ (alloc_at rfl)
  rw [h, ← hu]
  show ((cs11 p).toArray)[j]? = _
  simp
/-- Midway: the two boxes, the row of steps so far. -/
def Rb_11 (o0 o1 : Obj) (l : List S11) (v : Value) (w U : World) : Prop := U.heap[w.heap.size]? = some o0 ∧ U.heap[w.heap.size + 1]? = some o1 ∧ U.ownsRow (w.heap.size + 2) 73 4 v l.length (sv11 l) ∧ w.heap.size + 2 ≤ U.heap.size ∧ Below w.heap.size w U
section
variable {o0 o1 : Obj} {l : List S11} {v v' : Value} {w U V : World}
theorem Rb_11.far {M : Nat} (h : Rb_11 o0 o1 l v w U) (hb : Below M U V) (hM : M = U.heap.size) : Rb_11 o0 o1 l v w V := ⟨rowk h.1 hb hM, rowk h.2.1 hb hM, h.2.2.1.kept (grown_below hb hM) (by cases hq : v.ownBlock <;> simp), Nat.le_trans h.2.2.2.1 hb.size, below_of h.2.2.2.2 hb (by have := h.2.2.2.2.size; omega)⟩
theorem Rb_11.al (h : Rb_11 o0 o1 l v w U) (o : Obj) : Rb_11 o0 o1 l v w (U.alloc o) := h.far (M := U.heap.size) ((Below.refl _ _).alloc (Nat.le_refl _) o) rfl
theorem Rb_11.snoc {p : S11} (h : Rb_11 o0 o1 l v w U) (ho : V.ownsRow (w.heap.size + 2) 73 4 v' (l.length + 1) (sv11 l ++ cs11 p)) (hg : U.grownBy V v.ownBlock) : Rb_11 o0 o1 (l ++ [p]) v' w V := by
  have hb : ∀ k, v.ownBlock = some k → w.heap.size + 2 ≤ k := fun k hk => (h.2.2.1.lt k hk).1
  have hlt0 := (Array.getElem?_eq_some_iff.1 h.1).1
  have hlt1 := (Array.getElem?_eq_some_iff.1 h.2.1).1
  refine ⟨(hg.block _ hlt0 (fun e => by have := hb _ e.symm; omega)).trans h.1, (hg.block _ hlt1 (fun e => by have := hb _ e.symm; omega)).trans h.2.1, ?_, Nat.le_trans h.2.2.2.1 hg.size, h.2.2.2.2.grown hg (by have := h.2.2.2.1; omega) (fun k hk => by have := hb k hk; omega)⟩
  rw [List.length_append, List.length_singleton, sv11_snoc9]
  exact ho
theorem Rb_11.step {p : S11} {gs : Nat} {st : List S11} {k : Nat} (h : Rb_11 o0 o1 l v w U) (R : w.rangeAt gs 0 (sv11 st)) (hk : k < st.length) (hp : st[k] = p) : U.cell? ⟨gs, k * 4, none⟩ = some (.int .i64 p.k) ∧ U.cell? ⟨gs, k * 4 + 1, none⟩ = some (.int .i64 p.s) ∧ U.cell? ⟨gs, k * 4 + 2, none⟩ = some (.int .i64 p.x) ∧ U.cell? ⟨gs, k * 4 + 3, none⟩ = some (.int .i64 p.y) := by
  have h1 := fm_range cs11_len (ra_below R h.2.2.2.2 rfl) hk
  rw [hp] at h1
  exact ⟨h1 0 _ rfl, h1 1 _ rfl, h1 2 _ rfl, h1 3 _ rfl⟩
end
theorem form9 {W : World} {B n k : Nat} {e : TypeId} {v : Value} {xs : List Value} (h : W.ownsRow B e k v n xs) (hn : v ≠ .slice none 0 0) : ∃ g c, v = .slice (some ⟨g, 0, none⟩) n c := by
  rcases h.2 with ⟨e1, _⟩ | ⟨g, c, _, e1, _⟩
  · exact absurd e1 hn
  · exact ⟨g, c, e1⟩
set_option maxRecDepth 20000 in
set_option maxHeartbeats 4000000 in
theorem sback_yes (f : Fn11) (F : List Fn11) (st : List S11) (g1 c1 g2 c2 : Nat) (hst : st.length ≤ 40) (hF : F.length ≤ 4) (hv : ∀ p ∈ st, okS F.length p = true) (hk1 : ∀ p ∈ st, p.k = 1) (w : World) (h1 : w.rangeAt g1 0 (hv11 (F.map t11))) (h2 : w.rangeAt g2 0 (sv11 st)) : Calls Try.prog 41 #[.agg #[.int .i64 (rowv (f 0)), .int .i64 (rowv (f 1)), .int .i64 (rowv (f 2)), .int .i64 (rowv (f 3)), .int .i64 (rowv (f 4)), .int .i64 (rowv (f 5)), .slice (some ⟨g1, 0, none⟩) F.length c1, .slice (some ⟨g2, 0, none⟩) st.length c2]] w (TP11 (rowv (at11 F st f st.length 0)) (rowv (at11 F st f st.length 1)) (rowv (at11 F st f st.length 2)) (rowv (at11 F st f st.length 3)) (rowv (at11 F st f st.length 4)) (rowv (at11 F st f st.length 5)) (F.map t11) st.reverse true w) := by
  have hn4 : (F.map t11).length = F.length := List.length_map t11
  have HP := Lib.hid (fun W a b => lplan_11 (rowv (f 0)) (rowv (f 1)) (rowv (f 2)) (rowv (f 3)) (rowv (f 4)) (rowv (f 5)) (F.map t11) st g1 c1 g2 c2 (by rw [hn4]; omega) (by omega) W a b)
  rw [show okP (rowv (f 0), rowv (f 1), rowv (f 2), rowv (f 3), rowv (f 4), rowv (f 5)) (F.map t11) st = true from okP_of (f := f) hF hst hv, hn4] at HP
  have HHV := Lib.hid (fun (l : List S11) (hl : l.length ≤ 1000) (g2' c2' : Nat) W a b => lown_11 (rowv (f 0)) (rowv (f 1)) (rowv (f 2)) (rowv (f 3)) (rowv (f 4)) (rowv (f 5)) (.slice (some ⟨g2, 0, none⟩) st.length c2) (F.map t11) l g1 c1 g2' c2' (by rw [hn4]; omega) hl W a b)
  rw [hn4] at HHV
  have HAT := Lib.hid (fun W a b => lat_11 (rowv (f 0)) (rowv (f 1)) (rowv (f 2)) (rowv (f 3)) (rowv (f 4)) (rowv (f 5)) f F st g1 c1 g2 c2 st.length (Nat.le_refl _) hst hF hv W a b)
  have HK := Lib.hid hk1
  have R1 := Lib.hid h1
  have R2 := Lib.hid h2
  have HFL := Lib.hid hn4
  clear h1 h2 hF hv hn4 hk1
  obtain ⟨i0, hi, hz0, hz1, hz2⟩ := infos_steps11
  go_enter Try.func41, Try.ntmps41
  go_wp2_with fail
  generalize hW : (World.alloc _ _ : World) = W0
  have q0 : W0.heap[w.heap.size]? = some (Obj.cells #[.int .i64 (rowv (f 0)), .int .i64 (rowv (f 1)), .int .i64 (rowv (f 2)), .int .i64 (rowv (f 3)), .int .i64 (rowv (f 4)), .int .i64 (rowv (f 5)), .slice (some ⟨g1, 0, none⟩) F.length c1, .slice (some ⟨g2, 0, none⟩) st.length c2] 62 (0, 0)) := by rw [← hW]; exact alloc_past (alloc_at rfl)
  have q1 : W0.heap[w.heap.size + 1]? = some (pz11 62) := by rw [← hW]; exact alloc_at (by simp)
  have hB : Below w.heap.size w W0 := by rw [← hW]; (repeat (first | exact Below.refl _ _ | assumption | refine Below.setCell ?_ (by first | (simp; done) | (simp; omega)) _ | refine Below.alloc ?_ (by first | (simp; done) | (simp; omega)) _ | refine Below.drew ?_))
  have hsz : w.heap.size + 2 ≤ W0.heap.size := by rw [← hW]; simp
  clear hW
  refine (HP.out _ (ra_below R1.out hB rfl) (ra_below R2.out hB rfl)).mono ?_
  rintro e W1 ⟨rfl, hb⟩
  replace q0 := rowk q0 hb rfl
  replace q1 := rowk q1 hb rfl
  replace hB := below_of hB hb (by omega)
  replace hsz := Nat.le_trans hsz hb.size
  clear hb HP
  have e1 : IntKind.i64.wrap ((st.length : Int) - 1) = (st.length : Int) - 1 := by rw [IntKind.wrap_i64]; omega
  have e2 : wrap64 ((st.length : Int) - 1) = (st.length : Int) - 1 := by unfold wrap64; omega
  have S0 : Hid (Rb_11 (Obj.cells #[.int .i64 (rowv (f 0)), .int .i64 (rowv (f 1)), .int .i64 (rowv (f 2)), .int .i64 (rowv (f 3)), .int .i64 (rowv (f 4)), .int .i64 (rowv (f 5)), .slice (some ⟨g1, 0, none⟩) F.length c1, .slice (some ⟨g2, 0, none⟩) st.length c2] 62 (0, 0)) (pz11 62) (rt11 st 0) (.slice (some ⟨W1.heap.size, 0, none⟩) 0 0) w (W1.alloc (.cells #[] 73))) := Lib.hid ⟨alloc_past q0, alloc_past q1, World.ownsRow_lit (base := w.heap.size + 2) (e := 73) (size := 4) W1 #[] 0 hsz (by unfold maxLen; omega) rfl, by simp; omega, hB.alloc (by omega) _⟩
  have NN : Hid ((Value.slice (some ⟨W1.heap.size, 0, none⟩) 0 0) ≠ .slice none 0 0) := Lib.hid (by simp)
  have a_c := fun j => cell_of_row _ _ j _ _ _ S0.out.1
  clear q0 q1 hB hsz
  go_wp2_with fail
  clear a_c
  clear e1 e2
  generalize (World.alloc _ _ : World) = W3 at S0 ⊢
  go_loopw [4, 5] (fun a i wr => ∃ (k : Nat) (j : Int), k ≤ st.length ∧ Hid (j = (st.length : Int) - 1 - k) ∧ i = .int .i64 j ∧ Hid (Rb_11 (Obj.cells #[.int .i64 (rowv (f 0)), .int .i64 (rowv (f 1)), .int .i64 (rowv (f 2)), .int .i64 (rowv (f 3)), .int .i64 (rowv (f 4)), .int .i64 (rowv (f 5)), .slice (some ⟨g1, 0, none⟩) F.length c1, .slice (some ⟨g2, 0, none⟩) st.length c2] 62 (0, 0)) (pz11 62) (rt11 st k) a w wr) ∧ Hid (a ≠ .slice none 0 0) ∧ True) (fun _ i _ => (intOf i + 1).toNat)
  case atStart => exact ⟨0, (st.length : Int) - 1, by omega, Lib.hid (by simp), rfl, S0, NN, trivial⟩
  case round =>
    obtain ⟨k, j, hk, HJ, rfl, HB, HNN, HE⟩ := hrel
    clear S0 NN
    have a_c := fun j => cell_of_row _ _ j _ _ _ HB.out.1
    by_cases hlt : k < st.length
    · obtain ⟨jn, rfl⟩ : ∃ n : Nat, j = n := ⟨j.toNat, by have := HJ.out; omega⟩
      have hjk : st.length - 1 - jn = k := by have := HJ.out; omega
      have hjn : jn < st.length := by have := HJ.out; omega
      have hj0 : (0 : Int) ≤ jn := by omega
      have hjl : (jn : Int) < st.length := by omega
      have hge : (jn : Int) ≥ 0 := by omega
      have f1 : IntKind.i64.wrap ((jn : Int) - 1) = (jn : Int) - 1 := by rw [IntKind.wrap_i64]; omega
      have f2 : wrap64 ((jn : Int) - 1) = (jn : Int) - 1 := by unfold wrap64; omega
      have HS := Lib.hid (rt11_succ hjn)
      rw [hjk] at HS
      have HDL := Lib.hid (rt11_len st k)
      clear hjk
      obtain ⟨p, hp⟩ : ∃ p, p = st[jn] := ⟨_, rfl⟩
      rw [← hp] at HS
      obtain ⟨c0, c1', c2', c3⟩ := HB.out.step R2.out hjn hp.symm
      have hpk : p.k = 1 := by rw [hp]; exact HK.out _ (List.getElem_mem hjn)
      clear hp
      obtain ⟨l, hl⟩ : ∃ l, l = rt11 st k := ⟨_, rfl⟩
      rw [← hl] at HB HDL HS
      clear hl
      have HJM : Hid ((jn : Int) - 1 = (st.length : Int) - 1 - ((k + 1 : Nat) : Int)) := Lib.hid (by have := HJ.out; omega)
      have HMM : Hid ((intOf (Value.int .i64 ((jn : Int) - 1)) + 1).toNat < (intOf (Value.int .i64 (jn : Int)) + 1).toNat) := Lib.hid (by simp [intOf])
      clear HJ
      obtain ⟨ps, px, py, rfl⟩ : ∃ s x y, p = ⟨1, s, x, y⟩ := ⟨p.s, p.x, p.y, by cases p; simp only at hpk; subst hpk; rfl⟩
      clear hpk
      dsimp only at c0 c1' c2' c3
      have HA := Lib.hid (HB.out.al (.cells #[.int .i64 1, .int .i64 ps, .int .i64 px, .int .i64 py] 73))
      have HL := Lib.hid (show l.length ≤ 40 by have := HDL.out; omega)
      clear HDL
      go_wp2_with (at_builtin; refine wpList_append_own_at _ rfl _ _ 60 rfl (w.heap.size + 2) 73 i0 (.agg #[.int .i64 0, .int .i64 0, .int .i64 0, .int .i64 0]) 4 32 Try.underlying60 hi hz0 hz1 hz2 rfl (by decide) _ _ _ rfl HA.out.2.2.1 ⟨wr.heap.size, 0, none⟩ 1 1 (cs11 ⟨1, ps, px, py⟩) rfl rfl (step_new9 wr ⟨1, ps, px, py⟩ _) (cs11_one9 ⟨1, ps, px, py⟩) (by have := HL.out; unfold maxLen; omega) (by have := HL.out; omega) HA.out.2.2.2.1 ?_; intro v' w1 hown hgr hnn hat; have R := Lib.hid (HA.out.snoc hown hgr); have HN2 := Lib.hid (fun e => HNN.out (hnn.mp e).1); clear hown hgr hnn hat HA)
      go_roundw
      case rel => exact ⟨k + 1, (jn : Int) - 1, by omega, HJM, rfl, by rw [HS.out]; exact R, Lib.hid HN2.out, trivial⟩
      case measure => exact HMM.out
    · have hjm1 : j = -1 := by have := HJ.out; omega
      subst hjm1
      obtain rfl : k = st.length := by omega
      clear hi hz0 hz1 hz2 HE HJ hk
      have hlen9 : (rt11 st st.length).length ≤ 1000 := by have := rt11_len st st.length; omega
      obtain ⟨l, hl⟩ : ∃ l, l = rt11 st st.length := ⟨_, rfl⟩
      rw [← hl] at HB hlen9
      have HLE := Lib.hid ((rt11_all st).symm.trans hl.symm)
      clear hl
      obtain ⟨gd, cd, rfl⟩ := form9 HB.out.2.2.1 HNN.out
      have OR := Lib.hid (own_range HB.out.2.2.1)
      have q0 := HB.out.1
      have q1 := HB.out.2.1
      have hsz := HB.out.2.2.2.1
      have hB := HB.out.2.2.2.2
      clear HB HNN
      go_wp2_with fail
      clear a_c
      refine (HHV.out l (by omega) gd cd _ (ra_below R1.out hB rfl) OR.out).mono ?_
      rintro e W3 ⟨ga, ka, gb, kb, he, hp, hb⟩
      rw [HFL.out] at he hp
      subst he
      replace q0 := rowk q0 hb rfl
      replace q1 := rowk q1 hb rfl
      have hs3 := hb.size
      replace hB := below_of hB hb (by omega)
      clear hb HHV OR
      have hlo : w.heap.size + 1 < wr.heap.size := by omega
      have q6 : (W3.alloc (.cells #[.int .i64 (rowv (f 0)), .int .i64 (rowv (f 1)), .int .i64 (rowv (f 2)), .int .i64 (rowv (f 3)), .int .i64 (rowv (f 4)), .int .i64 (rowv (f 5)), .slice (some ⟨ga, 0, none⟩) F.length ka, .slice (some ⟨gb, 0, none⟩) l.length kb] 62)).heap[W3.heap.size]? = some (.cells #[.int .i64 (rowv (f 0)), .int .i64 (rowv (f 1)), .int .i64 (rowv (f 2)), .int .i64 (rowv (f 3)), .int .i64 (rowv (f 4)), .int .i64 (rowv (f 5)), .slice (some ⟨ga, 0, none⟩) F.length ka, .slice (some ⟨gb, 0, none⟩) l.length kb] 62 (0, 0)) := alloc_at rfl
      replace hp := hp.st W3 (W3.alloc (.cells #[.int .i64 (rowv (f 0)), .int .i64 (rowv (f 1)), .int .i64 (rowv (f 2)), .int .i64 (rowv (f 3)), .int .i64 (rowv (f 4)), .int .i64 (rowv (f 5)), .slice (some ⟨ga, 0, none⟩) F.length ka, .slice (some ⟨gb, 0, none⟩) l.length kb] 62)) (fun k _ hk => ((Below.refl W3.heap.size W3).alloc (Nat.le_refl _) _).block k hk)
      replace q0 := alloc_past (o := (.cells #[.int .i64 (rowv (f 0)), .int .i64 (rowv (f 1)), .int .i64 (rowv (f 2)), .int .i64 (rowv (f 3)), .int .i64 (rowv (f 4)), .int .i64 (rowv (f 5)), .slice (some ⟨ga, 0, none⟩) F.length ka, .slice (some ⟨gb, 0, none⟩) l.length kb] 62)) q0
      replace q1 := alloc_past (o := (.cells #[.int .i64 (rowv (f 0)), .int .i64 (rowv (f 1)), .int .i64 (rowv (f 2)), .int .i64 (rowv (f 3)), .int .i64 (rowv (f 4)), .int .i64 (rowv (f 5)), .slice (some ⟨ga, 0, none⟩) F.length ka, .slice (some ⟨gb, 0, none⟩) l.length kb] 62)) q1
      replace hB := hB.alloc (by omega) (.cells #[.int .i64 (rowv (f 0)), .int .i64 (rowv (f 1)), .int .i64 (rowv (f 2)), .int .i64 (rowv (f 3)), .int .i64 (rowv (f 4)), .int .i64 (rowv (f 5)), .slice (some ⟨ga, 0, none⟩) F.length ka, .slice (some ⟨gb, 0, none⟩) l.length kb] 62)
      have hs6 : (W3.alloc (.cells #[.int .i64 (rowv (f 0)), .int .i64 (rowv (f 1)), .int .i64 (rowv (f 2)), .int .i64 (rowv (f 3)), .int .i64 (rowv (f 4)), .int .i64 (rowv (f 5)), .slice (some ⟨ga, 0, none⟩) F.length ka, .slice (some ⟨gb, 0, none⟩) l.length kb] 62)).heap.size = W3.heap.size + 1 := by simp
      have a_c := fun j => cell_of_row _ _ j _ _ _ q0
      go_wp2_with fail
      clear a_c
      refine (HAT.out _ (ra_below R1.out hB rfl) (ra_below R2.out hB rfl)).mono ?_
      rintro e W5 ⟨rfl, hb⟩
      replace q1 := rowk q1 hb rfl
      replace q6 := rowk q6 hb rfl
      replace hp := hp.st _ W5 (fun k _ hk => hb.block k (by omega))
      have hs5 := hb.size
      replace hB := below_of hB hb (by omega)
      clear hb q0 HAT
      have y_c := fun j => cell_of_row W5 _ j _ _ _ q6
      have y_f := fun j => frozen_of_row W5 _ j _ _ q6
      have z_c := fun j => cell_of_row W5 _ j _ _ _ q1
      have z_f := fun j => frozen_of_row W5 _ j _ _ q1
      have gne : w.heap.size + 1 ≠ W3.heap.size := by omega
      have gne2 : W3.heap.size ≠ w.heap.size + 1 := by omega
      have Q1 := Lib.hid q1
      have HPP := Lib.hid hp
      clear q1 q6 hp
      go_wp2_with fail
      clear y_c y_f z_c z_f
      have HF := fun X hX => Lib.hid (box_put11 (w := w) (X := X) (U := ((((((W5.setCell ⟨W3.heap.size, 0, none⟩ (.int .i64 (rowv (at11 F st f st.length 0)))).setCell ⟨W3.heap.size, 1, none⟩ (.int .i64 (rowv (at11 F st f st.length 1)))).setCell ⟨W3.heap.size, 2, none⟩ (.int .i64 (rowv (at11 F st f st.length 2)))).setCell ⟨W3.heap.size, 3, none⟩ (.int .i64 (rowv (at11 F st f st.length 3)))).setCell ⟨W3.heap.size, 4, none⟩ (.int .i64 (rowv (at11 F st f st.length 4)))).setCell ⟨W3.heap.size, 5, none⟩ (.int .i64 (rowv (at11 F st f st.length 5))))) (lo := wr.heap.size) (m0 := rowv (at11 F st f st.length 0)) (m1 := rowv (at11 F st f st.length 1)) (m2 := rowv (at11 F st f st.length 2)) (m3 := rowv (at11 F st f st.length 3)) (m4 := rowv (at11 F st f st.length 4)) (m5 := rowv (at11 F st f st.length 5)) ((o6k_11 _ _ _ _ _ _ gne).trans Q1.out) ((HPP.out.six rfl).mono (Nat.le_refl _) (by simp; have := (Array.getElem?_eq_some_iff.1 Q1.out).1; omega)) hlo (by omega) (by omega) (b6_11 _ _ _ _ _ _ hB (by omega)) hX)
      generalize hX : (World.setCell _ _ _ : World) = X
      replace HF := HF X hX
      have x_c := fun j => cell_of_row X _ j _ _ _ HF.out.1
      exact bodyPost_ret (v := .tuple #[.agg #[.int .i64 (rowv (at11 F st f st.length 0)), .int .i64 (rowv (at11 F st f st.length 1)), .int .i64 (rowv (at11 F st f st.length 2)), .int .i64 (rowv (at11 F st f st.length 3)), .int .i64 (rowv (at11 F st f st.length 4)), .int .i64 (rowv (at11 F st f st.length 5)), .slice (some ⟨ga, 0, none⟩) F.length ka, .slice (some ⟨gb, 0, none⟩) l.length kb], .bool true]) (by simp [results, Try.results41, go_sem, x_c]) rfl ⟨_, _, rfl, by rw [HLE.out]; exact HF.out.2⟩
set_option maxRecDepth 20000 in
set_option maxHeartbeats 4000000 in
theorem sback_bad (f : Fn11) (F : List Fn11) (st : List S11) (g1 c1 g2 c2 : Nat) (hst : st.length ≤ 40) (hF : F.length ≤ 4) (hv : ∀ p ∈ st, okS F.length p = true) (hk1 : ¬ ∀ p ∈ st, p.k = 1) (w : World) (h1 : w.rangeAt g1 0 (hv11 (F.map t11))) (h2 : w.rangeAt g2 0 (sv11 st)) : Calls Try.prog 41 #[.agg #[.int .i64 (rowv (f 0)), .int .i64 (rowv (f 1)), .int .i64 (rowv (f 2)), .int .i64 (rowv (f 3)), .int .i64 (rowv (f 4)), .int .i64 (rowv (f 5)), .slice (some ⟨g1, 0, none⟩) F.length c1, .slice (some ⟨g2, 0, none⟩) st.length c2]] w (TP11 0 0 0 0 0 0 [] [] false w) := by
  have hn4 : (F.map t11).length = F.length := List.length_map t11
  have HP := Lib.hid (fun W a b => lplan_11 (rowv (f 0)) (rowv (f 1)) (rowv (f 2)) (rowv (f 3)) (rowv (f 4)) (rowv (f 5)) (F.map t11) st g1 c1 g2 c2 (by rw [hn4]; omega) (by omega) W a b)
  rw [show okP (rowv (f 0), rowv (f 1), rowv (f 2), rowv (f 3), rowv (f 4), rowv (f 5)) (F.map t11) st = true from okP_of (f := f) hF hst hv, hn4] at HP
  have R1 := Lib.hid h1
  have R2 := Lib.hid h2
  have HK := Lib.hid hk1
  clear h1 h2 hF hv hn4 hk1
  obtain ⟨i0, hi, hz0, hz1, hz2⟩ := infos_steps11
  go_enter Try.func41, Try.ntmps41
  go_wp2_with fail
  generalize hW : (World.alloc _ _ : World) = W0
  have q0 : W0.heap[w.heap.size]? = some (Obj.cells #[.int .i64 (rowv (f 0)), .int .i64 (rowv (f 1)), .int .i64 (rowv (f 2)), .int .i64 (rowv (f 3)), .int .i64 (rowv (f 4)), .int .i64 (rowv (f 5)), .slice (some ⟨g1, 0, none⟩) F.length c1, .slice (some ⟨g2, 0, none⟩) st.length c2] 62 (0, 0)) := by rw [← hW]; exact alloc_past (alloc_at rfl)
  have q1 : W0.heap[w.heap.size + 1]? = some (pz11 62) := by rw [← hW]; exact alloc_at (by simp)
  have hB : Below w.heap.size w W0 := by rw [← hW]; (repeat (first | exact Below.refl _ _ | assumption | refine Below.setCell ?_ (by first | (simp; done) | (simp; omega)) _ | refine Below.alloc ?_ (by first | (simp; done) | (simp; omega)) _ | refine Below.drew ?_))
  have hsz : w.heap.size + 2 ≤ W0.heap.size := by rw [← hW]; simp
  clear hW
  refine (HP.out _ (ra_below R1.out hB rfl) (ra_below R2.out hB rfl)).mono ?_
  rintro e W1 ⟨rfl, hb⟩
  replace q0 := rowk q0 hb rfl
  replace q1 := rowk q1 hb rfl
  replace hB := below_of hB hb (by omega)
  replace hsz := Nat.le_trans hsz hb.size
  clear hb HP
  have e1 : IntKind.i64.wrap ((st.length : Int) - 1) = (st.length : Int) - 1 := by rw [IntKind.wrap_i64]; omega
  have e2 : wrap64 ((st.length : Int) - 1) = (st.length : Int) - 1 := by unfold wrap64; omega
  have S0 : Hid (Rb_11 (Obj.cells #[.int .i64 (rowv (f 0)), .int .i64 (rowv (f 1)), .int .i64 (rowv (f 2)), .int .i64 (rowv (f 3)), .int .i64 (rowv (f 4)), .int .i64 (rowv (f 5)), .slice (some ⟨g1, 0, none⟩) F.length c1, .slice (some ⟨g2, 0, none⟩) st.length c2] 62 (0, 0)) (pz11 62) (rt11 st 0) (.slice (some ⟨W1.heap.size, 0, none⟩) 0 0) w (W1.alloc (.cells #[] 73))) := Lib.hid ⟨alloc_past q0, alloc_past q1, World.ownsRow_lit (base := w.heap.size + 2) (e := 73) (size := 4) W1 #[] 0 hsz (by unfold maxLen; omega) rfl, by simp; omega, hB.alloc (by omega) _⟩
  have NN : Hid ((Value.slice (some ⟨W1.heap.size, 0, none⟩) 0 0) ≠ .slice none 0 0) := Lib.hid (by simp)
  have a_c := fun j => cell_of_row _ _ j _ _ _ S0.out.1
  clear q0 q1 hB hsz
  go_wp2_with fail
  clear a_c
  clear e1 e2
  generalize (World.alloc _ _ : World) = W3 at S0 ⊢
  go_loopw [4, 5] (fun a i wr => ∃ (k : Nat) (j : Int), k ≤ st.length ∧ Hid (j = (st.length : Int) - 1 - k) ∧ i = .int .i64 j ∧ Hid (Rb_11 (Obj.cells #[.int .i64 (rowv (f 0)), .int .i64 (rowv (f 1)), .int .i64 (rowv (f 2)), .int .i64 (rowv (f 3)), .int .i64 (rowv (f 4)), .int .i64 (rowv (f 5)), .slice (some ⟨g1, 0, none⟩) F.length c1, .slice (some ⟨g2, 0, none⟩) st.length c2] 62 (0, 0)) (pz11 62) (rt11 st k) a w wr) ∧ Hid (a ≠ .slice none 0 0) ∧ Hid (∀ i (h : i < st.length), st.length - k ≤ i → st[i].k = 1)) (fun _ i _ => (intOf i + 1).toNat)
  case atStart => exact ⟨0, (st.length : Int) - 1, by omega, Lib.hid (by simp), rfl, S0, NN, Lib.hid (fun i h hi => absurd hi (by omega))⟩
  case round =>
    obtain ⟨k, j, hk, HJ, rfl, HB, HNN, HE⟩ := hrel
    clear S0 NN
    have a_c := fun j => cell_of_row _ _ j _ _ _ HB.out.1
    by_cases hlt : k < st.length
    · obtain ⟨jn, rfl⟩ : ∃ n : Nat, j = n := ⟨j.toNat, by have := HJ.out; omega⟩
      have hjk : st.length - 1 - jn = k := by have := HJ.out; omega
      have hjn : jn < st.length := by have := HJ.out; omega
      have hj0 : (0 : Int) ≤ jn := by omega
      have hjl : (jn : Int) < st.length := by omega
      have hge : (jn : Int) ≥ 0 := by omega
      have f1 : IntKind.i64.wrap ((jn : Int) - 1) = (jn : Int) - 1 := by rw [IntKind.wrap_i64]; omega
      have f2 : wrap64 ((jn : Int) - 1) = (jn : Int) - 1 := by unfold wrap64; omega
      have HS := Lib.hid (rt11_succ hjn)
      rw [hjk] at HS
      have HDL := Lib.hid (rt11_len st k)
      clear hjk
      obtain ⟨p, hp⟩ : ∃ p, p = st[jn] := ⟨_, rfl⟩
      rw [← hp] at HS
      obtain ⟨c0, c1', c2', c3⟩ := HB.out.step R2.out hjn hp.symm
      have HPJ := Lib.hid hp
      clear hp
      have HKJ := Lib.hid (show st.length - (k + 1) = jn by have := HJ.out; omega)
      have HKJ2 := Lib.hid (show st.length - k = jn + 1 by have := HJ.out; omega)
      obtain ⟨l, hl⟩ : ∃ l, l = rt11 st k := ⟨_, rfl⟩
      rw [← hl] at HB HDL HS
      clear hl
      have HJM : Hid ((jn : Int) - 1 = (st.length : Int) - 1 - ((k + 1 : Nat) : Int)) := Lib.hid (by have := HJ.out; omega)
      have HMM : Hid ((intOf (Value.int .i64 ((jn : Int) - 1)) + 1).toNat < (intOf (Value.int .i64 (jn : Int)) + 1).toNat) := Lib.hid (by simp [intOf])
      clear HJ
      by_cases hpk : p.k = 1
      · skip
        have E2 : Hid (∀ i (h : i < st.length), st.length - (k + 1) ≤ i → st[i].k = 1) := Lib.hid (fun i h hi2 => by
          by_cases e : i = jn
          · subst e; rw [← HPJ.out]; exact hpk
          · exact HE.out i h (by have := HKJ.out; have := HKJ2.out; omega))
        clear HPJ HE HKJ HKJ2
        obtain ⟨ps, px, py, rfl⟩ : ∃ s x y, p = ⟨1, s, x, y⟩ := ⟨p.s, p.x, p.y, by cases p; simp only at hpk; subst hpk; rfl⟩
        clear hpk
        dsimp only at c0 c1' c2' c3
        have HA := Lib.hid (HB.out.al (.cells #[.int .i64 1, .int .i64 ps, .int .i64 px, .int .i64 py] 73))
        have HL := Lib.hid (show l.length ≤ 40 by have := HDL.out; omega)
        clear HDL
        go_wp2_with (at_builtin; refine wpList_append_own_at _ rfl _ _ 60 rfl (w.heap.size + 2) 73 i0 (.agg #[.int .i64 0, .int .i64 0, .int .i64 0, .int .i64 0]) 4 32 Try.underlying60 hi hz0 hz1 hz2 rfl (by decide) _ _ _ rfl HA.out.2.2.1 ⟨wr.heap.size, 0, none⟩ 1 1 (cs11 ⟨1, ps, px, py⟩) rfl rfl (step_new9 wr ⟨1, ps, px, py⟩ _) (cs11_one9 ⟨1, ps, px, py⟩) (by have := HL.out; unfold maxLen; omega) (by have := HL.out; omega) HA.out.2.2.2.1 ?_; intro v' w1 hown hgr hnn hat; have R := Lib.hid (HA.out.snoc hown hgr); have HN2 := Lib.hid (fun e => HNN.out (hnn.mp e).1); clear hown hgr hnn hat HA)
        go_roundw
        case rel => exact ⟨k + 1, (jn : Int) - 1, by omega, HJM, rfl, by rw [HS.out]; exact R, Lib.hid HN2.out, E2⟩
        case measure => exact HMM.out
      · have hpk2 : (p.k != 1) = true := by simpa using hpk
        clear hpk
        have q1 := HB.out.2.1
        have hB := HB.out.2.2.2.2
        have hsz9 := HB.out.2.2.2.1
        clear HB HNN HE
        have z_f := fun j => frozen_of_row wr _ j _ _ q1
        have z_c := fun j => cell_of_row wr _ j _ _ _ q1
        have hz1 : w.heap.size + 1 < wr.heap.size := (Array.getElem?_eq_some_iff.1 q1).1
        have Q1 := Lib.hid q1
        clear q1
        go_wp2_with fail
        clear z_f z_c
        have HF := fun X hX => Lib.hid (box_put11 (w := w) (X := X) (lo := wr.heap.size) (m0 := 0) (m1 := 0) (m2 := 0) (m3 := 0) (m4 := 0) (m5 := 0) Q1.out (Pr11.nil _ _ _) hz1 (by omega) (by omega) hB hX)
        generalize hX : (World.setCell _ _ _ : World) = X
        replace HF := HF X hX
        have x_c := fun j => cell_of_row X _ j _ _ _ HF.out.1
        exact bodyPost_ret (v := .tuple #[.agg #[.int .i64 0, .int .i64 0, .int .i64 0, .int .i64 0, .int .i64 0, .int .i64 0, .slice none 0 0, .slice none 0 0], .bool false]) (by simp [results, Try.results41, go_sem, x_c]) rfl ⟨_, _, rfl, HF.out.2⟩
    · have hjm1 : j = -1 := by have := HJ.out; omega
      subst hjm1
      obtain rfl : k = st.length := by omega
      exact absurd (fun p hp => by
        obtain ⟨i, hi, rfl⟩ := List.getElem_of_mem hp
        exact HE.out i hi (by omega)) HK.out
set_option maxRecDepth 20000 in
set_option maxHeartbeats 4000000 in
theorem sback_no (m0 m1 m2 m3 m4 m5 : Int) (l : List H11) (st : List S11) (g1 c1 g2 c2 : Nat) (hl : l.length ≤ 1048576) (hst : st.length ≤ 1048576) (hq : okP (m0, m1, m2, m3, m4, m5) l st = false) (w : World) (h1 : w.rangeAt g1 0 (hv11 l)) (h2 : w.rangeAt g2 0 (sv11 st)) : Calls Try.prog 41 #[.agg #[.int .i64 m0, .int .i64 m1, .int .i64 m2, .int .i64 m3, .int .i64 m4, .int .i64 m5, .slice (some ⟨g1, 0, none⟩) l.length c1, .slice (some ⟨g2, 0, none⟩) st.length c2]] w (TP11 0 0 0 0 0 0 [] [] false w) := by
  have HP := Lib.hid (fun W a b => lplan_11 m0 m1 m2 m3 m4 m5 l st g1 c1 g2 c2 hl hst W a b)
  rw [hq] at HP
  have R1 := Lib.hid h1
  have R2 := Lib.hid h2
  clear h1 h2 hq
  go_enter Try.func41, Try.ntmps41
  go_wp2_with fail
  generalize hW : (World.alloc _ _ : World) = W0
  have q0 : W0.heap[w.heap.size]? = some (Obj.cells #[.int .i64 m0, .int .i64 m1, .int .i64 m2, .int .i64 m3, .int .i64 m4, .int .i64 m5, .slice (some ⟨g1, 0, none⟩) l.length c1, .slice (some ⟨g2, 0, none⟩) st.length c2] 62 (0, 0)) := by rw [← hW]; exact alloc_past (alloc_at rfl)
  have q1 : W0.heap[w.heap.size + 1]? = some (pz11 62) := by rw [← hW]; exact alloc_at (by simp)
  have hB : Below w.heap.size w W0 := by rw [← hW]; (repeat (first | exact Below.refl _ _ | assumption | refine Below.setCell ?_ (by first | (simp; done) | (simp; omega)) _ | refine Below.alloc ?_ (by first | (simp; done) | (simp; omega)) _ | refine Below.drew ?_))
  have hsz : w.heap.size + 2 ≤ W0.heap.size := by rw [← hW]; simp
  clear hW
  refine (HP.out _ (ra_below R1.out hB rfl) (ra_below R2.out hB rfl)).mono ?_
  rintro e W1 ⟨rfl, hb⟩
  replace q1 := rowk q1 hb rfl
  replace hB := below_of hB hb (by have := hB.size; omega)
  clear hb HP q0
  have z_f := fun j => frozen_of_row W1 _ j _ _ q1
  have z_c := fun j => cell_of_row W1 _ j _ _ _ q1
  have hz1 : w.heap.size + 1 < W1.heap.size := (Array.getElem?_eq_some_iff.1 q1).1
  have Q1 := Lib.hid q1
  clear q1
  go_wp2_with fail
  clear z_f z_c
  have HF := fun X hX => Lib.hid (box_put11 (w := w) (X := X) (lo := W1.heap.size) (m0 := 0) (m1 := 0) (m2 := 0) (m3 := 0) (m4 := 0) (m5 := 0) Q1.out (Pr11.nil _ _ _) hz1 (by omega) (by omega) hB hX)
  generalize hX : (World.setCell _ _ _ : World) = X
  replace HF := HF X hX
  have x_c := fun j => cell_of_row X _ j _ _ _ HF.out.1
  exact bodyPost_ret (v := .tuple #[.agg #[.int .i64 0, .int .i64 0, .int .i64 0, .int .i64 0, .int .i64 0, .int .i64 0, .slice none 0 0, .slice none 0 0], .bool false]) (by simp [results, Try.results41, go_sem, x_c]) rfl ⟨_, _, rfl, HF.out.2⟩

theorem back_pair (m0 m1 m2 m3 m4 m5 : Int) (l : List H11) (st : List S11) (hl : l.length ≤ 1048576) (hst : st.length ≤ 1048576) (hwf : ∀ p ∈ st, (Lit.int .i64 p.x).wf = true ∧ (Lit.int .i64 p.y).wf = true) : ∃ (r0 r1 r2 r3 r4 r5 : Int) (l' : List H11) (st' : List S11) (t : Bool), l'.length ≤ 1000 ∧ st'.length ≤ 1000 ∧ (∀ (g1 c1 g2 c2 : Nat) (W : World), st.length ≤ c2 → W.rangeAt g1 0 (hv11 l) → W.rangeAt g2 0 (sv11 st) → Calls Try.prog 41 #[.agg #[.int .i64 m0, .int .i64 m1, .int .i64 m2, .int .i64 m3, .int .i64 m4, .int .i64 m5, .slice (some ⟨g1, 0, none⟩) l.length c1, .slice (some ⟨g2, 0, none⟩) st.length c2]] W (TP11 r0 r1 r2 r3 r4 r5 l' st' t W)) ∧ (∀ (g1 c1 g2 c2 : Nat) (W : World), st.length ≤ c2 → W.rangeAt g1 0 (hv11 l) → W.rangeAt g2 0 (sv11 st) → Calls Try.prog 42 #[.agg #[.int .i64 m0, .int .i64 m1, .int .i64 m2, .int .i64 m3, .int .i64 m4, .int .i64 m5, .slice (some ⟨g1, 0, none⟩) l.length c1, .slice (some ⟨g2, 0, none⟩) st.length c2]] W (TP11 r0 r1 r2 r3 r4 r5 l' st' t W)) := by
  cases hq : okP (m0, m1, m2, m3, m4, m5) l st
  · exact ⟨0, 0, 0, 0, 0, 0, [], [], false, by simp, by simp, fun g1 c1 g2 c2 W _ a b => sback_no m0 m1 m2 m3 m4 m5 l st g1 c1 g2 c2 hl hst hq W a b, fun g1 c1 g2 c2 W _ a b => iback_no m0 m1 m2 m3 m4 m5 l st g1 c1 g2 c2 hl hst hwf hq W a b⟩
  · obtain ⟨f, F, e1, rfl, h2, h3, h5⟩ := okP_get hq
    simp only [t11, Prod.mk.injEq] at e1
    obtain ⟨rfl, rfl, rfl, rfl, rfl, rfl⟩ := e1
    have hm : (F.map t11).length = F.length := List.length_map t11
    rw [hm]
    by_cases hk : ∀ p ∈ st, p.k = 1
    · exact ⟨rowv (at11 F st f st.length 0), rowv (at11 F st f st.length 1), rowv (at11 F st f st.length 2), rowv (at11 F st f st.length 3), rowv (at11 F st f st.length 4), rowv (at11 F st f st.length 5), F.map t11, st.reverse, true, by rw [hm]; omega, by rw [List.length_reverse]; omega, fun g1 c1 g2 c2 W _ a b => sback_yes f F st g1 c1 g2 c2 h3 h2 h5 hk W a b, fun g1 c1 g2 c2 W _ a b => iback_yes f F st g1 c1 g2 c2 h3 h2 h5 hk W a b⟩
    · exact ⟨0, 0, 0, 0, 0, 0, [], [], false, by simp, by simp, fun g1 c1 g2 c2 W _ a b => sback_bad f F st g1 c1 g2 c2 h3 h2 h5 hk W a b, fun g1 c1 g2 c2 W _ a b => iback_bad f F st g1 c1 g2 c2 h3 h2 h5 hk W a b⟩
end Go.Proofs.Ytnkjamdpafpcpaa
