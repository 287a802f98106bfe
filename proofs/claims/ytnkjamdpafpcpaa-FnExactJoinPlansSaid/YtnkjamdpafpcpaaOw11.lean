/- CONTRACTS: a plan anew with other steps, of the model and of the code. -/
import Derived.Test.YtnkjamdpafpcpaaRt11
import Derived.Test.YtnkjamdpafpcpaaAp11
import Derived.RegionTactic
import Derived.WalkKit
import Derived.ProofKit
import Derived.OpenShut
import Derived.Lib.Hide
import Derived.WalkSpells
import Derived.Below
import Derived.BigQuiet
import Derived.LoopN
namespace Go.Proofs.Ytnkjamdpafpcpaa
open Go.ChangeShapes Go.WideShapes Go.ChangeAt Go.RowKit
set_option linter.unusedVariables false
/-- Two rows under construction: of sheets (block, room, number, cells) and of steps. -/
def St11 (b : Nat) (o0 o1 : Obj) (X Y : Option (Nat × Nat × Nat × List Value)) (w U : World) : Prop := U.heap[w.heap.size]? = some o0 ∧ U.heap[w.heap.size + 1]? = some o1 ∧ (∀ a, X = some a → U.ownsRow (w.heap.size + b) 28 6 (.slice (some ⟨a.1, 0, none⟩) a.2.2.1 a.2.1) a.2.2.1 a.2.2.2) ∧ (∀ a, Y = some a → U.ownsRow (w.heap.size + b) 73 4 (.slice (some ⟨a.1, 0, none⟩) a.2.2.1 a.2.1) a.2.2.1 a.2.2.2) ∧ (∀ a c, X = some a → Y = some c → a.1 ≠ c.1) ∧ w.heap.size + b ≤ U.heap.size ∧ 2 ≤ b ∧ Below w.heap.size w U
section
variable {b : Nat} {o0 o1 : Obj} {X Y : Option (Nat × Nat × Nat × List Value)} {w U V : World}
theorem St11.far {M : Nat} (h : St11 b o0 o1 X Y w U) (hb : Below M U V) (hM : M = U.heap.size) : St11 b o0 o1 X Y w V :=
  ⟨rowk h.1 hb hM, rowk h.2.1 hb hM, fun a ha => (h.2.2.1 a ha).kept (grown_below hb hM) (.inr (by simp [Value.ownBlock])), fun a ha => (h.2.2.2.1 a ha).kept (grown_below hb hM) (.inr (by simp [Value.ownBlock])), h.2.2.2.2.1, Nat.le_trans h.2.2.2.2.2.1 hb.size, h.2.2.2.2.2.2.1, below_of h.2.2.2.2.2.2.2 hb (by have := h.2.2.2.2.2.2.2.size; omega)⟩
theorem St11.drew (h : St11 b o0 o1 X Y w U) : St11 b o0 o1 X Y w U.drew := h.far (M := U.heap.size) (Below.refl _ _).drew rfl
theorem St11.al (h : St11 b o0 o1 X Y w U) (o : Obj) : St11 b o0 o1 X Y w (U.alloc o) := h.far (M := U.heap.size) ((Below.refl _ _).alloc (Nat.le_refl _) o) rfl
theorem St11.bel (h : St11 b o0 o1 X Y w U) : Below w.heap.size w U := h.2.2.2.2.2.2.2
theorem St11.le (h : St11 b o0 o1 X Y w U) : w.heap.size + b ≤ U.heap.size := h.2.2.2.2.2.1
theorem St11.x {a : Nat × Nat × Nat × List Value} (h : St11 b o0 o1 (some a) Y w U) : U.ownsRow (w.heap.size + b) 28 6 (.slice (some ⟨a.1, 0, none⟩) a.2.2.1 a.2.1) a.2.2.1 a.2.2.2 := h.2.2.1 a rfl
theorem St11.y {a : Nat × Nat × Nat × List Value} (h : St11 b o0 o1 X (some a) w U) : U.ownsRow (w.heap.size + b) 73 4 (.slice (some ⟨a.1, 0, none⟩) a.2.2.1 a.2.1) a.2.2.1 a.2.2.2 := h.2.2.2.1 a rfl
theorem St11.mkx (h : St11 b o0 o1 none Y w U) : St11 b o0 o1 (some (U.heap.size, 0, 0, [])) Y w (U.alloc (.cells #[] 28)) := by
  have h2 := h.al (.cells #[] 28)
  refine ⟨h2.1, h2.2.1, fun a ha => ?_, h2.2.2.2.1, fun a c ha hc => ?_, h2.2.2.2.2.2⟩
  · cases ha
    exact World.ownsRow_lit (base := w.heap.size + b) (e := 28) (size := 6) U #[] 0 h.le (by unfold maxLen; omega) rfl
  · cases ha
    have := ((h.2.2.2.1 c hc).lt c.1 rfl).2
    show U.heap.size ≠ c.1
    omega
theorem St11.mky (h : St11 b o0 o1 X none w U) : St11 b o0 o1 X (some (U.heap.size, 0, 0, [])) w (U.alloc (.cells #[] 73)) := by
  have h2 := h.al (.cells #[] 73)
  refine ⟨h2.1, h2.2.1, h2.2.2.1, fun a ha => ?_, fun a c ha hc => ?_, h2.2.2.2.2.2⟩
  · cases ha
    exact World.ownsRow_lit (base := w.heap.size + b) (e := 73) (size := 4) U #[] 0 h.le (by unfold maxLen; omega) rfl
  · cases hc
    have := ((h.2.2.1 a ha).lt a.1 rfl).2
    show a.1 ≠ U.heap.size
    omega
theorem St11.grow {g : Nat} (h : St11 b o0 o1 X Y w U) (hg : U.grownBy V (some g)) (hgb : w.heap.size + b ≤ g) : V.heap[w.heap.size]? = some o0 ∧ V.heap[w.heap.size + 1]? = some o1 ∧ w.heap.size + b ≤ V.heap.size ∧ 2 ≤ b ∧ Below w.heap.size w V := by
  have h2 := h.2.2.2.2.2.2.1
  have hl := h.le
  refine ⟨?_, ?_, Nat.le_trans h.le hg.size, h2, h.bel.grown hg h.bel.size (fun k hk => by cases hk; omega)⟩
  · rw [hg.block _ (by omega) (by simp; omega)]; exact h.1
  · rw [hg.block _ (by omega) (by simp; omega)]; exact h.2.1
theorem St11.appx {a : Nat × Nat × Nat × List Value} {g' cap' n' : Nat} {xs' : List Value} (h : St11 b o0 o1 (some a) Y w U) (ho : V.ownsRow (w.heap.size + b) 28 6 (.slice (some ⟨g', 0, none⟩) n' cap') n' xs') (hg : U.grownBy V (some a.1)) (hat : g' = a.1 ∨ g' = U.heap.size) : St11 b o0 o1 (some (g', cap', n', xs')) Y w V := by
  have hq := h.grow hg (h.x.lt a.1 rfl).1
  refine ⟨hq.1, hq.2.1, fun c hc => by cases hc; exact ho, fun c hc => (h.2.2.2.1 c hc).kept hg (.inr (by simp [Value.ownBlock]; exact fun e => h.2.2.2.2.1 a c rfl hc e.symm)), fun c d hc hd => ?_, hq.2.2⟩
  cases hc
  have h1 := h.2.2.2.2.1 a d rfl hd
  have h2 := ((h.2.2.2.1 d hd).lt d.1 rfl).2
  show g' ≠ d.1
  rcases hat with e | e
  · rw [e]; exact h1
  · omega
theorem St11.appy {a : Nat × Nat × Nat × List Value} {g' cap' n' : Nat} {xs' : List Value} (h : St11 b o0 o1 X (some a) w U) (ho : V.ownsRow (w.heap.size + b) 73 4 (.slice (some ⟨g', 0, none⟩) n' cap') n' xs') (hg : U.grownBy V (some a.1)) (hat : g' = a.1 ∨ g' = U.heap.size) : St11 b o0 o1 X (some (g', cap', n', xs')) w V := by
  have hq := h.grow hg (h.y.lt a.1 rfl).1
  refine ⟨hq.1, hq.2.1, fun c hc => (h.2.2.1 c hc).kept hg (.inr (by simp [Value.ownBlock]; exact fun e => h.2.2.2.2.1 c a hc rfl e)), fun c hc => by cases hc; exact ho, fun c d hc hd => ?_, hq.2.2⟩
  cases hd
  have h1 := h.2.2.2.2.1 c a hc rfl
  have h2 := ((h.2.2.1 c hc).lt c.1 rfl).2
  show c.1 ≠ g'
  rcases hat with e | e
  · rw [e]; exact h1
  · omega
end
/-- What is answered: the plan in rows of its own. -/
def OP11 (m0 m1 m2 m3 m4 m5 : Int) (l : List H11) (st : List S11) (w : World) (E : Ending) (w' : World) : Prop := ∃ g1 k1 g2 k2, E = .returned (.agg #[.int .i64 m0, .int .i64 m1, .int .i64 m2, .int .i64 m3, .int .i64 m4, .int .i64 m5, .slice (some ⟨g1, 0, none⟩) l.length k1, .slice (some ⟨g2, 0, none⟩) st.length k2]) ∧ Pr11 w.heap.size w'.heap.size (.slice (some ⟨g1, 0, none⟩) l.length k1) (.slice (some ⟨g2, 0, none⟩) st.length k2) l st w' ∧ Below w.heap.size w w'
theorem hv11_one (l : List H11) : ∀ u ∈ hv11 l, u.oneCell' = true := by
  intro u hu
  obtain ⟨t, _, ht⟩ := List.mem_flatMap.mp hu
  simp [ch11] at ht
  rcases ht with rfl | rfl | rfl | rfl | rfl | rfl <;> rfl
theorem sv11_one (l : List S11) : ∀ u ∈ sv11 l, u.oneCell' = true := by
  intro u hu
  obtain ⟨t, _, ht⟩ := List.mem_flatMap.mp hu
  simp [cs11] at ht
  rcases ht with rfl | rfl | rfl | rfl <;> rfl
theorem ra_add {g : Nat} {cs : List Value} {U : World} (h : U.rangeAt g 0 cs) : ∀ j u, cs[j]? = some u → U.cell? ((⟨g, 0, none⟩ : Addr).add j) = some u := fun j u hu => by rw [Addr.add_mid]; exact h j u hu
/-- A plan stored whole into the box of the answer. -/
theorem St11.fin {b g1 k1 g2 k2 : Nat} {m0 m1 m2 m3 m4 m5 : Int} {T : TypeId} {v0 v1 v2 v3 v4 v5 v6 v7 : Value} {o0 : Obj} {l : List H11} {st : List S11} {w U : World} (h : St11 b o0 (.cells #[v0, v1, v2, v3, v4, v5, v6, v7] T (0, 0)) (some (g1, k1, l.length, hv11 l)) (some (g2, k2, st.length, sv11 st)) w U) {X : World} (hX : ((((((((U.setCell ⟨w.heap.size + 1, 0, none⟩ (.int .i64 m0)).setCell ⟨w.heap.size + 1, 1, none⟩ (.int .i64 m1)).setCell ⟨w.heap.size + 1, 2, none⟩ (.int .i64 m2)).setCell ⟨w.heap.size + 1, 3, none⟩ (.int .i64 m3)).setCell ⟨w.heap.size + 1, 4, none⟩ (.int .i64 m4)).setCell ⟨w.heap.size + 1, 5, none⟩ (.int .i64 m5)).setCell ⟨w.heap.size + 1, 6, none⟩ (.slice (some ⟨g1, 0, none⟩) l.length k1)).setCell ⟨w.heap.size + 1, 7, none⟩ (.slice (some ⟨g2, 0, none⟩) st.length k2)) = X) : X.heap[w.heap.size + 1]? = some (.cells #[.int .i64 m0, .int .i64 m1, .int .i64 m2, .int .i64 m3, .int .i64 m4, .int .i64 m5, .slice (some ⟨g1, 0, none⟩) l.length k1, .slice (some ⟨g2, 0, none⟩) st.length k2] T (0, 0)) ∧ Pr11 w.heap.size X.heap.size (.slice (some ⟨g1, 0, none⟩) l.length k1) (.slice (some ⟨g2, 0, none⟩) st.length k2) l st X ∧ Below w.heap.size w X := by
  have hb2 := h.2.2.2.2.2.2.1
  have hx := h.x
  have hy := h.y
  have hne := h.2.2.2.2.1 _ _ rfl rfl
  have hg1 := hx.lt g1 rfl
  have hg2 := hy.lt g2 rfl
  have hs := same8b (lo := w.heap.size + 2) (hi := U.heap.size) (g := w.heap.size + 1) (W := U) (by omega) (.int .i64 m0) (.int .i64 m1) (.int .i64 m2) (.int .i64 m3) (.int .i64 m4) (.int .i64 m5) (.slice (some ⟨g1, 0, none⟩) l.length k1) (.slice (some ⟨g2, 0, none⟩) st.length k2)
  have hq := set8b (.int .i64 m0) (.int .i64 m1) (.int .i64 m2) (.int .i64 m3) (.int .i64 m4) (.int .i64 m5) (.slice (some ⟨g1, 0, none⟩) l.length k1) (.slice (some ⟨g2, 0, none⟩) st.length k2) h.2.1
  have hbl := bel8b (g := w.heap.size + 1) (.int .i64 m0) (.int .i64 m1) (.int .i64 m2) (.int .i64 m3) (.int .i64 m4) (.int .i64 m5) (.slice (some ⟨g1, 0, none⟩) l.length k1) (.slice (some ⟨g2, 0, none⟩) st.length k2) h.bel (by omega)
  have hsz : X.heap.size = U.heap.size := by rw [← hX]; simp
  rw [hX] at hs hq hbl
  have e1 : ∀ k, (Value.slice (some ⟨g1, 0, none⟩) l.length k1).ownBlock = some k → g1 = k := fun k hk => by simpa [Value.ownBlock] using hk
  have e2 : ∀ k, (Value.slice (some ⟨g2, 0, none⟩) st.length k2).ownBlock = some k → g2 = k := fun k hk => by simpa [Value.ownBlock] using hk
  refine ⟨hq, ⟨own_same (lo := w.heap.size + 2) (hi := U.heap.size) (own_mono hx (by omega)) hs (fun k hk => by have := e1 k hk; omega), own_same (lo := w.heap.size + 2) (hi := U.heap.size) (own_mono hy (by omega)) hs (fun k hk => by have := e2 k hk; omega), fun k hk => by have := e1 k hk; omega, fun k hk => by have := e2 k hk; omega, fun k hk hk2 => by have := e1 k hk; have := e2 k hk2; exact hne (by omega)⟩, hbl⟩
theorem SKset11 {b : Nat} {o1 : Obj} {X Y : Option (Nat × Nat × Nat × List Value)} {m0 m1 m2 m3 m4 m5 : Int} {V1 V2 u0 u1 u2 u3 u4 u5 u6 u7 : Value} {w U : World} (h : St11 b (.cells #[.int .i64 m0, .int .i64 m1, .int .i64 m2, .int .i64 m3, .int .i64 m4, .int .i64 m5, V1, V2] 62 (0, 0)) o1 X Y w U) : (fun U => U.cell? ⟨w.heap.size, 0, none⟩ = some (.int .i64 m0) ∧ U.cell? ⟨w.heap.size, 1, none⟩ = some (.int .i64 m1) ∧ U.cell? ⟨w.heap.size, 2, none⟩ = some (.int .i64 m2) ∧ U.cell? ⟨w.heap.size, 3, none⟩ = some (.int .i64 m3) ∧ U.cell? ⟨w.heap.size, 4, none⟩ = some (.int .i64 m4) ∧ U.cell? ⟨w.heap.size, 5, none⟩ = some (.int .i64 m5) ∧ U.cell? ⟨w.heap.size, 6, none⟩ = some V1) ((((((((U.setCell ⟨w.heap.size + 1, 0, none⟩ u0).setCell ⟨w.heap.size + 1, 1, none⟩ u1).setCell ⟨w.heap.size + 1, 2, none⟩ u2).setCell ⟨w.heap.size + 1, 3, none⟩ u3).setCell ⟨w.heap.size + 1, 4, none⟩ u4).setCell ⟨w.heap.size + 1, 5, none⟩ u5).setCell ⟨w.heap.size + 1, 6, none⟩ u6).setCell ⟨w.heap.size + 1, 7, none⟩ u7) := by
  have hs := same8b (lo := w.heap.size + 2) (hi := 0) (g := w.heap.size + 1) (W := U) (by omega) u0 u1 u2 u3 u4 u5 u6 u7
  have hr : ((((((((U.setCell ⟨w.heap.size + 1, 0, none⟩ u0).setCell ⟨w.heap.size + 1, 1, none⟩ u1).setCell ⟨w.heap.size + 1, 2, none⟩ u2).setCell ⟨w.heap.size + 1, 3, none⟩ u3).setCell ⟨w.heap.size + 1, 4, none⟩ u4).setCell ⟨w.heap.size + 1, 5, none⟩ u5).setCell ⟨w.heap.size + 1, 6, none⟩ u6).setCell ⟨w.heap.size + 1, 7, none⟩ u7).heap[w.heap.size]? = some (.cells #[.int .i64 m0, .int .i64 m1, .int .i64 m2, .int .i64 m3, .int .i64 m4, .int .i64 m5, V1, V2] 62 (0, 0)) := (by
    have hne : w.heap.size ≠ w.heap.size + 1 := by omega
    rw [Below.heap_setCell _ _ _ _ hne, Below.heap_setCell _ _ _ _ hne, other8 hne]
    exact h.1)
  have h0 := fun j => cell_of_row _ _ j _ _ _ hr
  exact ⟨h0 0, h0 1, h0 2, h0 3, h0 4, h0 5, h0 6⟩
theorem SKo11 {b : Nat} {o1 : Obj} {X Y : Option (Nat × Nat × Nat × List Value)} {m0 m1 m2 m3 m4 m5 : Int} {V1 V2 : Value} {w U : World} (h : St11 b (.cells #[.int .i64 m0, .int .i64 m1, .int .i64 m2, .int .i64 m3, .int .i64 m4, .int .i64 m5, V1, V2] 62 (0, 0)) o1 X Y w U) : U.cell? ⟨w.heap.size, 0, none⟩ = some (.int .i64 m0) ∧ U.cell? ⟨w.heap.size, 1, none⟩ = some (.int .i64 m1) ∧ U.cell? ⟨w.heap.size, 2, none⟩ = some (.int .i64 m2) ∧ U.cell? ⟨w.heap.size, 3, none⟩ = some (.int .i64 m3) ∧ U.cell? ⟨w.heap.size, 4, none⟩ = some (.int .i64 m4) ∧ U.cell? ⟨w.heap.size, 5, none⟩ = some (.int .i64 m5) ∧ U.cell? ⟨w.heap.size, 6, none⟩ = some V1 := by
  have h0 := fun j => cell_of_row U _ j _ _ _ h.1
  exact ⟨h0 0, h0 1, h0 2, h0 3, h0 4, h0 5, h0 6⟩
set_option maxRecDepth 20000 in
set_option maxHeartbeats 4000000 in
theorem lown_11 (m0 m1 m2 m3 m4 m5 : Int) (V2 : Value) (l : List H11) (st : List S11) (g1 c1 g2 c2 : Nat) (hl : l.length ≤ 1000) (hst : st.length ≤ 1000) (w : World) (h1 : w.rangeAt g1 0 (hv11 l)) (h2 : w.rangeAt g2 0 (sv11 st)) : Calls Try.prog 120 #[.agg #[.int .i64 m0, .int .i64 m1, .int .i64 m2, .int .i64 m3, .int .i64 m4, .int .i64 m5, .slice (some ⟨g1, 0, none⟩) l.length c1, V2], .slice (some ⟨g2, 0, none⟩) st.length c2] w (OP11 m0 m1 m2 m3 m4 m5 l st w) := by
  obtain ⟨ia, hia, hia0, hia1, hia2⟩ := infos_sheets11
  obtain ⟨ib, hib, hib0, hib1, hib2⟩ := infos_steps11
  have R1 := Lib.hid h1
  have R2 := Lib.hid h2
  clear h1 h2
  go_enter Try.func120, Try.ntmps120
  go_wp2_with fail
  generalize hW : (World.alloc _ _ : World) = W0
  have HS : Hid (St11 2 (.cells #[.int .i64 m0, .int .i64 m1, .int .i64 m2, .int .i64 m3, .int .i64 m4, .int .i64 m5, .slice (some ⟨g1, 0, none⟩) l.length c1, V2] 62 (0, 0)) (pz11 62) none none w W0) := Lib.hid (by
    rw [← hW]
    exact ⟨alloc_past (alloc_at rfl), alloc_at (by simp), fun a ha => by (cases ha), fun a ha => by (cases ha), fun a c ha => by (cases ha), by simp, by omega, by (repeat (first | exact Below.refl _ _ | assumption | refine Below.setCell ?_ (by first | (simp; done) | (simp; omega)) _ | refine Below.alloc ?_ (by first | (simp; done) | (simp; omega)) _ | refine Below.drew ?_))⟩)
  clear hW
  refine wp_region_held_drew (S := fun U => U.cell? ⟨w.heap.size, 0, none⟩ = some (.int .i64 m0) ∧ U.cell? ⟨w.heap.size, 1, none⟩ = some (.int .i64 m1) ∧ U.cell? ⟨w.heap.size, 2, none⟩ = some (.int .i64 m2) ∧ U.cell? ⟨w.heap.size, 3, none⟩ = some (.int .i64 m3) ∧ U.cell? ⟨w.heap.size, 4, none⟩ = some (.int .i64 m4) ∧ U.cell? ⟨w.heap.size, 5, none⟩ = some (.int .i64 m5) ∧ U.cell? ⟨w.heap.size, 6, none⟩ = some (.slice (some ⟨g1, 0, none⟩) l.length c1)) (by kernel_rfl) ?_ (fun hHeld => ?_)
  · (try dsimp only)
    exact SKo11 HS.out.drew
  replace HS := Lib.hid HS.out.drew
  obtain ⟨V, hV⟩ : ∃ X, X = W0.drew := ⟨_, rfl⟩
  rw [← hV] at HS hHeld ⊢
  clear hV
  refine wpAnyH_take (i := 0) (oi := { dst := some 5, op := Go.Op.fieldAddr 62 (Go.Operand.tmp 2) 0, type := 0, pos := "l11_plans.go:66", after := #[], guard := none }) (v := ?_) rfl (by kernel_rfl) (by kernel_rfl) (by kernel_rfl) (fun _ _ _ h => h) (Or.inl ⟨by rfl, ?_⟩) (by assumption) ?_
  rotate_left
  · intro w hSw; (try dsimp only at hSw); go_simp; (try with_reducible rfl)
  simp only [Act.put, List.setIfInBounds_toArray, List.set_cons_zero, List.set_cons_succ]
  refine wpAnyH_take (i := 1) (oi := { dst := some 6, op := Go.Op.load 28 (Go.Operand.tmp 5), type := 28, pos := "l11_plans.go:66", after := #[{ on := 0, ground := Go.Ground.data }], guard := none }) (v := ?_) rfl (by kernel_rfl) (by kernel_rfl) (by kernel_rfl) (fun _ _ _ h => h) (Or.inl ⟨by rfl, ?_⟩) (by assumption) ?_
  rotate_left
  · intro w hSw; (try dsimp only at hSw); go_simp; (try with_reducible rfl)
  simp only [Act.put, List.setIfInBounds_toArray, List.set_cons_zero, List.set_cons_succ]
  refine wpAnyH_take (i := 3) (oi := { dst := some 8, op := Go.Op.fieldAddr 62 (Go.Operand.tmp 2) 1, type := 0, pos := "l11_plans.go:66", after := #[], guard := none }) (v := ?_) rfl (by kernel_rfl) (by kernel_rfl) (by kernel_rfl) (fun _ _ _ h => h) (Or.inl ⟨by rfl, ?_⟩) (by assumption) ?_
  rotate_left
  · intro w hSw; (try dsimp only at hSw); go_simp; (try with_reducible rfl)
  simp only [Act.put, List.setIfInBounds_toArray, List.set_cons_zero, List.set_cons_succ]
  refine wpAnyH_take (i := 4) (oi := { dst := some 9, op := Go.Op.load 59 (Go.Operand.tmp 8), type := 59, pos := "l11_plans.go:66", after := #[{ on := 3, ground := Go.Ground.data }], guard := none }) (v := ?_) rfl (by kernel_rfl) (by kernel_rfl) (by kernel_rfl) (fun _ _ _ h => h) (Or.inl ⟨by rfl, ?_⟩) (by assumption) ?_
  rotate_left
  · intro w hSw; (try dsimp only at hSw); go_simp; (try with_reducible rfl)
  simp only [Act.put, List.setIfInBounds_toArray, List.set_cons_zero, List.set_cons_succ]
  refine wpAnyH_take (i := 7) (oi := { dst := some 12, op := Go.Op.move (Go.Operand.tmp 1), type := 60, pos := "l11_plans.go:66", after := #[], guard := none }) (v := ?_) rfl (by kernel_rfl) (by kernel_rfl) (by kernel_rfl) (fun _ _ _ h => h) (Or.inl ⟨by rfl, ?_⟩) (by assumption) ?_
  rotate_left
  · intro w hSw; (try dsimp only at hSw); go_simp; (try with_reducible rfl)
  simp only [Act.put, List.setIfInBounds_toArray, List.set_cons_zero, List.set_cons_succ]
  refine wpAnyH_ready (rs := [2, 6]) (by kernel_rfl) (by simp) ?_
  refine (AllReadyH.cons (o := { dst := some 7, op := Go.Op.buildSlice 59 0 #[], type := 59, pos := "l11_plans.go:66", after := #[], guard := none }) rfl (fun K hK => ?_) (AllReadyH.cons (o := { dst := some 11, op := Go.Op.buildSlice 60 0 #[], type := 60, pos := "l11_plans.go:66", after := #[], guard := none }) rfl (fun K hK => ?_) AllReadyH.nil))
  · go_simp
    replace HS := Lib.hid HS.out.mkx
    refine hK.out _ _ ?_ (fun hHeld => ?_)
    · (try dsimp only)
      exact SKo11 HS.out
    clear hK K
    (try simp only [Act.put, List.setIfInBounds_toArray, List.set_cons_zero, List.set_cons_succ])
    generalize V.heap.size = gx1 at HS ⊢
    generalize (World.alloc V _ : World) = Y1 at HS hHeld ⊢
    refine wpAnyH_ready (rs := [5, 6]) (by kernel_rfl) (by simp) ?_
    refine (AllReadyH.cons (o := { dst := some 10, op := Go.Op.call { callee := Go.Callee.builtin Go.Builtin.append, args := #[Go.Operand.tmp 7, Go.Operand.tmp 9], argTypes := #[59, 59] }, type := 59, pos := "l11_plans.go:66", after := #[{ on := 2, ground := Go.Ground.data }, { on := 4, ground := Go.Ground.data }], guard := none }) rfl (fun K hK => ?_) (AllReadyH.cons (o := { dst := some 11, op := Go.Op.buildSlice 60 0 #[], type := 60, pos := "l11_plans.go:66", after := #[], guard := none }) rfl (fun K hK => ?_) AllReadyH.nil))
    · refine step_keep11 rfl _ _ 59 rfl (w.heap.size + 2) 28 ia (.agg #[.int .i64 0, .int .i64 0, .int .i64 0, .int .i64 0, .int .i64 0, .int .i64 0]) 6 48 Try.underlying59 hia hia0 hia1 hia2 rfl (by decide) gx1 0 0 [] rfl HS.out.x ⟨g1, 0, none⟩ l.length c1 (hv11 l) rfl (hv11_len l) (ra_add (ra_below R1.out HS.out.bel rfl)) (hv11_one l) (by unfold maxLen; omega) (by omega) HS.out.le ?_
      intro gx2 kx Y2 hown hgr hat _
      simp only [Nat.zero_add, List.nil_append] at hown ⊢
      replace HS := Lib.hid (HS.out.appx hown hgr hat)
      clear hown hgr hat
      refine hK.out _ _ ?_ (fun hHeld => ?_)
      · (try dsimp only)
        exact SKo11 HS.out
      clear hK K
      (try simp only [Act.put, List.setIfInBounds_toArray, List.set_cons_zero, List.set_cons_succ])
      refine wpAnyH_ready (rs := [6]) (by kernel_rfl) (by simp) ?_
      refine (AllReadyH.cons (o := { dst := some 11, op := Go.Op.buildSlice 60 0 #[], type := 60, pos := "l11_plans.go:66", after := #[], guard := none }) rfl (fun K hK => ?_) AllReadyH.nil)
      go_simp
      replace HS := Lib.hid HS.out.mky
      refine hK.out _ _ ?_ (fun hHeld => ?_)
      · (try dsimp only)
        exact SKo11 HS.out
      clear hK K
      (try simp only [Act.put, List.setIfInBounds_toArray, List.set_cons_zero, List.set_cons_succ])
      generalize Y2.heap.size = gy3 at HS ⊢
      generalize (World.alloc Y2 _ : World) = Y3 at HS hHeld ⊢
      refine wpAnyH_ready (rs := [8]) (by kernel_rfl) (by simp) ?_
      refine (AllReadyH.cons (o := { dst := some 13, op := Go.Op.call { callee := Go.Callee.builtin Go.Builtin.append, args := #[Go.Operand.tmp 11, Go.Operand.tmp 12], argTypes := #[60, 60] }, type := 60, pos := "l11_plans.go:66", after := #[{ on := 6, ground := Go.Ground.data }, { on := 7, ground := Go.Ground.data }, { on := 5, ground := Go.Ground.chain }], guard := none }) rfl (fun K hK => ?_) AllReadyH.nil)
      refine step_keep11 rfl _ _ 60 rfl (w.heap.size + 2) 73 ib (.agg #[.int .i64 0, .int .i64 0, .int .i64 0, .int .i64 0]) 4 32 Try.underlying60 hib hib0 hib1 hib2 rfl (by decide) gy3 0 0 [] rfl HS.out.y ⟨g2, 0, none⟩ st.length c2 (sv11 st) rfl (sv11_len st) (ra_add (ra_below R2.out HS.out.bel rfl)) (sv11_one st) (by unfold maxLen; omega) (by omega) HS.out.le ?_
      intro gy4 ky Y4 hown hgr hat _
      simp only [Nat.zero_add, List.nil_append] at hown ⊢
      replace HS := Lib.hid (HS.out.appy hown hgr hat)
      clear hown hgr hat
      refine hK.out _ _ ?_ (fun hHeld => ?_)
      · (try dsimp only)
        exact SKo11 HS.out
      clear hK K
      (try simp only [Act.put, List.setIfInBounds_toArray, List.set_cons_zero, List.set_cons_succ])
      refine wpAnyH_take (i := 9) (oi := { dst := some 14, op := Go.Op.build 62 #[(0, Go.Operand.tmp 6), (1, Go.Operand.tmp 10), (2, Go.Operand.tmp 13)], type := 62, pos := "l11_plans.go:66", after := #[{ on := 1, ground := Go.Ground.data }, { on := 5, ground := Go.Ground.data }, { on := 8, ground := Go.Ground.data }], guard := none }) (v := ?_) rfl (by kernel_rfl) (by kernel_rfl) (by kernel_rfl) (fun _ _ _ h => h) (Or.inl ⟨by rfl, ?_⟩) (by assumption) ?_
      rotate_left
      · intro w hSw; (try dsimp only at hSw); go_simp; (try with_reducible rfl)
      simp only [Act.put, List.setIfInBounds_toArray, List.set_cons_zero, List.set_cons_succ]
      refine wpAnyH_ready (rs := [10]) (by kernel_rfl) (by simp) ?_
      refine AllReadyH.cons (o := { dst := none, op := Go.Op.store 62 (Go.Operand.tmp 4) (Go.Operand.tmp 14), type := 0, pos := "l11_plans.go:66", after := #[{ on := 9, ground := Go.Ground.data }, { on := 8, ground := Go.Ground.chain }, { on := 0, ground := Go.Ground.phase }, { on := 1, ground := Go.Ground.phase }, { on := 2, ground := Go.Ground.phase }, { on := 3, ground := Go.Ground.phase }, { on := 4, ground := Go.Ground.phase }, { on := 5, ground := Go.Ground.phase }, { on := 6, ground := Go.Ground.phase }, { on := 7, ground := Go.Ground.phase }, { on := 8, ground := Go.Ground.phase }, { on := 9, ground := Go.Ground.phase }], guard := none }) rfl (fun K hK => ?_) AllReadyH.nil
      have z_c := fun j => cell_of_row Y4 _ j _ _ _ HS.out.2.1
      have z_f := fun j => frozen_of_row Y4 _ j _ _ HS.out.2.1
      go_simp
      clear z_c z_f
      have HF := fun X hX => Lib.hid (HS.out.fin (m0 := m0) (m1 := m1) (m2 := m2) (m3 := m3) (m4 := m4) (m5 := m5) (X := X) hX)
      generalize hX : (World.setCell _ _ _ : World) = X
      replace HF := HF X hX
      refine hK.out _ _ ?_ (fun hHeld => ?_)
      · (try dsimp only)
        rw [← hX]
        exact SKset11 HS.out
      clear hK K hX
      (try simp only [Act.put, List.setIfInBounds_toArray, List.set_cons_zero, List.set_cons_succ])
      refine wpAnyH_done (by kernel_rfl) ?_ _
      have x_c := fun j => cell_of_row X _ j _ _ _ HF.out.1
      go_wp2_with fail
      exact bodyPost_ret (v := .agg #[.int .i64 m0, .int .i64 m1, .int .i64 m2, .int .i64 m3, .int .i64 m4, .int .i64 m5, .slice (some ⟨gx2, 0, none⟩) l.length kx, .slice (some ⟨gy4, 0, none⟩) st.length ky]) (by simp [results, Try.results120, go_sem, x_c]) rfl ⟨gx2, kx, gy4, ky, rfl, HF.out.2⟩
    · go_simp
      replace HS := Lib.hid HS.out.mky
      refine hK.out _ _ ?_ (fun hHeld => ?_)
      · (try dsimp only)
        exact SKo11 HS.out
      clear hK K
      (try simp only [Act.put, List.setIfInBounds_toArray, List.set_cons_zero, List.set_cons_succ])
      generalize Y1.heap.size = gy5 at HS ⊢
      generalize (World.alloc Y1 _ : World) = Y5 at HS hHeld ⊢
      refine wpAnyH_ready (rs := [5]) (by kernel_rfl) (by simp) ?_
      refine (AllReadyH.cons (o := { dst := some 10, op := Go.Op.call { callee := Go.Callee.builtin Go.Builtin.append, args := #[Go.Operand.tmp 7, Go.Operand.tmp 9], argTypes := #[59, 59] }, type := 59, pos := "l11_plans.go:66", after := #[{ on := 2, ground := Go.Ground.data }, { on := 4, ground := Go.Ground.data }], guard := none }) rfl (fun K hK => ?_) AllReadyH.nil)
      refine step_keep11 rfl _ _ 59 rfl (w.heap.size + 2) 28 ia (.agg #[.int .i64 0, .int .i64 0, .int .i64 0, .int .i64 0, .int .i64 0, .int .i64 0]) 6 48 Try.underlying59 hia hia0 hia1 hia2 rfl (by decide) gx1 0 0 [] rfl HS.out.x ⟨g1, 0, none⟩ l.length c1 (hv11 l) rfl (hv11_len l) (ra_add (ra_below R1.out HS.out.bel rfl)) (hv11_one l) (by unfold maxLen; omega) (by omega) HS.out.le ?_
      intro gx6 kx Y6 hown hgr hat _
      simp only [Nat.zero_add, List.nil_append] at hown ⊢
      replace HS := Lib.hid (HS.out.appx hown hgr hat)
      clear hown hgr hat
      refine hK.out _ _ ?_ (fun hHeld => ?_)
      · (try dsimp only)
        exact SKo11 HS.out
      clear hK K
      (try simp only [Act.put, List.setIfInBounds_toArray, List.set_cons_zero, List.set_cons_succ])
      refine wpAnyH_ready (rs := [8]) (by kernel_rfl) (by simp) ?_
      refine (AllReadyH.cons (o := { dst := some 13, op := Go.Op.call { callee := Go.Callee.builtin Go.Builtin.append, args := #[Go.Operand.tmp 11, Go.Operand.tmp 12], argTypes := #[60, 60] }, type := 60, pos := "l11_plans.go:66", after := #[{ on := 6, ground := Go.Ground.data }, { on := 7, ground := Go.Ground.data }, { on := 5, ground := Go.Ground.chain }], guard := none }) rfl (fun K hK => ?_) AllReadyH.nil)
      refine step_keep11 rfl _ _ 60 rfl (w.heap.size + 2) 73 ib (.agg #[.int .i64 0, .int .i64 0, .int .i64 0, .int .i64 0]) 4 32 Try.underlying60 hib hib0 hib1 hib2 rfl (by decide) gy5 0 0 [] rfl HS.out.y ⟨g2, 0, none⟩ st.length c2 (sv11 st) rfl (sv11_len st) (ra_add (ra_below R2.out HS.out.bel rfl)) (sv11_one st) (by unfold maxLen; omega) (by omega) HS.out.le ?_
      intro gy7 ky Y7 hown hgr hat _
      simp only [Nat.zero_add, List.nil_append] at hown ⊢
      replace HS := Lib.hid (HS.out.appy hown hgr hat)
      clear hown hgr hat
      refine hK.out _ _ ?_ (fun hHeld => ?_)
      · (try dsimp only)
        exact SKo11 HS.out
      clear hK K
      (try simp only [Act.put, List.setIfInBounds_toArray, List.set_cons_zero, List.set_cons_succ])
      refine wpAnyH_take (i := 9) (oi := { dst := some 14, op := Go.Op.build 62 #[(0, Go.Operand.tmp 6), (1, Go.Operand.tmp 10), (2, Go.Operand.tmp 13)], type := 62, pos := "l11_plans.go:66", after := #[{ on := 1, ground := Go.Ground.data }, { on := 5, ground := Go.Ground.data }, { on := 8, ground := Go.Ground.data }], guard := none }) (v := ?_) rfl (by kernel_rfl) (by kernel_rfl) (by kernel_rfl) (fun _ _ _ h => h) (Or.inl ⟨by rfl, ?_⟩) (by assumption) ?_
      rotate_left
      · intro w hSw; (try dsimp only at hSw); go_simp; (try with_reducible rfl)
      simp only [Act.put, List.setIfInBounds_toArray, List.set_cons_zero, List.set_cons_succ]
      refine wpAnyH_ready (rs := [10]) (by kernel_rfl) (by simp) ?_
      refine AllReadyH.cons (o := { dst := none, op := Go.Op.store 62 (Go.Operand.tmp 4) (Go.Operand.tmp 14), type := 0, pos := "l11_plans.go:66", after := #[{ on := 9, ground := Go.Ground.data }, { on := 8, ground := Go.Ground.chain }, { on := 0, ground := Go.Ground.phase }, { on := 1, ground := Go.Ground.phase }, { on := 2, ground := Go.Ground.phase }, { on := 3, ground := Go.Ground.phase }, { on := 4, ground := Go.Ground.phase }, { on := 5, ground := Go.Ground.phase }, { on := 6, ground := Go.Ground.phase }, { on := 7, ground := Go.Ground.phase }, { on := 8, ground := Go.Ground.phase }, { on := 9, ground := Go.Ground.phase }], guard := none }) rfl (fun K hK => ?_) AllReadyH.nil
      have z_c := fun j => cell_of_row Y7 _ j _ _ _ HS.out.2.1
      have z_f := fun j => frozen_of_row Y7 _ j _ _ HS.out.2.1
      go_simp
      clear z_c z_f
      have HF := fun X hX => Lib.hid (HS.out.fin (m0 := m0) (m1 := m1) (m2 := m2) (m3 := m3) (m4 := m4) (m5 := m5) (X := X) hX)
      generalize hX : (World.setCell _ _ _ : World) = X
      replace HF := HF X hX
      refine hK.out _ _ ?_ (fun hHeld => ?_)
      · (try dsimp only)
        rw [← hX]
        exact SKset11 HS.out
      clear hK K hX
      (try simp only [Act.put, List.setIfInBounds_toArray, List.set_cons_zero, List.set_cons_succ])
      refine wpAnyH_done (by kernel_rfl) ?_ _
      have x_c := fun j => cell_of_row X _ j _ _ _ HF.out.1
      go_wp2_with fail
      exact bodyPost_ret (v := .agg #[.int .i64 m0, .int .i64 m1, .int .i64 m2, .int .i64 m3, .int .i64 m4, .int .i64 m5, .slice (some ⟨gx6, 0, none⟩) l.length kx, .slice (some ⟨gy7, 0, none⟩) st.length ky]) (by simp [results, Try.results120, go_sem, x_c]) rfl ⟨gx6, kx, gy7, ky, rfl, HF.out.2⟩
  · go_simp
    replace HS := Lib.hid HS.out.mky
    refine hK.out _ _ ?_ (fun hHeld => ?_)
    · (try dsimp only)
      exact SKo11 HS.out
    clear hK K
    (try simp only [Act.put, List.setIfInBounds_toArray, List.set_cons_zero, List.set_cons_succ])
    generalize V.heap.size = gy8 at HS ⊢
    generalize (World.alloc V _ : World) = Y8 at HS hHeld ⊢
    refine wpAnyH_ready (rs := [2]) (by kernel_rfl) (by simp) ?_
    refine (AllReadyH.cons (o := { dst := some 7, op := Go.Op.buildSlice 59 0 #[], type := 59, pos := "l11_plans.go:66", after := #[], guard := none }) rfl (fun K hK => ?_) AllReadyH.nil)
    go_simp
    replace HS := Lib.hid HS.out.mkx
    refine hK.out _ _ ?_ (fun hHeld => ?_)
    · (try dsimp only)
      exact SKo11 HS.out
    clear hK K
    (try simp only [Act.put, List.setIfInBounds_toArray, List.set_cons_zero, List.set_cons_succ])
    generalize Y8.heap.size = gx9 at HS ⊢
    generalize (World.alloc Y8 _ : World) = Y9 at HS hHeld ⊢
    refine wpAnyH_ready (rs := [5]) (by kernel_rfl) (by simp) ?_
    refine (AllReadyH.cons (o := { dst := some 10, op := Go.Op.call { callee := Go.Callee.builtin Go.Builtin.append, args := #[Go.Operand.tmp 7, Go.Operand.tmp 9], argTypes := #[59, 59] }, type := 59, pos := "l11_plans.go:66", after := #[{ on := 2, ground := Go.Ground.data }, { on := 4, ground := Go.Ground.data }], guard := none }) rfl (fun K hK => ?_) AllReadyH.nil)
    refine step_keep11 rfl _ _ 59 rfl (w.heap.size + 2) 28 ia (.agg #[.int .i64 0, .int .i64 0, .int .i64 0, .int .i64 0, .int .i64 0, .int .i64 0]) 6 48 Try.underlying59 hia hia0 hia1 hia2 rfl (by decide) gx9 0 0 [] rfl HS.out.x ⟨g1, 0, none⟩ l.length c1 (hv11 l) rfl (hv11_len l) (ra_add (ra_below R1.out HS.out.bel rfl)) (hv11_one l) (by unfold maxLen; omega) (by omega) HS.out.le ?_
    intro gx10 kx Y10 hown hgr hat _
    simp only [Nat.zero_add, List.nil_append] at hown ⊢
    replace HS := Lib.hid (HS.out.appx hown hgr hat)
    clear hown hgr hat
    refine hK.out _ _ ?_ (fun hHeld => ?_)
    · (try dsimp only)
      exact SKo11 HS.out
    clear hK K
    (try simp only [Act.put, List.setIfInBounds_toArray, List.set_cons_zero, List.set_cons_succ])
    refine wpAnyH_ready (rs := [8]) (by kernel_rfl) (by simp) ?_
    refine (AllReadyH.cons (o := { dst := some 13, op := Go.Op.call { callee := Go.Callee.builtin Go.Builtin.append, args := #[Go.Operand.tmp 11, Go.Operand.tmp 12], argTypes := #[60, 60] }, type := 60, pos := "l11_plans.go:66", after := #[{ on := 6, ground := Go.Ground.data }, { on := 7, ground := Go.Ground.data }, { on := 5, ground := Go.Ground.chain }], guard := none }) rfl (fun K hK => ?_) AllReadyH.nil)
    refine step_keep11 rfl _ _ 60 rfl (w.heap.size + 2) 73 ib (.agg #[.int .i64 0, .int .i64 0, .int .i64 0, .int .i64 0]) 4 32 Try.underlying60 hib hib0 hib1 hib2 rfl (by decide) gy8 0 0 [] rfl HS.out.y ⟨g2, 0, none⟩ st.length c2 (sv11 st) rfl (sv11_len st) (ra_add (ra_below R2.out HS.out.bel rfl)) (sv11_one st) (by unfold maxLen; omega) (by omega) HS.out.le ?_
    intro gy11 ky Y11 hown hgr hat _
    simp only [Nat.zero_add, List.nil_append] at hown ⊢
    replace HS := Lib.hid (HS.out.appy hown hgr hat)
    clear hown hgr hat
    refine hK.out _ _ ?_ (fun hHeld => ?_)
    · (try dsimp only)
      exact SKo11 HS.out
    clear hK K
    (try simp only [Act.put, List.setIfInBounds_toArray, List.set_cons_zero, List.set_cons_succ])
    refine wpAnyH_take (i := 9) (oi := { dst := some 14, op := Go.Op.build 62 #[(0, Go.Operand.tmp 6), (1, Go.Operand.tmp 10), (2, Go.Operand.tmp 13)], type := 62, pos := "l11_plans.go:66", after := #[{ on := 1, ground := Go.Ground.data }, { on := 5, ground := Go.Ground.data }, { on := 8, ground := Go.Ground.data }], guard := none }) (v := ?_) rfl (by kernel_rfl) (by kernel_rfl) (by kernel_rfl) (fun _ _ _ h => h) (Or.inl ⟨by rfl, ?_⟩) (by assumption) ?_
    rotate_left
    · intro w hSw; (try dsimp only at hSw); go_simp; (try with_reducible rfl)
    simp only [Act.put, List.setIfInBounds_toArray, List.set_cons_zero, List.set_cons_succ]
    refine wpAnyH_ready (rs := [10]) (by kernel_rfl) (by simp) ?_
    refine AllReadyH.cons (o := { dst := none, op := Go.Op.store 62 (Go.Operand.tmp 4) (Go.Operand.tmp 14), type := 0, pos := "l11_plans.go:66", after := #[{ on := 9, ground := Go.Ground.data }, { on := 8, ground := Go.Ground.chain }, { on := 0, ground := Go.Ground.phase }, { on := 1, ground := Go.Ground.phase }, { on := 2, ground := Go.Ground.phase }, { on := 3, ground := Go.Ground.phase }, { on := 4, ground := Go.Ground.phase }, { on := 5, ground := Go.Ground.phase }, { on := 6, ground := Go.Ground.phase }, { on := 7, ground := Go.Ground.phase }, { on := 8, ground := Go.Ground.phase }, { on := 9, ground := Go.Ground.phase }], guard := none }) rfl (fun K hK => ?_) AllReadyH.nil
    have z_c := fun j => cell_of_row Y11 _ j _ _ _ HS.out.2.1
    have z_f := fun j => frozen_of_row Y11 _ j _ _ HS.out.2.1
    go_simp
    clear z_c z_f
    have HF := fun X hX => Lib.hid (HS.out.fin (m0 := m0) (m1 := m1) (m2 := m2) (m3 := m3) (m4 := m4) (m5 := m5) (X := X) hX)
    generalize hX : (World.setCell _ _ _ : World) = X
    replace HF := HF X hX
    refine hK.out _ _ ?_ (fun hHeld => ?_)
    · (try dsimp only)
      rw [← hX]
      exact SKset11 HS.out
    clear hK K hX
    (try simp only [Act.put, List.setIfInBounds_toArray, List.set_cons_zero, List.set_cons_succ])
    refine wpAnyH_done (by kernel_rfl) ?_ _
    have x_c := fun j => cell_of_row X _ j _ _ _ HF.out.1
    go_wp2_with fail
    exact bodyPost_ret (v := .agg #[.int .i64 m0, .int .i64 m1, .int .i64 m2, .int .i64 m3, .int .i64 m4, .int .i64 m5, .slice (some ⟨gx10, 0, none⟩) l.length kx, .slice (some ⟨gy11, 0, none⟩) st.length ky]) (by simp [results, Try.results120, go_sem, x_c]) rfl ⟨gx10, kx, gy11, ky, rfl, HF.out.2⟩
end Go.Proofs.Ytnkjamdpafpcpaa
