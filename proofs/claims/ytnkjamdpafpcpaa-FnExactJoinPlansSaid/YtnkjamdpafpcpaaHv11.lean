/- CONTRACTS: copies of slices of sheets and of steps, a plan anew with other steps, of the code. -/
import Derived.Test.YtnkjamdpafpcpaaOw11
import Derived.WalkKit
import Derived.ProofKit
import Derived.OpenShut
import Derived.Lib.Hide
import Derived.WalkSpells
import Derived.Below
import Derived.BigQuiet
import Derived.LoopN
namespace Go.Proofs.Ytnkjamdpafpcpaa
open Go.ChangeShapes Go.WideShapes Go.ChangeAt Go.RowKit
set_option linter.unusedVariables false
theorem form11 {W : World} {B n k : Nat} {e : TypeId} {v : Value} {xs : List Value} (h : W.ownsRow B e k v n xs) (hn : v ≠ .slice none 0 0) : ∃ g c, v = .slice (some ⟨g, 0, none⟩) n c := by
  rcases h.2 with ⟨e1, _⟩ | ⟨g, c, _, e1, _⟩
  · exact absurd e1 hn
  · exact ⟨g, c, e1⟩
section
variable {b : Nat} {o0 o1 : Obj} {X Y : Option (Nat × Nat × Nat × List Value)} {w U V : World}
theorem St11.setx {g' k n : Nat} {xs : List Value} (h : St11 b o0 o1 none Y w U) (ho : V.ownsRow U.heap.size 28 6 (.slice (some ⟨g', 0, none⟩) n k) n xs) (hb : Below U.heap.size U V) : St11 b o0 o1 (some (g', k, n, xs)) Y w V := by
  have h2 := h.far hb rfl
  refine ⟨h2.1, h2.2.1, fun a ha => by cases ha; exact own_mono ho h.le, h2.2.2.2.1, fun a c ha hc => ?_, h2.2.2.2.2.2⟩
  cases ha
  have h3 := ((h.2.2.2.1 c hc).lt c.1 rfl).2
  have h4 := (ho.lt g' rfl).1
  show g' ≠ c.1
  omega
theorem St11.sety {g' k n : Nat} {xs : List Value} (h : St11 b o0 o1 X none w U) (ho : V.ownsRow U.heap.size 73 4 (.slice (some ⟨g', 0, none⟩) n k) n xs) (hb : Below U.heap.size U V) : St11 b o0 o1 X (some (g', k, n, xs)) w V := by
  have h2 := h.far hb rfl
  refine ⟨h2.1, h2.2.1, h2.2.2.1, fun a ha => by cases ha; exact own_mono ho h.le, fun a c ha hc => ?_, h2.2.2.2.2.2⟩
  cases hc
  have h3 := ((h.2.2.1 a ha).lt a.1 rfl).2
  have h4 := (ho.lt g' rfl).1
  show a.1 ≠ g'
  omega
end
set_option maxRecDepth 8000 in
theorem clone_sheets11 (l : List H11) (g c : Nat) (hl : l.length ≤ 1000) (w : World) (h : w.rangeAt g 0 (hv11 l)) : Calls Try.prog 200 #[.slice (some ⟨g, 0, none⟩) l.length c] w fun e w' => ∃ g' k, e = .returned (.slice (some ⟨g', 0, none⟩) l.length k) ∧ w'.ownsRow w.heap.size 28 6 (.slice (some ⟨g', 0, none⟩) l.length k) l.length (hv11 l) ∧ Below w.heap.size w w' := by
  obtain ⟨ia, hia, hia0, hia1, hia2⟩ := infos_sheets11
  have R1 := Lib.hid h
  clear h
  have HO : Hid ((w.alloc (.cells #[] 28)).ownsRow w.heap.size 28 6 (.slice (some ⟨w.heap.size, 0, none⟩) 0 0) 0 []) := Lib.hid (World.ownsRow_lit (base := w.heap.size) (e := 28) (size := 6) w #[] 0 (Nat.le_refl _) (by unfold maxLen; omega) rfl)
  have hB : Below w.heap.size w (w.alloc (.cells #[] 28)) := by (repeat (first | exact Below.refl _ _ | assumption | refine Below.setCell ?_ (by first | (simp; done) | (simp; omega)) _ | refine Below.alloc ?_ (by first | (simp; done) | (simp; omega)) _ | refine Below.drew ?_))
  have HB := Lib.hid hB
  clear hB
  have he : ∀ W : World, (binOp .eql 59 (.slice (some ⟨g, 0, none⟩) l.length c) (.slice none 0 0)).run Try.prog W = .ok (.bool false) W := fun _ => rfl
  go_enter Try.func200, Try.ntmps200
  go_wp2_with (at_builtin; go_loud (refine wpList_append_own_at _ rfl _ _ 59 rfl w.heap.size 28 ia (.agg #[.int .i64 0, .int .i64 0, .int .i64 0, .int .i64 0, .int .i64 0, .int .i64 0]) 6 48 Try.underlying59 hia hia0 hia1 hia2 rfl (by decide) (.slice (some ⟨w.heap.size, 0, none⟩) 0 0) 0 [] rfl HO.out ⟨g, 0, none⟩ l.length c (hv11 l) rfl (hv11_len l) (ra_add (ra_below R1.out HB.out rfl)) (hv11_one l) (by unfold maxLen; omega) (by omega) (by simp) ?_; intro v' w1 hown hgr hnn hat; simp only [Nat.zero_add, List.nil_append] at hown; have HF := Lib.hid (And.intro hown (HB.out.grown hgr (by simp) (fun k hk => by simp [Value.ownBlock] at hk; omega))); obtain ⟨g', k', rfl⟩ := form11 hown (fun e => by have := (hnn.mp e).1; simp at this); clear hown hgr hnn hat))
  go_ret
  exact ⟨g', k', rfl, HF.out.1, HF.out.2⟩
set_option maxRecDepth 20000 in
theorem clone_sheets11_nil (w : World) : Calls Try.prog 200 #[.slice none 0 0] w fun e w' => e = .returned (.slice none 0 0) ∧ w' = w := by
  have he : ∀ W : World, (binOp .eql 59 (.slice none 0 0) (.slice none 0 0)).run Try.prog W = .ok (.bool true) W := fun _ => rfl
  go_enter Try.func200, Try.ntmps200
  go_wp2_with fail
  go_ret
  exact ⟨rfl, rfl⟩
set_option maxRecDepth 8000 in
theorem clone_steps11 (l : List S11) (g c : Nat) (hl : l.length ≤ 1000) (w : World) (h : w.rangeAt g 0 (sv11 l)) : Calls Try.prog 201 #[.slice (some ⟨g, 0, none⟩) l.length c] w fun e w' => ∃ g' k, e = .returned (.slice (some ⟨g', 0, none⟩) l.length k) ∧ w'.ownsRow w.heap.size 73 4 (.slice (some ⟨g', 0, none⟩) l.length k) l.length (sv11 l) ∧ Below w.heap.size w w' := by
  obtain ⟨ia, hia, hia0, hia1, hia2⟩ := infos_steps11
  have R1 := Lib.hid h
  clear h
  have HO : Hid ((w.alloc (.cells #[] 73)).ownsRow w.heap.size 73 4 (.slice (some ⟨w.heap.size, 0, none⟩) 0 0) 0 []) := Lib.hid (World.ownsRow_lit (base := w.heap.size) (e := 73) (size := 4) w #[] 0 (Nat.le_refl _) (by unfold maxLen; omega) rfl)
  have hB : Below w.heap.size w (w.alloc (.cells #[] 73)) := by (repeat (first | exact Below.refl _ _ | assumption | refine Below.setCell ?_ (by first | (simp; done) | (simp; omega)) _ | refine Below.alloc ?_ (by first | (simp; done) | (simp; omega)) _ | refine Below.drew ?_))
  have HB := Lib.hid hB
  clear hB
  have he : ∀ W : World, (binOp .eql 60 (.slice (some ⟨g, 0, none⟩) l.length c) (.slice none 0 0)).run Try.prog W = .ok (.bool false) W := fun _ => rfl
  go_enter Try.func201, Try.ntmps201
  go_wp2_with (at_builtin; go_loud (refine wpList_append_own_at _ rfl _ _ 60 rfl w.heap.size 73 ia (.agg #[.int .i64 0, .int .i64 0, .int .i64 0, .int .i64 0]) 4 32 Try.underlying60 hia hia0 hia1 hia2 rfl (by decide) (.slice (some ⟨w.heap.size, 0, none⟩) 0 0) 0 [] rfl HO.out ⟨g, 0, none⟩ l.length c (sv11 l) rfl (sv11_len l) (ra_add (ra_below R1.out HB.out rfl)) (sv11_one l) (by unfold maxLen; omega) (by omega) (by simp) ?_; intro v' w1 hown hgr hnn hat; simp only [Nat.zero_add, List.nil_append] at hown; have HF := Lib.hid (And.intro hown (HB.out.grown hgr (by simp) (fun k hk => by simp [Value.ownBlock] at hk; omega))); obtain ⟨g', k', rfl⟩ := form11 hown (fun e => by have := (hnn.mp e).1; simp at this); clear hown hgr hnn hat))
  go_ret
  exact ⟨g', k', rfl, HF.out.1, HF.out.2⟩
set_option maxRecDepth 20000 in
theorem clone_steps11_nil (w : World) : Calls Try.prog 201 #[.slice none 0 0] w fun e w' => e = .returned (.slice none 0 0) ∧ w' = w := by
  have he : ∀ W : World, (binOp .eql 60 (.slice none 0 0) (.slice none 0 0)).run Try.prog W = .ok (.bool true) W := fun _ => rfl
  go_enter Try.func201, Try.ntmps201
  go_wp2_with fail
  go_ret
  exact ⟨rfl, rfl⟩
set_option maxRecDepth 20000 in
set_option maxHeartbeats 4000000 in
theorem ihav_11 (m0 m1 m2 m3 m4 m5 : Int) (VV : Value) (l : List H11) (st : List S11) (g1 c1 g2 c2 : Nat) (hl : l.length ≤ 1000) (hst : st.length ≤ 1000) (w : World) (h1 : w.rangeAt g1 0 (hv11 l)) (h2 : w.rangeAt g2 0 (sv11 st)) : Calls Try.prog 125 #[.agg #[.int .i64 m0, .int .i64 m1, .int .i64 m2, .int .i64 m3, .int .i64 m4, .int .i64 m5, .slice (some ⟨g1, 0, none⟩) l.length c1, VV], .slice (some ⟨g2, 0, none⟩) st.length c2] w (OP11 m0 m1 m2 m3 m4 m5 l st w) := by
  have HC1 := Lib.hid (fun W h => clone_sheets11 l g1 c1 hl W h)
  have HC2 := Lib.hid (fun W h => clone_steps11 st g2 c2 hst W h)
  have R1 := Lib.hid h1
  have R2 := Lib.hid h2
  clear h1 h2
  go_enter Try.func125, Try.ntmps125
  go_wp2_with fail
  generalize hW : (World.alloc _ _ : World) = W0
  have HS : Hid (St11 2 (.cells #[.int .i64 m0, .int .i64 m1, .int .i64 m2, .int .i64 m3, .int .i64 m4, .int .i64 m5, .slice (some ⟨g1, 0, none⟩) l.length c1, VV] 62 (0, 0)) (pz11 62) none none w W0) := Lib.hid (by
    rw [← hW]
    exact ⟨alloc_past (alloc_at rfl), alloc_at (by simp), fun a ha => by (cases ha), fun a ha => by (cases ha), fun a c ha => by (cases ha), by simp, by omega, by (repeat (first | exact Below.refl _ _ | assumption | refine Below.setCell ?_ (by first | (simp; done) | (simp; omega)) _ | refine Below.alloc ?_ (by first | (simp; done) | (simp; omega)) _ | refine Below.drew ?_))⟩)
  clear hW
  refine wp_region_held_drew (S := fun U => U.cell? ⟨w.heap.size, 0, none⟩ = some (.int .i64 m0) ∧ U.cell? ⟨w.heap.size, 1, none⟩ = some (.int .i64 m1) ∧ U.cell? ⟨w.heap.size, 2, none⟩ = some (.int .i64 m2) ∧ U.cell? ⟨w.heap.size, 3, none⟩ = some (.int .i64 m3) ∧ U.cell? ⟨w.heap.size, 4, none⟩ = some (.int .i64 m4) ∧ U.cell? ⟨w.heap.size, 5, none⟩ = some (.int .i64 m5) ∧ U.cell? ⟨w.heap.size, 6, none⟩ = some (.slice (some ⟨g1, 0, none⟩) l.length c1)) (by kernel_rfl) ?_ (fun hHeld => ?_)
  · (try dsimp only)
    exact SKo11 HS.out.drew
  replace HS := Lib.hid HS.out.drew
  obtain ⟨V, hV⟩ : ∃ X, X = W0.drew := ⟨_, rfl⟩
  rw [← hV] at HS hHeld ⊢
  clear hV
  refine wpAnyH_take (i := 0) (oi := { dst := some 5, op := Go.Op.fieldAddr 62 (Go.Operand.tmp 2) 0, type := 0, pos := "l11_plans.go:57", after := #[], guard := none }) (v := ?_) rfl (by kernel_rfl) (by kernel_rfl) (by kernel_rfl) (fun _ _ _ h => h) (Or.inl ⟨by rfl, ?_⟩) (by assumption) ?_
  rotate_left
  · intro w hSw; (try dsimp only at hSw); go_simp; (try with_reducible rfl)
  simp only [Act.put, List.setIfInBounds_toArray, List.set_cons_zero, List.set_cons_succ]
  refine wpAnyH_take (i := 1) (oi := { dst := some 6, op := Go.Op.load 28 (Go.Operand.tmp 5), type := 28, pos := "l11_plans.go:57", after := #[{ on := 0, ground := Go.Ground.data }], guard := none }) (v := ?_) rfl (by kernel_rfl) (by kernel_rfl) (by kernel_rfl) (fun _ _ _ h => h) (Or.inl ⟨by rfl, ?_⟩) (by assumption) ?_
  rotate_left
  · intro w hSw; (try dsimp only at hSw); go_simp; (try with_reducible rfl)
  simp only [Act.put, List.setIfInBounds_toArray, List.set_cons_zero, List.set_cons_succ]
  refine wpAnyH_take (i := 2) (oi := { dst := some 7, op := Go.Op.fieldAddr 62 (Go.Operand.tmp 2) 1, type := 0, pos := "l11_plans.go:57", after := #[], guard := none }) (v := ?_) rfl (by kernel_rfl) (by kernel_rfl) (by kernel_rfl) (fun _ _ _ h => h) (Or.inl ⟨by rfl, ?_⟩) (by assumption) ?_
  rotate_left
  · intro w hSw; (try dsimp only at hSw); go_simp; (try with_reducible rfl)
  simp only [Act.put, List.setIfInBounds_toArray, List.set_cons_zero, List.set_cons_succ]
  refine wpAnyH_take (i := 3) (oi := { dst := some 8, op := Go.Op.load 59 (Go.Operand.tmp 7), type := 59, pos := "l11_plans.go:57", after := #[{ on := 2, ground := Go.Ground.data }], guard := none }) (v := ?_) rfl (by kernel_rfl) (by kernel_rfl) (by kernel_rfl) (fun _ _ _ h => h) (Or.inl ⟨by rfl, ?_⟩) (by assumption) ?_
  rotate_left
  · intro w hSw; (try dsimp only at hSw); go_simp; (try with_reducible rfl)
  simp only [Act.put, List.setIfInBounds_toArray, List.set_cons_zero, List.set_cons_succ]
  refine wpAnyH_take (i := 5) (oi := { dst := some 10, op := Go.Op.move (Go.Operand.tmp 1), type := 60, pos := "l11_plans.go:57", after := #[], guard := none }) (v := ?_) rfl (by kernel_rfl) (by kernel_rfl) (by kernel_rfl) (fun _ _ _ h => h) (Or.inl ⟨by rfl, ?_⟩) (by assumption) ?_
  rotate_left
  · intro w hSw; (try dsimp only at hSw); go_simp; (try with_reducible rfl)
  simp only [Act.put, List.setIfInBounds_toArray, List.set_cons_zero, List.set_cons_succ]
  refine wpAnyH_ready (rs := [4]) (by kernel_rfl) (by simp) ?_
  refine AllReadyH.cons (o := { dst := some 9, op := Go.Op.call { callee := Go.Callee.value (Go.Operand.func 200), args := #[Go.Operand.tmp 8], argTypes := #[59] }, type := 59, pos := "l11_plans.go:57", after := #[{ on := 3, ground := Go.Ground.data }], guard := none }) rfl (fun K hK => ?_) AllReadyH.nil
  go_simp
  refine (HC1.out _ (ra_below R1.out HS.out.bel rfl)).mono ?_
  rintro e V1 ⟨gx, kx, rfl, ho, hb⟩
  replace HS := Lib.hid (HS.out.setx ho hb)
  clear ho hb
  refine hK.out _ _ ?_ (fun hHeld => ?_)
  · (try dsimp only)
    exact SKo11 HS.out
  clear hK K
  (try simp only [Act.put, List.setIfInBounds_toArray, List.set_cons_zero, List.set_cons_succ])
  refine wpAnyH_ready (rs := [6]) (by kernel_rfl) (by simp) ?_
  refine AllReadyH.cons (o := { dst := some 11, op := Go.Op.call { callee := Go.Callee.value (Go.Operand.func 201), args := #[Go.Operand.tmp 10], argTypes := #[60] }, type := 60, pos := "l11_plans.go:57", after := #[{ on := 5, ground := Go.Ground.data }, { on := 4, ground := Go.Ground.chain }], guard := none }) rfl (fun K hK => ?_) AllReadyH.nil
  go_simp
  refine (HC2.out _ (ra_below R2.out HS.out.bel rfl)).mono ?_
  rintro e V2 ⟨gy, ky, rfl, ho, hb⟩
  replace HS := Lib.hid (HS.out.sety ho hb)
  clear ho hb
  refine hK.out _ _ ?_ (fun hHeld => ?_)
  · (try dsimp only)
    exact SKo11 HS.out
  clear hK K
  (try simp only [Act.put, List.setIfInBounds_toArray, List.set_cons_zero, List.set_cons_succ])
  refine wpAnyH_take (i := 7) (oi := { dst := some 12, op := Go.Op.build 62 #[(0, Go.Operand.tmp 6), (1, Go.Operand.tmp 9), (2, Go.Operand.tmp 11)], type := 62, pos := "l11_plans.go:57", after := #[{ on := 1, ground := Go.Ground.data }, { on := 4, ground := Go.Ground.data }, { on := 6, ground := Go.Ground.data }], guard := none }) (v := ?_) rfl (by kernel_rfl) (by kernel_rfl) (by kernel_rfl) (fun _ _ _ h => h) (Or.inl ⟨by rfl, ?_⟩) (by assumption) ?_
  rotate_left
  · intro w hSw; (try dsimp only at hSw); go_simp; (try with_reducible rfl)
  simp only [Act.put, List.setIfInBounds_toArray, List.set_cons_zero, List.set_cons_succ]
  refine wpAnyH_ready (rs := [8]) (by kernel_rfl) (by simp) ?_
  refine AllReadyH.cons (o := { dst := none, op := Go.Op.store 62 (Go.Operand.tmp 4) (Go.Operand.tmp 12), type := 0, pos := "l11_plans.go:57", after := #[{ on := 7, ground := Go.Ground.data }, { on := 6, ground := Go.Ground.chain }, { on := 0, ground := Go.Ground.phase }, { on := 1, ground := Go.Ground.phase }, { on := 2, ground := Go.Ground.phase }, { on := 3, ground := Go.Ground.phase }, { on := 4, ground := Go.Ground.phase }, { on := 5, ground := Go.Ground.phase }, { on := 6, ground := Go.Ground.phase }, { on := 7, ground := Go.Ground.phase }], guard := none }) rfl (fun K hK => ?_) AllReadyH.nil
  have z_c := fun j => cell_of_row V2 _ j _ _ _ HS.out.2.1
  have z_f := fun j => frozen_of_row V2 _ j _ _ HS.out.2.1
  go_simp
  clear z_c z_f
  have HF := fun X hX => Lib.hid (HS.out.fin (m0 := m0) (m1 := m1) (m2 := m2) (m3 := m3) (m4 := m4) (m5 := m5) (X := X) hX)
  generalize hX : (World.setCell _ _ _ : World) = X
  replace HF := HF X hX
  refine hK.out _ _ ?_ (fun hHeld => ?_)
  · (try dsimp only)
    rw [← hX]
    exact SKset11 HS.out
  clear hK K hX
  (try simp only [Act.put, List.setIfInBounds_toArray, List.set_cons_zero, List.set_cons_succ])
  refine wpAnyH_done (by kernel_rfl) ?_ _
  have x_c := fun j => cell_of_row X _ j _ _ _ HF.out.1
  go_wp2_with fail
  exact bodyPost_ret (v := .agg #[.int .i64 m0, .int .i64 m1, .int .i64 m2, .int .i64 m3, .int .i64 m4, .int .i64 m5, .slice (some ⟨gx, 0, none⟩) l.length kx, .slice (some ⟨gy, 0, none⟩) st.length ky]) (by simp [results, Try.results125, go_sem, x_c]) rfl ⟨gx, kx, gy, ky, rfl, HF.out.2⟩
end Go.Proofs.Ytnkjamdpafpcpaa
