/- THE LAW's WALK over two contracts: NewShop. -/
import Derived.Test.YtnkjamdpafpcpaaRw12
import Derived.Test.YtnkjamdpafpcpaaLs12
import Derived.Test.YtnkjamdpafpcpaaNs12
import Derived.Deep.RegionHeld3
import Derived.RegionTactic
import Derived.WalkKit
import Derived.ProofKit
import Derived.OpenShut
import Derived.Lib.Hide
import Derived.WalkSpells
import Derived.Below
import Derived.BigQuiet
import Derived.LoopN
namespace Go.Proofs.Ytnkjamdpafpcpaa
open Go.ChangeShapes Go.WideShapes Go.ChangeAt Go.RowKit
set_option linter.unusedVariables false
theorem SL2 {w U : World} {a0 a1 a2 a3 a4 a5 b0 b1 b2 b3 b4 b5 : Int} (h : KR 2 [(w.heap.size, Obj.cells #[.int .i64 a0, .int .i64 a1, .int .i64 a2, .int .i64 a3, .int .i64 a4, .int .i64 a5] 24 (0, 0)), (w.heap.size + 1, Obj.cells #[.int .i64 b0, .int .i64 b1, .int .i64 b2, .int .i64 b3, .int .i64 b4, .int .i64 b5] 24 (0, 0))] w U) : U.cell? ⟨w.heap.size, 0, none⟩ = some (.int .i64 a0) ∧ U.cell? ⟨w.heap.size, 1, none⟩ = some (.int .i64 a1) ∧ U.cell? ⟨w.heap.size, 2, none⟩ = some (.int .i64 a2) ∧ U.cell? ⟨w.heap.size, 3, none⟩ = some (.int .i64 a3) ∧ U.cell? ⟨w.heap.size, 4, none⟩ = some (.int .i64 a4) ∧ U.cell? ⟨w.heap.size, 5, none⟩ = some (.int .i64 a5) ∧ U.cell? ⟨w.heap.size + 1, 0, none⟩ = some (.int .i64 b0) ∧ U.cell? ⟨w.heap.size + 1, 1, none⟩ = some (.int .i64 b1) ∧ U.cell? ⟨w.heap.size + 1, 2, none⟩ = some (.int .i64 b2) ∧ U.cell? ⟨w.heap.size + 1, 3, none⟩ = some (.int .i64 b3) ∧ U.cell? ⟨w.heap.size + 1, 4, none⟩ = some (.int .i64 b4) ∧ U.cell? ⟨w.heap.size + 1, 5, none⟩ = some (.int .i64 b5) ∧ KR 2 [(w.heap.size, Obj.cells #[.int .i64 a0, .int .i64 a1, .int .i64 a2, .int .i64 a3, .int .i64 a4, .int .i64 a5] 24 (0, 0)), (w.heap.size + 1, Obj.cells #[.int .i64 b0, .int .i64 b1, .int .i64 b2, .int .i64 b3, .int .i64 b4, .int .i64 b5] 24 (0, 0))] w U :=
  have h0 := fun j => cell_of_row U _ j _ _ _ (h.row (g := w.heap.size) (List.mem_cons_self ..))
  have h1 := fun j => cell_of_row U _ j _ _ _ (h.row (g := w.heap.size + 1) (List.mem_cons_of_mem _ (List.mem_cons_self ..)))
  ⟨h0 0, h0 1, h0 2, h0 3, h0 4, h0 5, h1 0, h1 1, h1 2, h1 3, h1 4, h1 5, h⟩
theorem SM2 {a0 a1 a2 a3 a4 a5 b0 b1 b2 b3 b4 b5 : Int} {V9 : Array Value} {k G1 : Nat} {w U : World} (h : KR k [(G1, (.cells V9 30 (0, 0))), (w.heap.size, Obj.cells #[.int .i64 a0, .int .i64 a1, .int .i64 a2, .int .i64 a3, .int .i64 a4, .int .i64 a5] 24 (0, 0)), (w.heap.size + 1, Obj.cells #[.int .i64 b0, .int .i64 b1, .int .i64 b2, .int .i64 b3, .int .i64 b4, .int .i64 b5] 24 (0, 0))] w U) : U.cell? ⟨w.heap.size, 0, none⟩ = some (.int .i64 a0) ∧ U.cell? ⟨w.heap.size, 1, none⟩ = some (.int .i64 a1) ∧ U.cell? ⟨w.heap.size, 2, none⟩ = some (.int .i64 a2) ∧ U.cell? ⟨w.heap.size, 3, none⟩ = some (.int .i64 a3) ∧ U.cell? ⟨w.heap.size, 4, none⟩ = some (.int .i64 a4) ∧ U.cell? ⟨w.heap.size, 5, none⟩ = some (.int .i64 a5) ∧ U.cell? ⟨w.heap.size + 1, 0, none⟩ = some (.int .i64 b0) ∧ U.cell? ⟨w.heap.size + 1, 1, none⟩ = some (.int .i64 b1) ∧ U.cell? ⟨w.heap.size + 1, 2, none⟩ = some (.int .i64 b2) ∧ U.cell? ⟨w.heap.size + 1, 3, none⟩ = some (.int .i64 b3) ∧ U.cell? ⟨w.heap.size + 1, 4, none⟩ = some (.int .i64 b4) ∧ U.cell? ⟨w.heap.size + 1, 5, none⟩ = some (.int .i64 b5) ∧ KR k [(G1, (.cells V9 30 (0, 0))), (w.heap.size, Obj.cells #[.int .i64 a0, .int .i64 a1, .int .i64 a2, .int .i64 a3, .int .i64 a4, .int .i64 a5] 24 (0, 0)), (w.heap.size + 1, Obj.cells #[.int .i64 b0, .int .i64 b1, .int .i64 b2, .int .i64 b3, .int .i64 b4, .int .i64 b5] 24 (0, 0))] w U :=
  have h0 := fun j => cell_of_row U _ j _ _ _ (h.row (g := w.heap.size) (List.mem_cons_of_mem _ (List.mem_cons_self ..)))
  have h1 := fun j => cell_of_row U _ j _ _ _ (h.row (g := w.heap.size + 1) (List.mem_cons_of_mem _ (List.mem_cons_of_mem _ (List.mem_cons_self ..))))
  ⟨h0 0, h0 1, h0 2, h0 3, h0 4, h0 5, h1 0, h1 1, h1 2, h1 3, h1 4, h1 5, h⟩
theorem KR.push {n : Nat} {l : List (Nat × Obj)} {w W : World} {G : Nat} {o : Obj} (h : KR n l w W) (hg : W.heap[G]? = some o) (hG : w.heap.size + n ≤ G) : ∃ m, w.heap.size + m = G + 1 ∧ KR m ((G, o) :: l) w W := by
  refine ⟨G + 1 - w.heap.size, by omega, ⟨fun p hp => ?_, by have := (Array.getElem?_eq_some_iff.1 hg).1; omega, h.2.2⟩⟩
  rcases List.mem_cons.mp hp with rfl | hp
  · exact ⟨by show G < _; omega, hg⟩
  · exact ⟨by have := (h.1 p hp).1; omega, (h.1 p hp).2⟩
theorem KR.sets9 {n g : Nat} {l : List (Nat × Obj)} {w : World} : ∀ (vs : List Value) (o : Nat) {U : World}, KR n l w U → w.heap.size + n ≤ g → KR n l w (U.setCells g o vs)
  | [], _, _, h, _ => h
  | v :: r, o, U, h, hg => by
    rw [World.setCells]
    exact KR.sets9 r (o + 1) (h.set hg) hg
set_option linter.unusedSimpArgs false in
set_option maxRecDepth 20000 in
set_option maxHeartbeats 8000000 in
theorem newshop_go (a0 a1 a2 a3 a4 a5 : Int) (b0 b1 b2 b3 b4 b5 : Int) (V9 : Array Value) (HV : Hid (V9.size = 14)) (H1 : Hid (V9.all (·.oneCell') = true)) (HQ : Hid (∀ w, Calls Try.prog 24 #[.agg V9, .agg V9] w fun e w' => e = .returned (.bool true) ∧ Below w.heap.size w w')) (t : Bool) (HS : Hid (∀ w, Calls Try.prog 21 #[.agg #[.int .i64 a0, .int .i64 a1, .int .i64 a2, .int .i64 a3, .int .i64 a4, .int .i64 a5], .agg #[.int .i64 b0, .int .i64 b1, .int .i64 b2, .int .i64 b3, .int .i64 b4, .int .i64 b5]] w fun e w' => e = .returned (.tuple #[.agg V9, .bool t]) ∧ Below w.heap.size w w'))(HI : Hid (∀ w, Calls Try.prog 23 #[.agg #[.int .i64 a0, .int .i64 a1, .int .i64 a2, .int .i64 a3, .int .i64 a4, .int .i64 a5], .agg #[.int .i64 b0, .int .i64 b1, .int .i64 b2, .int .i64 b3, .int .i64 b4, .int .i64 b5]] w fun e w' => e = .returned (.tuple #[.agg V9, .bool t]) ∧ Below w.heap.size w w')) (w : World) : Calls Try.prog 4 #[.agg #[.int .i64 a0, .int .i64 a1, .int .i64 a2, .int .i64 a3, .int .i64 a4, .int .i64 a5], .agg #[.int .i64 b0, .int .i64 b1, .int .i64 b2, .int .i64 b3, .int .i64 b4, .int .i64 b5]] w fun e w' => e = .returned (.bool true) ∧ Below w.heap.size w w' := by
  skip
  go_enter Try.func4, Try.ntmps4
  go_wp2_with fail
  generalize hW : (World.alloc _ _ : World) = W0
  have q0 : W0.heap[(w.heap.size : Nat)]? = some (Obj.cells #[.int .i64 a0, .int .i64 a1, .int .i64 a2, .int .i64 a3, .int .i64 a4, .int .i64 a5] 24 (0, 0)) := by
    rw [← hW]
    repeat (first | (refine alloc_at ?_; first | (simp; done) | (simp; omega)) | refine drew_row ?_ | refine alloc_past ?_ | assumption)
  have q1 : W0.heap[(w.heap.size + 1 : Nat)]? = some (Obj.cells #[.int .i64 b0, .int .i64 b1, .int .i64 b2, .int .i64 b3, .int .i64 b4, .int .i64 b5] 24 (0, 0)) := by
    rw [← hW]
    repeat (first | (refine alloc_at ?_; first | (simp; done) | (simp; omega)) | refine drew_row ?_ | refine alloc_past ?_ | assumption)
  have hk : KR 2 [(w.heap.size, Obj.cells #[.int .i64 a0, .int .i64 a1, .int .i64 a2, .int .i64 a3, .int .i64 a4, .int .i64 a5] 24 (0, 0)), (w.heap.size + 1, Obj.cells #[.int .i64 b0, .int .i64 b1, .int .i64 b2, .int .i64 b3, .int .i64 b4, .int .i64 b5] 24 (0, 0))] w W0 := ⟨by simp [q0, q1], by rw [← hW]; simp, by rw [← hW]; (repeat (first | exact Below.refl _ _ | assumption | refine Below.setCell ?_ (by first | (simp; done) | (simp; omega)) _ | refine Below.alloc ?_ (by first | (simp; done) | (simp; omega)) _ | refine Below.drew ?_))⟩
  clear hW q0 q1
  have hz := KR.le hk
  refine wp_region_held_drew (S := (fun U => U.cell? ⟨w.heap.size, 0, none⟩ = some (.int .i64 a0) ∧ U.cell? ⟨w.heap.size, 1, none⟩ = some (.int .i64 a1) ∧ U.cell? ⟨w.heap.size, 2, none⟩ = some (.int .i64 a2) ∧ U.cell? ⟨w.heap.size, 3, none⟩ = some (.int .i64 a3) ∧ U.cell? ⟨w.heap.size, 4, none⟩ = some (.int .i64 a4) ∧ U.cell? ⟨w.heap.size, 5, none⟩ = some (.int .i64 a5) ∧ U.cell? ⟨w.heap.size + 1, 0, none⟩ = some (.int .i64 b0) ∧ U.cell? ⟨w.heap.size + 1, 1, none⟩ = some (.int .i64 b1) ∧ U.cell? ⟨w.heap.size + 1, 2, none⟩ = some (.int .i64 b2) ∧ U.cell? ⟨w.heap.size + 1, 3, none⟩ = some (.int .i64 b3) ∧ U.cell? ⟨w.heap.size + 1, 4, none⟩ = some (.int .i64 b4) ∧ U.cell? ⟨w.heap.size + 1, 5, none⟩ = some (.int .i64 b5) ∧ KR 2 [(w.heap.size, Obj.cells #[.int .i64 a0, .int .i64 a1, .int .i64 a2, .int .i64 a3, .int .i64 a4, .int .i64 a5] 24 (0, 0)), (w.heap.size + 1, Obj.cells #[.int .i64 b0, .int .i64 b1, .int .i64 b2, .int .i64 b3, .int .i64 b4, .int .i64 b5] 24 (0, 0))] w U)) (by kernel_rfl) ?_ (fun hHeld => ?_)
  · (try dsimp only)
    have hk := hk.drew
    with_reducible refine SL2 ?_; (repeat (first | with_reducible assumption | with_reducible refine KR.al ?_ | with_reducible refine KR.drew ?_ | with_reducible refine KR.set ?_ (by first | omega | (simp; omega))))
  have hk := hk.drew
  generalize W0.drew = V at hk hHeld ⊢
  refine wpAnyH_take (i := 0) (oi := { dst := some 10, op := Go.Op.load 24 (Go.Operand.tmp 2), type := 24, pos := "exact.go:1594", after := #[], guard := none }) (v := ?_) rfl (by kernel_rfl) (by kernel_rfl) (by kernel_rfl) (fun _ _ _ h => h) (Or.inl ⟨by rfl, ?_⟩) (by assumption) ?_
  rotate_left
  · intro w hSw; (try dsimp only at hSw); go_simp; (try with_reducible rfl)
  simp only [Act.put, List.setIfInBounds_toArray, List.set_cons_zero, List.set_cons_succ]
  refine wpAnyH_take (i := 2) (oi := { dst := some 12, op := Go.Op.load 24 (Go.Operand.tmp 3), type := 24, pos := "exact.go:1594", after := #[], guard := none }) (v := ?_) rfl (by kernel_rfl) (by kernel_rfl) (by kernel_rfl) (fun _ _ _ h => h) (Or.inl ⟨by rfl, ?_⟩) (by assumption) ?_
  rotate_left
  · intro w hSw; (try dsimp only at hSw); go_simp; (try with_reducible rfl)
  simp only [Act.put, List.setIfInBounds_toArray, List.set_cons_zero, List.set_cons_succ]
  refine wpAnyH_ready (rs := [1, 8]) (by kernel_rfl) (by simp) ?_
  refine (AllReadyH.cons (o := { dst := some 11, op := Go.Op.call { callee := Go.Callee.value (Go.Operand.func 22), args := #[Go.Operand.tmp 10], argTypes := #[24] }, type := 28, pos := "exact.go:1594", after := #[{ on := 0, ground := Go.Ground.data }], guard := none }) rfl (fun K hK => ?_) (AllReadyH.cons (o := { dst := some 5, op := Go.Op.alloc 30, type := 0, pos := "exact.go:1594", after := #[], guard := none }) rfl (fun K hK => ?_) AllReadyH.nil))
  · go_simp
    refine (to_sheet _ _ _ _ _ _ _).mono ?_
    rintro e w' ⟨rfl, hb'⟩
    have hk := hk.far hb' rfl
    clear hb'
    refine hK.out _ _ ?_ (fun hHeld => ?_)
    · (try dsimp only)
      with_reducible refine SL2 ?_; (repeat (first | with_reducible assumption | with_reducible refine KR.al ?_ | with_reducible refine KR.drew ?_ | with_reducible refine KR.set ?_ (by first | omega | (simp; omega))))
    clear hK K
    (try simp only [Act.put, List.setIfInBounds_toArray, List.set_cons_zero, List.set_cons_succ])
    generalize w' = V at hk hHeld ⊢
    refine wpAnyH_ready (rs := [3, 8]) (by kernel_rfl) (by simp) ?_
    refine (AllReadyH.cons (o := { dst := some 13, op := Go.Op.call { callee := Go.Callee.value (Go.Operand.func 22), args := #[Go.Operand.tmp 12], argTypes := #[24] }, type := 28, pos := "exact.go:1594", after := #[{ on := 2, ground := Go.Ground.data }, { on := 1, ground := Go.Ground.chain }], guard := none }) rfl (fun K hK => ?_) (AllReadyH.cons (o := { dst := some 5, op := Go.Op.alloc 30, type := 0, pos := "exact.go:1594", after := #[], guard := none }) rfl (fun K hK => ?_) AllReadyH.nil))
    · go_simp
      refine (to_sheet _ _ _ _ _ _ _).mono ?_
      rintro e w' ⟨rfl, hb'⟩
      have hk := hk.far hb' rfl
      clear hb'
      refine hK.out _ _ ?_ (fun hHeld => ?_)
      · (try dsimp only)
        with_reducible refine SL2 ?_; (repeat (first | with_reducible assumption | with_reducible refine KR.al ?_ | with_reducible refine KR.drew ?_ | with_reducible refine KR.set ?_ (by first | omega | (simp; omega))))
      clear hK K
      (try simp only [Act.put, List.setIfInBounds_toArray, List.set_cons_zero, List.set_cons_succ])
      generalize w' = V at hk hHeld ⊢
      refine wpAnyH_ready (rs := [4, 8]) (by kernel_rfl) (by simp) ?_
      refine (AllReadyH.cons (o := { dst := some 14, op := Go.Op.call { callee := Go.Callee.value (Go.Operand.func 21), args := #[Go.Operand.tmp 11, Go.Operand.tmp 13], argTypes := #[28, 28] }, type := 33, pos := "exact.go:1594", after := #[{ on := 1, ground := Go.Ground.data }, { on := 3, ground := Go.Ground.data }, { on := 3, ground := Go.Ground.chain }], guard := none }) rfl (fun K hK => ?_) (AllReadyH.cons (o := { dst := some 5, op := Go.Op.alloc 30, type := 0, pos := "exact.go:1594", after := #[], guard := none }) rfl (fun K hK => ?_) AllReadyH.nil))
      · go_simp
        refine (HS.out _).mono ?_
        rintro e w' ⟨rfl, hb'⟩
        have hk := hk.far hb' rfl
        clear hb'
        refine hK.out _ _ ?_ (fun hHeld => ?_)
        · (try dsimp only)
          with_reducible refine SL2 ?_; (repeat (first | with_reducible assumption | with_reducible refine KR.al ?_ | with_reducible refine KR.drew ?_ | with_reducible refine KR.set ?_ (by first | omega | (simp; omega))))
        clear hK K
        (try simp only [Act.put, List.setIfInBounds_toArray, List.set_cons_zero, List.set_cons_succ])
        generalize w' = V at hk hHeld ⊢
        refine wpAnyH_take (i := 5) (oi := { dst := some 9, op := Go.Op.move (Go.Operand.tmp 14), type := 33, pos := "exact.go:1594", after := #[{ on := 4, ground := Go.Ground.data }], guard := none }) (v := ?_) rfl (by kernel_rfl) (by kernel_rfl) (by kernel_rfl) (fun _ _ _ h => h) (Or.inl ⟨by rfl, ?_⟩) (by assumption) ?_
        rotate_left
        · intro w hSw; (try dsimp only at hSw); go_simp; (try with_reducible rfl)
        simp only [Act.put, List.setIfInBounds_toArray, List.set_cons_zero, List.set_cons_succ]
        refine wpAnyH_take (i := 6) (oi := { dst := some 15, op := Go.Op.extract (Go.Operand.tmp 9) 0, type := 30, pos := "exact.go:1594", after := #[{ on := 5, ground := Go.Ground.data }], guard := none }) (v := ?_) rfl (by kernel_rfl) (by kernel_rfl) (by kernel_rfl) (fun _ _ _ h => h) (Or.inl ⟨by rfl, ?_⟩) (by assumption) ?_
        rotate_left
        · intro w hSw; (try dsimp only at hSw); go_simp; (try with_reducible rfl)
        simp only [Act.put, List.setIfInBounds_toArray, List.set_cons_zero, List.set_cons_succ]
        refine wpAnyH_take (i := 7) (oi := { dst := some 16, op := Go.Op.extract (Go.Operand.tmp 9) 1, type := 4, pos := "exact.go:1594", after := #[{ on := 5, ground := Go.Ground.data }, { on := 9, ground := Go.Ground.gcOnly Go.Departure.lateStores }], guard := none }) (v := ?_) rfl (by kernel_rfl) (by kernel_rfl) (by kernel_rfl) (fun _ _ _ h => h) (Or.inl ⟨by rfl, ?_⟩) (by assumption) ?_
        rotate_left
        · intro w hSw; (try dsimp only at hSw); go_simp; (try with_reducible rfl)
        simp only [Act.put, List.setIfInBounds_toArray, List.set_cons_zero, List.set_cons_succ]
        refine wpAnyH_ready (rs := [8]) (by kernel_rfl) (by simp) ?_
        refine (AllReadyH.cons (o := { dst := some 5, op := Go.Op.alloc 30, type := 0, pos := "exact.go:1594", after := #[], guard := none }) rfl (fun K hK => ?_) AllReadyH.nil)
        · go_simp
          have hn : (V.alloc (.cells #[.int .i64 0, .int .i64 0, .int .i64 0, .int .i64 0, .int .i64 0, .int .i64 0, .int .i64 0, .int .i64 0, .int .i64 0, .int .i64 0, .int .i64 0, .int .i64 0, .int .i64 0, .int .i64 0] 30)).heap[V.heap.size]? = some (.cells #[.int .i64 0, .int .i64 0, .int .i64 0, .int .i64 0, .int .i64 0, .int .i64 0, .int .i64 0, .int .i64 0, .int .i64 0, .int .i64 0, .int .i64 0, .int .i64 0, .int .i64 0, .int .i64 0] 30 (0, 0)) := alloc_at rfl
          have hG : w.heap.size + 2 ≤ V.heap.size := KR.le hk
          have hk := hk.al (o := .cells #[.int .i64 0, .int .i64 0, .int .i64 0, .int .i64 0, .int .i64 0, .int .i64 0, .int .i64 0, .int .i64 0, .int .i64 0, .int .i64 0, .int .i64 0, .int .i64 0, .int .i64 0, .int .i64 0] 30)
          refine hK.out _ _ ?_ (fun hHeld => ?_)
          · (try dsimp only)
            with_reducible refine SL2 ?_; (repeat (first | with_reducible assumption | with_reducible refine KR.al ?_ | with_reducible refine KR.drew ?_ | with_reducible refine KR.set ?_ (by first | omega | (simp; omega))))
          clear hK K
          (try simp only [Act.put, List.setIfInBounds_toArray, List.set_cons_zero, List.set_cons_succ])
          generalize V.heap.size = G at hn hG ⊢
          generalize (World.alloc _ _ : World) = V at hk hHeld hn ⊢
          refine wpAnyH_ready (rs := [9]) (by kernel_rfl) (by simp) ?_
          refine (AllReadyH.cons (o := { dst := none, op := Go.Op.store 30 (Go.Operand.tmp 5) (Go.Operand.tmp 15), type := 0, pos := "exact.go:1594", after := #[{ on := 8, ground := Go.Ground.data }, { on := 6, ground := Go.Ground.data }, { on := 4, ground := Go.Ground.chain }, { on := 0, ground := Go.Ground.phase }, { on := 1, ground := Go.Ground.phase }, { on := 2, ground := Go.Ground.phase }, { on := 3, ground := Go.Ground.phase }, { on := 4, ground := Go.Ground.phase }, { on := 5, ground := Go.Ground.phase }, { on := 6, ground := Go.Ground.phase }, { on := 7, ground := Go.Ground.textOnly Go.Departure.lateStores }, { on := 8, ground := Go.Ground.phase }], guard := none }) rfl (fun K hK => ?_) AllReadyH.nil)
          · skip
            refine wp_store_mid 30 (.tmp 5) (.tmp 15) rfl G 0 V9 rfl rfl (by rw [HV.out]; exact row_there12 hn) (by rw [HV.out]; kernel_rfl) H1.out ?_
            have hx := row_sets12 (cs' := V9) hn (by rw [HV.out]; rfl)
            have hk := KR.sets9 V9.toList 0 hk hG
            clear hn
            refine hK.out _ _ ?_ (fun hHeld => ?_)
            · (try dsimp only)
              with_reducible refine SL2 ?_; (repeat (first | with_reducible assumption | with_reducible refine KR.al ?_ | with_reducible refine KR.drew ?_ | with_reducible refine KR.set ?_ (by first | omega | (simp; omega))))
            clear hK K
            (try simp only [Act.put, List.setIfInBounds_toArray, List.set_cons_zero, List.set_cons_succ])
            generalize (World.setCells _ _ _ _ : World) = X at hk hx hHeld ⊢
            refine wpAnyH_take (i := 10) (oi := { dst := some 6, op := Go.Op.assign (Go.Operand.tmp 16), type := 4, pos := "exact.go:1594", after := #[{ on := 7, ground := Go.Ground.data }, { on := 9, ground := Go.Ground.chain }, { on := 0, ground := Go.Ground.phase }, { on := 1, ground := Go.Ground.phase }, { on := 2, ground := Go.Ground.phase }, { on := 3, ground := Go.Ground.phase }, { on := 4, ground := Go.Ground.phase }, { on := 5, ground := Go.Ground.phase }, { on := 6, ground := Go.Ground.phase }, { on := 7, ground := Go.Ground.phase }, { on := 8, ground := Go.Ground.phase }, { on := 9, ground := Go.Ground.phase }], guard := none }) (v := ?_) rfl (by kernel_rfl) (by kernel_rfl) (by kernel_rfl) (fun _ _ _ h => h) (Or.inl ⟨by rfl, ?_⟩) (by assumption) ?_
            rotate_left
            · intro w hSw; (try dsimp only at hSw); go_simp; (try with_reducible rfl)
            simp only [Act.put, List.setIfInBounds_toArray, List.set_cons_zero, List.set_cons_succ]
            refine wpAnyH_done (by kernel_rfl) ?_ _
            clear hHeld
            obtain ⟨k, hm, hk⟩ := hk.push hx hG
            clear hx hG
            generalize G = G1 at *
            go_wp2_with fail
            have hz := KR.le hk
            refine wp_region_held_drew (S := (fun U => U.cell? ⟨w.heap.size, 0, none⟩ = some (.int .i64 a0) ∧ U.cell? ⟨w.heap.size, 1, none⟩ = some (.int .i64 a1) ∧ U.cell? ⟨w.heap.size, 2, none⟩ = some (.int .i64 a2) ∧ U.cell? ⟨w.heap.size, 3, none⟩ = some (.int .i64 a3) ∧ U.cell? ⟨w.heap.size, 4, none⟩ = some (.int .i64 a4) ∧ U.cell? ⟨w.heap.size, 5, none⟩ = some (.int .i64 a5) ∧ U.cell? ⟨w.heap.size + 1, 0, none⟩ = some (.int .i64 b0) ∧ U.cell? ⟨w.heap.size + 1, 1, none⟩ = some (.int .i64 b1) ∧ U.cell? ⟨w.heap.size + 1, 2, none⟩ = some (.int .i64 b2) ∧ U.cell? ⟨w.heap.size + 1, 3, none⟩ = some (.int .i64 b3) ∧ U.cell? ⟨w.heap.size + 1, 4, none⟩ = some (.int .i64 b4) ∧ U.cell? ⟨w.heap.size + 1, 5, none⟩ = some (.int .i64 b5) ∧ KR k [(G1, (.cells V9 30 (0, 0))), (w.heap.size, Obj.cells #[.int .i64 a0, .int .i64 a1, .int .i64 a2, .int .i64 a3, .int .i64 a4, .int .i64 a5] 24 (0, 0)), (w.heap.size + 1, Obj.cells #[.int .i64 b0, .int .i64 b1, .int .i64 b2, .int .i64 b3, .int .i64 b4, .int .i64 b5] 24 (0, 0))] w U)) (by kernel_rfl) ?_ (fun hHeld => ?_)
            · (try dsimp only)
              have hk := hk.drew
              with_reducible refine SM2 ?_; (repeat (first | with_reducible assumption | with_reducible refine KR.al ?_ | with_reducible refine KR.drew ?_ | with_reducible refine KR.set ?_ (by first | omega | (simp; omega))))
            have hk := hk.drew
            generalize X.drew = V at hk hHeld ⊢
            refine wpAnyH_take (i := 0) (oi := { dst := some 18, op := Go.Op.load 24 (Go.Operand.tmp 2), type := 24, pos := "exact.go:1595", after := #[], guard := none }) (v := ?_) rfl (by kernel_rfl) (by kernel_rfl) (by kernel_rfl) (fun _ _ _ h => h) (Or.inl ⟨by rfl, ?_⟩) (by assumption) ?_
            rotate_left
            · intro w hSw; (try dsimp only at hSw); go_simp; (try with_reducible rfl)
            simp only [Act.put, List.setIfInBounds_toArray, List.set_cons_zero, List.set_cons_succ]
            refine wpAnyH_take (i := 2) (oi := { dst := some 20, op := Go.Op.load 24 (Go.Operand.tmp 3), type := 24, pos := "exact.go:1595", after := #[], guard := none }) (v := ?_) rfl (by kernel_rfl) (by kernel_rfl) (by kernel_rfl) (fun _ _ _ h => h) (Or.inl ⟨by rfl, ?_⟩) (by assumption) ?_
            rotate_left
            · intro w hSw; (try dsimp only at hSw); go_simp; (try with_reducible rfl)
            simp only [Act.put, List.setIfInBounds_toArray, List.set_cons_zero, List.set_cons_succ]
            refine wpAnyH_ready (rs := [1, 8]) (by kernel_rfl) (by simp) ?_
            refine (AllReadyH.cons (o := { dst := some 19, op := Go.Op.call { callee := Go.Callee.value (Go.Operand.func 22), args := #[Go.Operand.tmp 18], argTypes := #[24] }, type := 28, pos := "exact.go:1595", after := #[{ on := 0, ground := Go.Ground.data }], guard := none }) rfl (fun K hK => ?_) (AllReadyH.cons (o := { dst := some 7, op := Go.Op.alloc 30, type := 0, pos := "exact.go:1595", after := #[], guard := none }) rfl (fun K hK => ?_) AllReadyH.nil))
            · go_simp
              refine (to_sheet _ _ _ _ _ _ _).mono ?_
              rintro e w' ⟨rfl, hb'⟩
              have hk := hk.far hb' rfl
              clear hb'
              refine hK.out _ _ ?_ (fun hHeld => ?_)
              · (try dsimp only)
                with_reducible refine SM2 ?_; (repeat (first | with_reducible assumption | with_reducible refine KR.al ?_ | with_reducible refine KR.drew ?_ | with_reducible refine KR.set ?_ (by first | omega | (simp; omega))))
              clear hK K
              (try simp only [Act.put, List.setIfInBounds_toArray, List.set_cons_zero, List.set_cons_succ])
              generalize w' = V at hk hHeld ⊢
              refine wpAnyH_ready (rs := [3, 8]) (by kernel_rfl) (by simp) ?_
              refine (AllReadyH.cons (o := { dst := some 21, op := Go.Op.call { callee := Go.Callee.value (Go.Operand.func 22), args := #[Go.Operand.tmp 20], argTypes := #[24] }, type := 28, pos := "exact.go:1595", after := #[{ on := 2, ground := Go.Ground.data }, { on := 1, ground := Go.Ground.chain }], guard := none }) rfl (fun K hK => ?_) (AllReadyH.cons (o := { dst := some 7, op := Go.Op.alloc 30, type := 0, pos := "exact.go:1595", after := #[], guard := none }) rfl (fun K hK => ?_) AllReadyH.nil))
              · go_simp
                refine (to_sheet _ _ _ _ _ _ _).mono ?_
                rintro e w' ⟨rfl, hb'⟩
                have hk := hk.far hb' rfl
                clear hb'
                refine hK.out _ _ ?_ (fun hHeld => ?_)
                · (try dsimp only)
                  with_reducible refine SM2 ?_; (repeat (first | with_reducible assumption | with_reducible refine KR.al ?_ | with_reducible refine KR.drew ?_ | with_reducible refine KR.set ?_ (by first | omega | (simp; omega))))
                clear hK K
                (try simp only [Act.put, List.setIfInBounds_toArray, List.set_cons_zero, List.set_cons_succ])
                generalize w' = V at hk hHeld ⊢
                refine wpAnyH_ready (rs := [4, 8]) (by kernel_rfl) (by simp) ?_
                refine (AllReadyH.cons (o := { dst := some 22, op := Go.Op.call { callee := Go.Callee.value (Go.Operand.func 23), args := #[Go.Operand.tmp 19, Go.Operand.tmp 21], argTypes := #[28, 28] }, type := 33, pos := "exact.go:1595", after := #[{ on := 1, ground := Go.Ground.data }, { on := 3, ground := Go.Ground.data }, { on := 3, ground := Go.Ground.chain }], guard := none }) rfl (fun K hK => ?_) (AllReadyH.cons (o := { dst := some 7, op := Go.Op.alloc 30, type := 0, pos := "exact.go:1595", after := #[], guard := none }) rfl (fun K hK => ?_) AllReadyH.nil))
                · go_simp
                  refine (HI.out _).mono ?_
                  rintro e w' ⟨rfl, hb'⟩
                  have hk := hk.far hb' rfl
                  clear hb'
                  refine hK.out _ _ ?_ (fun hHeld => ?_)
                  · (try dsimp only)
                    with_reducible refine SM2 ?_; (repeat (first | with_reducible assumption | with_reducible refine KR.al ?_ | with_reducible refine KR.drew ?_ | with_reducible refine KR.set ?_ (by first | omega | (simp; omega))))
                  clear hK K
                  (try simp only [Act.put, List.setIfInBounds_toArray, List.set_cons_zero, List.set_cons_succ])
                  generalize w' = V at hk hHeld ⊢
                  refine wpAnyH_take (i := 5) (oi := { dst := some 17, op := Go.Op.move (Go.Operand.tmp 22), type := 33, pos := "exact.go:1595", after := #[{ on := 4, ground := Go.Ground.data }], guard := none }) (v := ?_) rfl (by kernel_rfl) (by kernel_rfl) (by kernel_rfl) (fun _ _ _ h => h) (Or.inl ⟨by rfl, ?_⟩) (by assumption) ?_
                  rotate_left
                  · intro w hSw; (try dsimp only at hSw); go_simp; (try with_reducible rfl)
                  simp only [Act.put, List.setIfInBounds_toArray, List.set_cons_zero, List.set_cons_succ]
                  refine wpAnyH_take (i := 6) (oi := { dst := some 23, op := Go.Op.extract (Go.Operand.tmp 17) 0, type := 30, pos := "exact.go:1595", after := #[{ on := 5, ground := Go.Ground.data }], guard := none }) (v := ?_) rfl (by kernel_rfl) (by kernel_rfl) (by kernel_rfl) (fun _ _ _ h => h) (Or.inl ⟨by rfl, ?_⟩) (by assumption) ?_
                  rotate_left
                  · intro w hSw; (try dsimp only at hSw); go_simp; (try with_reducible rfl)
                  simp only [Act.put, List.setIfInBounds_toArray, List.set_cons_zero, List.set_cons_succ]
                  refine wpAnyH_take (i := 7) (oi := { dst := some 24, op := Go.Op.extract (Go.Operand.tmp 17) 1, type := 4, pos := "exact.go:1595", after := #[{ on := 5, ground := Go.Ground.data }, { on := 9, ground := Go.Ground.gcOnly Go.Departure.lateStores }], guard := none }) (v := ?_) rfl (by kernel_rfl) (by kernel_rfl) (by kernel_rfl) (fun _ _ _ h => h) (Or.inl ⟨by rfl, ?_⟩) (by assumption) ?_
                  rotate_left
                  · intro w hSw; (try dsimp only at hSw); go_simp; (try with_reducible rfl)
                  simp only [Act.put, List.setIfInBounds_toArray, List.set_cons_zero, List.set_cons_succ]
                  refine wpAnyH_ready (rs := [8]) (by kernel_rfl) (by simp) ?_
                  refine (AllReadyH.cons (o := { dst := some 7, op := Go.Op.alloc 30, type := 0, pos := "exact.go:1595", after := #[], guard := none }) rfl (fun K hK => ?_) AllReadyH.nil)
                  · go_simp
                    have hn : (V.alloc (.cells #[.int .i64 0, .int .i64 0, .int .i64 0, .int .i64 0, .int .i64 0, .int .i64 0, .int .i64 0, .int .i64 0, .int .i64 0, .int .i64 0, .int .i64 0, .int .i64 0, .int .i64 0, .int .i64 0] 30)).heap[V.heap.size]? = some (.cells #[.int .i64 0, .int .i64 0, .int .i64 0, .int .i64 0, .int .i64 0, .int .i64 0, .int .i64 0, .int .i64 0, .int .i64 0, .int .i64 0, .int .i64 0, .int .i64 0, .int .i64 0, .int .i64 0] 30 (0, 0)) := alloc_at rfl
                    have hG : w.heap.size + k ≤ V.heap.size := KR.le hk
                    have hk := hk.al (o := .cells #[.int .i64 0, .int .i64 0, .int .i64 0, .int .i64 0, .int .i64 0, .int .i64 0, .int .i64 0, .int .i64 0, .int .i64 0, .int .i64 0, .int .i64 0, .int .i64 0, .int .i64 0, .int .i64 0] 30)
                    refine hK.out _ _ ?_ (fun hHeld => ?_)
                    · (try dsimp only)
                      with_reducible refine SM2 ?_; (repeat (first | with_reducible assumption | with_reducible refine KR.al ?_ | with_reducible refine KR.drew ?_ | with_reducible refine KR.set ?_ (by first | omega | (simp; omega))))
                    clear hK K
                    (try simp only [Act.put, List.setIfInBounds_toArray, List.set_cons_zero, List.set_cons_succ])
                    generalize V.heap.size = G at hn hG ⊢
                    generalize (World.alloc _ _ : World) = V at hk hHeld hn ⊢
                    refine wpAnyH_ready (rs := [9]) (by kernel_rfl) (by simp) ?_
                    refine (AllReadyH.cons (o := { dst := none, op := Go.Op.store 30 (Go.Operand.tmp 7) (Go.Operand.tmp 23), type := 0, pos := "exact.go:1595", after := #[{ on := 8, ground := Go.Ground.data }, { on := 6, ground := Go.Ground.data }, { on := 4, ground := Go.Ground.chain }, { on := 0, ground := Go.Ground.phase }, { on := 1, ground := Go.Ground.phase }, { on := 2, ground := Go.Ground.phase }, { on := 3, ground := Go.Ground.phase }, { on := 4, ground := Go.Ground.phase }, { on := 5, ground := Go.Ground.phase }, { on := 6, ground := Go.Ground.phase }, { on := 7, ground := Go.Ground.textOnly Go.Departure.lateStores }, { on := 8, ground := Go.Ground.phase }], guard := none }) rfl (fun K hK => ?_) AllReadyH.nil)
                    · skip
                      refine wp_store_mid 30 (.tmp 7) (.tmp 23) rfl G 0 V9 rfl rfl (by rw [HV.out]; exact row_there12 hn) (by rw [HV.out]; kernel_rfl) H1.out ?_
                      have hx := row_sets12 (cs' := V9) hn (by rw [HV.out]; rfl)
                      have hk := KR.sets9 V9.toList 0 hk hG
                      clear hn
                      refine hK.out _ _ ?_ (fun hHeld => ?_)
                      · (try dsimp only)
                        with_reducible refine SM2 ?_; (repeat (first | with_reducible assumption | with_reducible refine KR.al ?_ | with_reducible refine KR.drew ?_ | with_reducible refine KR.set ?_ (by first | omega | (simp; omega))))
                      clear hK K
                      (try simp only [Act.put, List.setIfInBounds_toArray, List.set_cons_zero, List.set_cons_succ])
                      generalize (World.setCells _ _ _ _ : World) = X at hk hx hHeld ⊢
                      refine wpAnyH_take (i := 10) (oi := { dst := some 8, op := Go.Op.assign (Go.Operand.tmp 24), type := 4, pos := "exact.go:1595", after := #[{ on := 7, ground := Go.Ground.data }, { on := 9, ground := Go.Ground.chain }, { on := 0, ground := Go.Ground.phase }, { on := 1, ground := Go.Ground.phase }, { on := 2, ground := Go.Ground.phase }, { on := 3, ground := Go.Ground.phase }, { on := 4, ground := Go.Ground.phase }, { on := 5, ground := Go.Ground.phase }, { on := 6, ground := Go.Ground.phase }, { on := 7, ground := Go.Ground.phase }, { on := 8, ground := Go.Ground.phase }, { on := 9, ground := Go.Ground.phase }], guard := none }) (v := ?_) rfl (by kernel_rfl) (by kernel_rfl) (by kernel_rfl) (fun _ _ _ h => h) (Or.inl ⟨by rfl, ?_⟩) (by assumption) ?_
                      rotate_left
                      · intro w hSw; (try dsimp only at hSw); go_simp; (try with_reducible rfl)
                      simp only [Act.put, List.setIfInBounds_toArray, List.set_cons_zero, List.set_cons_succ]
                      refine wpAnyH_done (by kernel_rfl) ?_ _
                      clear hHeld
                      have hx1 : X.heap[G1]? = some (.cells V9 30 (0, 0)) := hk.row (List.mem_cons_self ..)
                      have hB := hk.2.2
                      clear hk hG
                      go_wp2_with (first | ((with_reducible refine wpGet12 G hx _ Try.underlying30 ?_ ?_ ?_ ?_); rfl; rfl; (rw [HV.out]; kernel_rfl)) | ((with_reducible refine wpGet12 G1 hx1 _ Try.underlying30 ?_ ?_ ?_ ?_); rfl; rfl; (rw [HV.out]; kernel_rfl)))
                      refine (HQ.out _).mono ?_
                      rintro e W3 ⟨rfl, hb⟩
                      have hB3 := below_of hB hb hB.size
                      clear hb hB hx hx1
                      go_wp2_with fail
                      go_ret
                      exact ⟨rfl, hB3⟩
                · go_simp
                  have hn : (V.alloc (.cells #[.int .i64 0, .int .i64 0, .int .i64 0, .int .i64 0, .int .i64 0, .int .i64 0, .int .i64 0, .int .i64 0, .int .i64 0, .int .i64 0, .int .i64 0, .int .i64 0, .int .i64 0, .int .i64 0] 30)).heap[V.heap.size]? = some (.cells #[.int .i64 0, .int .i64 0, .int .i64 0, .int .i64 0, .int .i64 0, .int .i64 0, .int .i64 0, .int .i64 0, .int .i64 0, .int .i64 0, .int .i64 0, .int .i64 0, .int .i64 0, .int .i64 0] 30 (0, 0)) := alloc_at rfl
                  have hG : w.heap.size + k ≤ V.heap.size := KR.le hk
                  have hk := hk.al (o := .cells #[.int .i64 0, .int .i64 0, .int .i64 0, .int .i64 0, .int .i64 0, .int .i64 0, .int .i64 0, .int .i64 0, .int .i64 0, .int .i64 0, .int .i64 0, .int .i64 0, .int .i64 0, .int .i64 0] 30)
                  refine hK.out _ _ ?_ (fun hHeld => ?_)
                  · (try dsimp only)
                    with_reducible refine SM2 ?_; (repeat (first | with_reducible assumption | with_reducible refine KR.al ?_ | with_reducible refine KR.drew ?_ | with_reducible refine KR.set ?_ (by first | omega | (simp; omega))))
                  clear hK K
                  (try simp only [Act.put, List.setIfInBounds_toArray, List.set_cons_zero, List.set_cons_succ])
                  generalize V.heap.size = G at hn hG ⊢
                  generalize (World.alloc _ _ : World) = V at hk hHeld hn ⊢
                  refine wpAnyH_ready (rs := [4]) (by kernel_rfl) (by simp) ?_
                  refine (AllReadyH.cons (o := { dst := some 22, op := Go.Op.call { callee := Go.Callee.value (Go.Operand.func 23), args := #[Go.Operand.tmp 19, Go.Operand.tmp 21], argTypes := #[28, 28] }, type := 33, pos := "exact.go:1595", after := #[{ on := 1, ground := Go.Ground.data }, { on := 3, ground := Go.Ground.data }, { on := 3, ground := Go.Ground.chain }], guard := none }) rfl (fun K hK => ?_) AllReadyH.nil)
                  · go_simp
                    refine (HI.out _).mono ?_
                    rintro e w' ⟨rfl, hb'⟩
                    have hk := hk.far hb' rfl
                    have hn := rowk hn hb' rfl
                    clear hb'
                    refine hK.out _ _ ?_ (fun hHeld => ?_)
                    · (try dsimp only)
                      with_reducible refine SM2 ?_; (repeat (first | with_reducible assumption | with_reducible refine KR.al ?_ | with_reducible refine KR.drew ?_ | with_reducible refine KR.set ?_ (by first | omega | (simp; omega))))
                    clear hK K
                    (try simp only [Act.put, List.setIfInBounds_toArray, List.set_cons_zero, List.set_cons_succ])
                    generalize w' = V at hk hHeld hn ⊢
                    refine wpAnyH_take (i := 5) (oi := { dst := some 17, op := Go.Op.move (Go.Operand.tmp 22), type := 33, pos := "exact.go:1595", after := #[{ on := 4, ground := Go.Ground.data }], guard := none }) (v := ?_) rfl (by kernel_rfl) (by kernel_rfl) (by kernel_rfl) (fun _ _ _ h => h) (Or.inl ⟨by rfl, ?_⟩) (by assumption) ?_
                    rotate_left
                    · intro w hSw; (try dsimp only at hSw); go_simp; (try with_reducible rfl)
                    simp only [Act.put, List.setIfInBounds_toArray, List.set_cons_zero, List.set_cons_succ]
                    refine wpAnyH_take (i := 6) (oi := { dst := some 23, op := Go.Op.extract (Go.Operand.tmp 17) 0, type := 30, pos := "exact.go:1595", after := #[{ on := 5, ground := Go.Ground.data }], guard := none }) (v := ?_) rfl (by kernel_rfl) (by kernel_rfl) (by kernel_rfl) (fun _ _ _ h => h) (Or.inl ⟨by rfl, ?_⟩) (by assumption) ?_
                    rotate_left
                    · intro w hSw; (try dsimp only at hSw); go_simp; (try with_reducible rfl)
                    simp only [Act.put, List.setIfInBounds_toArray, List.set_cons_zero, List.set_cons_succ]
                    refine wpAnyH_take (i := 7) (oi := { dst := some 24, op := Go.Op.extract (Go.Operand.tmp 17) 1, type := 4, pos := "exact.go:1595", after := #[{ on := 5, ground := Go.Ground.data }, { on := 9, ground := Go.Ground.gcOnly Go.Departure.lateStores }], guard := none }) (v := ?_) rfl (by kernel_rfl) (by kernel_rfl) (by kernel_rfl) (fun _ _ _ h => h) (Or.inl ⟨by rfl, ?_⟩) (by assumption) ?_
                    rotate_left
                    · intro w hSw; (try dsimp only at hSw); go_simp; (try with_reducible rfl)
                    simp only [Act.put, List.setIfInBounds_toArray, List.set_cons_zero, List.set_cons_succ]
                    refine wpAnyH_ready (rs := [9]) (by kernel_rfl) (by simp) ?_
                    refine (AllReadyH.cons (o := { dst := none, op := Go.Op.store 30 (Go.Operand.tmp 7) (Go.Operand.tmp 23), type := 0, pos := "exact.go:1595", after := #[{ on := 8, ground := Go.Ground.data }, { on := 6, ground := Go.Ground.data }, { on := 4, ground := Go.Ground.chain }, { on := 0, ground := Go.Ground.phase }, { on := 1, ground := Go.Ground.phase }, { on := 2, ground := Go.Ground.phase }, { on := 3, ground := Go.Ground.phase }, { on := 4, ground := Go.Ground.phase }, { on := 5, ground := Go.Ground.phase }, { on := 6, ground := Go.Ground.phase }, { on := 7, ground := Go.Ground.textOnly Go.Departure.lateStores }, { on := 8, ground := Go.Ground.phase }], guard := none }) rfl (fun K hK => ?_) AllReadyH.nil)
                    · skip
                      refine wp_store_mid 30 (.tmp 7) (.tmp 23) rfl G 0 V9 rfl rfl (by rw [HV.out]; exact row_there12 hn) (by rw [HV.out]; kernel_rfl) H1.out ?_
                      have hx := row_sets12 (cs' := V9) hn (by rw [HV.out]; rfl)
                      have hk := KR.sets9 V9.toList 0 hk hG
                      clear hn
                      refine hK.out _ _ ?_ (fun hHeld => ?_)
                      · (try dsimp only)
                        with_reducible refine SM2 ?_; (repeat (first | with_reducible assumption | with_reducible refine KR.al ?_ | with_reducible refine KR.drew ?_ | with_reducible refine KR.set ?_ (by first | omega | (simp; omega))))
                      clear hK K
                      (try simp only [Act.put, List.setIfInBounds_toArray, List.set_cons_zero, List.set_cons_succ])
                      generalize (World.setCells _ _ _ _ : World) = X at hk hx hHeld ⊢
                      refine wpAnyH_take (i := 10) (oi := { dst := some 8, op := Go.Op.assign (Go.Operand.tmp 24), type := 4, pos := "exact.go:1595", after := #[{ on := 7, ground := Go.Ground.data }, { on := 9, ground := Go.Ground.chain }, { on := 0, ground := Go.Ground.phase }, { on := 1, ground := Go.Ground.phase }, { on := 2, ground := Go.Ground.phase }, { on := 3, ground := Go.Ground.phase }, { on := 4, ground := Go.Ground.phase }, { on := 5, ground := Go.Ground.phase }, { on := 6, ground := Go.Ground.phase }, { on := 7, ground := Go.Ground.phase }, { on := 8, ground := Go.Ground.phase }, { on := 9, ground := Go.Ground.phase }], guard := none }) (v := ?_) rfl (by kernel_rfl) (by kernel_rfl) (by kernel_rfl) (fun _ _ _ h => h) (Or.inl ⟨by rfl, ?_⟩) (by assumption) ?_
                      rotate_left
                      · intro w hSw; (try dsimp only at hSw); go_simp; (try with_reducible rfl)
                      simp only [Act.put, List.setIfInBounds_toArray, List.set_cons_zero, List.set_cons_succ]
                      refine wpAnyH_done (by kernel_rfl) ?_ _
                      clear hHeld
                      have hx1 : X.heap[G1]? = some (.cells V9 30 (0, 0)) := hk.row (List.mem_cons_self ..)
                      have hB := hk.2.2
                      clear hk hG
                      go_wp2_with (first | ((with_reducible refine wpGet12 G hx _ Try.underlying30 ?_ ?_ ?_ ?_); rfl; rfl; (rw [HV.out]; kernel_rfl)) | ((with_reducible refine wpGet12 G1 hx1 _ Try.underlying30 ?_ ?_ ?_ ?_); rfl; rfl; (rw [HV.out]; kernel_rfl)))
                      refine (HQ.out _).mono ?_
                      rintro e W3 ⟨rfl, hb⟩
                      have hB3 := below_of hB hb hB.size
                      clear hb hB hx hx1
                      go_wp2_with fail
                      go_ret
                      exact ⟨rfl, hB3⟩
              · go_simp
                have hn : (V.alloc (.cells #[.int .i64 0, .int .i64 0, .int .i64 0, .int .i64 0, .int .i64 0, .int .i64 0, .int .i64 0, .int .i64 0, .int .i64 0, .int .i64 0, .int .i64 0, .int .i64 0, .int .i64 0, .int .i64 0] 30)).heap[V.heap.size]? = some (.cells #[.int .i64 0, .int .i64 0, .int .i64 0, .int .i64 0, .int .i64 0, .int .i64 0, .int .i64 0, .int .i64 0, .int .i64 0, .int .i64 0, .int .i64 0, .int .i64 0, .int .i64 0, .int .i64 0] 30 (0, 0)) := alloc_at rfl
                have hG : w.heap.size + k ≤ V.heap.size := KR.le hk
                have hk := hk.al (o := .cells #[.int .i64 0, .int .i64 0, .int .i64 0, .int .i64 0, .int .i64 0, .int .i64 0, .int .i64 0, .int .i64 0, .int .i64 0, .int .i64 0, .int .i64 0, .int .i64 0, .int .i64 0, .int .i64 0] 30)
                refine hK.out _ _ ?_ (fun hHeld => ?_)
                · (try dsimp only)
                  with_reducible refine SM2 ?_; (repeat (first | with_reducible assumption | with_reducible refine KR.al ?_ | with_reducible refine KR.drew ?_ | with_reducible refine KR.set ?_ (by first | omega | (simp; omega))))
                clear hK K
                (try simp only [Act.put, List.setIfInBounds_toArray, List.set_cons_zero, List.set_cons_succ])
                generalize V.heap.size = G at hn hG ⊢
                generalize (World.alloc _ _ : World) = V at hk hHeld hn ⊢
                refine wpAnyH_ready (rs := [3]) (by kernel_rfl) (by simp) ?_
                refine (AllReadyH.cons (o := { dst := some 21, op := Go.Op.call { callee := Go.Callee.value (Go.Operand.func 22), args := #[Go.Operand.tmp 20], argTypes := #[24] }, type := 28, pos := "exact.go:1595", after := #[{ on := 2, ground := Go.Ground.data }, { on := 1, ground := Go.Ground.chain }], guard := none }) rfl (fun K hK => ?_) AllReadyH.nil)
                · go_simp
                  refine (to_sheet _ _ _ _ _ _ _).mono ?_
                  rintro e w' ⟨rfl, hb'⟩
                  have hk := hk.far hb' rfl
                  have hn := rowk hn hb' rfl
                  clear hb'
                  refine hK.out _ _ ?_ (fun hHeld => ?_)
                  · (try dsimp only)
                    with_reducible refine SM2 ?_; (repeat (first | with_reducible assumption | with_reducible refine KR.al ?_ | with_reducible refine KR.drew ?_ | with_reducible refine KR.set ?_ (by first | omega | (simp; omega))))
                  clear hK K
                  (try simp only [Act.put, List.setIfInBounds_toArray, List.set_cons_zero, List.set_cons_succ])
                  generalize w' = V at hk hHeld hn ⊢
                  refine wpAnyH_ready (rs := [4]) (by kernel_rfl) (by simp) ?_
                  refine (AllReadyH.cons (o := { dst := some 22, op := Go.Op.call { callee := Go.Callee.value (Go.Operand.func 23), args := #[Go.Operand.tmp 19, Go.Operand.tmp 21], argTypes := #[28, 28] }, type := 33, pos := "exact.go:1595", after := #[{ on := 1, ground := Go.Ground.data }, { on := 3, ground := Go.Ground.data }, { on := 3, ground := Go.Ground.chain }], guard := none }) rfl (fun K hK => ?_) AllReadyH.nil)
                  · go_simp
                    refine (HI.out _).mono ?_
                    rintro e w' ⟨rfl, hb'⟩
                    have hk := hk.far hb' rfl
                    have hn := rowk hn hb' rfl
                    clear hb'
                    refine hK.out _ _ ?_ (fun hHeld => ?_)
                    · (try dsimp only)
                      with_reducible refine SM2 ?_; (repeat (first | with_reducible assumption | with_reducible refine KR.al ?_ | with_reducible refine KR.drew ?_ | with_reducible refine KR.set ?_ (by first | omega | (simp; omega))))
                    clear hK K
                    (try simp only [Act.put, List.setIfInBounds_toArray, List.set_cons_zero, List.set_cons_succ])
                    generalize w' = V at hk hHeld hn ⊢
                    refine wpAnyH_take (i := 5) (oi := { dst := some 17, op := Go.Op.move (Go.Operand.tmp 22), type := 33, pos := "exact.go:1595", after := #[{ on := 4, ground := Go.Ground.data }], guard := none }) (v := ?_) rfl (by kernel_rfl) (by kernel_rfl) (by kernel_rfl) (fun _ _ _ h => h) (Or.inl ⟨by rfl, ?_⟩) (by assumption) ?_
                    rotate_left
                    · intro w hSw; (try dsimp only at hSw); go_simp; (try with_reducible rfl)
                    simp only [Act.put, List.setIfInBounds_toArray, List.set_cons_zero, List.set_cons_succ]
                    refine wpAnyH_take (i := 6) (oi := { dst := some 23, op := Go.Op.extract (Go.Operand.tmp 17) 0, type := 30, pos := "exact.go:1595", after := #[{ on := 5, ground := Go.Ground.data }], guard := none }) (v := ?_) rfl (by kernel_rfl) (by kernel_rfl) (by kernel_rfl) (fun _ _ _ h => h) (Or.inl ⟨by rfl, ?_⟩) (by assumption) ?_
                    rotate_left
                    · intro w hSw; (try dsimp only at hSw); go_simp; (try with_reducible rfl)
                    simp only [Act.put, List.setIfInBounds_toArray, List.set_cons_zero, List.set_cons_succ]
                    refine wpAnyH_take (i := 7) (oi := { dst := some 24, op := Go.Op.extract (Go.Operand.tmp 17) 1, type := 4, pos := "exact.go:1595", after := #[{ on := 5, ground := Go.Ground.data }, { on := 9, ground := Go.Ground.gcOnly Go.Departure.lateStores }], guard := none }) (v := ?_) rfl (by kernel_rfl) (by kernel_rfl) (by kernel_rfl) (fun _ _ _ h => h) (Or.inl ⟨by rfl, ?_⟩) (by assumption) ?_
                    rotate_left
                    · intro w hSw; (try dsimp only at hSw); go_simp; (try with_reducible rfl)
                    simp only [Act.put, List.setIfInBounds_toArray, List.set_cons_zero, List.set_cons_succ]
                    refine wpAnyH_ready (rs := [9]) (by kernel_rfl) (by simp) ?_
                    refine (AllReadyH.cons (o := { dst := none, op := Go.Op.store 30 (Go.Operand.tmp 7) (Go.Operand.tmp 23), type := 0, pos := "exact.go:1595", after := #[{ on := 8, ground := Go.Ground.data }, { on := 6, ground := Go.Ground.data }, { on := 4, ground := Go.Ground.chain }, { on := 0, ground := Go.Ground.phase }, { on := 1, ground := Go.Ground.phase }, { on := 2, ground := Go.Ground.phase }, { on := 3, ground := Go.Ground.phase }, { on := 4, ground := Go.Ground.phase }, { on := 5, ground := Go.Ground.phase }, { on := 6, ground := Go.Ground.phase }, { on := 7, ground := Go.Ground.textOnly Go.Departure.lateStores }, { on := 8, ground := Go.Ground.phase }], guard := none }) rfl (fun K hK => ?_) AllReadyH.nil)
                    · skip
                      refine wp_store_mid 30 (.tmp 7) (.tmp 23) rfl G 0 V9 rfl rfl (by rw [HV.out]; exact row_there12 hn) (by rw [HV.out]; kernel_rfl) H1.out ?_
                      have hx := row_sets12 (cs' := V9) hn (by rw [HV.out]; rfl)
                      have hk := KR.sets9 V9.toList 0 hk hG
                      clear hn
                      refine hK.out _ _ ?_ (fun hHeld => ?_)
                      · (try dsimp only)
                        with_reducible refine SM2 ?_; (repeat (first | with_reducible assumption | with_reducible refine KR.al ?_ | with_reducible refine KR.drew ?_ | with_reducible refine KR.set ?_ (by first | omega | (simp; omega))))
                      clear hK K
                      (try simp only [Act.put, List.setIfInBounds_toArray, List.set_cons_zero, List.set_cons_succ])
                      generalize (World.setCells _ _ _ _ : World) = X at hk hx hHeld ⊢
                      refine wpAnyH_take (i := 10) (oi := { dst := some 8, op := Go.Op.assign (Go.Operand.tmp 24), type := 4, pos := "exact.go:1595", after := #[{ on := 7, ground := Go.Ground.data }, { on := 9, ground := Go.Ground.chain }, { on := 0, ground := Go.Ground.phase }, { on := 1, ground := Go.Ground.phase }, { on := 2, ground := Go.Ground.phase }, { on := 3, ground := Go.Ground.phase }, { on := 4, ground := Go.Ground.phase }, { on := 5, ground := Go.Ground.phase }, { on := 6, ground := Go.Ground.phase }, { on := 7, ground := Go.Ground.phase }, { on := 8, ground := Go.Ground.phase }, { on := 9, ground := Go.Ground.phase }], guard := none }) (v := ?_) rfl (by kernel_rfl) (by kernel_rfl) (by kernel_rfl) (fun _ _ _ h => h) (Or.inl ⟨by rfl, ?_⟩) (by assumption) ?_
                      rotate_left
                      · intro w hSw; (try dsimp only at hSw); go_simp; (try with_reducible rfl)
                      simp only [Act.put, List.setIfInBounds_toArray, List.set_cons_zero, List.set_cons_succ]
                      refine wpAnyH_done (by kernel_rfl) ?_ _
                      clear hHeld
                      have hx1 : X.heap[G1]? = some (.cells V9 30 (0, 0)) := hk.row (List.mem_cons_self ..)
                      have hB := hk.2.2
                      clear hk hG
                      go_wp2_with (first | ((with_reducible refine wpGet12 G hx _ Try.underlying30 ?_ ?_ ?_ ?_); rfl; rfl; (rw [HV.out]; kernel_rfl)) | ((with_reducible refine wpGet12 G1 hx1 _ Try.underlying30 ?_ ?_ ?_ ?_); rfl; rfl; (rw [HV.out]; kernel_rfl)))
                      refine (HQ.out _).mono ?_
                      rintro e W3 ⟨rfl, hb⟩
                      have hB3 := below_of hB hb hB.size
                      clear hb hB hx hx1
                      go_wp2_with fail
                      go_ret
                      exact ⟨rfl, hB3⟩
            · go_simp
              have hn : (V.alloc (.cells #[.int .i64 0, .int .i64 0, .int .i64 0, .int .i64 0, .int .i64 0, .int .i64 0, .int .i64 0, .int .i64 0, .int .i64 0, .int .i64 0, .int .i64 0, .int .i64 0, .int .i64 0, .int .i64 0] 30)).heap[V.heap.size]? = some (.cells #[.int .i64 0, .int .i64 0, .int .i64 0, .int .i64 0, .int .i64 0, .int .i64 0, .int .i64 0, .int .i64 0, .int .i64 0, .int .i64 0, .int .i64 0, .int .i64 0, .int .i64 0, .int .i64 0] 30 (0, 0)) := alloc_at rfl
              have hG : w.heap.size + k ≤ V.heap.size := KR.le hk
              have hk := hk.al (o := .cells #[.int .i64 0, .int .i64 0, .int .i64 0, .int .i64 0, .int .i64 0, .int .i64 0, .int .i64 0, .int .i64 0, .int .i64 0, .int .i64 0, .int .i64 0, .int .i64 0, .int .i64 0, .int .i64 0] 30)
              refine hK.out _ _ ?_ (fun hHeld => ?_)
              · (try dsimp only)
                with_reducible refine SM2 ?_; (repeat (first | with_reducible assumption | with_reducible refine KR.al ?_ | with_reducible refine KR.drew ?_ | with_reducible refine KR.set ?_ (by first | omega | (simp; omega))))
              clear hK K
              (try simp only [Act.put, List.setIfInBounds_toArray, List.set_cons_zero, List.set_cons_succ])
              generalize V.heap.size = G at hn hG ⊢
              generalize (World.alloc _ _ : World) = V at hk hHeld hn ⊢
              refine wpAnyH_ready (rs := [1]) (by kernel_rfl) (by simp) ?_
              refine (AllReadyH.cons (o := { dst := some 19, op := Go.Op.call { callee := Go.Callee.value (Go.Operand.func 22), args := #[Go.Operand.tmp 18], argTypes := #[24] }, type := 28, pos := "exact.go:1595", after := #[{ on := 0, ground := Go.Ground.data }], guard := none }) rfl (fun K hK => ?_) AllReadyH.nil)
              · go_simp
                refine (to_sheet _ _ _ _ _ _ _).mono ?_
                rintro e w' ⟨rfl, hb'⟩
                have hk := hk.far hb' rfl
                have hn := rowk hn hb' rfl
                clear hb'
                refine hK.out _ _ ?_ (fun hHeld => ?_)
                · (try dsimp only)
                  with_reducible refine SM2 ?_; (repeat (first | with_reducible assumption | with_reducible refine KR.al ?_ | with_reducible refine KR.drew ?_ | with_reducible refine KR.set ?_ (by first | omega | (simp; omega))))
                clear hK K
                (try simp only [Act.put, List.setIfInBounds_toArray, List.set_cons_zero, List.set_cons_succ])
                generalize w' = V at hk hHeld hn ⊢
                refine wpAnyH_ready (rs := [3]) (by kernel_rfl) (by simp) ?_
                refine (AllReadyH.cons (o := { dst := some 21, op := Go.Op.call { callee := Go.Callee.value (Go.Operand.func 22), args := #[Go.Operand.tmp 20], argTypes := #[24] }, type := 28, pos := "exact.go:1595", after := #[{ on := 2, ground := Go.Ground.data }, { on := 1, ground := Go.Ground.chain }], guard := none }) rfl (fun K hK => ?_) AllReadyH.nil)
                · go_simp
                  refine (to_sheet _ _ _ _ _ _ _).mono ?_
                  rintro e w' ⟨rfl, hb'⟩
                  have hk := hk.far hb' rfl
                  have hn := rowk hn hb' rfl
                  clear hb'
                  refine hK.out _ _ ?_ (fun hHeld => ?_)
                  · (try dsimp only)
                    with_reducible refine SM2 ?_; (repeat (first | with_reducible assumption | with_reducible refine KR.al ?_ | with_reducible refine KR.drew ?_ | with_reducible refine KR.set ?_ (by first | omega | (simp; omega))))
                  clear hK K
                  (try simp only [Act.put, List.setIfInBounds_toArray, List.set_cons_zero, List.set_cons_succ])
                  generalize w' = V at hk hHeld hn ⊢
                  refine wpAnyH_ready (rs := [4]) (by kernel_rfl) (by simp) ?_
                  refine (AllReadyH.cons (o := { dst := some 22, op := Go.Op.call { callee := Go.Callee.value (Go.Operand.func 23), args := #[Go.Operand.tmp 19, Go.Operand.tmp 21], argTypes := #[28, 28] }, type := 33, pos := "exact.go:1595", after := #[{ on := 1, ground := Go.Ground.data }, { on := 3, ground := Go.Ground.data }, { on := 3, ground := Go.Ground.chain }], guard := none }) rfl (fun K hK => ?_) AllReadyH.nil)
                  · go_simp
                    refine (HI.out _).mono ?_
                    rintro e w' ⟨rfl, hb'⟩
                    have hk := hk.far hb' rfl
                    have hn := rowk hn hb' rfl
                    clear hb'
                    refine hK.out _ _ ?_ (fun hHeld => ?_)
                    · (try dsimp only)
                      with_reducible refine SM2 ?_; (repeat (first | with_reducible assumption | with_reducible refine KR.al ?_ | with_reducible refine KR.drew ?_ | with_reducible refine KR.set ?_ (by first | omega | (simp; omega))))
                    clear hK K
                    (try simp only [Act.put, List.setIfInBounds_toArray, List.set_cons_zero, List.set_cons_succ])
                    generalize w' = V at hk hHeld hn ⊢
                    refine wpAnyH_take (i := 5) (oi := { dst := some 17, op := Go.Op.move (Go.Operand.tmp 22), type := 33, pos := "exact.go:1595", after := #[{ on := 4, ground := Go.Ground.data }], guard := none }) (v := ?_) rfl (by kernel_rfl) (by kernel_rfl) (by kernel_rfl) (fun _ _ _ h => h) (Or.inl ⟨by rfl, ?_⟩) (by assumption) ?_
                    rotate_left
                    · intro w hSw; (try dsimp only at hSw); go_simp; (try with_reducible rfl)
                    simp only [Act.put, List.setIfInBounds_toArray, List.set_cons_zero, List.set_cons_succ]
                    refine wpAnyH_take (i := 6) (oi := { dst := some 23, op := Go.Op.extract (Go.Operand.tmp 17) 0, type := 30, pos := "exact.go:1595", after := #[{ on := 5, ground := Go.Ground.data }], guard := none }) (v := ?_) rfl (by kernel_rfl) (by kernel_rfl) (by kernel_rfl) (fun _ _ _ h => h) (Or.inl ⟨by rfl, ?_⟩) (by assumption) ?_
                    rotate_left
                    · intro w hSw; (try dsimp only at hSw); go_simp; (try with_reducible rfl)
                    simp only [Act.put, List.setIfInBounds_toArray, List.set_cons_zero, List.set_cons_succ]
                    refine wpAnyH_take (i := 7) (oi := { dst := some 24, op := Go.Op.extract (Go.Operand.tmp 17) 1, type := 4, pos := "exact.go:1595", after := #[{ on := 5, ground := Go.Ground.data }, { on := 9, ground := Go.Ground.gcOnly Go.Departure.lateStores }], guard := none }) (v := ?_) rfl (by kernel_rfl) (by kernel_rfl) (by kernel_rfl) (fun _ _ _ h => h) (Or.inl ⟨by rfl, ?_⟩) (by assumption) ?_
                    rotate_left
                    · intro w hSw; (try dsimp only at hSw); go_simp; (try with_reducible rfl)
                    simp only [Act.put, List.setIfInBounds_toArray, List.set_cons_zero, List.set_cons_succ]
                    refine wpAnyH_ready (rs := [9]) (by kernel_rfl) (by simp) ?_
                    refine (AllReadyH.cons (o := { dst := none, op := Go.Op.store 30 (Go.Operand.tmp 7) (Go.Operand.tmp 23), type := 0, pos := "exact.go:1595", after := #[{ on := 8, ground := Go.Ground.data }, { on := 6, ground := Go.Ground.data }, { on := 4, ground := Go.Ground.chain }, { on := 0, ground := Go.Ground.phase }, { on := 1, ground := Go.Ground.phase }, { on := 2, ground := Go.Ground.phase }, { on := 3, ground := Go.Ground.phase }, { on := 4, ground := Go.Ground.phase }, { on := 5, ground := Go.Ground.phase }, { on := 6, ground := Go.Ground.phase }, { on := 7, ground := Go.Ground.textOnly Go.Departure.lateStores }, { on := 8, ground := Go.Ground.phase }], guard := none }) rfl (fun K hK => ?_) AllReadyH.nil)
                    · skip
                      refine wp_store_mid 30 (.tmp 7) (.tmp 23) rfl G 0 V9 rfl rfl (by rw [HV.out]; exact row_there12 hn) (by rw [HV.out]; kernel_rfl) H1.out ?_
                      have hx := row_sets12 (cs' := V9) hn (by rw [HV.out]; rfl)
                      have hk := KR.sets9 V9.toList 0 hk hG
                      clear hn
                      refine hK.out _ _ ?_ (fun hHeld => ?_)
                      · (try dsimp only)
                        with_reducible refine SM2 ?_; (repeat (first | with_reducible assumption | with_reducible refine KR.al ?_ | with_reducible refine KR.drew ?_ | with_reducible refine KR.set ?_ (by first | omega | (simp; omega))))
                      clear hK K
                      (try simp only [Act.put, List.setIfInBounds_toArray, List.set_cons_zero, List.set_cons_succ])
                      generalize (World.setCells _ _ _ _ : World) = X at hk hx hHeld ⊢
                      refine wpAnyH_take (i := 10) (oi := { dst := some 8, op := Go.Op.assign (Go.Operand.tmp 24), type := 4, pos := "exact.go:1595", after := #[{ on := 7, ground := Go.Ground.data }, { on := 9, ground := Go.Ground.chain }, { on := 0, ground := Go.Ground.phase }, { on := 1, ground := Go.Ground.phase }, { on := 2, ground := Go.Ground.phase }, { on := 3, ground := Go.Ground.phase }, { on := 4, ground := Go.Ground.phase }, { on := 5, ground := Go.Ground.phase }, { on := 6, ground := Go.Ground.phase }, { on := 7, ground := Go.Ground.phase }, { on := 8, ground := Go.Ground.phase }, { on := 9, ground := Go.Ground.phase }], guard := none }) (v := ?_) rfl (by kernel_rfl) (by kernel_rfl) (by kernel_rfl) (fun _ _ _ h => h) (Or.inl ⟨by rfl, ?_⟩) (by assumption) ?_
                      rotate_left
                      · intro w hSw; (try dsimp only at hSw); go_simp; (try with_reducible rfl)
                      simp only [Act.put, List.setIfInBounds_toArray, List.set_cons_zero, List.set_cons_succ]
                      refine wpAnyH_done (by kernel_rfl) ?_ _
                      clear hHeld
                      have hx1 : X.heap[G1]? = some (.cells V9 30 (0, 0)) := hk.row (List.mem_cons_self ..)
                      have hB := hk.2.2
                      clear hk hG
                      go_wp2_with (first | ((with_reducible refine wpGet12 G hx _ Try.underlying30 ?_ ?_ ?_ ?_); rfl; rfl; (rw [HV.out]; kernel_rfl)) | ((with_reducible refine wpGet12 G1 hx1 _ Try.underlying30 ?_ ?_ ?_ ?_); rfl; rfl; (rw [HV.out]; kernel_rfl)))
                      refine (HQ.out _).mono ?_
                      rintro e W3 ⟨rfl, hb⟩
                      have hB3 := below_of hB hb hB.size
                      clear hb hB hx hx1
                      go_wp2_with fail
                      go_ret
                      exact ⟨rfl, hB3⟩
      · go_simp
        have hn : (V.alloc (.cells #[.int .i64 0, .int .i64 0, .int .i64 0, .int .i64 0, .int .i64 0, .int .i64 0, .int .i64 0, .int .i64 0, .int .i64 0, .int .i64 0, .int .i64 0, .int .i64 0, .int .i64 0, .int .i64 0] 30)).heap[V.heap.size]? = some (.cells #[.int .i64 0, .int .i64 0, .int .i64 0, .int .i64 0, .int .i64 0, .int .i64 0, .int .i64 0, .int .i64 0, .int .i64 0, .int .i64 0, .int .i64 0, .int .i64 0, .int .i64 0, .int .i64 0] 30 (0, 0)) := alloc_at rfl
        have hG : w.heap.size + 2 ≤ V.heap.size := KR.le hk
        have hk := hk.al (o := .cells #[.int .i64 0, .int .i64 0, .int .i64 0, .int .i64 0, .int .i64 0, .int .i64 0, .int .i64 0, .int .i64 0, .int .i64 0, .int .i64 0, .int .i64 0, .int .i64 0, .int .i64 0, .int .i64 0] 30)
        refine hK.out _ _ ?_ (fun hHeld => ?_)
        · (try dsimp only)
          with_reducible refine SL2 ?_; (repeat (first | with_reducible assumption | with_reducible refine KR.al ?_ | with_reducible refine KR.drew ?_ | with_reducible refine KR.set ?_ (by first | omega | (simp; omega))))
        clear hK K
        (try simp only [Act.put, List.setIfInBounds_toArray, List.set_cons_zero, List.set_cons_succ])
        generalize V.heap.size = G at hn hG ⊢
        generalize (World.alloc _ _ : World) = V at hk hHeld hn ⊢
        refine wpAnyH_ready (rs := [4]) (by kernel_rfl) (by simp) ?_
        refine (AllReadyH.cons (o := { dst := some 14, op := Go.Op.call { callee := Go.Callee.value (Go.Operand.func 21), args := #[Go.Operand.tmp 11, Go.Operand.tmp 13], argTypes := #[28, 28] }, type := 33, pos := "exact.go:1594", after := #[{ on := 1, ground := Go.Ground.data }, { on := 3, ground := Go.Ground.data }, { on := 3, ground := Go.Ground.chain }], guard := none }) rfl (fun K hK => ?_) AllReadyH.nil)
        · go_simp
          refine (HS.out _).mono ?_
          rintro e w' ⟨rfl, hb'⟩
          have hk := hk.far hb' rfl
          have hn := rowk hn hb' rfl
          clear hb'
          refine hK.out _ _ ?_ (fun hHeld => ?_)
          · (try dsimp only)
            with_reducible refine SL2 ?_; (repeat (first | with_reducible assumption | with_reducible refine KR.al ?_ | with_reducible refine KR.drew ?_ | with_reducible refine KR.set ?_ (by first | omega | (simp; omega))))
          clear hK K
          (try simp only [Act.put, List.setIfInBounds_toArray, List.set_cons_zero, List.set_cons_succ])
          generalize w' = V at hk hHeld hn ⊢
          refine wpAnyH_take (i := 5) (oi := { dst := some 9, op := Go.Op.move (Go.Operand.tmp 14), type := 33, pos := "exact.go:1594", after := #[{ on := 4, ground := Go.Ground.data }], guard := none }) (v := ?_) rfl (by kernel_rfl) (by kernel_rfl) (by kernel_rfl) (fun _ _ _ h => h) (Or.inl ⟨by rfl, ?_⟩) (by assumption) ?_
          rotate_left
          · intro w hSw; (try dsimp only at hSw); go_simp; (try with_reducible rfl)
          simp only [Act.put, List.setIfInBounds_toArray, List.set_cons_zero, List.set_cons_succ]
          refine wpAnyH_take (i := 6) (oi := { dst := some 15, op := Go.Op.extract (Go.Operand.tmp 9) 0, type := 30, pos := "exact.go:1594", after := #[{ on := 5, ground := Go.Ground.data }], guard := none }) (v := ?_) rfl (by kernel_rfl) (by kernel_rfl) (by kernel_rfl) (fun _ _ _ h => h) (Or.inl ⟨by rfl, ?_⟩) (by assumption) ?_
          rotate_left
          · intro w hSw; (try dsimp only at hSw); go_simp; (try with_reducible rfl)
          simp only [Act.put, List.setIfInBounds_toArray, List.set_cons_zero, List.set_cons_succ]
          refine wpAnyH_take (i := 7) (oi := { dst := some 16, op := Go.Op.extract (Go.Operand.tmp 9) 1, type := 4, pos := "exact.go:1594", after := #[{ on := 5, ground := Go.Ground.data }, { on := 9, ground := Go.Ground.gcOnly Go.Departure.lateStores }], guard := none }) (v := ?_) rfl (by kernel_rfl) (by kernel_rfl) (by kernel_rfl) (fun _ _ _ h => h) (Or.inl ⟨by rfl, ?_⟩) (by assumption) ?_
          rotate_left
          · intro w hSw; (try dsimp only at hSw); go_simp; (try with_reducible rfl)
          simp only [Act.put, List.setIfInBounds_toArray, List.set_cons_zero, List.set_cons_succ]
          refine wpAnyH_ready (rs := [9]) (by kernel_rfl) (by simp) ?_
          refine (AllReadyH.cons (o := { dst := none, op := Go.Op.store 30 (Go.Operand.tmp 5) (Go.Operand.tmp 15), type := 0, pos := "exact.go:1594", after := #[{ on := 8, ground := Go.Ground.data }, { on := 6, ground := Go.Ground.data }, { on := 4, ground := Go.Ground.chain }, { on := 0, ground := Go.Ground.phase }, { on := 1, ground := Go.Ground.phase }, { on := 2, ground := Go.Ground.phase }, { on := 3, ground := Go.Ground.phase }, { on := 4, ground := Go.Ground.phase }, { on := 5, ground := Go.Ground.phase }, { on := 6, ground := Go.Ground.phase }, { on := 7, ground := Go.Ground.textOnly Go.Departure.lateStores }, { on := 8, ground := Go.Ground.phase }], guard := none }) rfl (fun K hK => ?_) AllReadyH.nil)
          · skip
            refine wp_store_mid 30 (.tmp 5) (.tmp 15) rfl G 0 V9 rfl rfl (by rw [HV.out]; exact row_there12 hn) (by rw [HV.out]; kernel_rfl) H1.out ?_
            have hx := row_sets12 (cs' := V9) hn (by rw [HV.out]; rfl)
            have hk := KR.sets9 V9.toList 0 hk hG
            clear hn
            refine hK.out _ _ ?_ (fun hHeld => ?_)
            · (try dsimp only)
              with_reducible refine SL2 ?_; (repeat (first | with_reducible assumption | with_reducible refine KR.al ?_ | with_reducible refine KR.drew ?_ | with_reducible refine KR.set ?_ (by first | omega | (simp; omega))))
            clear hK K
            (try simp only [Act.put, List.setIfInBounds_toArray, List.set_cons_zero, List.set_cons_succ])
            generalize (World.setCells _ _ _ _ : World) = X at hk hx hHeld ⊢
            refine wpAnyH_take (i := 10) (oi := { dst := some 6, op := Go.Op.assign (Go.Operand.tmp 16), type := 4, pos := "exact.go:1594", after := #[{ on := 7, ground := Go.Ground.data }, { on := 9, ground := Go.Ground.chain }, { on := 0, ground := Go.Ground.phase }, { on := 1, ground := Go.Ground.phase }, { on := 2, ground := Go.Ground.phase }, { on := 3, ground := Go.Ground.phase }, { on := 4, ground := Go.Ground.phase }, { on := 5, ground := Go.Ground.phase }, { on := 6, ground := Go.Ground.phase }, { on := 7, ground := Go.Ground.phase }, { on := 8, ground := Go.Ground.phase }, { on := 9, ground := Go.Ground.phase }], guard := none }) (v := ?_) rfl (by kernel_rfl) (by kernel_rfl) (by kernel_rfl) (fun _ _ _ h => h) (Or.inl ⟨by rfl, ?_⟩) (by assumption) ?_
            rotate_left
            · intro w hSw; (try dsimp only at hSw); go_simp; (try with_reducible rfl)
            simp only [Act.put, List.setIfInBounds_toArray, List.set_cons_zero, List.set_cons_succ]
            refine wpAnyH_done (by kernel_rfl) ?_ _
            clear hHeld
            obtain ⟨k, hm, hk⟩ := hk.push hx hG
            clear hx hG
            generalize G = G1 at *
            go_wp2_with fail
            have hz := KR.le hk
            refine wp_region_held_drew (S := (fun U => U.cell? ⟨w.heap.size, 0, none⟩ = some (.int .i64 a0) ∧ U.cell? ⟨w.heap.size, 1, none⟩ = some (.int .i64 a1) ∧ U.cell? ⟨w.heap.size, 2, none⟩ = some (.int .i64 a2) ∧ U.cell? ⟨w.heap.size, 3, none⟩ = some (.int .i64 a3) ∧ U.cell? ⟨w.heap.size, 4, none⟩ = some (.int .i64 a4) ∧ U.cell? ⟨w.heap.size, 5, none⟩ = some (.int .i64 a5) ∧ U.cell? ⟨w.heap.size + 1, 0, none⟩ = some (.int .i64 b0) ∧ U.cell? ⟨w.heap.size + 1, 1, none⟩ = some (.int .i64 b1) ∧ U.cell? ⟨w.heap.size + 1, 2, none⟩ = some (.int .i64 b2) ∧ U.cell? ⟨w.heap.size + 1, 3, none⟩ = some (.int .i64 b3) ∧ U.cell? ⟨w.heap.size + 1, 4, none⟩ = some (.int .i64 b4) ∧ U.cell? ⟨w.heap.size + 1, 5, none⟩ = some (.int .i64 b5) ∧ KR k [(G1, (.cells V9 30 (0, 0))), (w.heap.size, Obj.cells #[.int .i64 a0, .int .i64 a1, .int .i64 a2, .int .i64 a3, .int .i64 a4, .int .i64 a5] 24 (0, 0)), (w.heap.size + 1, Obj.cells #[.int .i64 b0, .int .i64 b1, .int .i64 b2, .int .i64 b3, .int .i64 b4, .int .i64 b5] 24 (0, 0))] w U)) (by kernel_rfl) ?_ (fun hHeld => ?_)
            · (try dsimp only)
              have hk := hk.drew
              with_reducible refine SM2 ?_; (repeat (first | with_reducible assumption | with_reducible refine KR.al ?_ | with_reducible refine KR.drew ?_ | with_reducible refine KR.set ?_ (by first | omega | (simp; omega))))
            have hk := hk.drew
            generalize X.drew = V at hk hHeld ⊢
            refine wpAnyH_take (i := 0) (oi := { dst := some 18, op := Go.Op.load 24 (Go.Operand.tmp 2), type := 24, pos := "exact.go:1595", after := #[], guard := none }) (v := ?_) rfl (by kernel_rfl) (by kernel_rfl) (by kernel_rfl) (fun _ _ _ h => h) (Or.inl ⟨by rfl, ?_⟩) (by assumption) ?_
            rotate_left
            · intro w hSw; (try dsimp only at hSw); go_simp; (try with_reducible rfl)
            simp only [Act.put, List.setIfInBounds_toArray, List.set_cons_zero, List.set_cons_succ]
            refine wpAnyH_take (i := 2) (oi := { dst := some 20, op := Go.Op.load 24 (Go.Operand.tmp 3), type := 24, pos := "exact.go:1595", after := #[], guard := none }) (v := ?_) rfl (by kernel_rfl) (by kernel_rfl) (by kernel_rfl) (fun _ _ _ h => h) (Or.inl ⟨by rfl, ?_⟩) (by assumption) ?_
            rotate_left
            · intro w hSw; (try dsimp only at hSw); go_simp; (try with_reducible rfl)
            simp only [Act.put, List.setIfInBounds_toArray, List.set_cons_zero, List.set_cons_succ]
            refine wpAnyH_ready (rs := [1, 8]) (by kernel_rfl) (by simp) ?_
            refine (AllReadyH.cons (o := { dst := some 19, op := Go.Op.call { callee := Go.Callee.value (Go.Operand.func 22), args := #[Go.Operand.tmp 18], argTypes := #[24] }, type := 28, pos := "exact.go:1595", after := #[{ on := 0, ground := Go.Ground.data }], guard := none }) rfl (fun K hK => ?_) (AllReadyH.cons (o := { dst := some 7, op := Go.Op.alloc 30, type := 0, pos := "exact.go:1595", after := #[], guard := none }) rfl (fun K hK => ?_) AllReadyH.nil))
            · go_simp
              refine (to_sheet _ _ _ _ _ _ _).mono ?_
              rintro e w' ⟨rfl, hb'⟩
              have hk := hk.far hb' rfl
              clear hb'
              refine hK.out _ _ ?_ (fun hHeld => ?_)
              · (try dsimp only)
                with_reducible refine SM2 ?_; (repeat (first | with_reducible assumption | with_reducible refine KR.al ?_ | with_reducible refine KR.drew ?_ | with_reducible refine KR.set ?_ (by first | omega | (simp; omega))))
              clear hK K
              (try simp only [Act.put, List.setIfInBounds_toArray, List.set_cons_zero, List.set_cons_succ])
              generalize w' = V at hk hHeld ⊢
              refine wpAnyH_ready (rs := [3, 8]) (by kernel_rfl) (by simp) ?_
              refine (AllReadyH.cons (o := { dst := some 21, op := Go.Op.call { callee := Go.Callee.value (Go.Operand.func 22), args := #[Go.Operand.tmp 20], argTypes := #[24] }, type := 28, pos := "exact.go:1595", after := #[{ on := 2, ground := Go.Ground.data }, { on := 1, ground := Go.Ground.chain }], guard := none }) rfl (fun K hK => ?_) (AllReadyH.cons (o := { dst := some 7, op := Go.Op.alloc 30, type := 0, pos := "exact.go:1595", after := #[], guard := none }) rfl (fun K hK => ?_) AllReadyH.nil))
              · go_simp
                refine (to_sheet _ _ _ _ _ _ _).mono ?_
                rintro e w' ⟨rfl, hb'⟩
                have hk := hk.far hb' rfl
                clear hb'
                refine hK.out _ _ ?_ (fun hHeld => ?_)
                · (try dsimp only)
                  with_reducible refine SM2 ?_; (repeat (first | with_reducible assumption | with_reducible refine KR.al ?_ | with_reducible refine KR.drew ?_ | with_reducible refine KR.set ?_ (by first | omega | (simp; omega))))
                clear hK K
                (try simp only [Act.put, List.setIfInBounds_toArray, List.set_cons_zero, List.set_cons_succ])
                generalize w' = V at hk hHeld ⊢
                refine wpAnyH_ready (rs := [4, 8]) (by kernel_rfl) (by simp) ?_
                refine (AllReadyH.cons (o := { dst := some 22, op := Go.Op.call { callee := Go.Callee.value (Go.Operand.func 23), args := #[Go.Operand.tmp 19, Go.Operand.tmp 21], argTypes := #[28, 28] }, type := 33, pos := "exact.go:1595", after := #[{ on := 1, ground := Go.Ground.data }, { on := 3, ground := Go.Ground.data }, { on := 3, ground := Go.Ground.chain }], guard := none }) rfl (fun K hK => ?_) (AllReadyH.cons (o := { dst := some 7, op := Go.Op.alloc 30, type := 0, pos := "exact.go:1595", after := #[], guard := none }) rfl (fun K hK => ?_) AllReadyH.nil))
                · go_simp
                  refine (HI.out _).mono ?_
                  rintro e w' ⟨rfl, hb'⟩
                  have hk := hk.far hb' rfl
                  clear hb'
                  refine hK.out _ _ ?_ (fun hHeld => ?_)
                  · (try dsimp only)
                    with_reducible refine SM2 ?_; (repeat (first | with_reducible assumption | with_reducible refine KR.al ?_ | with_reducible refine KR.drew ?_ | with_reducible refine KR.set ?_ (by first | omega | (simp; omega))))
                  clear hK K
                  (try simp only [Act.put, List.setIfInBounds_toArray, List.set_cons_zero, List.set_cons_succ])
                  generalize w' = V at hk hHeld ⊢
                  refine wpAnyH_take (i := 5) (oi := { dst := some 17, op := Go.Op.move (Go.Operand.tmp 22), type := 33, pos := "exact.go:1595", after := #[{ on := 4, ground := Go.Ground.data }], guard := none }) (v := ?_) rfl (by kernel_rfl) (by kernel_rfl) (by kernel_rfl) (fun _ _ _ h => h) (Or.inl ⟨by rfl, ?_⟩) (by assumption) ?_
                  rotate_left
                  · intro w hSw; (try dsimp only at hSw); go_simp; (try with_reducible rfl)
                  simp only [Act.put, List.setIfInBounds_toArray, List.set_cons_zero, List.set_cons_succ]
                  refine wpAnyH_take (i := 6) (oi := { dst := some 23, op := Go.Op.extract (Go.Operand.tmp 17) 0, type := 30, pos := "exact.go:1595", after := #[{ on := 5, ground := Go.Ground.data }], guard := none }) (v := ?_) rfl (by kernel_rfl) (by kernel_rfl) (by kernel_rfl) (fun _ _ _ h => h) (Or.inl ⟨by rfl, ?_⟩) (by assumption) ?_
                  rotate_left
                  · intro w hSw; (try dsimp only at hSw); go_simp; (try with_reducible rfl)
                  simp only [Act.put, List.setIfInBounds_toArray, List.set_cons_zero, List.set_cons_succ]
                  refine wpAnyH_take (i := 7) (oi := { dst := some 24, op := Go.Op.extract (Go.Operand.tmp 17) 1, type := 4, pos := "exact.go:1595", after := #[{ on := 5, ground := Go.Ground.data }, { on := 9, ground := Go.Ground.gcOnly Go.Departure.lateStores }], guard := none }) (v := ?_) rfl (by kernel_rfl) (by kernel_rfl) (by kernel_rfl) (fun _ _ _ h => h) (Or.inl ⟨by rfl, ?_⟩) (by assumption) ?_
                  rotate_left
                  · intro w hSw; (try dsimp only at hSw); go_simp; (try with_reducible rfl)
                  simp only [Act.put, List.setIfInBounds_toArray, List.set_cons_zero, List.set_cons_succ]
                  refine wpAnyH_ready (rs := [8]) (by kernel_rfl) (by simp) ?_
                  refine (AllReadyH.cons (o := { dst := some 7, op := Go.Op.alloc 30, type := 0, pos := "exact.go:1595", after := #[], guard := none }) rfl (fun K hK => ?_) AllReadyH.nil)
                  · go_simp
                    have hn : (V.alloc (.cells #[.int .i64 0, .int .i64 0, .int .i64 0, .int .i64 0, .int .i64 0, .int .i64 0, .int .i64 0, .int .i64 0, .int .i64 0, .int .i64 0, .int .i64 0, .int .i64 0, .int .i64 0, .int .i64 0] 30)).heap[V.heap.size]? = some (.cells #[.int .i64 0, .int .i64 0, .int .i64 0, .int .i64 0, .int .i64 0, .int .i64 0, .int .i64 0, .int .i64 0, .int .i64 0, .int .i64 0, .int .i64 0, .int .i64 0, .int .i64 0, .int .i64 0] 30 (0, 0)) := alloc_at rfl
                    have hG : w.heap.size + k ≤ V.heap.size := KR.le hk
                    have hk := hk.al (o := .cells #[.int .i64 0, .int .i64 0, .int .i64 0, .int .i64 0, .int .i64 0, .int .i64 0, .int .i64 0, .int .i64 0, .int .i64 0, .int .i64 0, .int .i64 0, .int .i64 0, .int .i64 0, .int .i64 0] 30)
                    refine hK.out _ _ ?_ (fun hHeld => ?_)
                    · (try dsimp only)
                      with_reducible refine SM2 ?_; (repeat (first | with_reducible assumption | with_reducible refine KR.al ?_ | with_reducible refine KR.drew ?_ | with_reducible refine KR.set ?_ (by first | omega | (simp; omega))))
                    clear hK K
                    (try simp only [Act.put, List.setIfInBounds_toArray, List.set_cons_zero, List.set_cons_succ])
                    generalize V.heap.size = G at hn hG ⊢
                    generalize (World.alloc _ _ : World) = V at hk hHeld hn ⊢
                    refine wpAnyH_ready (rs := [9]) (by kernel_rfl) (by simp) ?_
                    refine (AllReadyH.cons (o := { dst := none, op := Go.Op.store 30 (Go.Operand.tmp 7) (Go.Operand.tmp 23), type := 0, pos := "exact.go:1595", after := #[{ on := 8, ground := Go.Ground.data }, { on := 6, ground := Go.Ground.data }, { on := 4, ground := Go.Ground.chain }, { on := 0, ground := Go.Ground.phase }, { on := 1, ground := Go.Ground.phase }, { on := 2, ground := Go.Ground.phase }, { on := 3, ground := Go.Ground.phase }, { on := 4, ground := Go.Ground.phase }, { on := 5, ground := Go.Ground.phase }, { on := 6, ground := Go.Ground.phase }, { on := 7, ground := Go.Ground.textOnly Go.Departure.lateStores }, { on := 8, ground := Go.Ground.phase }], guard := none }) rfl (fun K hK => ?_) AllReadyH.nil)
                    · skip
                      refine wp_store_mid 30 (.tmp 7) (.tmp 23) rfl G 0 V9 rfl rfl (by rw [HV.out]; exact row_there12 hn) (by rw [HV.out]; kernel_rfl) H1.out ?_
                      have hx := row_sets12 (cs' := V9) hn (by rw [HV.out]; rfl)
                      have hk := KR.sets9 V9.toList 0 hk hG
                      clear hn
                      refine hK.out _ _ ?_ (fun hHeld => ?_)
                      · (try dsimp only)
                        with_reducible refine SM2 ?_; (repeat (first | with_reducible assumption | with_reducible refine KR.al ?_ | with_reducible refine KR.drew ?_ | with_reducible refine KR.set ?_ (by first | omega | (simp; omega))))
                      clear hK K
                      (try simp only [Act.put, List.setIfInBounds_toArray, List.set_cons_zero, List.set_cons_succ])
                      generalize (World.setCells _ _ _ _ : World) = X at hk hx hHeld ⊢
                      refine wpAnyH_take (i := 10) (oi := { dst := some 8, op := Go.Op.assign (Go.Operand.tmp 24), type := 4, pos := "exact.go:1595", after := #[{ on := 7, ground := Go.Ground.data }, { on := 9, ground := Go.Ground.chain }, { on := 0, ground := Go.Ground.phase }, { on := 1, ground := Go.Ground.phase }, { on := 2, ground := Go.Ground.phase }, { on := 3, ground := Go.Ground.phase }, { on := 4, ground := Go.Ground.phase }, { on := 5, ground := Go.Ground.phase }, { on := 6, ground := Go.Ground.phase }, { on := 7, ground := Go.Ground.phase }, { on := 8, ground := Go.Ground.phase }, { on := 9, ground := Go.Ground.phase }], guard := none }) (v := ?_) rfl (by kernel_rfl) (by kernel_rfl) (by kernel_rfl) (fun _ _ _ h => h) (Or.inl ⟨by rfl, ?_⟩) (by assumption) ?_
                      rotate_left
                      · intro w hSw; (try dsimp only at hSw); go_simp; (try with_reducible rfl)
                      simp only [Act.put, List.setIfInBounds_toArray, List.set_cons_zero, List.set_cons_succ]
                      refine wpAnyH_done (by kernel_rfl) ?_ _
                      clear hHeld
                      have hx1 : X.heap[G1]? = some (.cells V9 30 (0, 0)) := hk.row (List.mem_cons_self ..)
                      have hB := hk.2.2
                      clear hk hG
                      go_wp2_with (first | ((with_reducible refine wpGet12 G hx _ Try.underlying30 ?_ ?_ ?_ ?_); rfl; rfl; (rw [HV.out]; kernel_rfl)) | ((with_reducible refine wpGet12 G1 hx1 _ Try.underlying30 ?_ ?_ ?_ ?_); rfl; rfl; (rw [HV.out]; kernel_rfl)))
                      refine (HQ.out _).mono ?_
                      rintro e W3 ⟨rfl, hb⟩
                      have hB3 := below_of hB hb hB.size
                      clear hb hB hx hx1
                      go_wp2_with fail
                      go_ret
                      exact ⟨rfl, hB3⟩
                · go_simp
                  have hn : (V.alloc (.cells #[.int .i64 0, .int .i64 0, .int .i64 0, .int .i64 0, .int .i64 0, .int .i64 0, .int .i64 0, .int .i64 0, .int .i64 0, .int .i64 0, .int .i64 0, .int .i64 0, .int .i64 0, .int .i64 0] 30)).heap[V.heap.size]? = some (.cells #[.int .i64 0, .int .i64 0, .int .i64 0, .int .i64 0, .int .i64 0, .int .i64 0, .int .i64 0, .int .i64 0, .int .i64 0, .int .i64 0, .int .i64 0, .int .i64 0, .int .i64 0, .int .i64 0] 30 (0, 0)) := alloc_at rfl
                  have hG : w.heap.size + k ≤ V.heap.size := KR.le hk
                  have hk := hk.al (o := .cells #[.int .i64 0, .int .i64 0, .int .i64 0, .int .i64 0, .int .i64 0, .int .i64 0, .int .i64 0, .int .i64 0, .int .i64 0, .int .i64 0, .int .i64 0, .int .i64 0, .int .i64 0, .int .i64 0] 30)
                  refine hK.out _ _ ?_ (fun hHeld => ?_)
                  · (try dsimp only)
                    with_reducible refine SM2 ?_; (repeat (first | with_reducible assumption | with_reducible refine KR.al ?_ | with_reducible refine KR.drew ?_ | with_reducible refine KR.set ?_ (by first | omega | (simp; omega))))
                  clear hK K
                  (try simp only [Act.put, List.setIfInBounds_toArray, List.set_cons_zero, List.set_cons_succ])
                  generalize V.heap.size = G at hn hG ⊢
                  generalize (World.alloc _ _ : World) = V at hk hHeld hn ⊢
                  refine wpAnyH_ready (rs := [4]) (by kernel_rfl) (by simp) ?_
                  refine (AllReadyH.cons (o := { dst := some 22, op := Go.Op.call { callee := Go.Callee.value (Go.Operand.func 23), args := #[Go.Operand.tmp 19, Go.Operand.tmp 21], argTypes := #[28, 28] }, type := 33, pos := "exact.go:1595", after := #[{ on := 1, ground := Go.Ground.data }, { on := 3, ground := Go.Ground.data }, { on := 3, ground := Go.Ground.chain }], guard := none }) rfl (fun K hK => ?_) AllReadyH.nil)
                  · go_simp
                    refine (HI.out _).mono ?_
                    rintro e w' ⟨rfl, hb'⟩
                    have hk := hk.far hb' rfl
                    have hn := rowk hn hb' rfl
                    clear hb'
                    refine hK.out _ _ ?_ (fun hHeld => ?_)
                    · (try dsimp only)
                      with_reducible refine SM2 ?_; (repeat (first | with_reducible assumption | with_reducible refine KR.al ?_ | with_reducible refine KR.drew ?_ | with_reducible refine KR.set ?_ (by first | omega | (simp; omega))))
                    clear hK K
                    (try simp only [Act.put, List.setIfInBounds_toArray, List.set_cons_zero, List.set_cons_succ])
                    generalize w' = V at hk hHeld hn ⊢
                    refine wpAnyH_take (i := 5) (oi := { dst := some 17, op := Go.Op.move (Go.Operand.tmp 22), type := 33, pos := "exact.go:1595", after := #[{ on := 4, ground := Go.Ground.data }], guard := none }) (v := ?_) rfl (by kernel_rfl) (by kernel_rfl) (by kernel_rfl) (fun _ _ _ h => h) (Or.inl ⟨by rfl, ?_⟩) (by assumption) ?_
                    rotate_left
                    · intro w hSw; (try dsimp only at hSw); go_simp; (try with_reducible rfl)
                    simp only [Act.put, List.setIfInBounds_toArray, List.set_cons_zero, List.set_cons_succ]
                    refine wpAnyH_take (i := 6) (oi := { dst := some 23, op := Go.Op.extract (Go.Operand.tmp 17) 0, type := 30, pos := "exact.go:1595", after := #[{ on := 5, ground := Go.Ground.data }], guard := none }) (v := ?_) rfl (by kernel_rfl) (by kernel_rfl) (by kernel_rfl) (fun _ _ _ h => h) (Or.inl ⟨by rfl, ?_⟩) (by assumption) ?_
                    rotate_left
                    · intro w hSw; (try dsimp only at hSw); go_simp; (try with_reducible rfl)
                    simp only [Act.put, List.setIfInBounds_toArray, List.set_cons_zero, List.set_cons_succ]
                    refine wpAnyH_take (i := 7) (oi := { dst := some 24, op := Go.Op.extract (Go.Operand.tmp 17) 1, type := 4, pos := "exact.go:1595", after := #[{ on := 5, ground := Go.Ground.data }, { on := 9, ground := Go.Ground.gcOnly Go.Departure.lateStores }], guard := none }) (v := ?_) rfl (by kernel_rfl) (by kernel_rfl) (by kernel_rfl) (fun _ _ _ h => h) (Or.inl ⟨by rfl, ?_⟩) (by assumption) ?_
                    rotate_left
                    · intro w hSw; (try dsimp only at hSw); go_simp; (try with_reducible rfl)
                    simp only [Act.put, List.setIfInBounds_toArray, List.set_cons_zero, List.set_cons_succ]
                    refine wpAnyH_ready (rs := [9]) (by kernel_rfl) (by simp) ?_
                    refine (AllReadyH.cons (o := { dst := none, op := Go.Op.store 30 (Go.Operand.tmp 7) (Go.Operand.tmp 23), type := 0, pos := "exact.go:1595", after := #[{ on := 8, ground := Go.Ground.data }, { on := 6, ground := Go.Ground.data }, { on := 4, ground := Go.Ground.chain }, { on := 0, ground := Go.Ground.phase }, { on := 1, ground := Go.Ground.phase }, { on := 2, ground := Go.Ground.phase }, { on := 3, ground := Go.Ground.phase }, { on := 4, ground := Go.Ground.phase }, { on := 5, ground := Go.Ground.phase }, { on := 6, ground := Go.Ground.phase }, { on := 7, ground := Go.Ground.textOnly Go.Departure.lateStores }, { on := 8, ground := Go.Ground.phase }], guard := none }) rfl (fun K hK => ?_) AllReadyH.nil)
                    · skip
                      refine wp_store_mid 30 (.tmp 7) (.tmp 23) rfl G 0 V9 rfl rfl (by rw [HV.out]; exact row_there12 hn) (by rw [HV.out]; kernel_rfl) H1.out ?_
                      have hx := row_sets12 (cs' := V9) hn (by rw [HV.out]; rfl)
                      have hk := KR.sets9 V9.toList 0 hk hG
                      clear hn
                      refine hK.out _ _ ?_ (fun hHeld => ?_)
                      · (try dsimp only)
                        with_reducible refine SM2 ?_; (repeat (first | with_reducible assumption | with_reducible refine KR.al ?_ | with_reducible refine KR.drew ?_ | with_reducible refine KR.set ?_ (by first | omega | (simp; omega))))
                      clear hK K
                      (try simp only [Act.put, List.setIfInBounds_toArray, List.set_cons_zero, List.set_cons_succ])
                      generalize (World.setCells _ _ _ _ : World) = X at hk hx hHeld ⊢
                      refine wpAnyH_take (i := 10) (oi := { dst := some 8, op := Go.Op.assign (Go.Operand.tmp 24), type := 4, pos := "exact.go:1595", after := #[{ on := 7, ground := Go.Ground.data }, { on := 9, ground := Go.Ground.chain }, { on := 0, ground := Go.Ground.phase }, { on := 1, ground := Go.Ground.phase }, { on := 2, ground := Go.Ground.phase }, { on := 3, ground := Go.Ground.phase }, { on := 4, ground := Go.Ground.phase }, { on := 5, ground := Go.Ground.phase }, { on := 6, ground := Go.Ground.phase }, { on := 7, ground := Go.Ground.phase }, { on := 8, ground := Go.Ground.phase }, { on := 9, ground := Go.Ground.phase }], guard := none }) (v := ?_) rfl (by kernel_rfl) (by kernel_rfl) (by kernel_rfl) (fun _ _ _ h => h) (Or.inl ⟨by rfl, ?_⟩) (by assumption) ?_
                      rotate_left
                      · intro w hSw; (try dsimp only at hSw); go_simp; (try with_reducible rfl)
                      simp only [Act.put, List.setIfInBounds_toArray, List.set_cons_zero, List.set_cons_succ]
                      refine wpAnyH_done (by kernel_rfl) ?_ _
                      clear hHeld
                      have hx1 : X.heap[G1]? = some (.cells V9 30 (0, 0)) := hk.row (List.mem_cons_self ..)
                      have hB := hk.2.2
                      clear hk hG
                      go_wp2_with (first | ((with_reducible refine wpGet12 G hx _ Try.underlying30 ?_ ?_ ?_ ?_); rfl; rfl; (rw [HV.out]; kernel_rfl)) | ((with_reducible refine wpGet12 G1 hx1 _ Try.underlying30 ?_ ?_ ?_ ?_); rfl; rfl; (rw [HV.out]; kernel_rfl)))
                      refine (HQ.out _).mono ?_
                      rintro e W3 ⟨rfl, hb⟩
                      have hB3 := below_of hB hb hB.size
                      clear hb hB hx hx1
                      go_wp2_with fail
                      go_ret
                      exact ⟨rfl, hB3⟩
              · go_simp
                have hn : (V.alloc (.cells #[.int .i64 0, .int .i64 0, .int .i64 0, .int .i64 0, .int .i64 0, .int .i64 0, .int .i64 0, .int .i64 0, .int .i64 0, .int .i64 0, .int .i64 0, .int .i64 0, .int .i64 0, .int .i64 0] 30)).heap[V.heap.size]? = some (.cells #[.int .i64 0, .int .i64 0, .int .i64 0, .int .i64 0, .int .i64 0, .int .i64 0, .int .i64 0, .int .i64 0, .int .i64 0, .int .i64 0, .int .i64 0, .int .i64 0, .int .i64 0, .int .i64 0] 30 (0, 0)) := alloc_at rfl
                have hG : w.heap.size + k ≤ V.heap.size := KR.le hk
                have hk := hk.al (o := .cells #[.int .i64 0, .int .i64 0, .int .i64 0, .int .i64 0, .int .i64 0, .int .i64 0, .int .i64 0, .int .i64 0, .int .i64 0, .int .i64 0, .int .i64 0, .int .i64 0, .int .i64 0, .int .i64 0] 30)
                refine hK.out _ _ ?_ (fun hHeld => ?_)
                · (try dsimp only)
                  with_reducible refine SM2 ?_; (repeat (first | with_reducible assumption | with_reducible refine KR.al ?_ | with_reducible refine KR.drew ?_ | with_reducible refine KR.set ?_ (by first | omega | (simp; omega))))
                clear hK K
                (try simp only [Act.put, List.setIfInBounds_toArray, List.set_cons_zero, List.set_cons_succ])
                generalize V.heap.size = G at hn hG ⊢
                generalize (World.alloc _ _ : World) = V at hk hHeld hn ⊢
                refine wpAnyH_ready (rs := [3]) (by kernel_rfl) (by simp) ?_
                refine (AllReadyH.cons (o := { dst := some 21, op := Go.Op.call { callee := Go.Callee.value (Go.Operand.func 22), args := #[Go.Operand.tmp 20], argTypes := #[24] }, type := 28, pos := "exact.go:1595", after := #[{ on := 2, ground := Go.Ground.data }, { on := 1, ground := Go.Ground.chain }], guard := none }) rfl (fun K hK => ?_) AllReadyH.nil)
                · go_simp
                  refine (to_sheet _ _ _ _ _ _ _).mono ?_
                  rintro e w' ⟨rfl, hb'⟩
                  have hk := hk.far hb' rfl
                  have hn := rowk hn hb' rfl
                  clear hb'
                  refine hK.out _ _ ?_ (fun hHeld => ?_)
                  · (try dsimp only)
                    with_reducible refine SM2 ?_; (repeat (first | with_reducible assumption | with_reducible refine KR.al ?_ | with_reducible refine KR.drew ?_ | with_reducible refine KR.set ?_ (by first | omega | (simp; omega))))
                  clear hK K
                  (try simp only [Act.put, List.setIfInBounds_toArray, List.set_cons_zero, List.set_cons_succ])
                  generalize w' = V at hk hHeld hn ⊢
                  refine wpAnyH_ready (rs := [4]) (by kernel_rfl) (by simp) ?_
                  refine (AllReadyH.cons (o := { dst := some 22, op := Go.Op.call { callee := Go.Callee.value (Go.Operand.func 23), args := #[Go.Operand.tmp 19, Go.Operand.tmp 21], argTypes := #[28, 28] }, type := 33, pos := "exact.go:1595", after := #[{ on := 1, ground := Go.Ground.data }, { on := 3, ground := Go.Ground.data }, { on := 3, ground := Go.Ground.chain }], guard := none }) rfl (fun K hK => ?_) AllReadyH.nil)
                  · go_simp
                    refine (HI.out _).mono ?_
                    rintro e w' ⟨rfl, hb'⟩
                    have hk := hk.far hb' rfl
                    have hn := rowk hn hb' rfl
                    clear hb'
                    refine hK.out _ _ ?_ (fun hHeld => ?_)
                    · (try dsimp only)
                      with_reducible refine SM2 ?_; (repeat (first | with_reducible assumption | with_reducible refine KR.al ?_ | with_reducible refine KR.drew ?_ | with_reducible refine KR.set ?_ (by first | omega | (simp; omega))))
                    clear hK K
                    (try simp only [Act.put, List.setIfInBounds_toArray, List.set_cons_zero, List.set_cons_succ])
                    generalize w' = V at hk hHeld hn ⊢
                    refine wpAnyH_take (i := 5) (oi := { dst := some 17, op := Go.Op.move (Go.Operand.tmp 22), type := 33, pos := "exact.go:1595", after := #[{ on := 4, ground := Go.Ground.data }], guard := none }) (v := ?_) rfl (by kernel_rfl) (by kernel_rfl) (by kernel_rfl) (fun _ _ _ h => h) (Or.inl ⟨by rfl, ?_⟩) (by assumption) ?_
                    rotate_left
                    · intro w hSw; (try dsimp only at hSw); go_simp; (try with_reducible rfl)
                    simp only [Act.put, List.setIfInBounds_toArray, List.set_cons_zero, List.set_cons_succ]
                    refine wpAnyH_take (i := 6) (oi := { dst := some 23, op := Go.Op.extract (Go.Operand.tmp 17) 0, type := 30, pos := "exact.go:1595", after := #[{ on := 5, ground := Go.Ground.data }], guard := none }) (v := ?_) rfl (by kernel_rfl) (by kernel_rfl) (by kernel_rfl) (fun _ _ _ h => h) (Or.inl ⟨by rfl, ?_⟩) (by assumption) ?_
                    rotate_left
                    · intro w hSw; (try dsimp only at hSw); go_simp; (try with_reducible rfl)
                    simp only [Act.put, List.setIfInBounds_toArray, List.set_cons_zero, List.set_cons_succ]
                    refine wpAnyH_take (i := 7) (oi := { dst := some 24, op := Go.Op.extract (Go.Operand.tmp 17) 1, type := 4, pos := "exact.go:1595", after := #[{ on := 5, ground := Go.Ground.data }, { on := 9, ground := Go.Ground.gcOnly Go.Departure.lateStores }], guard := none }) (v := ?_) rfl (by kernel_rfl) (by kernel_rfl) (by kernel_rfl) (fun _ _ _ h => h) (Or.inl ⟨by rfl, ?_⟩) (by assumption) ?_
                    rotate_left
                    · intro w hSw; (try dsimp only at hSw); go_simp; (try with_reducible rfl)
                    simp only [Act.put, List.setIfInBounds_toArray, List.set_cons_zero, List.set_cons_succ]
                    refine wpAnyH_ready (rs := [9]) (by kernel_rfl) (by simp) ?_
                    refine (AllReadyH.cons (o := { dst := none, op := Go.Op.store 30 (Go.Operand.tmp 7) (Go.Operand.tmp 23), type := 0, pos := "exact.go:1595", after := #[{ on := 8, ground := Go.Ground.data }, { on := 6, ground := Go.Ground.data }, { on := 4, ground := Go.Ground.chain }, { on := 0, ground := Go.Ground.phase }, { on := 1, ground := Go.Ground.phase }, { on := 2, ground := Go.Ground.phase }, { on := 3, ground := Go.Ground.phase }, { on := 4, ground := Go.Ground.phase }, { on := 5, ground := Go.Ground.phase }, { on := 6, ground := Go.Ground.phase }, { on := 7, ground := Go.Ground.textOnly Go.Departure.lateStores }, { on := 8, ground := Go.Ground.phase }], guard := none }) rfl (fun K hK => ?_) AllReadyH.nil)
                    · skip
                      refine wp_store_mid 30 (.tmp 7) (.tmp 23) rfl G 0 V9 rfl rfl (by rw [HV.out]; exact row_there12 hn) (by rw [HV.out]; kernel_rfl) H1.out ?_
                      have hx := row_sets12 (cs' := V9) hn (by rw [HV.out]; rfl)
                      have hk := KR.sets9 V9.toList 0 hk hG
                      clear hn
                      refine hK.out _ _ ?_ (fun hHeld => ?_)
                      · (try dsimp only)
                        with_reducible refine SM2 ?_; (repeat (first | with_reducible assumption | with_reducible refine KR.al ?_ | with_reducible refine KR.drew ?_ | with_reducible refine KR.set ?_ (by first | omega | (simp; omega))))
                      clear hK K
                      (try simp only [Act.put, List.setIfInBounds_toArray, List.set_cons_zero, List.set_cons_succ])
                      generalize (World.setCells _ _ _ _ : World) = X at hk hx hHeld ⊢
                      refine wpAnyH_take (i := 10) (oi := { dst := some 8, op := Go.Op.assign (Go.Operand.tmp 24), type := 4, pos := "exact.go:1595", after := #[{ on := 7, ground := Go.Ground.data }, { on := 9, ground := Go.Ground.chain }, { on := 0, ground := Go.Ground.phase }, { on := 1, ground := Go.Ground.phase }, { on := 2, ground := Go.Ground.phase }, { on := 3, ground := Go.Ground.phase }, { on := 4, ground := Go.Ground.phase }, { on := 5, ground := Go.Ground.phase }, { on := 6, ground := Go.Ground.phase }, { on := 7, ground := Go.Ground.phase }, { on := 8, ground := Go.Ground.phase }, { on := 9, ground := Go.Ground.phase }], guard := none }) (v := ?_) rfl (by kernel_rfl) (by kernel_rfl) (by kernel_rfl) (fun _ _ _ h => h) (Or.inl ⟨by rfl, ?_⟩) (by assumption) ?_
                      rotate_left
                      · intro w hSw; (try dsimp only at hSw); go_simp; (try with_reducible rfl)
                      simp only [Act.put, List.setIfInBounds_toArray, List.set_cons_zero, List.set_cons_succ]
                      refine wpAnyH_done (by kernel_rfl) ?_ _
                      clear hHeld
                      have hx1 : X.heap[G1]? = some (.cells V9 30 (0, 0)) := hk.row (List.mem_cons_self ..)
                      have hB := hk.2.2
                      clear hk hG
                      go_wp2_with (first | ((with_reducible refine wpGet12 G hx _ Try.underlying30 ?_ ?_ ?_ ?_); rfl; rfl; (rw [HV.out]; kernel_rfl)) | ((with_reducible refine wpGet12 G1 hx1 _ Try.underlying30 ?_ ?_ ?_ ?_); rfl; rfl; (rw [HV.out]; kernel_rfl)))
                      refine (HQ.out _).mono ?_
                      rintro e W3 ⟨rfl, hb⟩
                      have hB3 := below_of hB hb hB.size
                      clear hb hB hx hx1
                      go_wp2_with fail
                      go_ret
                      exact ⟨rfl, hB3⟩
            · go_simp
              have hn : (V.alloc (.cells #[.int .i64 0, .int .i64 0, .int .i64 0, .int .i64 0, .int .i64 0, .int .i64 0, .int .i64 0, .int .i64 0, .int .i64 0, .int .i64 0, .int .i64 0, .int .i64 0, .int .i64 0, .int .i64 0] 30)).heap[V.heap.size]? = some (.cells #[.int .i64 0, .int .i64 0, .int .i64 0, .int .i64 0, .int .i64 0, .int .i64 0, .int .i64 0, .int .i64 0, .int .i64 0, .int .i64 0, .int .i64 0, .int .i64 0, .int .i64 0, .int .i64 0] 30 (0, 0)) := alloc_at rfl
              have hG : w.heap.size + k ≤ V.heap.size := KR.le hk
              have hk := hk.al (o := .cells #[.int .i64 0, .int .i64 0, .int .i64 0, .int .i64 0, .int .i64 0, .int .i64 0, .int .i64 0, .int .i64 0, .int .i64 0, .int .i64 0, .int .i64 0, .int .i64 0, .int .i64 0, .int .i64 0] 30)
              refine hK.out _ _ ?_ (fun hHeld => ?_)
              · (try dsimp only)
                with_reducible refine SM2 ?_; (repeat (first | with_reducible assumption | with_reducible refine KR.al ?_ | with_reducible refine KR.drew ?_ | with_reducible refine KR.set ?_ (by first | omega | (simp; omega))))
              clear hK K
              (try simp only [Act.put, List.setIfInBounds_toArray, List.set_cons_zero, List.set_cons_succ])
              generalize V.heap.size = G at hn hG ⊢
              generalize (World.alloc _ _ : World) = V at hk hHeld hn ⊢
              refine wpAnyH_ready (rs := [1]) (by kernel_rfl) (by simp) ?_
              refine (AllReadyH.cons (o := { dst := some 19, op := Go.Op.call { callee := Go.Callee.value (Go.Operand.func 22), args := #[Go.Operand.tmp 18], argTypes := #[24] }, type := 28, pos := "exact.go:1595", after := #[{ on := 0, ground := Go.Ground.data }], guard := none }) rfl (fun K hK => ?_) AllReadyH.nil)
              · go_simp
                refine (to_sheet _ _ _ _ _ _ _).mono ?_
                rintro e w' ⟨rfl, hb'⟩
                have hk := hk.far hb' rfl
                have hn := rowk hn hb' rfl
                clear hb'
                refine hK.out _ _ ?_ (fun hHeld => ?_)
                · (try dsimp only)
                  with_reducible refine SM2 ?_; (repeat (first | with_reducible assumption | with_reducible refine KR.al ?_ | with_reducible refine KR.drew ?_ | with_reducible refine KR.set ?_ (by first | omega | (simp; omega))))
                clear hK K
                (try simp only [Act.put, List.setIfInBounds_toArray, List.set_cons_zero, List.set_cons_succ])
                generalize w' = V at hk hHeld hn ⊢
                refine wpAnyH_ready (rs := [3]) (by kernel_rfl) (by simp) ?_
                refine (AllReadyH.cons (o := { dst := some 21, op := Go.Op.call { callee := Go.Callee.value (Go.Operand.func 22), args := #[Go.Operand.tmp 20], argTypes := #[24] }, type := 28, pos := "exact.go:1595", after := #[{ on := 2, ground := Go.Ground.data }, { on := 1, ground := Go.Ground.chain }], guard := none }) rfl (fun K hK => ?_) AllReadyH.nil)
                · go_simp
                  refine (to_sheet _ _ _ _ _ _ _).mono ?_
                  rintro e w' ⟨rfl, hb'⟩
                  have hk := hk.far hb' rfl
                  have hn := rowk hn hb' rfl
                  clear hb'
                  refine hK.out _ _ ?_ (fun hHeld => ?_)
                  · (try dsimp only)
                    with_reducible refine SM2 ?_; (repeat (first | with_reducible assumption | with_reducible refine KR.al ?_ | with_reducible refine KR.drew ?_ | with_reducible refine KR.set ?_ (by first | omega | (simp; omega))))
                  clear hK K
                  (try simp only [Act.put, List.setIfInBounds_toArray, List.set_cons_zero, List.set_cons_succ])
                  generalize w' = V at hk hHeld hn ⊢
                  refine wpAnyH_ready (rs := [4]) (by kernel_rfl) (by simp) ?_
                  refine (AllReadyH.cons (o := { dst := some 22, op := Go.Op.call { callee := Go.Callee.value (Go.Operand.func 23), args := #[Go.Operand.tmp 19, Go.Operand.tmp 21], argTypes := #[28, 28] }, type := 33, pos := "exact.go:1595", after := #[{ on := 1, ground := Go.Ground.data }, { on := 3, ground := Go.Ground.data }, { on := 3, ground := Go.Ground.chain }], guard := none }) rfl (fun K hK => ?_) AllReadyH.nil)
                  · go_simp
                    refine (HI.out _).mono ?_
                    rintro e w' ⟨rfl, hb'⟩
                    have hk := hk.far hb' rfl
                    have hn := rowk hn hb' rfl
                    clear hb'
                    refine hK.out _ _ ?_ (fun hHeld => ?_)
                    · (try dsimp only)
                      with_reducible refine SM2 ?_; (repeat (first | with_reducible assumption | with_reducible refine KR.al ?_ | with_reducible refine KR.drew ?_ | with_reducible refine KR.set ?_ (by first | omega | (simp; omega))))
                    clear hK K
                    (try simp only [Act.put, List.setIfInBounds_toArray, List.set_cons_zero, List.set_cons_succ])
                    generalize w' = V at hk hHeld hn ⊢
                    refine wpAnyH_take (i := 5) (oi := { dst := some 17, op := Go.Op.move (Go.Operand.tmp 22), type := 33, pos := "exact.go:1595", after := #[{ on := 4, ground := Go.Ground.data }], guard := none }) (v := ?_) rfl (by kernel_rfl) (by kernel_rfl) (by kernel_rfl) (fun _ _ _ h => h) (Or.inl ⟨by rfl, ?_⟩) (by assumption) ?_
                    rotate_left
                    · intro w hSw; (try dsimp only at hSw); go_simp; (try with_reducible rfl)
                    simp only [Act.put, List.setIfInBounds_toArray, List.set_cons_zero, List.set_cons_succ]
                    refine wpAnyH_take (i := 6) (oi := { dst := some 23, op := Go.Op.extract (Go.Operand.tmp 17) 0, type := 30, pos := "exact.go:1595", after := #[{ on := 5, ground := Go.Ground.data }], guard := none }) (v := ?_) rfl (by kernel_rfl) (by kernel_rfl) (by kernel_rfl) (fun _ _ _ h => h) (Or.inl ⟨by rfl, ?_⟩) (by assumption) ?_
                    rotate_left
                    · intro w hSw; (try dsimp only at hSw); go_simp; (try with_reducible rfl)
                    simp only [Act.put, List.setIfInBounds_toArray, List.set_cons_zero, List.set_cons_succ]
                    refine wpAnyH_take (i := 7) (oi := { dst := some 24, op := Go.Op.extract (Go.Operand.tmp 17) 1, type := 4, pos := "exact.go:1595", after := #[{ on := 5, ground := Go.Ground.data }, { on := 9, ground := Go.Ground.gcOnly Go.Departure.lateStores }], guard := none }) (v := ?_) rfl (by kernel_rfl) (by kernel_rfl) (by kernel_rfl) (fun _ _ _ h => h) (Or.inl ⟨by rfl, ?_⟩) (by assumption) ?_
                    rotate_left
                    · intro w hSw; (try dsimp only at hSw); go_simp; (try with_reducible rfl)
                    simp only [Act.put, List.setIfInBounds_toArray, List.set_cons_zero, List.set_cons_succ]
                    refine wpAnyH_ready (rs := [9]) (by kernel_rfl) (by simp) ?_
                    refine (AllReadyH.cons (o := { dst := none, op := Go.Op.store 30 (Go.Operand.tmp 7) (Go.Operand.tmp 23), type := 0, pos := "exact.go:1595", after := #[{ on := 8, ground := Go.Ground.data }, { on := 6, ground := Go.Ground.data }, { on := 4, ground := Go.Ground.chain }, { on := 0, ground := Go.Ground.phase }, { on := 1, ground := Go.Ground.phase }, { on := 2, ground := Go.Ground.phase }, { on := 3, ground := Go.Ground.phase }, { on := 4, ground := Go.Ground.phase }, { on := 5, ground := Go.Ground.phase }, { on := 6, ground := Go.Ground.phase }, { on := 7, ground := Go.Ground.textOnly Go.Departure.lateStores }, { on := 8, ground := Go.Ground.phase }], guard := none }) rfl (fun K hK => ?_) AllReadyH.nil)
                    · skip
                      refine wp_store_mid 30 (.tmp 7) (.tmp 23) rfl G 0 V9 rfl rfl (by rw [HV.out]; exact row_there12 hn) (by rw [HV.out]; kernel_rfl) H1.out ?_
                      have hx := row_sets12 (cs' := V9) hn (by rw [HV.out]; rfl)
                      have hk := KR.sets9 V9.toList 0 hk hG
                      clear hn
                      refine hK.out _ _ ?_ (fun hHeld => ?_)
                      · (try dsimp only)
                        with_reducible refine SM2 ?_; (repeat (first | with_reducible assumption | with_reducible refine KR.al ?_ | with_reducible refine KR.drew ?_ | with_reducible refine KR.set ?_ (by first | omega | (simp; omega))))
                      clear hK K
                      (try simp only [Act.put, List.setIfInBounds_toArray, List.set_cons_zero, List.set_cons_succ])
                      generalize (World.setCells _ _ _ _ : World) = X at hk hx hHeld ⊢
                      refine wpAnyH_take (i := 10) (oi := { dst := some 8, op := Go.Op.assign (Go.Operand.tmp 24), type := 4, pos := "exact.go:1595", after := #[{ on := 7, ground := Go.Ground.data }, { on := 9, ground := Go.Ground.chain }, { on := 0, ground := Go.Ground.phase }, { on := 1, ground := Go.Ground.phase }, { on := 2, ground := Go.Ground.phase }, { on := 3, ground := Go.Ground.phase }, { on := 4, ground := Go.Ground.phase }, { on := 5, ground := Go.Ground.phase }, { on := 6, ground := Go.Ground.phase }, { on := 7, ground := Go.Ground.phase }, { on := 8, ground := Go.Ground.phase }, { on := 9, ground := Go.Ground.phase }], guard := none }) (v := ?_) rfl (by kernel_rfl) (by kernel_rfl) (by kernel_rfl) (fun _ _ _ h => h) (Or.inl ⟨by rfl, ?_⟩) (by assumption) ?_
                      rotate_left
                      · intro w hSw; (try dsimp only at hSw); go_simp; (try with_reducible rfl)
                      simp only [Act.put, List.setIfInBounds_toArray, List.set_cons_zero, List.set_cons_succ]
                      refine wpAnyH_done (by kernel_rfl) ?_ _
                      clear hHeld
                      have hx1 : X.heap[G1]? = some (.cells V9 30 (0, 0)) := hk.row (List.mem_cons_self ..)
                      have hB := hk.2.2
                      clear hk hG
                      go_wp2_with (first | ((with_reducible refine wpGet12 G hx _ Try.underlying30 ?_ ?_ ?_ ?_); rfl; rfl; (rw [HV.out]; kernel_rfl)) | ((with_reducible refine wpGet12 G1 hx1 _ Try.underlying30 ?_ ?_ ?_ ?_); rfl; rfl; (rw [HV.out]; kernel_rfl)))
                      refine (HQ.out _).mono ?_
                      rintro e W3 ⟨rfl, hb⟩
                      have hB3 := below_of hB hb hB.size
                      clear hb hB hx hx1
                      go_wp2_with fail
                      go_ret
                      exact ⟨rfl, hB3⟩
    · go_simp
      have hn : (V.alloc (.cells #[.int .i64 0, .int .i64 0, .int .i64 0, .int .i64 0, .int .i64 0, .int .i64 0, .int .i64 0, .int .i64 0, .int .i64 0, .int .i64 0, .int .i64 0, .int .i64 0, .int .i64 0, .int .i64 0] 30)).heap[V.heap.size]? = some (.cells #[.int .i64 0, .int .i64 0, .int .i64 0, .int .i64 0, .int .i64 0, .int .i64 0, .int .i64 0, .int .i64 0, .int .i64 0, .int .i64 0, .int .i64 0, .int .i64 0, .int .i64 0, .int .i64 0] 30 (0, 0)) := alloc_at rfl
      have hG : w.heap.size + 2 ≤ V.heap.size := KR.le hk
      have hk := hk.al (o := .cells #[.int .i64 0, .int .i64 0, .int .i64 0, .int .i64 0, .int .i64 0, .int .i64 0, .int .i64 0, .int .i64 0, .int .i64 0, .int .i64 0, .int .i64 0, .int .i64 0, .int .i64 0, .int .i64 0] 30)
      refine hK.out _ _ ?_ (fun hHeld => ?_)
      · (try dsimp only)
        with_reducible refine SL2 ?_; (repeat (first | with_reducible assumption | with_reducible refine KR.al ?_ | with_reducible refine KR.drew ?_ | with_reducible refine KR.set ?_ (by first | omega | (simp; omega))))
      clear hK K
      (try simp only [Act.put, List.setIfInBounds_toArray, List.set_cons_zero, List.set_cons_succ])
      generalize V.heap.size = G at hn hG ⊢
      generalize (World.alloc _ _ : World) = V at hk hHeld hn ⊢
      refine wpAnyH_ready (rs := [3]) (by kernel_rfl) (by simp) ?_
      refine (AllReadyH.cons (o := { dst := some 13, op := Go.Op.call { callee := Go.Callee.value (Go.Operand.func 22), args := #[Go.Operand.tmp 12], argTypes := #[24] }, type := 28, pos := "exact.go:1594", after := #[{ on := 2, ground := Go.Ground.data }, { on := 1, ground := Go.Ground.chain }], guard := none }) rfl (fun K hK => ?_) AllReadyH.nil)
      · go_simp
        refine (to_sheet _ _ _ _ _ _ _).mono ?_
        rintro e w' ⟨rfl, hb'⟩
        have hk := hk.far hb' rfl
        have hn := rowk hn hb' rfl
        clear hb'
        refine hK.out _ _ ?_ (fun hHeld => ?_)
        · (try dsimp only)
          with_reducible refine SL2 ?_; (repeat (first | with_reducible assumption | with_reducible refine KR.al ?_ | with_reducible refine KR.drew ?_ | with_reducible refine KR.set ?_ (by first | omega | (simp; omega))))
        clear hK K
        (try simp only [Act.put, List.setIfInBounds_toArray, List.set_cons_zero, List.set_cons_succ])
        generalize w' = V at hk hHeld hn ⊢
        refine wpAnyH_ready (rs := [4]) (by kernel_rfl) (by simp) ?_
        refine (AllReadyH.cons (o := { dst := some 14, op := Go.Op.call { callee := Go.Callee.value (Go.Operand.func 21), args := #[Go.Operand.tmp 11, Go.Operand.tmp 13], argTypes := #[28, 28] }, type := 33, pos := "exact.go:1594", after := #[{ on := 1, ground := Go.Ground.data }, { on := 3, ground := Go.Ground.data }, { on := 3, ground := Go.Ground.chain }], guard := none }) rfl (fun K hK => ?_) AllReadyH.nil)
        · go_simp
          refine (HS.out _).mono ?_
          rintro e w' ⟨rfl, hb'⟩
          have hk := hk.far hb' rfl
          have hn := rowk hn hb' rfl
          clear hb'
          refine hK.out _ _ ?_ (fun hHeld => ?_)
          · (try dsimp only)
            with_reducible refine SL2 ?_; (repeat (first | with_reducible assumption | with_reducible refine KR.al ?_ | with_reducible refine KR.drew ?_ | with_reducible refine KR.set ?_ (by first | omega | (simp; omega))))
          clear hK K
          (try simp only [Act.put, List.setIfInBounds_toArray, List.set_cons_zero, List.set_cons_succ])
          generalize w' = V at hk hHeld hn ⊢
          refine wpAnyH_take (i := 5) (oi := { dst := some 9, op := Go.Op.move (Go.Operand.tmp 14), type := 33, pos := "exact.go:1594", after := #[{ on := 4, ground := Go.Ground.data }], guard := none }) (v := ?_) rfl (by kernel_rfl) (by kernel_rfl) (by kernel_rfl) (fun _ _ _ h => h) (Or.inl ⟨by rfl, ?_⟩) (by assumption) ?_
          rotate_left
          · intro w hSw; (try dsimp only at hSw); go_simp; (try with_reducible rfl)
          simp only [Act.put, List.setIfInBounds_toArray, List.set_cons_zero, List.set_cons_succ]
          refine wpAnyH_take (i := 6) (oi := { dst := some 15, op := Go.Op.extract (Go.Operand.tmp 9) 0, type := 30, pos := "exact.go:1594", after := #[{ on := 5, ground := Go.Ground.data }], guard := none }) (v := ?_) rfl (by kernel_rfl) (by kernel_rfl) (by kernel_rfl) (fun _ _ _ h => h) (Or.inl ⟨by rfl, ?_⟩) (by assumption) ?_
          rotate_left
          · intro w hSw; (try dsimp only at hSw); go_simp; (try with_reducible rfl)
          simp only [Act.put, List.setIfInBounds_toArray, List.set_cons_zero, List.set_cons_succ]
          refine wpAnyH_take (i := 7) (oi := { dst := some 16, op := Go.Op.extract (Go.Operand.tmp 9) 1, type := 4, pos := "exact.go:1594", after := #[{ on := 5, ground := Go.Ground.data }, { on := 9, ground := Go.Ground.gcOnly Go.Departure.lateStores }], guard := none }) (v := ?_) rfl (by kernel_rfl) (by kernel_rfl) (by kernel_rfl) (fun _ _ _ h => h) (Or.inl ⟨by rfl, ?_⟩) (by assumption) ?_
          rotate_left
          · intro w hSw; (try dsimp only at hSw); go_simp; (try with_reducible rfl)
          simp only [Act.put, List.setIfInBounds_toArray, List.set_cons_zero, List.set_cons_succ]
          refine wpAnyH_ready (rs := [9]) (by kernel_rfl) (by simp) ?_
          refine (AllReadyH.cons (o := { dst := none, op := Go.Op.store 30 (Go.Operand.tmp 5) (Go.Operand.tmp 15), type := 0, pos := "exact.go:1594", after := #[{ on := 8, ground := Go.Ground.data }, { on := 6, ground := Go.Ground.data }, { on := 4, ground := Go.Ground.chain }, { on := 0, ground := Go.Ground.phase }, { on := 1, ground := Go.Ground.phase }, { on := 2, ground := Go.Ground.phase }, { on := 3, ground := Go.Ground.phase }, { on := 4, ground := Go.Ground.phase }, { on := 5, ground := Go.Ground.phase }, { on := 6, ground := Go.Ground.phase }, { on := 7, ground := Go.Ground.textOnly Go.Departure.lateStores }, { on := 8, ground := Go.Ground.phase }], guard := none }) rfl (fun K hK => ?_) AllReadyH.nil)
          · skip
            refine wp_store_mid 30 (.tmp 5) (.tmp 15) rfl G 0 V9 rfl rfl (by rw [HV.out]; exact row_there12 hn) (by rw [HV.out]; kernel_rfl) H1.out ?_
            have hx := row_sets12 (cs' := V9) hn (by rw [HV.out]; rfl)
            have hk := KR.sets9 V9.toList 0 hk hG
            clear hn
            refine hK.out _ _ ?_ (fun hHeld => ?_)
            · (try dsimp only)
              with_reducible refine SL2 ?_; (repeat (first | with_reducible assumption | with_reducible refine KR.al ?_ | with_reducible refine KR.drew ?_ | with_reducible refine KR.set ?_ (by first | omega | (simp; omega))))
            clear hK K
            (try simp only [Act.put, List.setIfInBounds_toArray, List.set_cons_zero, List.set_cons_succ])
            generalize (World.setCells _ _ _ _ : World) = X at hk hx hHeld ⊢
            refine wpAnyH_take (i := 10) (oi := { dst := some 6, op := Go.Op.assign (Go.Operand.tmp 16), type := 4, pos := "exact.go:1594", after := #[{ on := 7, ground := Go.Ground.data }, { on := 9, ground := Go.Ground.chain }, { on := 0, ground := Go.Ground.phase }, { on := 1, ground := Go.Ground.phase }, { on := 2, ground := Go.Ground.phase }, { on := 3, ground := Go.Ground.phase }, { on := 4, ground := Go.Ground.phase }, { on := 5, ground := Go.Ground.phase }, { on := 6, ground := Go.Ground.phase }, { on := 7, ground := Go.Ground.phase }, { on := 8, ground := Go.Ground.phase }, { on := 9, ground := Go.Ground.phase }], guard := none }) (v := ?_) rfl (by kernel_rfl) (by kernel_rfl) (by kernel_rfl) (fun _ _ _ h => h) (Or.inl ⟨by rfl, ?_⟩) (by assumption) ?_
            rotate_left
            · intro w hSw; (try dsimp only at hSw); go_simp; (try with_reducible rfl)
            simp only [Act.put, List.setIfInBounds_toArray, List.set_cons_zero, List.set_cons_succ]
            refine wpAnyH_done (by kernel_rfl) ?_ _
            clear hHeld
            obtain ⟨k, hm, hk⟩ := hk.push hx hG
            clear hx hG
            generalize G = G1 at *
            go_wp2_with fail
            have hz := KR.le hk
            refine wp_region_held_drew (S := (fun U => U.cell? ⟨w.heap.size, 0, none⟩ = some (.int .i64 a0) ∧ U.cell? ⟨w.heap.size, 1, none⟩ = some (.int .i64 a1) ∧ U.cell? ⟨w.heap.size, 2, none⟩ = some (.int .i64 a2) ∧ U.cell? ⟨w.heap.size, 3, none⟩ = some (.int .i64 a3) ∧ U.cell? ⟨w.heap.size, 4, none⟩ = some (.int .i64 a4) ∧ U.cell? ⟨w.heap.size, 5, none⟩ = some (.int .i64 a5) ∧ U.cell? ⟨w.heap.size + 1, 0, none⟩ = some (.int .i64 b0) ∧ U.cell? ⟨w.heap.size + 1, 1, none⟩ = some (.int .i64 b1) ∧ U.cell? ⟨w.heap.size + 1, 2, none⟩ = some (.int .i64 b2) ∧ U.cell? ⟨w.heap.size + 1, 3, none⟩ = some (.int .i64 b3) ∧ U.cell? ⟨w.heap.size + 1, 4, none⟩ = some (.int .i64 b4) ∧ U.cell? ⟨w.heap.size + 1, 5, none⟩ = some (.int .i64 b5) ∧ KR k [(G1, (.cells V9 30 (0, 0))), (w.heap.size, Obj.cells #[.int .i64 a0, .int .i64 a1, .int .i64 a2, .int .i64 a3, .int .i64 a4, .int .i64 a5] 24 (0, 0)), (w.heap.size + 1, Obj.cells #[.int .i64 b0, .int .i64 b1, .int .i64 b2, .int .i64 b3, .int .i64 b4, .int .i64 b5] 24 (0, 0))] w U)) (by kernel_rfl) ?_ (fun hHeld => ?_)
            · (try dsimp only)
              have hk := hk.drew
              with_reducible refine SM2 ?_; (repeat (first | with_reducible assumption | with_reducible refine KR.al ?_ | with_reducible refine KR.drew ?_ | with_reducible refine KR.set ?_ (by first | omega | (simp; omega))))
            have hk := hk.drew
            generalize X.drew = V at hk hHeld ⊢
            refine wpAnyH_take (i := 0) (oi := { dst := some 18, op := Go.Op.load 24 (Go.Operand.tmp 2), type := 24, pos := "exact.go:1595", after := #[], guard := none }) (v := ?_) rfl (by kernel_rfl) (by kernel_rfl) (by kernel_rfl) (fun _ _ _ h => h) (Or.inl ⟨by rfl, ?_⟩) (by assumption) ?_
            rotate_left
            · intro w hSw; (try dsimp only at hSw); go_simp; (try with_reducible rfl)
            simp only [Act.put, List.setIfInBounds_toArray, List.set_cons_zero, List.set_cons_succ]
            refine wpAnyH_take (i := 2) (oi := { dst := some 20, op := Go.Op.load 24 (Go.Operand.tmp 3), type := 24, pos := "exact.go:1595", after := #[], guard := none }) (v := ?_) rfl (by kernel_rfl) (by kernel_rfl) (by kernel_rfl) (fun _ _ _ h => h) (Or.inl ⟨by rfl, ?_⟩) (by assumption) ?_
            rotate_left
            · intro w hSw; (try dsimp only at hSw); go_simp; (try with_reducible rfl)
            simp only [Act.put, List.setIfInBounds_toArray, List.set_cons_zero, List.set_cons_succ]
            refine wpAnyH_ready (rs := [1, 8]) (by kernel_rfl) (by simp) ?_
            refine (AllReadyH.cons (o := { dst := some 19, op := Go.Op.call { callee := Go.Callee.value (Go.Operand.func 22), args := #[Go.Operand.tmp 18], argTypes := #[24] }, type := 28, pos := "exact.go:1595", after := #[{ on := 0, ground := Go.Ground.data }], guard := none }) rfl (fun K hK => ?_) (AllReadyH.cons (o := { dst := some 7, op := Go.Op.alloc 30, type := 0, pos := "exact.go:1595", after := #[], guard := none }) rfl (fun K hK => ?_) AllReadyH.nil))
            · go_simp
              refine (to_sheet _ _ _ _ _ _ _).mono ?_
              rintro e w' ⟨rfl, hb'⟩
              have hk := hk.far hb' rfl
              clear hb'
              refine hK.out _ _ ?_ (fun hHeld => ?_)
              · (try dsimp only)
                with_reducible refine SM2 ?_; (repeat (first | with_reducible assumption | with_reducible refine KR.al ?_ | with_reducible refine KR.drew ?_ | with_reducible refine KR.set ?_ (by first | omega | (simp; omega))))
              clear hK K
              (try simp only [Act.put, List.setIfInBounds_toArray, List.set_cons_zero, List.set_cons_succ])
              generalize w' = V at hk hHeld ⊢
              refine wpAnyH_ready (rs := [3, 8]) (by kernel_rfl) (by simp) ?_
              refine (AllReadyH.cons (o := { dst := some 21, op := Go.Op.call { callee := Go.Callee.value (Go.Operand.func 22), args := #[Go.Operand.tmp 20], argTypes := #[24] }, type := 28, pos := "exact.go:1595", after := #[{ on := 2, ground := Go.Ground.data }, { on := 1, ground := Go.Ground.chain }], guard := none }) rfl (fun K hK => ?_) (AllReadyH.cons (o := { dst := some 7, op := Go.Op.alloc 30, type := 0, pos := "exact.go:1595", after := #[], guard := none }) rfl (fun K hK => ?_) AllReadyH.nil))
              · go_simp
                refine (to_sheet _ _ _ _ _ _ _).mono ?_
                rintro e w' ⟨rfl, hb'⟩
                have hk := hk.far hb' rfl
                clear hb'
                refine hK.out _ _ ?_ (fun hHeld => ?_)
                · (try dsimp only)
                  with_reducible refine SM2 ?_; (repeat (first | with_reducible assumption | with_reducible refine KR.al ?_ | with_reducible refine KR.drew ?_ | with_reducible refine KR.set ?_ (by first | omega | (simp; omega))))
                clear hK K
                (try simp only [Act.put, List.setIfInBounds_toArray, List.set_cons_zero, List.set_cons_succ])
                generalize w' = V at hk hHeld ⊢
                refine wpAnyH_ready (rs := [4, 8]) (by kernel_rfl) (by simp) ?_
                refine (AllReadyH.cons (o := { dst := some 22, op := Go.Op.call { callee := Go.Callee.value (Go.Operand.func 23), args := #[Go.Operand.tmp 19, Go.Operand.tmp 21], argTypes := #[28, 28] }, type := 33, pos := "exact.go:1595", after := #[{ on := 1, ground := Go.Ground.data }, { on := 3, ground := Go.Ground.data }, { on := 3, ground := Go.Ground.chain }], guard := none }) rfl (fun K hK => ?_) (AllReadyH.cons (o := { dst := some 7, op := Go.Op.alloc 30, type := 0, pos := "exact.go:1595", after := #[], guard := none }) rfl (fun K hK => ?_) AllReadyH.nil))
                · go_simp
                  refine (HI.out _).mono ?_
                  rintro e w' ⟨rfl, hb'⟩
                  have hk := hk.far hb' rfl
                  clear hb'
                  refine hK.out _ _ ?_ (fun hHeld => ?_)
                  · (try dsimp only)
                    with_reducible refine SM2 ?_; (repeat (first | with_reducible assumption | with_reducible refine KR.al ?_ | with_reducible refine KR.drew ?_ | with_reducible refine KR.set ?_ (by first | omega | (simp; omega))))
                  clear hK K
                  (try simp only [Act.put, List.setIfInBounds_toArray, List.set_cons_zero, List.set_cons_succ])
                  generalize w' = V at hk hHeld ⊢
                  refine wpAnyH_take (i := 5) (oi := { dst := some 17, op := Go.Op.move (Go.Operand.tmp 22), type := 33, pos := "exact.go:1595", after := #[{ on := 4, ground := Go.Ground.data }], guard := none }) (v := ?_) rfl (by kernel_rfl) (by kernel_rfl) (by kernel_rfl) (fun _ _ _ h => h) (Or.inl ⟨by rfl, ?_⟩) (by assumption) ?_
                  rotate_left
                  · intro w hSw; (try dsimp only at hSw); go_simp; (try with_reducible rfl)
                  simp only [Act.put, List.setIfInBounds_toArray, List.set_cons_zero, List.set_cons_succ]
                  refine wpAnyH_take (i := 6) (oi := { dst := some 23, op := Go.Op.extract (Go.Operand.tmp 17) 0, type := 30, pos := "exact.go:1595", after := #[{ on := 5, ground := Go.Ground.data }], guard := none }) (v := ?_) rfl (by kernel_rfl) (by kernel_rfl) (by kernel_rfl) (fun _ _ _ h => h) (Or.inl ⟨by rfl, ?_⟩) (by assumption) ?_
                  rotate_left
                  · intro w hSw; (try dsimp only at hSw); go_simp; (try with_reducible rfl)
                  simp only [Act.put, List.setIfInBounds_toArray, List.set_cons_zero, List.set_cons_succ]
                  refine wpAnyH_take (i := 7) (oi := { dst := some 24, op := Go.Op.extract (Go.Operand.tmp 17) 1, type := 4, pos := "exact.go:1595", after := #[{ on := 5, ground := Go.Ground.data }, { on := 9, ground := Go.Ground.gcOnly Go.Departure.lateStores }], guard := none }) (v := ?_) rfl (by kernel_rfl) (by kernel_rfl) (by kernel_rfl) (fun _ _ _ h => h) (Or.inl ⟨by rfl, ?_⟩) (by assumption) ?_
                  rotate_left
                  · intro w hSw; (try dsimp only at hSw); go_simp; (try with_reducible rfl)
                  simp only [Act.put, List.setIfInBounds_toArray, List.set_cons_zero, List.set_cons_succ]
                  refine wpAnyH_ready (rs := [8]) (by kernel_rfl) (by simp) ?_
                  refine (AllReadyH.cons (o := { dst := some 7, op := Go.Op.alloc 30, type := 0, pos := "exact.go:1595", after := #[], guard := none }) rfl (fun K hK => ?_) AllReadyH.nil)
                  · go_simp
                    have hn : (V.alloc (.cells #[.int .i64 0, .int .i64 0, .int .i64 0, .int .i64 0, .int .i64 0, .int .i64 0, .int .i64 0, .int .i64 0, .int .i64 0, .int .i64 0, .int .i64 0, .int .i64 0, .int .i64 0, .int .i64 0] 30)).heap[V.heap.size]? = some (.cells #[.int .i64 0, .int .i64 0, .int .i64 0, .int .i64 0, .int .i64 0, .int .i64 0, .int .i64 0, .int .i64 0, .int .i64 0, .int .i64 0, .int .i64 0, .int .i64 0, .int .i64 0, .int .i64 0] 30 (0, 0)) := alloc_at rfl
                    have hG : w.heap.size + k ≤ V.heap.size := KR.le hk
                    have hk := hk.al (o := .cells #[.int .i64 0, .int .i64 0, .int .i64 0, .int .i64 0, .int .i64 0, .int .i64 0, .int .i64 0, .int .i64 0, .int .i64 0, .int .i64 0, .int .i64 0, .int .i64 0, .int .i64 0, .int .i64 0] 30)
                    refine hK.out _ _ ?_ (fun hHeld => ?_)
                    · (try dsimp only)
                      with_reducible refine SM2 ?_; (repeat (first | with_reducible assumption | with_reducible refine KR.al ?_ | with_reducible refine KR.drew ?_ | with_reducible refine KR.set ?_ (by first | omega | (simp; omega))))
                    clear hK K
                    (try simp only [Act.put, List.setIfInBounds_toArray, List.set_cons_zero, List.set_cons_succ])
                    generalize V.heap.size = G at hn hG ⊢
                    generalize (World.alloc _ _ : World) = V at hk hHeld hn ⊢
                    refine wpAnyH_ready (rs := [9]) (by kernel_rfl) (by simp) ?_
                    refine (AllReadyH.cons (o := { dst := none, op := Go.Op.store 30 (Go.Operand.tmp 7) (Go.Operand.tmp 23), type := 0, pos := "exact.go:1595", after := #[{ on := 8, ground := Go.Ground.data }, { on := 6, ground := Go.Ground.data }, { on := 4, ground := Go.Ground.chain }, { on := 0, ground := Go.Ground.phase }, { on := 1, ground := Go.Ground.phase }, { on := 2, ground := Go.Ground.phase }, { on := 3, ground := Go.Ground.phase }, { on := 4, ground := Go.Ground.phase }, { on := 5, ground := Go.Ground.phase }, { on := 6, ground := Go.Ground.phase }, { on := 7, ground := Go.Ground.textOnly Go.Departure.lateStores }, { on := 8, ground := Go.Ground.phase }], guard := none }) rfl (fun K hK => ?_) AllReadyH.nil)
                    · skip
                      refine wp_store_mid 30 (.tmp 7) (.tmp 23) rfl G 0 V9 rfl rfl (by rw [HV.out]; exact row_there12 hn) (by rw [HV.out]; kernel_rfl) H1.out ?_
                      have hx := row_sets12 (cs' := V9) hn (by rw [HV.out]; rfl)
                      have hk := KR.sets9 V9.toList 0 hk hG
                      clear hn
                      refine hK.out _ _ ?_ (fun hHeld => ?_)
                      · (try dsimp only)
                        with_reducible refine SM2 ?_; (repeat (first | with_reducible assumption | with_reducible refine KR.al ?_ | with_reducible refine KR.drew ?_ | with_reducible refine KR.set ?_ (by first | omega | (simp; omega))))
                      clear hK K
                      (try simp only [Act.put, List.setIfInBounds_toArray, List.set_cons_zero, List.set_cons_succ])
                      generalize (World.setCells _ _ _ _ : World) = X at hk hx hHeld ⊢
                      refine wpAnyH_take (i := 10) (oi := { dst := some 8, op := Go.Op.assign (Go.Operand.tmp 24), type := 4, pos := "exact.go:1595", after := #[{ on := 7, ground := Go.Ground.data }, { on := 9, ground := Go.Ground.chain }, { on := 0, ground := Go.Ground.phase }, { on := 1, ground := Go.Ground.phase }, { on := 2, ground := Go.Ground.phase }, { on := 3, ground := Go.Ground.phase }, { on := 4, ground := Go.Ground.phase }, { on := 5, ground := Go.Ground.phase }, { on := 6, ground := Go.Ground.phase }, { on := 7, ground := Go.Ground.phase }, { on := 8, ground := Go.Ground.phase }, { on := 9, ground := Go.Ground.phase }], guard := none }) (v := ?_) rfl (by kernel_rfl) (by kernel_rfl) (by kernel_rfl) (fun _ _ _ h => h) (Or.inl ⟨by rfl, ?_⟩) (by assumption) ?_
                      rotate_left
                      · intro w hSw; (try dsimp only at hSw); go_simp; (try with_reducible rfl)
                      simp only [Act.put, List.setIfInBounds_toArray, List.set_cons_zero, List.set_cons_succ]
                      refine wpAnyH_done (by kernel_rfl) ?_ _
                      clear hHeld
                      have hx1 : X.heap[G1]? = some (.cells V9 30 (0, 0)) := hk.row (List.mem_cons_self ..)
                      have hB := hk.2.2
                      clear hk hG
                      go_wp2_with (first | ((with_reducible refine wpGet12 G hx _ Try.underlying30 ?_ ?_ ?_ ?_); rfl; rfl; (rw [HV.out]; kernel_rfl)) | ((with_reducible refine wpGet12 G1 hx1 _ Try.underlying30 ?_ ?_ ?_ ?_); rfl; rfl; (rw [HV.out]; kernel_rfl)))
                      refine (HQ.out _).mono ?_
                      rintro e W3 ⟨rfl, hb⟩
                      have hB3 := below_of hB hb hB.size
                      clear hb hB hx hx1
                      go_wp2_with fail
                      go_ret
                      exact ⟨rfl, hB3⟩
                · go_simp
                  have hn : (V.alloc (.cells #[.int .i64 0, .int .i64 0, .int .i64 0, .int .i64 0, .int .i64 0, .int .i64 0, .int .i64 0, .int .i64 0, .int .i64 0, .int .i64 0, .int .i64 0, .int .i64 0, .int .i64 0, .int .i64 0] 30)).heap[V.heap.size]? = some (.cells #[.int .i64 0, .int .i64 0, .int .i64 0, .int .i64 0, .int .i64 0, .int .i64 0, .int .i64 0, .int .i64 0, .int .i64 0, .int .i64 0, .int .i64 0, .int .i64 0, .int .i64 0, .int .i64 0] 30 (0, 0)) := alloc_at rfl
                  have hG : w.heap.size + k ≤ V.heap.size := KR.le hk
                  have hk := hk.al (o := .cells #[.int .i64 0, .int .i64 0, .int .i64 0, .int .i64 0, .int .i64 0, .int .i64 0, .int .i64 0, .int .i64 0, .int .i64 0, .int .i64 0, .int .i64 0, .int .i64 0, .int .i64 0, .int .i64 0] 30)
                  refine hK.out _ _ ?_ (fun hHeld => ?_)
                  · (try dsimp only)
                    with_reducible refine SM2 ?_; (repeat (first | with_reducible assumption | with_reducible refine KR.al ?_ | with_reducible refine KR.drew ?_ | with_reducible refine KR.set ?_ (by first | omega | (simp; omega))))
                  clear hK K
                  (try simp only [Act.put, List.setIfInBounds_toArray, List.set_cons_zero, List.set_cons_succ])
                  generalize V.heap.size = G at hn hG ⊢
                  generalize (World.alloc _ _ : World) = V at hk hHeld hn ⊢
                  refine wpAnyH_ready (rs := [4]) (by kernel_rfl) (by simp) ?_
                  refine (AllReadyH.cons (o := { dst := some 22, op := Go.Op.call { callee := Go.Callee.value (Go.Operand.func 23), args := #[Go.Operand.tmp 19, Go.Operand.tmp 21], argTypes := #[28, 28] }, type := 33, pos := "exact.go:1595", after := #[{ on := 1, ground := Go.Ground.data }, { on := 3, ground := Go.Ground.data }, { on := 3, ground := Go.Ground.chain }], guard := none }) rfl (fun K hK => ?_) AllReadyH.nil)
                  · go_simp
                    refine (HI.out _).mono ?_
                    rintro e w' ⟨rfl, hb'⟩
                    have hk := hk.far hb' rfl
                    have hn := rowk hn hb' rfl
                    clear hb'
                    refine hK.out _ _ ?_ (fun hHeld => ?_)
                    · (try dsimp only)
                      with_reducible refine SM2 ?_; (repeat (first | with_reducible assumption | with_reducible refine KR.al ?_ | with_reducible refine KR.drew ?_ | with_reducible refine KR.set ?_ (by first | omega | (simp; omega))))
                    clear hK K
                    (try simp only [Act.put, List.setIfInBounds_toArray, List.set_cons_zero, List.set_cons_succ])
                    generalize w' = V at hk hHeld hn ⊢
                    refine wpAnyH_take (i := 5) (oi := { dst := some 17, op := Go.Op.move (Go.Operand.tmp 22), type := 33, pos := "exact.go:1595", after := #[{ on := 4, ground := Go.Ground.data }], guard := none }) (v := ?_) rfl (by kernel_rfl) (by kernel_rfl) (by kernel_rfl) (fun _ _ _ h => h) (Or.inl ⟨by rfl, ?_⟩) (by assumption) ?_
                    rotate_left
                    · intro w hSw; (try dsimp only at hSw); go_simp; (try with_reducible rfl)
                    simp only [Act.put, List.setIfInBounds_toArray, List.set_cons_zero, List.set_cons_succ]
                    refine wpAnyH_take (i := 6) (oi := { dst := some 23, op := Go.Op.extract (Go.Operand.tmp 17) 0, type := 30, pos := "exact.go:1595", after := #[{ on := 5, ground := Go.Ground.data }], guard := none }) (v := ?_) rfl (by kernel_rfl) (by kernel_rfl) (by kernel_rfl) (fun _ _ _ h => h) (Or.inl ⟨by rfl, ?_⟩) (by assumption) ?_
                    rotate_left
                    · intro w hSw; (try dsimp only at hSw); go_simp; (try with_reducible rfl)
                    simp only [Act.put, List.setIfInBounds_toArray, List.set_cons_zero, List.set_cons_succ]
                    refine wpAnyH_take (i := 7) (oi := { dst := some 24, op := Go.Op.extract (Go.Operand.tmp 17) 1, type := 4, pos := "exact.go:1595", after := #[{ on := 5, ground := Go.Ground.data }, { on := 9, ground := Go.Ground.gcOnly Go.Departure.lateStores }], guard := none }) (v := ?_) rfl (by kernel_rfl) (by kernel_rfl) (by kernel_rfl) (fun _ _ _ h => h) (Or.inl ⟨by rfl, ?_⟩) (by assumption) ?_
                    rotate_left
                    · intro w hSw; (try dsimp only at hSw); go_simp; (try with_reducible rfl)
                    simp only [Act.put, List.setIfInBounds_toArray, List.set_cons_zero, List.set_cons_succ]
                    refine wpAnyH_ready (rs := [9]) (by kernel_rfl) (by simp) ?_
                    refine (AllReadyH.cons (o := { dst := none, op := Go.Op.store 30 (Go.Operand.tmp 7) (Go.Operand.tmp 23), type := 0, pos := "exact.go:1595", after := #[{ on := 8, ground := Go.Ground.data }, { on := 6, ground := Go.Ground.data }, { on := 4, ground := Go.Ground.chain }, { on := 0, ground := Go.Ground.phase }, { on := 1, ground := Go.Ground.phase }, { on := 2, ground := Go.Ground.phase }, { on := 3, ground := Go.Ground.phase }, { on := 4, ground := Go.Ground.phase }, { on := 5, ground := Go.Ground.phase }, { on := 6, ground := Go.Ground.phase }, { on := 7, ground := Go.Ground.textOnly Go.Departure.lateStores }, { on := 8, ground := Go.Ground.phase }], guard := none }) rfl (fun K hK => ?_) AllReadyH.nil)
                    · skip
                      refine wp_store_mid 30 (.tmp 7) (.tmp 23) rfl G 0 V9 rfl rfl (by rw [HV.out]; exact row_there12 hn) (by rw [HV.out]; kernel_rfl) H1.out ?_
                      have hx := row_sets12 (cs' := V9) hn (by rw [HV.out]; rfl)
                      have hk := KR.sets9 V9.toList 0 hk hG
                      clear hn
                      refine hK.out _ _ ?_ (fun hHeld => ?_)
                      · (try dsimp only)
                        with_reducible refine SM2 ?_; (repeat (first | with_reducible assumption | with_reducible refine KR.al ?_ | with_reducible refine KR.drew ?_ | with_reducible refine KR.set ?_ (by first | omega | (simp; omega))))
                      clear hK K
                      (try simp only [Act.put, List.setIfInBounds_toArray, List.set_cons_zero, List.set_cons_succ])
                      generalize (World.setCells _ _ _ _ : World) = X at hk hx hHeld ⊢
                      refine wpAnyH_take (i := 10) (oi := { dst := some 8, op := Go.Op.assign (Go.Operand.tmp 24), type := 4, pos := "exact.go:1595", after := #[{ on := 7, ground := Go.Ground.data }, { on := 9, ground := Go.Ground.chain }, { on := 0, ground := Go.Ground.phase }, { on := 1, ground := Go.Ground.phase }, { on := 2, ground := Go.Ground.phase }, { on := 3, ground := Go.Ground.phase }, { on := 4, ground := Go.Ground.phase }, { on := 5, ground := Go.Ground.phase }, { on := 6, ground := Go.Ground.phase }, { on := 7, ground := Go.Ground.phase }, { on := 8, ground := Go.Ground.phase }, { on := 9, ground := Go.Ground.phase }], guard := none }) (v := ?_) rfl (by kernel_rfl) (by kernel_rfl) (by kernel_rfl) (fun _ _ _ h => h) (Or.inl ⟨by rfl, ?_⟩) (by assumption) ?_
                      rotate_left
                      · intro w hSw; (try dsimp only at hSw); go_simp; (try with_reducible rfl)
                      simp only [Act.put, List.setIfInBounds_toArray, List.set_cons_zero, List.set_cons_succ]
                      refine wpAnyH_done (by kernel_rfl) ?_ _
                      clear hHeld
                      have hx1 : X.heap[G1]? = some (.cells V9 30 (0, 0)) := hk.row (List.mem_cons_self ..)
                      have hB := hk.2.2
                      clear hk hG
                      go_wp2_with (first | ((with_reducible refine wpGet12 G hx _ Try.underlying30 ?_ ?_ ?_ ?_); rfl; rfl; (rw [HV.out]; kernel_rfl)) | ((with_reducible refine wpGet12 G1 hx1 _ Try.underlying30 ?_ ?_ ?_ ?_); rfl; rfl; (rw [HV.out]; kernel_rfl)))
                      refine (HQ.out _).mono ?_
                      rintro e W3 ⟨rfl, hb⟩
                      have hB3 := below_of hB hb hB.size
                      clear hb hB hx hx1
                      go_wp2_with fail
                      go_ret
                      exact ⟨rfl, hB3⟩
              · go_simp
                have hn : (V.alloc (.cells #[.int .i64 0, .int .i64 0, .int .i64 0, .int .i64 0, .int .i64 0, .int .i64 0, .int .i64 0, .int .i64 0, .int .i64 0, .int .i64 0, .int .i64 0, .int .i64 0, .int .i64 0, .int .i64 0] 30)).heap[V.heap.size]? = some (.cells #[.int .i64 0, .int .i64 0, .int .i64 0, .int .i64 0, .int .i64 0, .int .i64 0, .int .i64 0, .int .i64 0, .int .i64 0, .int .i64 0, .int .i64 0, .int .i64 0, .int .i64 0, .int .i64 0] 30 (0, 0)) := alloc_at rfl
                have hG : w.heap.size + k ≤ V.heap.size := KR.le hk
                have hk := hk.al (o := .cells #[.int .i64 0, .int .i64 0, .int .i64 0, .int .i64 0, .int .i64 0, .int .i64 0, .int .i64 0, .int .i64 0, .int .i64 0, .int .i64 0, .int .i64 0, .int .i64 0, .int .i64 0, .int .i64 0] 30)
                refine hK.out _ _ ?_ (fun hHeld => ?_)
                · (try dsimp only)
                  with_reducible refine SM2 ?_; (repeat (first | with_reducible assumption | with_reducible refine KR.al ?_ | with_reducible refine KR.drew ?_ | with_reducible refine KR.set ?_ (by first | omega | (simp; omega))))
                clear hK K
                (try simp only [Act.put, List.setIfInBounds_toArray, List.set_cons_zero, List.set_cons_succ])
                generalize V.heap.size = G at hn hG ⊢
                generalize (World.alloc _ _ : World) = V at hk hHeld hn ⊢
                refine wpAnyH_ready (rs := [3]) (by kernel_rfl) (by simp) ?_
                refine (AllReadyH.cons (o := { dst := some 21, op := Go.Op.call { callee := Go.Callee.value (Go.Operand.func 22), args := #[Go.Operand.tmp 20], argTypes := #[24] }, type := 28, pos := "exact.go:1595", after := #[{ on := 2, ground := Go.Ground.data }, { on := 1, ground := Go.Ground.chain }], guard := none }) rfl (fun K hK => ?_) AllReadyH.nil)
                · go_simp
                  refine (to_sheet _ _ _ _ _ _ _).mono ?_
                  rintro e w' ⟨rfl, hb'⟩
                  have hk := hk.far hb' rfl
                  have hn := rowk hn hb' rfl
                  clear hb'
                  refine hK.out _ _ ?_ (fun hHeld => ?_)
                  · (try dsimp only)
                    with_reducible refine SM2 ?_; (repeat (first | with_reducible assumption | with_reducible refine KR.al ?_ | with_reducible refine KR.drew ?_ | with_reducible refine KR.set ?_ (by first | omega | (simp; omega))))
                  clear hK K
                  (try simp only [Act.put, List.setIfInBounds_toArray, List.set_cons_zero, List.set_cons_succ])
                  generalize w' = V at hk hHeld hn ⊢
                  refine wpAnyH_ready (rs := [4]) (by kernel_rfl) (by simp) ?_
                  refine (AllReadyH.cons (o := { dst := some 22, op := Go.Op.call { callee := Go.Callee.value (Go.Operand.func 23), args := #[Go.Operand.tmp 19, Go.Operand.tmp 21], argTypes := #[28, 28] }, type := 33, pos := "exact.go:1595", after := #[{ on := 1, ground := Go.Ground.data }, { on := 3, ground := Go.Ground.data }, { on := 3, ground := Go.Ground.chain }], guard := none }) rfl (fun K hK => ?_) AllReadyH.nil)
                  · go_simp
                    refine (HI.out _).mono ?_
                    rintro e w' ⟨rfl, hb'⟩
                    have hk := hk.far hb' rfl
                    have hn := rowk hn hb' rfl
                    clear hb'
                    refine hK.out _ _ ?_ (fun hHeld => ?_)
                    · (try dsimp only)
                      with_reducible refine SM2 ?_; (repeat (first | with_reducible assumption | with_reducible refine KR.al ?_ | with_reducible refine KR.drew ?_ | with_reducible refine KR.set ?_ (by first | omega | (simp; omega))))
                    clear hK K
                    (try simp only [Act.put, List.setIfInBounds_toArray, List.set_cons_zero, List.set_cons_succ])
                    generalize w' = V at hk hHeld hn ⊢
                    refine wpAnyH_take (i := 5) (oi := { dst := some 17, op := Go.Op.move (Go.Operand.tmp 22), type := 33, pos := "exact.go:1595", after := #[{ on := 4, ground := Go.Ground.data }], guard := none }) (v := ?_) rfl (by kernel_rfl) (by kernel_rfl) (by kernel_rfl) (fun _ _ _ h => h) (Or.inl ⟨by rfl, ?_⟩) (by assumption) ?_
                    rotate_left
                    · intro w hSw; (try dsimp only at hSw); go_simp; (try with_reducible rfl)
                    simp only [Act.put, List.setIfInBounds_toArray, List.set_cons_zero, List.set_cons_succ]
                    refine wpAnyH_take (i := 6) (oi := { dst := some 23, op := Go.Op.extract (Go.Operand.tmp 17) 0, type := 30, pos := "exact.go:1595", after := #[{ on := 5, ground := Go.Ground.data }], guard := none }) (v := ?_) rfl (by kernel_rfl) (by kernel_rfl) (by kernel_rfl) (fun _ _ _ h => h) (Or.inl ⟨by rfl, ?_⟩) (by assumption) ?_
                    rotate_left
                    · intro w hSw; (try dsimp only at hSw); go_simp; (try with_reducible rfl)
                    simp only [Act.put, List.setIfInBounds_toArray, List.set_cons_zero, List.set_cons_succ]
                    refine wpAnyH_take (i := 7) (oi := { dst := some 24, op := Go.Op.extract (Go.Operand.tmp 17) 1, type := 4, pos := "exact.go:1595", after := #[{ on := 5, ground := Go.Ground.data }, { on := 9, ground := Go.Ground.gcOnly Go.Departure.lateStores }], guard := none }) (v := ?_) rfl (by kernel_rfl) (by kernel_rfl) (by kernel_rfl) (fun _ _ _ h => h) (Or.inl ⟨by rfl, ?_⟩) (by assumption) ?_
                    rotate_left
                    · intro w hSw; (try dsimp only at hSw); go_simp; (try with_reducible rfl)
                    simp only [Act.put, List.setIfInBounds_toArray, List.set_cons_zero, List.set_cons_succ]
                    refine wpAnyH_ready (rs := [9]) (by kernel_rfl) (by simp) ?_
                    refine (AllReadyH.cons (o := { dst := none, op := Go.Op.store 30 (Go.Operand.tmp 7) (Go.Operand.tmp 23), type := 0, pos := "exact.go:1595", after := #[{ on := 8, ground := Go.Ground.data }, { on := 6, ground := Go.Ground.data }, { on := 4, ground := Go.Ground.chain }, { on := 0, ground := Go.Ground.phase }, { on := 1, ground := Go.Ground.phase }, { on := 2, ground := Go.Ground.phase }, { on := 3, ground := Go.Ground.phase }, { on := 4, ground := Go.Ground.phase }, { on := 5, ground := Go.Ground.phase }, { on := 6, ground := Go.Ground.phase }, { on := 7, ground := Go.Ground.textOnly Go.Departure.lateStores }, { on := 8, ground := Go.Ground.phase }], guard := none }) rfl (fun K hK => ?_) AllReadyH.nil)
                    · skip
                      refine wp_store_mid 30 (.tmp 7) (.tmp 23) rfl G 0 V9 rfl rfl (by rw [HV.out]; exact row_there12 hn) (by rw [HV.out]; kernel_rfl) H1.out ?_
                      have hx := row_sets12 (cs' := V9) hn (by rw [HV.out]; rfl)
                      have hk := KR.sets9 V9.toList 0 hk hG
                      clear hn
                      refine hK.out _ _ ?_ (fun hHeld => ?_)
                      · (try dsimp only)
                        with_reducible refine SM2 ?_; (repeat (first | with_reducible assumption | with_reducible refine KR.al ?_ | with_reducible refine KR.drew ?_ | with_reducible refine KR.set ?_ (by first | omega | (simp; omega))))
                      clear hK K
                      (try simp only [Act.put, List.setIfInBounds_toArray, List.set_cons_zero, List.set_cons_succ])
                      generalize (World.setCells _ _ _ _ : World) = X at hk hx hHeld ⊢
                      refine wpAnyH_take (i := 10) (oi := { dst := some 8, op := Go.Op.assign (Go.Operand.tmp 24), type := 4, pos := "exact.go:1595", after := #[{ on := 7, ground := Go.Ground.data }, { on := 9, ground := Go.Ground.chain }, { on := 0, ground := Go.Ground.phase }, { on := 1, ground := Go.Ground.phase }, { on := 2, ground := Go.Ground.phase }, { on := 3, ground := Go.Ground.phase }, { on := 4, ground := Go.Ground.phase }, { on := 5, ground := Go.Ground.phase }, { on := 6, ground := Go.Ground.phase }, { on := 7, ground := Go.Ground.phase }, { on := 8, ground := Go.Ground.phase }, { on := 9, ground := Go.Ground.phase }], guard := none }) (v := ?_) rfl (by kernel_rfl) (by kernel_rfl) (by kernel_rfl) (fun _ _ _ h => h) (Or.inl ⟨by rfl, ?_⟩) (by assumption) ?_
                      rotate_left
                      · intro w hSw; (try dsimp only at hSw); go_simp; (try with_reducible rfl)
                      simp only [Act.put, List.setIfInBounds_toArray, List.set_cons_zero, List.set_cons_succ]
                      refine wpAnyH_done (by kernel_rfl) ?_ _
                      clear hHeld
                      have hx1 : X.heap[G1]? = some (.cells V9 30 (0, 0)) := hk.row (List.mem_cons_self ..)
                      have hB := hk.2.2
                      clear hk hG
                      go_wp2_with (first | ((with_reducible refine wpGet12 G hx _ Try.underlying30 ?_ ?_ ?_ ?_); rfl; rfl; (rw [HV.out]; kernel_rfl)) | ((with_reducible refine wpGet12 G1 hx1 _ Try.underlying30 ?_ ?_ ?_ ?_); rfl; rfl; (rw [HV.out]; kernel_rfl)))
                      refine (HQ.out _).mono ?_
                      rintro e W3 ⟨rfl, hb⟩
                      have hB3 := below_of hB hb hB.size
                      clear hb hB hx hx1
                      go_wp2_with fail
                      go_ret
                      exact ⟨rfl, hB3⟩
            · go_simp
              have hn : (V.alloc (.cells #[.int .i64 0, .int .i64 0, .int .i64 0, .int .i64 0, .int .i64 0, .int .i64 0, .int .i64 0, .int .i64 0, .int .i64 0, .int .i64 0, .int .i64 0, .int .i64 0, .int .i64 0, .int .i64 0] 30)).heap[V.heap.size]? = some (.cells #[.int .i64 0, .int .i64 0, .int .i64 0, .int .i64 0, .int .i64 0, .int .i64 0, .int .i64 0, .int .i64 0, .int .i64 0, .int .i64 0, .int .i64 0, .int .i64 0, .int .i64 0, .int .i64 0] 30 (0, 0)) := alloc_at rfl
              have hG : w.heap.size + k ≤ V.heap.size := KR.le hk
              have hk := hk.al (o := .cells #[.int .i64 0, .int .i64 0, .int .i64 0, .int .i64 0, .int .i64 0, .int .i64 0, .int .i64 0, .int .i64 0, .int .i64 0, .int .i64 0, .int .i64 0, .int .i64 0, .int .i64 0, .int .i64 0] 30)
              refine hK.out _ _ ?_ (fun hHeld => ?_)
              · (try dsimp only)
                with_reducible refine SM2 ?_; (repeat (first | with_reducible assumption | with_reducible refine KR.al ?_ | with_reducible refine KR.drew ?_ | with_reducible refine KR.set ?_ (by first | omega | (simp; omega))))
              clear hK K
              (try simp only [Act.put, List.setIfInBounds_toArray, List.set_cons_zero, List.set_cons_succ])
              generalize V.heap.size = G at hn hG ⊢
              generalize (World.alloc _ _ : World) = V at hk hHeld hn ⊢
              refine wpAnyH_ready (rs := [1]) (by kernel_rfl) (by simp) ?_
              refine (AllReadyH.cons (o := { dst := some 19, op := Go.Op.call { callee := Go.Callee.value (Go.Operand.func 22), args := #[Go.Operand.tmp 18], argTypes := #[24] }, type := 28, pos := "exact.go:1595", after := #[{ on := 0, ground := Go.Ground.data }], guard := none }) rfl (fun K hK => ?_) AllReadyH.nil)
              · go_simp
                refine (to_sheet _ _ _ _ _ _ _).mono ?_
                rintro e w' ⟨rfl, hb'⟩
                have hk := hk.far hb' rfl
                have hn := rowk hn hb' rfl
                clear hb'
                refine hK.out _ _ ?_ (fun hHeld => ?_)
                · (try dsimp only)
                  with_reducible refine SM2 ?_; (repeat (first | with_reducible assumption | with_reducible refine KR.al ?_ | with_reducible refine KR.drew ?_ | with_reducible refine KR.set ?_ (by first | omega | (simp; omega))))
                clear hK K
                (try simp only [Act.put, List.setIfInBounds_toArray, List.set_cons_zero, List.set_cons_succ])
                generalize w' = V at hk hHeld hn ⊢
                refine wpAnyH_ready (rs := [3]) (by kernel_rfl) (by simp) ?_
                refine (AllReadyH.cons (o := { dst := some 21, op := Go.Op.call { callee := Go.Callee.value (Go.Operand.func 22), args := #[Go.Operand.tmp 20], argTypes := #[24] }, type := 28, pos := "exact.go:1595", after := #[{ on := 2, ground := Go.Ground.data }, { on := 1, ground := Go.Ground.chain }], guard := none }) rfl (fun K hK => ?_) AllReadyH.nil)
                · go_simp
                  refine (to_sheet _ _ _ _ _ _ _).mono ?_
                  rintro e w' ⟨rfl, hb'⟩
                  have hk := hk.far hb' rfl
                  have hn := rowk hn hb' rfl
                  clear hb'
                  refine hK.out _ _ ?_ (fun hHeld => ?_)
                  · (try dsimp only)
                    with_reducible refine SM2 ?_; (repeat (first | with_reducible assumption | with_reducible refine KR.al ?_ | with_reducible refine KR.drew ?_ | with_reducible refine KR.set ?_ (by first | omega | (simp; omega))))
                  clear hK K
                  (try simp only [Act.put, List.setIfInBounds_toArray, List.set_cons_zero, List.set_cons_succ])
                  generalize w' = V at hk hHeld hn ⊢
                  refine wpAnyH_ready (rs := [4]) (by kernel_rfl) (by simp) ?_
                  refine (AllReadyH.cons (o := { dst := some 22, op := Go.Op.call { callee := Go.Callee.value (Go.Operand.func 23), args := #[Go.Operand.tmp 19, Go.Operand.tmp 21], argTypes := #[28, 28] }, type := 33, pos := "exact.go:1595", after := #[{ on := 1, ground := Go.Ground.data }, { on := 3, ground := Go.Ground.data }, { on := 3, ground := Go.Ground.chain }], guard := none }) rfl (fun K hK => ?_) AllReadyH.nil)
                  · go_simp
                    refine (HI.out _).mono ?_
                    rintro e w' ⟨rfl, hb'⟩
                    have hk := hk.far hb' rfl
                    have hn := rowk hn hb' rfl
                    clear hb'
                    refine hK.out _ _ ?_ (fun hHeld => ?_)
                    · (try dsimp only)
                      with_reducible refine SM2 ?_; (repeat (first | with_reducible assumption | with_reducible refine KR.al ?_ | with_reducible refine KR.drew ?_ | with_reducible refine KR.set ?_ (by first | omega | (simp; omega))))
                    clear hK K
                    (try simp only [Act.put, List.setIfInBounds_toArray, List.set_cons_zero, List.set_cons_succ])
                    generalize w' = V at hk hHeld hn ⊢
                    refine wpAnyH_take (i := 5) (oi := { dst := some 17, op := Go.Op.move (Go.Operand.tmp 22), type := 33, pos := "exact.go:1595", after := #[{ on := 4, ground := Go.Ground.data }], guard := none }) (v := ?_) rfl (by kernel_rfl) (by kernel_rfl) (by kernel_rfl) (fun _ _ _ h => h) (Or.inl ⟨by rfl, ?_⟩) (by assumption) ?_
                    rotate_left
                    · intro w hSw; (try dsimp only at hSw); go_simp; (try with_reducible rfl)
                    simp only [Act.put, List.setIfInBounds_toArray, List.set_cons_zero, List.set_cons_succ]
                    refine wpAnyH_take (i := 6) (oi := { dst := some 23, op := Go.Op.extract (Go.Operand.tmp 17) 0, type := 30, pos := "exact.go:1595", after := #[{ on := 5, ground := Go.Ground.data }], guard := none }) (v := ?_) rfl (by kernel_rfl) (by kernel_rfl) (by kernel_rfl) (fun _ _ _ h => h) (Or.inl ⟨by rfl, ?_⟩) (by assumption) ?_
                    rotate_left
                    · intro w hSw; (try dsimp only at hSw); go_simp; (try with_reducible rfl)
                    simp only [Act.put, List.setIfInBounds_toArray, List.set_cons_zero, List.set_cons_succ]
                    refine wpAnyH_take (i := 7) (oi := { dst := some 24, op := Go.Op.extract (Go.Operand.tmp 17) 1, type := 4, pos := "exact.go:1595", after := #[{ on := 5, ground := Go.Ground.data }, { on := 9, ground := Go.Ground.gcOnly Go.Departure.lateStores }], guard := none }) (v := ?_) rfl (by kernel_rfl) (by kernel_rfl) (by kernel_rfl) (fun _ _ _ h => h) (Or.inl ⟨by rfl, ?_⟩) (by assumption) ?_
                    rotate_left
                    · intro w hSw; (try dsimp only at hSw); go_simp; (try with_reducible rfl)
                    simp only [Act.put, List.setIfInBounds_toArray, List.set_cons_zero, List.set_cons_succ]
                    refine wpAnyH_ready (rs := [9]) (by kernel_rfl) (by simp) ?_
                    refine (AllReadyH.cons (o := { dst := none, op := Go.Op.store 30 (Go.Operand.tmp 7) (Go.Operand.tmp 23), type := 0, pos := "exact.go:1595", after := #[{ on := 8, ground := Go.Ground.data }, { on := 6, ground := Go.Ground.data }, { on := 4, ground := Go.Ground.chain }, { on := 0, ground := Go.Ground.phase }, { on := 1, ground := Go.Ground.phase }, { on := 2, ground := Go.Ground.phase }, { on := 3, ground := Go.Ground.phase }, { on := 4, ground := Go.Ground.phase }, { on := 5, ground := Go.Ground.phase }, { on := 6, ground := Go.Ground.phase }, { on := 7, ground := Go.Ground.textOnly Go.Departure.lateStores }, { on := 8, ground := Go.Ground.phase }], guard := none }) rfl (fun K hK => ?_) AllReadyH.nil)
                    · skip
                      refine wp_store_mid 30 (.tmp 7) (.tmp 23) rfl G 0 V9 rfl rfl (by rw [HV.out]; exact row_there12 hn) (by rw [HV.out]; kernel_rfl) H1.out ?_
                      have hx := row_sets12 (cs' := V9) hn (by rw [HV.out]; rfl)
                      have hk := KR.sets9 V9.toList 0 hk hG
                      clear hn
                      refine hK.out _ _ ?_ (fun hHeld => ?_)
                      · (try dsimp only)
                        with_reducible refine SM2 ?_; (repeat (first | with_reducible assumption | with_reducible refine KR.al ?_ | with_reducible refine KR.drew ?_ | with_reducible refine KR.set ?_ (by first | omega | (simp; omega))))
                      clear hK K
                      (try simp only [Act.put, List.setIfInBounds_toArray, List.set_cons_zero, List.set_cons_succ])
                      generalize (World.setCells _ _ _ _ : World) = X at hk hx hHeld ⊢
                      refine wpAnyH_take (i := 10) (oi := { dst := some 8, op := Go.Op.assign (Go.Operand.tmp 24), type := 4, pos := "exact.go:1595", after := #[{ on := 7, ground := Go.Ground.data }, { on := 9, ground := Go.Ground.chain }, { on := 0, ground := Go.Ground.phase }, { on := 1, ground := Go.Ground.phase }, { on := 2, ground := Go.Ground.phase }, { on := 3, ground := Go.Ground.phase }, { on := 4, ground := Go.Ground.phase }, { on := 5, ground := Go.Ground.phase }, { on := 6, ground := Go.Ground.phase }, { on := 7, ground := Go.Ground.phase }, { on := 8, ground := Go.Ground.phase }, { on := 9, ground := Go.Ground.phase }], guard := none }) (v := ?_) rfl (by kernel_rfl) (by kernel_rfl) (by kernel_rfl) (fun _ _ _ h => h) (Or.inl ⟨by rfl, ?_⟩) (by assumption) ?_
                      rotate_left
                      · intro w hSw; (try dsimp only at hSw); go_simp; (try with_reducible rfl)
                      simp only [Act.put, List.setIfInBounds_toArray, List.set_cons_zero, List.set_cons_succ]
                      refine wpAnyH_done (by kernel_rfl) ?_ _
                      clear hHeld
                      have hx1 : X.heap[G1]? = some (.cells V9 30 (0, 0)) := hk.row (List.mem_cons_self ..)
                      have hB := hk.2.2
                      clear hk hG
                      go_wp2_with (first | ((with_reducible refine wpGet12 G hx _ Try.underlying30 ?_ ?_ ?_ ?_); rfl; rfl; (rw [HV.out]; kernel_rfl)) | ((with_reducible refine wpGet12 G1 hx1 _ Try.underlying30 ?_ ?_ ?_ ?_); rfl; rfl; (rw [HV.out]; kernel_rfl)))
                      refine (HQ.out _).mono ?_
                      rintro e W3 ⟨rfl, hb⟩
                      have hB3 := below_of hB hb hB.size
                      clear hb hB hx hx1
                      go_wp2_with fail
                      go_ret
                      exact ⟨rfl, hB3⟩
  · go_simp
    have hn : (V.alloc (.cells #[.int .i64 0, .int .i64 0, .int .i64 0, .int .i64 0, .int .i64 0, .int .i64 0, .int .i64 0, .int .i64 0, .int .i64 0, .int .i64 0, .int .i64 0, .int .i64 0, .int .i64 0, .int .i64 0] 30)).heap[V.heap.size]? = some (.cells #[.int .i64 0, .int .i64 0, .int .i64 0, .int .i64 0, .int .i64 0, .int .i64 0, .int .i64 0, .int .i64 0, .int .i64 0, .int .i64 0, .int .i64 0, .int .i64 0, .int .i64 0, .int .i64 0] 30 (0, 0)) := alloc_at rfl
    have hG : w.heap.size + 2 ≤ V.heap.size := KR.le hk
    have hk := hk.al (o := .cells #[.int .i64 0, .int .i64 0, .int .i64 0, .int .i64 0, .int .i64 0, .int .i64 0, .int .i64 0, .int .i64 0, .int .i64 0, .int .i64 0, .int .i64 0, .int .i64 0, .int .i64 0, .int .i64 0] 30)
    refine hK.out _ _ ?_ (fun hHeld => ?_)
    · (try dsimp only)
      with_reducible refine SL2 ?_; (repeat (first | with_reducible assumption | with_reducible refine KR.al ?_ | with_reducible refine KR.drew ?_ | with_reducible refine KR.set ?_ (by first | omega | (simp; omega))))
    clear hK K
    (try simp only [Act.put, List.setIfInBounds_toArray, List.set_cons_zero, List.set_cons_succ])
    generalize V.heap.size = G at hn hG ⊢
    generalize (World.alloc _ _ : World) = V at hk hHeld hn ⊢
    refine wpAnyH_ready (rs := [1]) (by kernel_rfl) (by simp) ?_
    refine (AllReadyH.cons (o := { dst := some 11, op := Go.Op.call { callee := Go.Callee.value (Go.Operand.func 22), args := #[Go.Operand.tmp 10], argTypes := #[24] }, type := 28, pos := "exact.go:1594", after := #[{ on := 0, ground := Go.Ground.data }], guard := none }) rfl (fun K hK => ?_) AllReadyH.nil)
    · go_simp
      refine (to_sheet _ _ _ _ _ _ _).mono ?_
      rintro e w' ⟨rfl, hb'⟩
      have hk := hk.far hb' rfl
      have hn := rowk hn hb' rfl
      clear hb'
      refine hK.out _ _ ?_ (fun hHeld => ?_)
      · (try dsimp only)
        with_reducible refine SL2 ?_; (repeat (first | with_reducible assumption | with_reducible refine KR.al ?_ | with_reducible refine KR.drew ?_ | with_reducible refine KR.set ?_ (by first | omega | (simp; omega))))
      clear hK K
      (try simp only [Act.put, List.setIfInBounds_toArray, List.set_cons_zero, List.set_cons_succ])
      generalize w' = V at hk hHeld hn ⊢
      refine wpAnyH_ready (rs := [3]) (by kernel_rfl) (by simp) ?_
      refine (AllReadyH.cons (o := { dst := some 13, op := Go.Op.call { callee := Go.Callee.value (Go.Operand.func 22), args := #[Go.Operand.tmp 12], argTypes := #[24] }, type := 28, pos := "exact.go:1594", after := #[{ on := 2, ground := Go.Ground.data }, { on := 1, ground := Go.Ground.chain }], guard := none }) rfl (fun K hK => ?_) AllReadyH.nil)
      · go_simp
        refine (to_sheet _ _ _ _ _ _ _).mono ?_
        rintro e w' ⟨rfl, hb'⟩
        have hk := hk.far hb' rfl
        have hn := rowk hn hb' rfl
        clear hb'
        refine hK.out _ _ ?_ (fun hHeld => ?_)
        · (try dsimp only)
          with_reducible refine SL2 ?_; (repeat (first | with_reducible assumption | with_reducible refine KR.al ?_ | with_reducible refine KR.drew ?_ | with_reducible refine KR.set ?_ (by first | omega | (simp; omega))))
        clear hK K
        (try simp only [Act.put, List.setIfInBounds_toArray, List.set_cons_zero, List.set_cons_succ])
        generalize w' = V at hk hHeld hn ⊢
        refine wpAnyH_ready (rs := [4]) (by kernel_rfl) (by simp) ?_
        refine (AllReadyH.cons (o := { dst := some 14, op := Go.Op.call { callee := Go.Callee.value (Go.Operand.func 21), args := #[Go.Operand.tmp 11, Go.Operand.tmp 13], argTypes := #[28, 28] }, type := 33, pos := "exact.go:1594", after := #[{ on := 1, ground := Go.Ground.data }, { on := 3, ground := Go.Ground.data }, { on := 3, ground := Go.Ground.chain }], guard := none }) rfl (fun K hK => ?_) AllReadyH.nil)
        · go_simp
          refine (HS.out _).mono ?_
          rintro e w' ⟨rfl, hb'⟩
          have hk := hk.far hb' rfl
          have hn := rowk hn hb' rfl
          clear hb'
          refine hK.out _ _ ?_ (fun hHeld => ?_)
          · (try dsimp only)
            with_reducible refine SL2 ?_; (repeat (first | with_reducible assumption | with_reducible refine KR.al ?_ | with_reducible refine KR.drew ?_ | with_reducible refine KR.set ?_ (by first | omega | (simp; omega))))
          clear hK K
          (try simp only [Act.put, List.setIfInBounds_toArray, List.set_cons_zero, List.set_cons_succ])
          generalize w' = V at hk hHeld hn ⊢
          refine wpAnyH_take (i := 5) (oi := { dst := some 9, op := Go.Op.move (Go.Operand.tmp 14), type := 33, pos := "exact.go:1594", after := #[{ on := 4, ground := Go.Ground.data }], guard := none }) (v := ?_) rfl (by kernel_rfl) (by kernel_rfl) (by kernel_rfl) (fun _ _ _ h => h) (Or.inl ⟨by rfl, ?_⟩) (by assumption) ?_
          rotate_left
          · intro w hSw; (try dsimp only at hSw); go_simp; (try with_reducible rfl)
          simp only [Act.put, List.setIfInBounds_toArray, List.set_cons_zero, List.set_cons_succ]
          refine wpAnyH_take (i := 6) (oi := { dst := some 15, op := Go.Op.extract (Go.Operand.tmp 9) 0, type := 30, pos := "exact.go:1594", after := #[{ on := 5, ground := Go.Ground.data }], guard := none }) (v := ?_) rfl (by kernel_rfl) (by kernel_rfl) (by kernel_rfl) (fun _ _ _ h => h) (Or.inl ⟨by rfl, ?_⟩) (by assumption) ?_
          rotate_left
          · intro w hSw; (try dsimp only at hSw); go_simp; (try with_reducible rfl)
          simp only [Act.put, List.setIfInBounds_toArray, List.set_cons_zero, List.set_cons_succ]
          refine wpAnyH_take (i := 7) (oi := { dst := some 16, op := Go.Op.extract (Go.Operand.tmp 9) 1, type := 4, pos := "exact.go:1594", after := #[{ on := 5, ground := Go.Ground.data }, { on := 9, ground := Go.Ground.gcOnly Go.Departure.lateStores }], guard := none }) (v := ?_) rfl (by kernel_rfl) (by kernel_rfl) (by kernel_rfl) (fun _ _ _ h => h) (Or.inl ⟨by rfl, ?_⟩) (by assumption) ?_
          rotate_left
          · intro w hSw; (try dsimp only at hSw); go_simp; (try with_reducible rfl)
          simp only [Act.put, List.setIfInBounds_toArray, List.set_cons_zero, List.set_cons_succ]
          refine wpAnyH_ready (rs := [9]) (by kernel_rfl) (by simp) ?_
          refine (AllReadyH.cons (o := { dst := none, op := Go.Op.store 30 (Go.Operand.tmp 5) (Go.Operand.tmp 15), type := 0, pos := "exact.go:1594", after := #[{ on := 8, ground := Go.Ground.data }, { on := 6, ground := Go.Ground.data }, { on := 4, ground := Go.Ground.chain }, { on := 0, ground := Go.Ground.phase }, { on := 1, ground := Go.Ground.phase }, { on := 2, ground := Go.Ground.phase }, { on := 3, ground := Go.Ground.phase }, { on := 4, ground := Go.Ground.phase }, { on := 5, ground := Go.Ground.phase }, { on := 6, ground := Go.Ground.phase }, { on := 7, ground := Go.Ground.textOnly Go.Departure.lateStores }, { on := 8, ground := Go.Ground.phase }], guard := none }) rfl (fun K hK => ?_) AllReadyH.nil)
          · skip
            refine wp_store_mid 30 (.tmp 5) (.tmp 15) rfl G 0 V9 rfl rfl (by rw [HV.out]; exact row_there12 hn) (by rw [HV.out]; kernel_rfl) H1.out ?_
            have hx := row_sets12 (cs' := V9) hn (by rw [HV.out]; rfl)
            have hk := KR.sets9 V9.toList 0 hk hG
            clear hn
            refine hK.out _ _ ?_ (fun hHeld => ?_)
            · (try dsimp only)
              with_reducible refine SL2 ?_; (repeat (first | with_reducible assumption | with_reducible refine KR.al ?_ | with_reducible refine KR.drew ?_ | with_reducible refine KR.set ?_ (by first | omega | (simp; omega))))
            clear hK K
            (try simp only [Act.put, List.setIfInBounds_toArray, List.set_cons_zero, List.set_cons_succ])
            generalize (World.setCells _ _ _ _ : World) = X at hk hx hHeld ⊢
            refine wpAnyH_take (i := 10) (oi := { dst := some 6, op := Go.Op.assign (Go.Operand.tmp 16), type := 4, pos := "exact.go:1594", after := #[{ on := 7, ground := Go.Ground.data }, { on := 9, ground := Go.Ground.chain }, { on := 0, ground := Go.Ground.phase }, { on := 1, ground := Go.Ground.phase }, { on := 2, ground := Go.Ground.phase }, { on := 3, ground := Go.Ground.phase }, { on := 4, ground := Go.Ground.phase }, { on := 5, ground := Go.Ground.phase }, { on := 6, ground := Go.Ground.phase }, { on := 7, ground := Go.Ground.phase }, { on := 8, ground := Go.Ground.phase }, { on := 9, ground := Go.Ground.phase }], guard := none }) (v := ?_) rfl (by kernel_rfl) (by kernel_rfl) (by kernel_rfl) (fun _ _ _ h => h) (Or.inl ⟨by rfl, ?_⟩) (by assumption) ?_
            rotate_left
            · intro w hSw; (try dsimp only at hSw); go_simp; (try with_reducible rfl)
            simp only [Act.put, List.setIfInBounds_toArray, List.set_cons_zero, List.set_cons_succ]
            refine wpAnyH_done (by kernel_rfl) ?_ _
            clear hHeld
            obtain ⟨k, hm, hk⟩ := hk.push hx hG
            clear hx hG
            generalize G = G1 at *
            go_wp2_with fail
            have hz := KR.le hk
            refine wp_region_held_drew (S := (fun U => U.cell? ⟨w.heap.size, 0, none⟩ = some (.int .i64 a0) ∧ U.cell? ⟨w.heap.size, 1, none⟩ = some (.int .i64 a1) ∧ U.cell? ⟨w.heap.size, 2, none⟩ = some (.int .i64 a2) ∧ U.cell? ⟨w.heap.size, 3, none⟩ = some (.int .i64 a3) ∧ U.cell? ⟨w.heap.size, 4, none⟩ = some (.int .i64 a4) ∧ U.cell? ⟨w.heap.size, 5, none⟩ = some (.int .i64 a5) ∧ U.cell? ⟨w.heap.size + 1, 0, none⟩ = some (.int .i64 b0) ∧ U.cell? ⟨w.heap.size + 1, 1, none⟩ = some (.int .i64 b1) ∧ U.cell? ⟨w.heap.size + 1, 2, none⟩ = some (.int .i64 b2) ∧ U.cell? ⟨w.heap.size + 1, 3, none⟩ = some (.int .i64 b3) ∧ U.cell? ⟨w.heap.size + 1, 4, none⟩ = some (.int .i64 b4) ∧ U.cell? ⟨w.heap.size + 1, 5, none⟩ = some (.int .i64 b5) ∧ KR k [(G1, (.cells V9 30 (0, 0))), (w.heap.size, Obj.cells #[.int .i64 a0, .int .i64 a1, .int .i64 a2, .int .i64 a3, .int .i64 a4, .int .i64 a5] 24 (0, 0)), (w.heap.size + 1, Obj.cells #[.int .i64 b0, .int .i64 b1, .int .i64 b2, .int .i64 b3, .int .i64 b4, .int .i64 b5] 24 (0, 0))] w U)) (by kernel_rfl) ?_ (fun hHeld => ?_)
            · (try dsimp only)
              have hk := hk.drew
              with_reducible refine SM2 ?_; (repeat (first | with_reducible assumption | with_reducible refine KR.al ?_ | with_reducible refine KR.drew ?_ | with_reducible refine KR.set ?_ (by first | omega | (simp; omega))))
            have hk := hk.drew
            generalize X.drew = V at hk hHeld ⊢
            refine wpAnyH_take (i := 0) (oi := { dst := some 18, op := Go.Op.load 24 (Go.Operand.tmp 2), type := 24, pos := "exact.go:1595", after := #[], guard := none }) (v := ?_) rfl (by kernel_rfl) (by kernel_rfl) (by kernel_rfl) (fun _ _ _ h => h) (Or.inl ⟨by rfl, ?_⟩) (by assumption) ?_
            rotate_left
            · intro w hSw; (try dsimp only at hSw); go_simp; (try with_reducible rfl)
            simp only [Act.put, List.setIfInBounds_toArray, List.set_cons_zero, List.set_cons_succ]
            refine wpAnyH_take (i := 2) (oi := { dst := some 20, op := Go.Op.load 24 (Go.Operand.tmp 3), type := 24, pos := "exact.go:1595", after := #[], guard := none }) (v := ?_) rfl (by kernel_rfl) (by kernel_rfl) (by kernel_rfl) (fun _ _ _ h => h) (Or.inl ⟨by rfl, ?_⟩) (by assumption) ?_
            rotate_left
            · intro w hSw; (try dsimp only at hSw); go_simp; (try with_reducible rfl)
            simp only [Act.put, List.setIfInBounds_toArray, List.set_cons_zero, List.set_cons_succ]
            refine wpAnyH_ready (rs := [1, 8]) (by kernel_rfl) (by simp) ?_
            refine (AllReadyH.cons (o := { dst := some 19, op := Go.Op.call { callee := Go.Callee.value (Go.Operand.func 22), args := #[Go.Operand.tmp 18], argTypes := #[24] }, type := 28, pos := "exact.go:1595", after := #[{ on := 0, ground := Go.Ground.data }], guard := none }) rfl (fun K hK => ?_) (AllReadyH.cons (o := { dst := some 7, op := Go.Op.alloc 30, type := 0, pos := "exact.go:1595", after := #[], guard := none }) rfl (fun K hK => ?_) AllReadyH.nil))
            · go_simp
              refine (to_sheet _ _ _ _ _ _ _).mono ?_
              rintro e w' ⟨rfl, hb'⟩
              have hk := hk.far hb' rfl
              clear hb'
              refine hK.out _ _ ?_ (fun hHeld => ?_)
              · (try dsimp only)
                with_reducible refine SM2 ?_; (repeat (first | with_reducible assumption | with_reducible refine KR.al ?_ | with_reducible refine KR.drew ?_ | with_reducible refine KR.set ?_ (by first | omega | (simp; omega))))
              clear hK K
              (try simp only [Act.put, List.setIfInBounds_toArray, List.set_cons_zero, List.set_cons_succ])
              generalize w' = V at hk hHeld ⊢
              refine wpAnyH_ready (rs := [3, 8]) (by kernel_rfl) (by simp) ?_
              refine (AllReadyH.cons (o := { dst := some 21, op := Go.Op.call { callee := Go.Callee.value (Go.Operand.func 22), args := #[Go.Operand.tmp 20], argTypes := #[24] }, type := 28, pos := "exact.go:1595", after := #[{ on := 2, ground := Go.Ground.data }, { on := 1, ground := Go.Ground.chain }], guard := none }) rfl (fun K hK => ?_) (AllReadyH.cons (o := { dst := some 7, op := Go.Op.alloc 30, type := 0, pos := "exact.go:1595", after := #[], guard := none }) rfl (fun K hK => ?_) AllReadyH.nil))
              · go_simp
                refine (to_sheet _ _ _ _ _ _ _).mono ?_
                rintro e w' ⟨rfl, hb'⟩
                have hk := hk.far hb' rfl
                clear hb'
                refine hK.out _ _ ?_ (fun hHeld => ?_)
                · (try dsimp only)
                  with_reducible refine SM2 ?_; (repeat (first | with_reducible assumption | with_reducible refine KR.al ?_ | with_reducible refine KR.drew ?_ | with_reducible refine KR.set ?_ (by first | omega | (simp; omega))))
                clear hK K
                (try simp only [Act.put, List.setIfInBounds_toArray, List.set_cons_zero, List.set_cons_succ])
                generalize w' = V at hk hHeld ⊢
                refine wpAnyH_ready (rs := [4, 8]) (by kernel_rfl) (by simp) ?_
                refine (AllReadyH.cons (o := { dst := some 22, op := Go.Op.call { callee := Go.Callee.value (Go.Operand.func 23), args := #[Go.Operand.tmp 19, Go.Operand.tmp 21], argTypes := #[28, 28] }, type := 33, pos := "exact.go:1595", after := #[{ on := 1, ground := Go.Ground.data }, { on := 3, ground := Go.Ground.data }, { on := 3, ground := Go.Ground.chain }], guard := none }) rfl (fun K hK => ?_) (AllReadyH.cons (o := { dst := some 7, op := Go.Op.alloc 30, type := 0, pos := "exact.go:1595", after := #[], guard := none }) rfl (fun K hK => ?_) AllReadyH.nil))
                · go_simp
                  refine (HI.out _).mono ?_
                  rintro e w' ⟨rfl, hb'⟩
                  have hk := hk.far hb' rfl
                  clear hb'
                  refine hK.out _ _ ?_ (fun hHeld => ?_)
                  · (try dsimp only)
                    with_reducible refine SM2 ?_; (repeat (first | with_reducible assumption | with_reducible refine KR.al ?_ | with_reducible refine KR.drew ?_ | with_reducible refine KR.set ?_ (by first | omega | (simp; omega))))
                  clear hK K
                  (try simp only [Act.put, List.setIfInBounds_toArray, List.set_cons_zero, List.set_cons_succ])
                  generalize w' = V at hk hHeld ⊢
                  refine wpAnyH_take (i := 5) (oi := { dst := some 17, op := Go.Op.move (Go.Operand.tmp 22), type := 33, pos := "exact.go:1595", after := #[{ on := 4, ground := Go.Ground.data }], guard := none }) (v := ?_) rfl (by kernel_rfl) (by kernel_rfl) (by kernel_rfl) (fun _ _ _ h => h) (Or.inl ⟨by rfl, ?_⟩) (by assumption) ?_
                  rotate_left
                  · intro w hSw; (try dsimp only at hSw); go_simp; (try with_reducible rfl)
                  simp only [Act.put, List.setIfInBounds_toArray, List.set_cons_zero, List.set_cons_succ]
                  refine wpAnyH_take (i := 6) (oi := { dst := some 23, op := Go.Op.extract (Go.Operand.tmp 17) 0, type := 30, pos := "exact.go:1595", after := #[{ on := 5, ground := Go.Ground.data }], guard := none }) (v := ?_) rfl (by kernel_rfl) (by kernel_rfl) (by kernel_rfl) (fun _ _ _ h => h) (Or.inl ⟨by rfl, ?_⟩) (by assumption) ?_
                  rotate_left
                  · intro w hSw; (try dsimp only at hSw); go_simp; (try with_reducible rfl)
                  simp only [Act.put, List.setIfInBounds_toArray, List.set_cons_zero, List.set_cons_succ]
                  refine wpAnyH_take (i := 7) (oi := { dst := some 24, op := Go.Op.extract (Go.Operand.tmp 17) 1, type := 4, pos := "exact.go:1595", after := #[{ on := 5, ground := Go.Ground.data }, { on := 9, ground := Go.Ground.gcOnly Go.Departure.lateStores }], guard := none }) (v := ?_) rfl (by kernel_rfl) (by kernel_rfl) (by kernel_rfl) (fun _ _ _ h => h) (Or.inl ⟨by rfl, ?_⟩) (by assumption) ?_
                  rotate_left
                  · intro w hSw; (try dsimp only at hSw); go_simp; (try with_reducible rfl)
                  simp only [Act.put, List.setIfInBounds_toArray, List.set_cons_zero, List.set_cons_succ]
                  refine wpAnyH_ready (rs := [8]) (by kernel_rfl) (by simp) ?_
                  refine (AllReadyH.cons (o := { dst := some 7, op := Go.Op.alloc 30, type := 0, pos := "exact.go:1595", after := #[], guard := none }) rfl (fun K hK => ?_) AllReadyH.nil)
                  · go_simp
                    have hn : (V.alloc (.cells #[.int .i64 0, .int .i64 0, .int .i64 0, .int .i64 0, .int .i64 0, .int .i64 0, .int .i64 0, .int .i64 0, .int .i64 0, .int .i64 0, .int .i64 0, .int .i64 0, .int .i64 0, .int .i64 0] 30)).heap[V.heap.size]? = some (.cells #[.int .i64 0, .int .i64 0, .int .i64 0, .int .i64 0, .int .i64 0, .int .i64 0, .int .i64 0, .int .i64 0, .int .i64 0, .int .i64 0, .int .i64 0, .int .i64 0, .int .i64 0, .int .i64 0] 30 (0, 0)) := alloc_at rfl
                    have hG : w.heap.size + k ≤ V.heap.size := KR.le hk
                    have hk := hk.al (o := .cells #[.int .i64 0, .int .i64 0, .int .i64 0, .int .i64 0, .int .i64 0, .int .i64 0, .int .i64 0, .int .i64 0, .int .i64 0, .int .i64 0, .int .i64 0, .int .i64 0, .int .i64 0, .int .i64 0] 30)
                    refine hK.out _ _ ?_ (fun hHeld => ?_)
                    · (try dsimp only)
                      with_reducible refine SM2 ?_; (repeat (first | with_reducible assumption | with_reducible refine KR.al ?_ | with_reducible refine KR.drew ?_ | with_reducible refine KR.set ?_ (by first | omega | (simp; omega))))
                    clear hK K
                    (try simp only [Act.put, List.setIfInBounds_toArray, List.set_cons_zero, List.set_cons_succ])
                    generalize V.heap.size = G at hn hG ⊢
                    generalize (World.alloc _ _ : World) = V at hk hHeld hn ⊢
                    refine wpAnyH_ready (rs := [9]) (by kernel_rfl) (by simp) ?_
                    refine (AllReadyH.cons (o := { dst := none, op := Go.Op.store 30 (Go.Operand.tmp 7) (Go.Operand.tmp 23), type := 0, pos := "exact.go:1595", after := #[{ on := 8, ground := Go.Ground.data }, { on := 6, ground := Go.Ground.data }, { on := 4, ground := Go.Ground.chain }, { on := 0, ground := Go.Ground.phase }, { on := 1, ground := Go.Ground.phase }, { on := 2, ground := Go.Ground.phase }, { on := 3, ground := Go.Ground.phase }, { on := 4, ground := Go.Ground.phase }, { on := 5, ground := Go.Ground.phase }, { on := 6, ground := Go.Ground.phase }, { on := 7, ground := Go.Ground.textOnly Go.Departure.lateStores }, { on := 8, ground := Go.Ground.phase }], guard := none }) rfl (fun K hK => ?_) AllReadyH.nil)
                    · skip
                      refine wp_store_mid 30 (.tmp 7) (.tmp 23) rfl G 0 V9 rfl rfl (by rw [HV.out]; exact row_there12 hn) (by rw [HV.out]; kernel_rfl) H1.out ?_
                      have hx := row_sets12 (cs' := V9) hn (by rw [HV.out]; rfl)
                      have hk := KR.sets9 V9.toList 0 hk hG
                      clear hn
                      refine hK.out _ _ ?_ (fun hHeld => ?_)
                      · (try dsimp only)
                        with_reducible refine SM2 ?_; (repeat (first | with_reducible assumption | with_reducible refine KR.al ?_ | with_reducible refine KR.drew ?_ | with_reducible refine KR.set ?_ (by first | omega | (simp; omega))))
                      clear hK K
                      (try simp only [Act.put, List.setIfInBounds_toArray, List.set_cons_zero, List.set_cons_succ])
                      generalize (World.setCells _ _ _ _ : World) = X at hk hx hHeld ⊢
                      refine wpAnyH_take (i := 10) (oi := { dst := some 8, op := Go.Op.assign (Go.Operand.tmp 24), type := 4, pos := "exact.go:1595", after := #[{ on := 7, ground := Go.Ground.data }, { on := 9, ground := Go.Ground.chain }, { on := 0, ground := Go.Ground.phase }, { on := 1, ground := Go.Ground.phase }, { on := 2, ground := Go.Ground.phase }, { on := 3, ground := Go.Ground.phase }, { on := 4, ground := Go.Ground.phase }, { on := 5, ground := Go.Ground.phase }, { on := 6, ground := Go.Ground.phase }, { on := 7, ground := Go.Ground.phase }, { on := 8, ground := Go.Ground.phase }, { on := 9, ground := Go.Ground.phase }], guard := none }) (v := ?_) rfl (by kernel_rfl) (by kernel_rfl) (by kernel_rfl) (fun _ _ _ h => h) (Or.inl ⟨by rfl, ?_⟩) (by assumption) ?_
                      rotate_left
                      · intro w hSw; (try dsimp only at hSw); go_simp; (try with_reducible rfl)
                      simp only [Act.put, List.setIfInBounds_toArray, List.set_cons_zero, List.set_cons_succ]
                      refine wpAnyH_done (by kernel_rfl) ?_ _
                      clear hHeld
                      have hx1 : X.heap[G1]? = some (.cells V9 30 (0, 0)) := hk.row (List.mem_cons_self ..)
                      have hB := hk.2.2
                      clear hk hG
                      go_wp2_with (first | ((with_reducible refine wpGet12 G hx _ Try.underlying30 ?_ ?_ ?_ ?_); rfl; rfl; (rw [HV.out]; kernel_rfl)) | ((with_reducible refine wpGet12 G1 hx1 _ Try.underlying30 ?_ ?_ ?_ ?_); rfl; rfl; (rw [HV.out]; kernel_rfl)))
                      refine (HQ.out _).mono ?_
                      rintro e W3 ⟨rfl, hb⟩
                      have hB3 := below_of hB hb hB.size
                      clear hb hB hx hx1
                      go_wp2_with fail
                      go_ret
                      exact ⟨rfl, hB3⟩
                · go_simp
                  have hn : (V.alloc (.cells #[.int .i64 0, .int .i64 0, .int .i64 0, .int .i64 0, .int .i64 0, .int .i64 0, .int .i64 0, .int .i64 0, .int .i64 0, .int .i64 0, .int .i64 0, .int .i64 0, .int .i64 0, .int .i64 0] 30)).heap[V.heap.size]? = some (.cells #[.int .i64 0, .int .i64 0, .int .i64 0, .int .i64 0, .int .i64 0, .int .i64 0, .int .i64 0, .int .i64 0, .int .i64 0, .int .i64 0, .int .i64 0, .int .i64 0, .int .i64 0, .int .i64 0] 30 (0, 0)) := alloc_at rfl
                  have hG : w.heap.size + k ≤ V.heap.size := KR.le hk
                  have hk := hk.al (o := .cells #[.int .i64 0, .int .i64 0, .int .i64 0, .int .i64 0, .int .i64 0, .int .i64 0, .int .i64 0, .int .i64 0, .int .i64 0, .int .i64 0, .int .i64 0, .int .i64 0, .int .i64 0, .int .i64 0] 30)
                  refine hK.out _ _ ?_ (fun hHeld => ?_)
                  · (try dsimp only)
                    with_reducible refine SM2 ?_; (repeat (first | with_reducible assumption | with_reducible refine KR.al ?_ | with_reducible refine KR.drew ?_ | with_reducible refine KR.set ?_ (by first | omega | (simp; omega))))
                  clear hK K
                  (try simp only [Act.put, List.setIfInBounds_toArray, List.set_cons_zero, List.set_cons_succ])
                  generalize V.heap.size = G at hn hG ⊢
                  generalize (World.alloc _ _ : World) = V at hk hHeld hn ⊢
                  refine wpAnyH_ready (rs := [4]) (by kernel_rfl) (by simp) ?_
                  refine (AllReadyH.cons (o := { dst := some 22, op := Go.Op.call { callee := Go.Callee.value (Go.Operand.func 23), args := #[Go.Operand.tmp 19, Go.Operand.tmp 21], argTypes := #[28, 28] }, type := 33, pos := "exact.go:1595", after := #[{ on := 1, ground := Go.Ground.data }, { on := 3, ground := Go.Ground.data }, { on := 3, ground := Go.Ground.chain }], guard := none }) rfl (fun K hK => ?_) AllReadyH.nil)
                  · go_simp
                    refine (HI.out _).mono ?_
                    rintro e w' ⟨rfl, hb'⟩
                    have hk := hk.far hb' rfl
                    have hn := rowk hn hb' rfl
                    clear hb'
                    refine hK.out _ _ ?_ (fun hHeld => ?_)
                    · (try dsimp only)
                      with_reducible refine SM2 ?_; (repeat (first | with_reducible assumption | with_reducible refine KR.al ?_ | with_reducible refine KR.drew ?_ | with_reducible refine KR.set ?_ (by first | omega | (simp; omega))))
                    clear hK K
                    (try simp only [Act.put, List.setIfInBounds_toArray, List.set_cons_zero, List.set_cons_succ])
                    generalize w' = V at hk hHeld hn ⊢
                    refine wpAnyH_take (i := 5) (oi := { dst := some 17, op := Go.Op.move (Go.Operand.tmp 22), type := 33, pos := "exact.go:1595", after := #[{ on := 4, ground := Go.Ground.data }], guard := none }) (v := ?_) rfl (by kernel_rfl) (by kernel_rfl) (by kernel_rfl) (fun _ _ _ h => h) (Or.inl ⟨by rfl, ?_⟩) (by assumption) ?_
                    rotate_left
                    · intro w hSw; (try dsimp only at hSw); go_simp; (try with_reducible rfl)
                    simp only [Act.put, List.setIfInBounds_toArray, List.set_cons_zero, List.set_cons_succ]
                    refine wpAnyH_take (i := 6) (oi := { dst := some 23, op := Go.Op.extract (Go.Operand.tmp 17) 0, type := 30, pos := "exact.go:1595", after := #[{ on := 5, ground := Go.Ground.data }], guard := none }) (v := ?_) rfl (by kernel_rfl) (by kernel_rfl) (by kernel_rfl) (fun _ _ _ h => h) (Or.inl ⟨by rfl, ?_⟩) (by assumption) ?_
                    rotate_left
                    · intro w hSw; (try dsimp only at hSw); go_simp; (try with_reducible rfl)
                    simp only [Act.put, List.setIfInBounds_toArray, List.set_cons_zero, List.set_cons_succ]
                    refine wpAnyH_take (i := 7) (oi := { dst := some 24, op := Go.Op.extract (Go.Operand.tmp 17) 1, type := 4, pos := "exact.go:1595", after := #[{ on := 5, ground := Go.Ground.data }, { on := 9, ground := Go.Ground.gcOnly Go.Departure.lateStores }], guard := none }) (v := ?_) rfl (by kernel_rfl) (by kernel_rfl) (by kernel_rfl) (fun _ _ _ h => h) (Or.inl ⟨by rfl, ?_⟩) (by assumption) ?_
                    rotate_left
                    · intro w hSw; (try dsimp only at hSw); go_simp; (try with_reducible rfl)
                    simp only [Act.put, List.setIfInBounds_toArray, List.set_cons_zero, List.set_cons_succ]
                    refine wpAnyH_ready (rs := [9]) (by kernel_rfl) (by simp) ?_
                    refine (AllReadyH.cons (o := { dst := none, op := Go.Op.store 30 (Go.Operand.tmp 7) (Go.Operand.tmp 23), type := 0, pos := "exact.go:1595", after := #[{ on := 8, ground := Go.Ground.data }, { on := 6, ground := Go.Ground.data }, { on := 4, ground := Go.Ground.chain }, { on := 0, ground := Go.Ground.phase }, { on := 1, ground := Go.Ground.phase }, { on := 2, ground := Go.Ground.phase }, { on := 3, ground := Go.Ground.phase }, { on := 4, ground := Go.Ground.phase }, { on := 5, ground := Go.Ground.phase }, { on := 6, ground := Go.Ground.phase }, { on := 7, ground := Go.Ground.textOnly Go.Departure.lateStores }, { on := 8, ground := Go.Ground.phase }], guard := none }) rfl (fun K hK => ?_) AllReadyH.nil)
                    · skip
                      refine wp_store_mid 30 (.tmp 7) (.tmp 23) rfl G 0 V9 rfl rfl (by rw [HV.out]; exact row_there12 hn) (by rw [HV.out]; kernel_rfl) H1.out ?_
                      have hx := row_sets12 (cs' := V9) hn (by rw [HV.out]; rfl)
                      have hk := KR.sets9 V9.toList 0 hk hG
                      clear hn
                      refine hK.out _ _ ?_ (fun hHeld => ?_)
                      · (try dsimp only)
                        with_reducible refine SM2 ?_; (repeat (first | with_reducible assumption | with_reducible refine KR.al ?_ | with_reducible refine KR.drew ?_ | with_reducible refine KR.set ?_ (by first | omega | (simp; omega))))
                      clear hK K
                      (try simp only [Act.put, List.setIfInBounds_toArray, List.set_cons_zero, List.set_cons_succ])
                      generalize (World.setCells _ _ _ _ : World) = X at hk hx hHeld ⊢
                      refine wpAnyH_take (i := 10) (oi := { dst := some 8, op := Go.Op.assign (Go.Operand.tmp 24), type := 4, pos := "exact.go:1595", after := #[{ on := 7, ground := Go.Ground.data }, { on := 9, ground := Go.Ground.chain }, { on := 0, ground := Go.Ground.phase }, { on := 1, ground := Go.Ground.phase }, { on := 2, ground := Go.Ground.phase }, { on := 3, ground := Go.Ground.phase }, { on := 4, ground := Go.Ground.phase }, { on := 5, ground := Go.Ground.phase }, { on := 6, ground := Go.Ground.phase }, { on := 7, ground := Go.Ground.phase }, { on := 8, ground := Go.Ground.phase }, { on := 9, ground := Go.Ground.phase }], guard := none }) (v := ?_) rfl (by kernel_rfl) (by kernel_rfl) (by kernel_rfl) (fun _ _ _ h => h) (Or.inl ⟨by rfl, ?_⟩) (by assumption) ?_
                      rotate_left
                      · intro w hSw; (try dsimp only at hSw); go_simp; (try with_reducible rfl)
                      simp only [Act.put, List.setIfInBounds_toArray, List.set_cons_zero, List.set_cons_succ]
                      refine wpAnyH_done (by kernel_rfl) ?_ _
                      clear hHeld
                      have hx1 : X.heap[G1]? = some (.cells V9 30 (0, 0)) := hk.row (List.mem_cons_self ..)
                      have hB := hk.2.2
                      clear hk hG
                      go_wp2_with (first | ((with_reducible refine wpGet12 G hx _ Try.underlying30 ?_ ?_ ?_ ?_); rfl; rfl; (rw [HV.out]; kernel_rfl)) | ((with_reducible refine wpGet12 G1 hx1 _ Try.underlying30 ?_ ?_ ?_ ?_); rfl; rfl; (rw [HV.out]; kernel_rfl)))
                      refine (HQ.out _).mono ?_
                      rintro e W3 ⟨rfl, hb⟩
                      have hB3 := below_of hB hb hB.size
                      clear hb hB hx hx1
                      go_wp2_with fail
                      go_ret
                      exact ⟨rfl, hB3⟩
              · go_simp
                have hn : (V.alloc (.cells #[.int .i64 0, .int .i64 0, .int .i64 0, .int .i64 0, .int .i64 0, .int .i64 0, .int .i64 0, .int .i64 0, .int .i64 0, .int .i64 0, .int .i64 0, .int .i64 0, .int .i64 0, .int .i64 0] 30)).heap[V.heap.size]? = some (.cells #[.int .i64 0, .int .i64 0, .int .i64 0, .int .i64 0, .int .i64 0, .int .i64 0, .int .i64 0, .int .i64 0, .int .i64 0, .int .i64 0, .int .i64 0, .int .i64 0, .int .i64 0, .int .i64 0] 30 (0, 0)) := alloc_at rfl
                have hG : w.heap.size + k ≤ V.heap.size := KR.le hk
                have hk := hk.al (o := .cells #[.int .i64 0, .int .i64 0, .int .i64 0, .int .i64 0, .int .i64 0, .int .i64 0, .int .i64 0, .int .i64 0, .int .i64 0, .int .i64 0, .int .i64 0, .int .i64 0, .int .i64 0, .int .i64 0] 30)
                refine hK.out _ _ ?_ (fun hHeld => ?_)
                · (try dsimp only)
                  with_reducible refine SM2 ?_; (repeat (first | with_reducible assumption | with_reducible refine KR.al ?_ | with_reducible refine KR.drew ?_ | with_reducible refine KR.set ?_ (by first | omega | (simp; omega))))
                clear hK K
                (try simp only [Act.put, List.setIfInBounds_toArray, List.set_cons_zero, List.set_cons_succ])
                generalize V.heap.size = G at hn hG ⊢
                generalize (World.alloc _ _ : World) = V at hk hHeld hn ⊢
                refine wpAnyH_ready (rs := [3]) (by kernel_rfl) (by simp) ?_
                refine (AllReadyH.cons (o := { dst := some 21, op := Go.Op.call { callee := Go.Callee.value (Go.Operand.func 22), args := #[Go.Operand.tmp 20], argTypes := #[24] }, type := 28, pos := "exact.go:1595", after := #[{ on := 2, ground := Go.Ground.data }, { on := 1, ground := Go.Ground.chain }], guard := none }) rfl (fun K hK => ?_) AllReadyH.nil)
                · go_simp
                  refine (to_sheet _ _ _ _ _ _ _).mono ?_
                  rintro e w' ⟨rfl, hb'⟩
                  have hk := hk.far hb' rfl
                  have hn := rowk hn hb' rfl
                  clear hb'
                  refine hK.out _ _ ?_ (fun hHeld => ?_)
                  · (try dsimp only)
                    with_reducible refine SM2 ?_; (repeat (first | with_reducible assumption | with_reducible refine KR.al ?_ | with_reducible refine KR.drew ?_ | with_reducible refine KR.set ?_ (by first | omega | (simp; omega))))
                  clear hK K
                  (try simp only [Act.put, List.setIfInBounds_toArray, List.set_cons_zero, List.set_cons_succ])
                  generalize w' = V at hk hHeld hn ⊢
                  refine wpAnyH_ready (rs := [4]) (by kernel_rfl) (by simp) ?_
                  refine (AllReadyH.cons (o := { dst := some 22, op := Go.Op.call { callee := Go.Callee.value (Go.Operand.func 23), args := #[Go.Operand.tmp 19, Go.Operand.tmp 21], argTypes := #[28, 28] }, type := 33, pos := "exact.go:1595", after := #[{ on := 1, ground := Go.Ground.data }, { on := 3, ground := Go.Ground.data }, { on := 3, ground := Go.Ground.chain }], guard := none }) rfl (fun K hK => ?_) AllReadyH.nil)
                  · go_simp
                    refine (HI.out _).mono ?_
                    rintro e w' ⟨rfl, hb'⟩
                    have hk := hk.far hb' rfl
                    have hn := rowk hn hb' rfl
                    clear hb'
                    refine hK.out _ _ ?_ (fun hHeld => ?_)
                    · (try dsimp only)
                      with_reducible refine SM2 ?_; (repeat (first | with_reducible assumption | with_reducible refine KR.al ?_ | with_reducible refine KR.drew ?_ | with_reducible refine KR.set ?_ (by first | omega | (simp; omega))))
                    clear hK K
                    (try simp only [Act.put, List.setIfInBounds_toArray, List.set_cons_zero, List.set_cons_succ])
                    generalize w' = V at hk hHeld hn ⊢
                    refine wpAnyH_take (i := 5) (oi := { dst := some 17, op := Go.Op.move (Go.Operand.tmp 22), type := 33, pos := "exact.go:1595", after := #[{ on := 4, ground := Go.Ground.data }], guard := none }) (v := ?_) rfl (by kernel_rfl) (by kernel_rfl) (by kernel_rfl) (fun _ _ _ h => h) (Or.inl ⟨by rfl, ?_⟩) (by assumption) ?_
                    rotate_left
                    · intro w hSw; (try dsimp only at hSw); go_simp; (try with_reducible rfl)
                    simp only [Act.put, List.setIfInBounds_toArray, List.set_cons_zero, List.set_cons_succ]
                    refine wpAnyH_take (i := 6) (oi := { dst := some 23, op := Go.Op.extract (Go.Operand.tmp 17) 0, type := 30, pos := "exact.go:1595", after := #[{ on := 5, ground := Go.Ground.data }], guard := none }) (v := ?_) rfl (by kernel_rfl) (by kernel_rfl) (by kernel_rfl) (fun _ _ _ h => h) (Or.inl ⟨by rfl, ?_⟩) (by assumption) ?_
                    rotate_left
                    · intro w hSw; (try dsimp only at hSw); go_simp; (try with_reducible rfl)
                    simp only [Act.put, List.setIfInBounds_toArray, List.set_cons_zero, List.set_cons_succ]
                    refine wpAnyH_take (i := 7) (oi := { dst := some 24, op := Go.Op.extract (Go.Operand.tmp 17) 1, type := 4, pos := "exact.go:1595", after := #[{ on := 5, ground := Go.Ground.data }, { on := 9, ground := Go.Ground.gcOnly Go.Departure.lateStores }], guard := none }) (v := ?_) rfl (by kernel_rfl) (by kernel_rfl) (by kernel_rfl) (fun _ _ _ h => h) (Or.inl ⟨by rfl, ?_⟩) (by assumption) ?_
                    rotate_left
                    · intro w hSw; (try dsimp only at hSw); go_simp; (try with_reducible rfl)
                    simp only [Act.put, List.setIfInBounds_toArray, List.set_cons_zero, List.set_cons_succ]
                    refine wpAnyH_ready (rs := [9]) (by kernel_rfl) (by simp) ?_
                    refine (AllReadyH.cons (o := { dst := none, op := Go.Op.store 30 (Go.Operand.tmp 7) (Go.Operand.tmp 23), type := 0, pos := "exact.go:1595", after := #[{ on := 8, ground := Go.Ground.data }, { on := 6, ground := Go.Ground.data }, { on := 4, ground := Go.Ground.chain }, { on := 0, ground := Go.Ground.phase }, { on := 1, ground := Go.Ground.phase }, { on := 2, ground := Go.Ground.phase }, { on := 3, ground := Go.Ground.phase }, { on := 4, ground := Go.Ground.phase }, { on := 5, ground := Go.Ground.phase }, { on := 6, ground := Go.Ground.phase }, { on := 7, ground := Go.Ground.textOnly Go.Departure.lateStores }, { on := 8, ground := Go.Ground.phase }], guard := none }) rfl (fun K hK => ?_) AllReadyH.nil)
                    · skip
                      refine wp_store_mid 30 (.tmp 7) (.tmp 23) rfl G 0 V9 rfl rfl (by rw [HV.out]; exact row_there12 hn) (by rw [HV.out]; kernel_rfl) H1.out ?_
                      have hx := row_sets12 (cs' := V9) hn (by rw [HV.out]; rfl)
                      have hk := KR.sets9 V9.toList 0 hk hG
                      clear hn
                      refine hK.out _ _ ?_ (fun hHeld => ?_)
                      · (try dsimp only)
                        with_reducible refine SM2 ?_; (repeat (first | with_reducible assumption | with_reducible refine KR.al ?_ | with_reducible refine KR.drew ?_ | with_reducible refine KR.set ?_ (by first | omega | (simp; omega))))
                      clear hK K
                      (try simp only [Act.put, List.setIfInBounds_toArray, List.set_cons_zero, List.set_cons_succ])
                      generalize (World.setCells _ _ _ _ : World) = X at hk hx hHeld ⊢
                      refine wpAnyH_take (i := 10) (oi := { dst := some 8, op := Go.Op.assign (Go.Operand.tmp 24), type := 4, pos := "exact.go:1595", after := #[{ on := 7, ground := Go.Ground.data }, { on := 9, ground := Go.Ground.chain }, { on := 0, ground := Go.Ground.phase }, { on := 1, ground := Go.Ground.phase }, { on := 2, ground := Go.Ground.phase }, { on := 3, ground := Go.Ground.phase }, { on := 4, ground := Go.Ground.phase }, { on := 5, ground := Go.Ground.phase }, { on := 6, ground := Go.Ground.phase }, { on := 7, ground := Go.Ground.phase }, { on := 8, ground := Go.Ground.phase }, { on := 9, ground := Go.Ground.phase }], guard := none }) (v := ?_) rfl (by kernel_rfl) (by kernel_rfl) (by kernel_rfl) (fun _ _ _ h => h) (Or.inl ⟨by rfl, ?_⟩) (by assumption) ?_
                      rotate_left
                      · intro w hSw; (try dsimp only at hSw); go_simp; (try with_reducible rfl)
                      simp only [Act.put, List.setIfInBounds_toArray, List.set_cons_zero, List.set_cons_succ]
                      refine wpAnyH_done (by kernel_rfl) ?_ _
                      clear hHeld
                      have hx1 : X.heap[G1]? = some (.cells V9 30 (0, 0)) := hk.row (List.mem_cons_self ..)
                      have hB := hk.2.2
                      clear hk hG
                      go_wp2_with (first | ((with_reducible refine wpGet12 G hx _ Try.underlying30 ?_ ?_ ?_ ?_); rfl; rfl; (rw [HV.out]; kernel_rfl)) | ((with_reducible refine wpGet12 G1 hx1 _ Try.underlying30 ?_ ?_ ?_ ?_); rfl; rfl; (rw [HV.out]; kernel_rfl)))
                      refine (HQ.out _).mono ?_
                      rintro e W3 ⟨rfl, hb⟩
                      have hB3 := below_of hB hb hB.size
                      clear hb hB hx hx1
                      go_wp2_with fail
                      go_ret
                      exact ⟨rfl, hB3⟩
            · go_simp
              have hn : (V.alloc (.cells #[.int .i64 0, .int .i64 0, .int .i64 0, .int .i64 0, .int .i64 0, .int .i64 0, .int .i64 0, .int .i64 0, .int .i64 0, .int .i64 0, .int .i64 0, .int .i64 0, .int .i64 0, .int .i64 0] 30)).heap[V.heap.size]? = some (.cells #[.int .i64 0, .int .i64 0, .int .i64 0, .int .i64 0, .int .i64 0, .int .i64 0, .int .i64 0, .int .i64 0, .int .i64 0, .int .i64 0, .int .i64 0, .int .i64 0, .int .i64 0, .int .i64 0] 30 (0, 0)) := alloc_at rfl
              have hG : w.heap.size + k ≤ V.heap.size := KR.le hk
              have hk := hk.al (o := .cells #[.int .i64 0, .int .i64 0, .int .i64 0, .int .i64 0, .int .i64 0, .int .i64 0, .int .i64 0, .int .i64 0, .int .i64 0, .int .i64 0, .int .i64 0, .int .i64 0, .int .i64 0, .int .i64 0] 30)
              refine hK.out _ _ ?_ (fun hHeld => ?_)
              · (try dsimp only)
                with_reducible refine SM2 ?_; (repeat (first | with_reducible assumption | with_reducible refine KR.al ?_ | with_reducible refine KR.drew ?_ | with_reducible refine KR.set ?_ (by first | omega | (simp; omega))))
              clear hK K
              (try simp only [Act.put, List.setIfInBounds_toArray, List.set_cons_zero, List.set_cons_succ])
              generalize V.heap.size = G at hn hG ⊢
              generalize (World.alloc _ _ : World) = V at hk hHeld hn ⊢
              refine wpAnyH_ready (rs := [1]) (by kernel_rfl) (by simp) ?_
              refine (AllReadyH.cons (o := { dst := some 19, op := Go.Op.call { callee := Go.Callee.value (Go.Operand.func 22), args := #[Go.Operand.tmp 18], argTypes := #[24] }, type := 28, pos := "exact.go:1595", after := #[{ on := 0, ground := Go.Ground.data }], guard := none }) rfl (fun K hK => ?_) AllReadyH.nil)
              · go_simp
                refine (to_sheet _ _ _ _ _ _ _).mono ?_
                rintro e w' ⟨rfl, hb'⟩
                have hk := hk.far hb' rfl
                have hn := rowk hn hb' rfl
                clear hb'
                refine hK.out _ _ ?_ (fun hHeld => ?_)
                · (try dsimp only)
                  with_reducible refine SM2 ?_; (repeat (first | with_reducible assumption | with_reducible refine KR.al ?_ | with_reducible refine KR.drew ?_ | with_reducible refine KR.set ?_ (by first | omega | (simp; omega))))
                clear hK K
                (try simp only [Act.put, List.setIfInBounds_toArray, List.set_cons_zero, List.set_cons_succ])
                generalize w' = V at hk hHeld hn ⊢
                refine wpAnyH_ready (rs := [3]) (by kernel_rfl) (by simp) ?_
                refine (AllReadyH.cons (o := { dst := some 21, op := Go.Op.call { callee := Go.Callee.value (Go.Operand.func 22), args := #[Go.Operand.tmp 20], argTypes := #[24] }, type := 28, pos := "exact.go:1595", after := #[{ on := 2, ground := Go.Ground.data }, { on := 1, ground := Go.Ground.chain }], guard := none }) rfl (fun K hK => ?_) AllReadyH.nil)
                · go_simp
                  refine (to_sheet _ _ _ _ _ _ _).mono ?_
                  rintro e w' ⟨rfl, hb'⟩
                  have hk := hk.far hb' rfl
                  have hn := rowk hn hb' rfl
                  clear hb'
                  refine hK.out _ _ ?_ (fun hHeld => ?_)
                  · (try dsimp only)
                    with_reducible refine SM2 ?_; (repeat (first | with_reducible assumption | with_reducible refine KR.al ?_ | with_reducible refine KR.drew ?_ | with_reducible refine KR.set ?_ (by first | omega | (simp; omega))))
                  clear hK K
                  (try simp only [Act.put, List.setIfInBounds_toArray, List.set_cons_zero, List.set_cons_succ])
                  generalize w' = V at hk hHeld hn ⊢
                  refine wpAnyH_ready (rs := [4]) (by kernel_rfl) (by simp) ?_
                  refine (AllReadyH.cons (o := { dst := some 22, op := Go.Op.call { callee := Go.Callee.value (Go.Operand.func 23), args := #[Go.Operand.tmp 19, Go.Operand.tmp 21], argTypes := #[28, 28] }, type := 33, pos := "exact.go:1595", after := #[{ on := 1, ground := Go.Ground.data }, { on := 3, ground := Go.Ground.data }, { on := 3, ground := Go.Ground.chain }], guard := none }) rfl (fun K hK => ?_) AllReadyH.nil)
                  · go_simp
                    refine (HI.out _).mono ?_
                    rintro e w' ⟨rfl, hb'⟩
                    have hk := hk.far hb' rfl
                    have hn := rowk hn hb' rfl
                    clear hb'
                    refine hK.out _ _ ?_ (fun hHeld => ?_)
                    · (try dsimp only)
                      with_reducible refine SM2 ?_; (repeat (first | with_reducible assumption | with_reducible refine KR.al ?_ | with_reducible refine KR.drew ?_ | with_reducible refine KR.set ?_ (by first | omega | (simp; omega))))
                    clear hK K
                    (try simp only [Act.put, List.setIfInBounds_toArray, List.set_cons_zero, List.set_cons_succ])
                    generalize w' = V at hk hHeld hn ⊢
                    refine wpAnyH_take (i := 5) (oi := { dst := some 17, op := Go.Op.move (Go.Operand.tmp 22), type := 33, pos := "exact.go:1595", after := #[{ on := 4, ground := Go.Ground.data }], guard := none }) (v := ?_) rfl (by kernel_rfl) (by kernel_rfl) (by kernel_rfl) (fun _ _ _ h => h) (Or.inl ⟨by rfl, ?_⟩) (by assumption) ?_
                    rotate_left
                    · intro w hSw; (try dsimp only at hSw); go_simp; (try with_reducible rfl)
                    simp only [Act.put, List.setIfInBounds_toArray, List.set_cons_zero, List.set_cons_succ]
                    refine wpAnyH_take (i := 6) (oi := { dst := some 23, op := Go.Op.extract (Go.Operand.tmp 17) 0, type := 30, pos := "exact.go:1595", after := #[{ on := 5, ground := Go.Ground.data }], guard := none }) (v := ?_) rfl (by kernel_rfl) (by kernel_rfl) (by kernel_rfl) (fun _ _ _ h => h) (Or.inl ⟨by rfl, ?_⟩) (by assumption) ?_
                    rotate_left
                    · intro w hSw; (try dsimp only at hSw); go_simp; (try with_reducible rfl)
                    simp only [Act.put, List.setIfInBounds_toArray, List.set_cons_zero, List.set_cons_succ]
                    refine wpAnyH_take (i := 7) (oi := { dst := some 24, op := Go.Op.extract (Go.Operand.tmp 17) 1, type := 4, pos := "exact.go:1595", after := #[{ on := 5, ground := Go.Ground.data }, { on := 9, ground := Go.Ground.gcOnly Go.Departure.lateStores }], guard := none }) (v := ?_) rfl (by kernel_rfl) (by kernel_rfl) (by kernel_rfl) (fun _ _ _ h => h) (Or.inl ⟨by rfl, ?_⟩) (by assumption) ?_
                    rotate_left
                    · intro w hSw; (try dsimp only at hSw); go_simp; (try with_reducible rfl)
                    simp only [Act.put, List.setIfInBounds_toArray, List.set_cons_zero, List.set_cons_succ]
                    refine wpAnyH_ready (rs := [9]) (by kernel_rfl) (by simp) ?_
                    refine (AllReadyH.cons (o := { dst := none, op := Go.Op.store 30 (Go.Operand.tmp 7) (Go.Operand.tmp 23), type := 0, pos := "exact.go:1595", after := #[{ on := 8, ground := Go.Ground.data }, { on := 6, ground := Go.Ground.data }, { on := 4, ground := Go.Ground.chain }, { on := 0, ground := Go.Ground.phase }, { on := 1, ground := Go.Ground.phase }, { on := 2, ground := Go.Ground.phase }, { on := 3, ground := Go.Ground.phase }, { on := 4, ground := Go.Ground.phase }, { on := 5, ground := Go.Ground.phase }, { on := 6, ground := Go.Ground.phase }, { on := 7, ground := Go.Ground.textOnly Go.Departure.lateStores }, { on := 8, ground := Go.Ground.phase }], guard := none }) rfl (fun K hK => ?_) AllReadyH.nil)
                    · skip
                      refine wp_store_mid 30 (.tmp 7) (.tmp 23) rfl G 0 V9 rfl rfl (by rw [HV.out]; exact row_there12 hn) (by rw [HV.out]; kernel_rfl) H1.out ?_
                      have hx := row_sets12 (cs' := V9) hn (by rw [HV.out]; rfl)
                      have hk := KR.sets9 V9.toList 0 hk hG
                      clear hn
                      refine hK.out _ _ ?_ (fun hHeld => ?_)
                      · (try dsimp only)
                        with_reducible refine SM2 ?_; (repeat (first | with_reducible assumption | with_reducible refine KR.al ?_ | with_reducible refine KR.drew ?_ | with_reducible refine KR.set ?_ (by first | omega | (simp; omega))))
                      clear hK K
                      (try simp only [Act.put, List.setIfInBounds_toArray, List.set_cons_zero, List.set_cons_succ])
                      generalize (World.setCells _ _ _ _ : World) = X at hk hx hHeld ⊢
                      refine wpAnyH_take (i := 10) (oi := { dst := some 8, op := Go.Op.assign (Go.Operand.tmp 24), type := 4, pos := "exact.go:1595", after := #[{ on := 7, ground := Go.Ground.data }, { on := 9, ground := Go.Ground.chain }, { on := 0, ground := Go.Ground.phase }, { on := 1, ground := Go.Ground.phase }, { on := 2, ground := Go.Ground.phase }, { on := 3, ground := Go.Ground.phase }, { on := 4, ground := Go.Ground.phase }, { on := 5, ground := Go.Ground.phase }, { on := 6, ground := Go.Ground.phase }, { on := 7, ground := Go.Ground.phase }, { on := 8, ground := Go.Ground.phase }, { on := 9, ground := Go.Ground.phase }], guard := none }) (v := ?_) rfl (by kernel_rfl) (by kernel_rfl) (by kernel_rfl) (fun _ _ _ h => h) (Or.inl ⟨by rfl, ?_⟩) (by assumption) ?_
                      rotate_left
                      · intro w hSw; (try dsimp only at hSw); go_simp; (try with_reducible rfl)
                      simp only [Act.put, List.setIfInBounds_toArray, List.set_cons_zero, List.set_cons_succ]
                      refine wpAnyH_done (by kernel_rfl) ?_ _
                      clear hHeld
                      have hx1 : X.heap[G1]? = some (.cells V9 30 (0, 0)) := hk.row (List.mem_cons_self ..)
                      have hB := hk.2.2
                      clear hk hG
                      go_wp2_with (first | ((with_reducible refine wpGet12 G hx _ Try.underlying30 ?_ ?_ ?_ ?_); rfl; rfl; (rw [HV.out]; kernel_rfl)) | ((with_reducible refine wpGet12 G1 hx1 _ Try.underlying30 ?_ ?_ ?_ ?_); rfl; rfl; (rw [HV.out]; kernel_rfl)))
                      refine (HQ.out _).mono ?_
                      rintro e W3 ⟨rfl, hb⟩
                      have hB3 := below_of hB hb hB.size
                      clear hb hB hx hx1
                      go_wp2_with fail
                      go_ret
                      exact ⟨rfl, hB3⟩
theorem newshop_core (a0 a1 a2 a3 a4 a5 : Int) (b0 b1 b2 b3 b4 b5 : Int) (w : World) : Calls Try.prog 4 #[.agg #[.int .i64 a0, .int .i64 a1, .int .i64 a2, .int .i64 a3, .int .i64 a4, .int .i64 a5], .agg #[.int .i64 b0, .int .i64 b1, .int .i64 b2, .int .i64 b3, .int .i64 b4, .int .i64 b5]] w fun e w' => e = .returned (.bool true) ∧ Below w.heap.size w w' := by
  obtain ⟨r0, r1, r2, r3, r4, r5, s0, s1, s2, s3, s4, s5, t, h1, h2⟩ := newshop_pair a0 a1 a2 a3 a4 a5 b0 b1 b2 b3 b4 b5
  exact newshop_go a0 a1 a2 a3 a4 a5 b0 b1 b2 b3 b4 b5 _ (Lib.hid rfl) (Lib.hid (by simp [Value.oneCell'])) (Lib.hid (eqshop_same r0 r1 r2 r3 r4 r5 s0 s1 s2 s3 s4 s5 0 0)) t (Lib.hid h1) (Lib.hid h2) w
end Go.Proofs.Ytnkjamdpafpcpaa
