/- PLAIN LEMMAS: what stands midway in a law: rows known, and slices of pairs that the call owns. -/
import Derived.Test.YtkjaaaefcmpokaaRl6
import Derived.Test.YtkjaaaefcmpokaaCo
import Derived.Test.YtkjaaaefcmpokaaSc
import Derived.WalkKit
import Derived.ProofKit
import Derived.OpenShut
import Derived.Lib.Hide
import Derived.WalkSpells
import Derived.Below
import Derived.BigQuiet
import Derived.LoopN
namespace Go.Proofs.Ytkjaaaefcmpokaa
open Go.ChangeShapes Go.WideShapes Go.ChangeAt Go.RowKit
set_option linter.unusedVariables false
/-- A row of pairs that the call owns, in block g. -/
def Ow (g c : Nat) (n : Nat) (xs : List Value) (W : World) : Prop := W.ownsRow 0 47 2 (.slice (some ⟨g, 0, none⟩) n c) n xs
theorem Ow.below {g c n : Nat} {xs : List Value} {W W' : World} {N : Nat} (h : Ow g c n xs W) (hb : Below N W W') (hN : N = W.heap.size) : Ow g c n xs W' := h.kept (grown_below hb hN) (.inr (by simp [Value.ownBlock]))
theorem Ow.grown {g c n g2 : Nat} {xs : List Value} {W W' : World} (h : Ow g c n xs W) (hg : W.grownBy W' (some g2)) (hne : g ≠ g2) : Ow g c n xs W' := h.kept hg (.inr (by simp [Value.ownBlock, hne]))
abbrev OwT : Type := Nat × Nat × Nat × List Value
def Ob (n : Nat) (R : List (Nat × Obj)) (w : World) (ows : List OwT) (U : World) : Prop :=
  KR n R w U ∧ (∀ o ∈ ows, w.heap.size + n ≤ o.1 ∧ Ow o.1 o.2.1 o.2.2.1 o.2.2.2 U) ∧ ows.Pairwise (fun a b => a.1 ≠ b.1)
theorem Ob.below {n : Nat} {R : List (Nat × Obj)} {w U U' : World} {ows : List OwT} {M : Nat} (h : Ob n R w ows U) (hb : Below M U U') (hM : M = U.heap.size) : Ob n R w ows U' := ⟨h.1.far hb hM, fun o ho => ⟨(h.2.1 o ho).1, (h.2.1 o ho).2.below hb hM⟩, h.2.2⟩
theorem Ob.drew {n : Nat} {R : List (Nat × Obj)} {w U : World} {ows : List OwT} (h : Ob n R w ows U) : Ob n R w ows U.drew := h.below (M := U.heap.size) (Below.refl _ _).drew rfl
theorem Ob.al {n : Nat} {R : List (Nat × Obj)} {w U : World} {ows : List OwT} (h : Ob n R w ows U) (o : Obj) : Ob n R w ows (U.alloc o) := h.below (M := U.heap.size) ((Below.refl _ _).alloc (Nat.le_refl _) o) rfl
theorem Ob.call {n : Nat} {R : List (Nat × Obj)} {w U U' : World} {ows : List OwT} {g c m M : Nat} {xs : List Value} (h : Ob n R w ows U) (ho : U'.ownsRow M 47 2 (.slice (some ⟨g, 0, none⟩) m c) m xs) (hb : Below M U U') (hM : M = U.heap.size) : Ob n R w ((g, c, m, xs) :: ows) U' := by
  have hg := (ho.lt g rfl).1
  refine ⟨h.1.far hb hM, ?_, ?_⟩
  · intro o hm
    rcases List.mem_cons.mp hm with rfl | hm
    · exact ⟨by have := h.1.2.1; dsimp only; omega, own_mono ho (Nat.zero_le _)⟩
    · exact ⟨(h.2.1 o hm).1, (h.2.1 o hm).2.below hb hM⟩
  · refine List.pairwise_cons.mpr ⟨fun o hm => ?_, h.2.2⟩
    have := ((h.2.1 o hm).2.lt o.1 rfl).2
    dsimp only
    omega
theorem Ob.mark {n : Nat} {R : List (Nat × Obj)} {w U U' : World} {ows : List OwT} {g c m : Nat} {xs ys : List Value} (h : Ob n R w ((g, c, m, xs) :: ows) U) (ho : Ow g c m ys U') (hg : U.grownBy U' (some g)) : Ob n R w ((g, c, m, ys) :: ows) U' := by
  have hgl := (h.2.1 _ (List.mem_cons_self ..)).1
  have hp := List.pairwise_cons.mp h.2.2
  refine ⟨h.1.grown hg (fun k hk => by cases hk; exact hgl), ?_, List.pairwise_cons.mpr ⟨hp.1, hp.2⟩⟩
  intro o hm
  rcases List.mem_cons.mp hm with rfl | hm
  · exact ⟨hgl, ho⟩
  · exact ⟨(h.2.1 o (List.mem_cons_of_mem _ hm)).1, (h.2.1 o (List.mem_cons_of_mem _ hm)).2.grown hg (fun e => hp.1 o hm e.symm)⟩
theorem Ob.get {n : Nat} {R : List (Nat × Obj)} {w U : World} {ows : List OwT} (h : Ob n R w ows U) {o : OwT} (hm : o ∈ ows) : Ow o.1 o.2.1 o.2.2.1 o.2.2.2 U := (h.2.1 o hm).2
theorem Ob.hd {n : Nat} {R : List (Nat × Obj)} {w U : World} {ows : List OwT} {g c m : Nat} {xs : List Value} (h : Ob n R w ((g, c, m, xs) :: ows) U) : Ow g c m xs U := (h.2.1 _ (List.mem_cons_self ..)).2
theorem Ob.hd2 {n : Nat} {R : List (Nat × Obj)} {w U : World} {ows : List OwT} {o : OwT} {g c m : Nat} {xs : List Value} (h : Ob n R w (o :: (g, c, m, xs) :: ows) U) : Ow g c m xs U := (h.2.1 _ (List.mem_cons_of_mem _ (List.mem_cons_self ..))).2
theorem Ob.hd3 {n : Nat} {R : List (Nat × Obj)} {w U : World} {ows : List OwT} {o o2 : OwT} {g c m : Nat} {xs : List Value} (h : Ob n R w (o :: o2 :: (g, c, m, xs) :: ows) U) : Ow g c m xs U := (h.2.1 _ (List.mem_cons_of_mem _ (List.mem_cons_of_mem _ (List.mem_cons_self ..)))).2
theorem Ob.below0 {n : Nat} {R : List (Nat × Obj)} {w U : World} {ows : List OwT} (h : Ob n R w ows U) : Below w.heap.size w U := h.1.2.2
/-- The law's boxes of a sheet. -/
def ol (a0 a1 a2 a3 a4 a5 : Int) : Obj := .cells #[.int .i64 a0, .int .i64 a1, .int .i64 a2, .int .i64 a3, .int .i64 a4, .int .i64 a5] 24 (0, 0)
theorem SKb {w U : World} (a0 a1 a2 a3 a4 a5 : Int) (b0 b1 b2 b3 b4 b5 : Int) {ows : List OwT} (h : Ob 2 [(w.heap.size, ol a0 a1 a2 a3 a4 a5), (w.heap.size + 1, ol b0 b1 b2 b3 b4 b5)] w ows U) : U.cell? ⟨w.heap.size, 0, none⟩ = some (.int .i64 a0) ∧ U.cell? ⟨w.heap.size, 1, none⟩ = some (.int .i64 a1) ∧ U.cell? ⟨w.heap.size, 2, none⟩ = some (.int .i64 a2) ∧ U.cell? ⟨w.heap.size, 3, none⟩ = some (.int .i64 a3) ∧ U.cell? ⟨w.heap.size, 4, none⟩ = some (.int .i64 a4) ∧ U.cell? ⟨w.heap.size, 5, none⟩ = some (.int .i64 a5) ∧ U.cell? ⟨w.heap.size + 1, 0, none⟩ = some (.int .i64 b0) ∧ U.cell? ⟨w.heap.size + 1, 1, none⟩ = some (.int .i64 b1) ∧ U.cell? ⟨w.heap.size + 1, 2, none⟩ = some (.int .i64 b2) ∧ U.cell? ⟨w.heap.size + 1, 3, none⟩ = some (.int .i64 b3) ∧ U.cell? ⟨w.heap.size + 1, 4, none⟩ = some (.int .i64 b4) ∧ U.cell? ⟨w.heap.size + 1, 5, none⟩ = some (.int .i64 b5) ∧ Ob 2 [(w.heap.size, ol a0 a1 a2 a3 a4 a5), (w.heap.size + 1, ol b0 b1 b2 b3 b4 b5)] w ows U :=
  have h0 := fun j => cell_of_row U _ j _ _ _ (h.1.row (g := w.heap.size) (o := ol a0 a1 a2 a3 a4 a5) (List.mem_cons_self ..))
  have h1 := fun j => cell_of_row U _ j _ _ _ (h.1.row (g := w.heap.size + 1) (o := ol b0 b1 b2 b3 b4 b5) (List.mem_cons_of_mem _ (List.mem_cons_self ..)))
  ⟨h0 0, h0 1, h0 2, h0 3, h0 4, h0 5, h1 0, h1 1, h1 2, h1 3, h1 4, h1 5, h⟩
end Go.Proofs.Ytkjaaaefcmpokaa
