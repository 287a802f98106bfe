/- PLAIN LEMMAS: midway in a walk that collects pairs: rows known, and a slice of pairs of its own beside them. -/
import Derived.Test.YtkjaaaefcmpokaaSh5
import Derived.Test.YtkjaaaefcmpokaaPa4
import Derived.Test.YtkjaaaefcmpokaaCm
import Derived.Test.YtkjaaaefcmpokaaSw5
import Derived.WalkKit
import Derived.ProofKit
import Derived.OpenShut
import Derived.Lib.Hide
import Derived.WalkSpells
import Derived.Below
import Derived.BigQuiet
import Derived.LoopN
namespace Go.Proofs.Ytkjaaaefcmpokaa
open Go.ChangeShapes Go.WideShapes Go.ChangeAt Go.RowKit
set_option linter.unusedVariables false
def oc (x y : Nat) : Obj := .cells #[.int .i64 (x : Int), .int .i64 (y : Int)] 47 (0, 0)
def Rl (n : Nat) (L : List (Nat × Obj)) (w : World) (xs : List (Nat × Nat)) (v : Value) (W : World) : Prop :=
  KR n L w W ∧ ∃ g cap, v = .slice (some ⟨g, 0, none⟩) xs.length cap ∧ W.ownsRow (w.heap.size + n) 47 2 v xs.length (cv xs)
theorem Rl.below {n : Nat} {L : List (Nat × Obj)} {w W W' : World} {xs : List (Nat × Nat)} {v : Value} {M : Nat} (h : Rl n L w xs v W) (hb : Below M W W') (hM : M = W.heap.size) : Rl n L w xs v W' := by
  obtain ⟨h1, g, cap, h2, h3⟩ := h
  exact ⟨h1.far hb hM, g, cap, h2, h3.kept (grown_below hb hM) (.inr (by rw [h2]; simp [Value.ownBlock]))⟩
theorem Rl.alloc {n : Nat} {L : List (Nat × Obj)} {w W : World} {xs : List (Nat × Nat)} {v : Value} (h : Rl n L w xs v W) (o : Obj) : Rl n L w xs v (W.alloc o) := h.below (M := W.heap.size) ((Below.refl _ _).alloc (Nat.le_refl _) o) rfl
theorem Rl.drew {n : Nat} {L : List (Nat × Obj)} {w W : World} {xs : List (Nat × Nat)} {v : Value} (h : Rl n L w xs v W) : Rl n L w xs v W.drew := h.below (M := W.heap.size) (Below.refl _ _).drew rfl
theorem KR.grown {n : Nat} {L : List (Nat × Obj)} {w W w1 : World} {o : Option Nat} (h : KR n L w W) (hg : W.grownBy w1 o) (ho : ∀ k, o = some k → w.heap.size + n ≤ k) : KR n L w w1 := by
  refine ⟨fun p hp => ⟨(h.1 p hp).1, ?_⟩, Nat.le_trans h.2.1 hg.size, h.2.2.grown hg (by have := h.2.1; omega) (fun k hk => by have := ho k hk; omega)⟩
  have h1 := (h.1 p hp).1
  have h2 := h.2.1
  rw [hg.block _ (by omega) (fun e2 => by have := ho _ e2.symm; omega)]
  exact (h.1 p hp).2
theorem Rl.snoc {n : Nat} {L : List (Nat × Obj)} {w W w1 : World} {xs : List (Nat × Nat)} {x y : Nat} {v v' : Value} (h : Rl n L w xs v W) (hown : w1.ownsRow (w.heap.size + n) 47 2 v' (xs.length + 1) (cv xs ++ [.int .i64 (x : Int), .int .i64 (y : Int)])) (hg : W.grownBy w1 v.ownBlock) (hn : v' = .slice none 0 0 ↔ v = .slice none 0 0 ∧ 1 = 0) : Rl n L w (xs ++ [(x, y)]) v' w1 := by
  obtain ⟨h1, g, cap, h2, h3⟩ := h
  have hlt := h3.lt
  rcases hown.2 with ⟨e, _⟩ | ⟨g2, cap2, cur, e, hr⟩
  · exact absurd (hn.mp e).2 (by decide)
  · refine ⟨h1.grown hg (fun k hk => (hlt k hk).1), g2, cap2, ?_, ?_⟩
    · rw [e]; simp
    · rw [cv_snoc, List.length_append]
      exact hown
theorem Rl.start {n : Nat} {L : List (Nat × Obj)} {w W : World} (h : KR n L w W) : Rl n L w [] (.slice (some ⟨W.heap.size, 0, none⟩) 0 0) (W.alloc (.cells #[] 47)) :=
  ⟨h.al, W.heap.size, 0, rfl, World.ownsRow_lit (base := w.heap.size + n) (e := 47) (size := 2) W #[] 0 h.2.1 (by unfold maxLen; omega) rfl⟩
theorem Rl.post {n : Nat} {L : List (Nat × Obj)} {w W : World} {xs : List (Nat × Nat)} {v : Value} (h : Rl n L w xs v W) : ∃ g cap, v = .slice (some ⟨g, 0, none⟩) xs.length cap ∧ W.ownsRow w.heap.size 47 2 (.slice (some ⟨g, 0, none⟩) xs.length cap) xs.length (cv xs) ∧ Below w.heap.size w W := by
  obtain ⟨h1, g, cap, rfl, h3⟩ := h
  exact ⟨g, cap, rfl, own_mono h3 (by omega), h1.2.2⟩
/-- An answer: a slice of pairs of its own. -/
def LP (xs : List (Nat × Nat)) (w : World) (e : Ending) (w' : World) : Prop := ∃ g cap, e = .returned (.slice (some ⟨g, 0, none⟩) xs.length cap) ∧ w'.ownsRow w.heap.size 47 2 (.slice (some ⟨g, 0, none⟩) xs.length cap) xs.length (cv xs) ∧ Below w.heap.size w w'
/-- An answer: a slice of pairs of its own, and a flag. -/
def LPb (xs : List (Nat × Nat)) (t : Bool) (w : World) (e : Ending) (w' : World) : Prop := ∃ g cap, e = .returned (.tuple #[.slice (some ⟨g, 0, none⟩) xs.length cap, .bool t]) ∧ w'.ownsRow w.heap.size 47 2 (.slice (some ⟨g, 0, none⟩) xs.length cap) xs.length (cv xs) ∧ Below w.heap.size w w'
theorem LP.out {xs : List (Nat × Nat)} {w w' : World} {e : Ending} (h : LP xs w e w') : ∃ g cap, e = .returned (.slice (some ⟨g, 0, none⟩) xs.length cap) ∧ w'.ownsRow w.heap.size 47 2 (.slice (some ⟨g, 0, none⟩) xs.length cap) xs.length (cv xs) ∧ Below w.heap.size w w' := h
theorem LPb.out {xs : List (Nat × Nat)} {t : Bool} {w w' : World} {e : Ending} (h : LPb xs t w e w') : ∃ g cap, e = .returned (.tuple #[.slice (some ⟨g, 0, none⟩) xs.length cap, .bool t]) ∧ w'.ownsRow w.heap.size 47 2 (.slice (some ⟨g, 0, none⟩) xs.length cap) xs.length (cv xs) ∧ Below w.heap.size w w' := h
theorem bl_k {f : Nat → Nat → Bool} {k : Nat} : bl f (k + 1) = bl f k ++ (if f (k / 6) (k % 6) then [(k % 6, k / 6)] else []) := rfl
theorem bl_k0 {f : Nat → Nat → Bool} {k : Nat} (h : f (k / 6) (k % 6) = false) : bl f (k + 1) = bl f k := by rw [bl_k, h]; simp
theorem bl_k1 {f : Nat → Nat → Bool} {k : Nat} (h : f (k / 6) (k % 6) = true) : bl f (k + 1) = bl f k ++ [(k % 6, k / 6)] := by rw [bl_k, h]; simp
end Go.Proofs.Ytkjaaaefcmpokaa
