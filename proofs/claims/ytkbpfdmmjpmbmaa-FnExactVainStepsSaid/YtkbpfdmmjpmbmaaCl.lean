/- CONTRACTS: all black cells of a sheet, in the model and in the code. -/
import Derived.Test.YtkbpfdmmjpmbmaaTd
import Derived.Test.YtkbpfdmmjpmbmaaPb
import Derived.Maps.AppendAt
import Derived.OwnWalk
import Derived.WalkKit
import Derived.ProofKit
import Derived.OpenShut
import Derived.Lib.Hide
import Derived.WalkSpells
import Derived.Below
import Derived.BigQuiet
import Derived.LoopN
namespace Go.Proofs.Ytkbpfdmmjpmbmaa
open Go.ChangeShapes Go.WideShapes Go.ChangeAt Go.RowKit
set_option linter.unusedVariables false
/-- The black ones of the first p cells of f, in order: column and row. -/
def bl (f : Nat → Nat → Bool) : Nat → List (Nat × Nat)
  | 0 => []
  | p + 1 => bl f p ++ (if f (p / 6) (p % 6) then [(p % 6, p / 6)] else [])
def cv (l : List (Nat × Nat)) : List Value := l.flatMap fun c => [.int .i64 (c.1 : Int), .int .i64 (c.2 : Int)]
theorem bl_len (f : Nat → Nat → Bool) : ∀ p, (bl f p).length ≤ p
  | 0 => Nat.le_refl _
  | p + 1 => by
    have := bl_len f p
    rw [bl, List.length_append]
    split <;> simp <;> omega
theorem bl_no (f : Nat → Nat → Bool) {y x : Nat} (hx : x < 6) (h : f y x = false) : bl f (6 * y + x + 1) = bl f (6 * y + x) := by
  rw [bl, show (6 * y + x) / 6 = y by omega, show (6 * y + x) % 6 = x by omega, h]
  simp
theorem bl_yes (f : Nat → Nat → Bool) {y x : Nat} (hx : x < 6) (h : f y x = true) : bl f (6 * y + x + 1) = bl f (6 * y + x) ++ [(x, y)] := by
  rw [bl, show (6 * y + x) / 6 = y by omega, show (6 * y + x) % 6 = x by omega, h]
  simp
theorem cv_len (l : List (Nat × Nat)) : (cv l).length = l.length * 2 := by
  induction l with
  | nil => rfl
  | cons a l ih =>
    have e : cv (a :: l) = [.int .i64 (a.1 : Int), .int .i64 (a.2 : Int)] ++ cv l := rfl
    rw [e, List.length_append, ih]
    simp; omega
theorem cv_snoc (l : List (Nat × Nat)) (x y : Nat) : cv (l ++ [(x, y)]) = cv l ++ [.int .i64 (x : Int), .int .i64 (y : Int)] := by simp [cv]
theorem info44 : (Try.prog.info? 44).map (fun i => (i.zero, i.size, i.bytes)) = some (some (.agg #[.int .i64 0, .int .i64 0]), 2, 16) := by kernel_rfl
/-- Midway: the slice of the black ones of the first p cells, and the sheet f in the first block. -/
def Rc (w : World) (f : Nat → Nat → Bool) (p : Nat) (v : Value) (W : World) : Prop :=
  ∃ g cap, v = .slice (some ⟨g, 0, none⟩) (bl f p).length cap ∧ W.ownsRow (w.heap.size + 1) 44 2 v (bl f p).length (cv (bl f p)) ∧ W.heap[w.heap.size]? = some (.cells #[.int .i64 (rowv (f 0)), .int .i64 (rowv (f 1)), .int .i64 (rowv (f 2)), .int .i64 (rowv (f 3)), .int .i64 (rowv (f 4)), .int .i64 (rowv (f 5))] 31 (0, 0)) ∧ Below w.heap.size w W ∧ w.heap.size + 1 ≤ W.heap.size
theorem grown_below {N : Nat} {W W' : World} (hb : Below N W W') (hN : N = W.heap.size) : W.grownBy W' none := ⟨hb.os, hb.tape, hb.output, hb.size, fun k hk _ => hb.block k (by omega)⟩
theorem Rc.below {w W W' : World} {f : Nat → Nat → Bool} {p : Nat} {v : Value} {N : Nat} (h : Rc w f p v W) (hb : Below N W W') (hN : N = W.heap.size) : Rc w f p v W' := by
  obtain ⟨g, cap, h1, h2, h3, h4, h5⟩ := h
  refine ⟨g, cap, h1, h2.kept (grown_below hb hN) (.inr (by rw [h1]; simp [Value.ownBlock])), rowk h3 hb hN, below_of h4 hb (by omega), ?_⟩
  exact Nat.le_trans h5 hb.size
theorem Rc.alloc {w W : World} {f : Nat → Nat → Bool} {p : Nat} {v : Value} (h : Rc w f p v W) (o : Obj) : Rc w f p v (W.alloc o) := h.below (N := W.heap.size) ((Below.refl _ _).alloc (Nat.le_refl _) o) rfl
theorem Rc.no {w W : World} {f : Nat → Nat → Bool} {y x : Nat} {v : Value} (h : Rc w f (6 * y + x) v W) (hx : x < 6) (hf : f y x = false) : Rc w f (6 * y + x + 1) v W := by
  unfold Rc at h ⊢
  rw [bl_no f hx hf]
  exact h
theorem Rc.yes {w W w1 : World} {f : Nat → Nat → Bool} {y x : Nat} {v v' : Value} (h : Rc w f (6 * y + x) v W) (hx : x < 6) (hf : f y x = true) (hown : w1.ownsRow (w.heap.size + 1) 44 2 v' ((bl f (6 * y + x)).length + 1) (cv (bl f (6 * y + x)) ++ [.int .i64 (x : Int), .int .i64 (y : Int)])) (hg : W.grownBy w1 v.ownBlock) (hn : v' = .slice none 0 0 ↔ v = .slice none 0 0 ∧ 1 = 0) : Rc w f (6 * y + x + 1) v' w1 := by
  obtain ⟨g, cap, h1, h2, h3, h4, h5⟩ := h
  rcases hown.2 with ⟨e, _⟩ | ⟨g2, cap2, cur, e, hr⟩
  · exact absurd (hn.mp e).2 (by decide)
  · unfold Rc
    have el : (bl f (6 * y + x + 1)).length = (bl f (6 * y + x)).length + 1 := by rw [bl_yes f hx hf]; simp
    have ec : cv (bl f (6 * y + x + 1)) = cv (bl f (6 * y + x)) ++ [.int .i64 (x : Int), .int .i64 (y : Int)] := by rw [bl_yes f hx hf, cv_snoc]
    rw [el, ec]
    have hlt := h2.lt
    have hb : Below w.heap.size w w1 := h4.grown hg (by omega) (fun k hk => by have := (hlt k hk).1; omega)
    refine ⟨g2, cap2, e, hown, ?_, hb, Nat.le_trans h5 hg.size⟩
    rw [hg.block _ (by omega) (fun e2 => by have := (hlt _ e2.symm).1; omega)]
    exact h3
theorem two_new (W : World) (u0 u1 : Value) (t : TypeId) (j : Nat) (u : Value) (h : ([u0, u1] : List Value)[j]? = some u) : (W.alloc (.cells #[u0, u1] t)).cell? ((⟨W.heap.size, 0, none⟩ : Addr).add j) = some u := by
  rcases j with _ | _ | j
  · simp only [List.getElem?_cons_zero, Option.some.injEq] at h; subst h; go_simp
  · simp at h; subst h; go_simp
  · simp at h
theorem ints_one (a b : Int) : ∀ u ∈ ([.int .i64 a, .int .i64 b] : List Value), u.oneCell' = true := by intro u hu; simp at hu; rcases hu with rfl | rfl <;> rfl
theorem Rc.start (w : World) (f : Nat → Nat → Bool) : Rc w f 0 (.slice (some ⟨w.heap.size + 1, 0, none⟩) 0 0) ((w.alloc (.cells #[.int .i64 (rowv (f 0)), .int .i64 (rowv (f 1)), .int .i64 (rowv (f 2)), .int .i64 (rowv (f 3)), .int .i64 (rowv (f 4)), .int .i64 (rowv (f 5))] 31)).alloc (.cells #[] 44)) := by
  refine ⟨w.heap.size + 1, 0, rfl, ?_, alloc_past (alloc_at rfl), by (repeat (first | exact Below.refl _ _ | assumption | refine Below.setCell ?_ (by first | (simp; done) | (simp; omega)) _ | refine Below.alloc ?_ (by first | (simp; done) | (simp; omega)) _ | refine Below.drew ?_)), by simp⟩
  have h := World.ownsRow_lit (base := w.heap.size + 1) (e := 44) (size := 2) (w.alloc (.cells #[.int .i64 (rowv (f 0)), .int .i64 (rowv (f 1)), .int .i64 (rowv (f 2)), .int .i64 (rowv (f 3)), .int .i64 (rowv (f 4)), .int .i64 (rowv (f 5))] 31)) #[] 0 (by simp) (by unfold maxLen; omega) rfl
  rw [show (w.alloc (.cells #[.int .i64 (rowv (f 0)), .int .i64 (rowv (f 1)), .int .i64 (rowv (f 2)), .int .i64 (rowv (f 3)), .int .i64 (rowv (f 4)), .int .i64 (rowv (f 5))] 31)).heap.size = w.heap.size + 1 by simp] at h
  exact h
theorem Rc.post {w W : World} {f : Nat → Nat → Bool} {v : Value} (h : Rc w f 36 v W) : ∃ g cap, v = .slice (some ⟨g, 0, none⟩) (bl f 36).length cap ∧ W.ownsRow w.heap.size 44 2 (.slice (some ⟨g, 0, none⟩) (bl f 36).length cap) (bl f 36).length (cv (bl f 36)) ∧ Below w.heap.size w W := by
  obtain ⟨g, cap, h1, h2, h3, h4, h5⟩ := h
  subst h1
  refine ⟨g, cap, rfl, ⟨h2.1, ?_⟩, h4⟩
  rcases h2.2 with ⟨e, _⟩ | ⟨g2, cap2, cur, e, hb, hr⟩
  · exact absurd e (by simp)
  · exact .inr ⟨g2, cap2, cur, e, by omega, hr⟩
def CsPost (f : Nat → Nat → Bool) (w : World) (e : Ending) (w' : World) : Prop := ∃ g cap, e = .returned (.slice (some ⟨g, 0, none⟩) (bl f 36).length cap) ∧ w'.ownsRow w.heap.size 44 2 (.slice (some ⟨g, 0, none⟩) (bl f 36).length cap) (bl f 36).length (cv (bl f 36)) ∧ Below w.heap.size w w'
end Go.Proofs.Ytkbpfdmmjpmbmaa
