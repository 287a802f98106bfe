/- PLAIN LEMMAS: what is black in just one of two sheets, and prints, as maps of cells. -/
import Derived.Test.YtnkjamdpafpcpaaSv
import Derived.Test.YtnkjamdpafpcpaaCl
import Derived.WalkKit
import Derived.ProofKit
import Derived.OpenShut
import Derived.Lib.Hide
import Derived.WalkSpells
import Derived.Below
import Derived.BigQuiet
import Derived.LoopN
namespace Go.Proofs.Ytnkjamdpafpcpaa
open Go.ChangeShapes Go.WideShapes Go.ChangeAt Go.RowKit
set_option linter.unusedVariables false
def xf (f g : Nat → Nat → Bool) : Nat → Nat → Bool := fun j i => Bool.xor (f j i) (g j i)
theorem r6_xx : ∀ (b0 b1 b2 b3 b4 b5 c0 c1 c2 c3 c4 c5 : Bool), bits .xor .i64 (r6 b0 b1 b2 b3 b4 b5) (r6 c0 c1 c2 c3 c4 c5) = r6 (Bool.xor b0 c0) (Bool.xor b1 c1) (Bool.xor b2 c2) (Bool.xor b3 c3) (Bool.xor b4 c4) (Bool.xor b5 c5) := by decide +kernel
theorem rowv_xx (g h : Nat → Bool) : bits .xor .i64 (rowv g) (rowv h) = rowv (fun i => Bool.xor (g i) (h i)) := r6_xx _ _ _ _ _ _ _ _ _ _ _ _
theorem row_xf (f g : Nat → Nat → Bool) (r : Nat) : bits .xor .i64 (rowv (f r)) (rowv (g r)) = rowv (xf f g r) := rowv_xx _ _
/-- The print by the presses of a list, behind what was there. -/
def pfo (s : Nat → Nat → Bool) (l : List (Nat × Nat)) (o : Nat → Nat → Bool) : Nat → Nat → Bool := l.foldl (fun o c => xf o (sf c.1 c.2 s)) o
def zf : Nat → Nat → Bool := fun _ _ => false
def pf (s p : Nat → Nat → Bool) : Nat → Nat → Bool := pfo s (bl p 36) zf
theorem pfo_succ (s : Nat → Nat → Bool) (l : List (Nat × Nat)) (o : Nat → Nat → Bool) {i : Nat} (h : i < l.length) : pfo s (l.take (i + 1)) o = xf (pfo s (l.take i) o) (sf (l[i]).1 (l[i]).2 s) := by
  unfold pfo
  rw [List.take_add_one, List.getElem?_eq_getElem h, List.foldl_append]
  rfl
theorem bl_lt (f : Nat → Nat → Bool) : ∀ p, p ≤ 36 → ∀ c ∈ bl f p, c.1 < 6 ∧ c.2 < 6 := by
  intro p
  induction p with
  | zero => intro _ c hc; simp [bl] at hc
  | succ p ih =>
    intro hp c hc
    have e : bl f (p + 1) = bl f p ++ (if f (p / 6) (p % 6) then [(p % 6, p / 6)] else []) := rfl
    rw [e] at hc
    rcases List.mem_append.mp hc with h | h
    · exact ih (by omega) c h
    · split at h
      · obtain rfl := List.mem_singleton.mp h
        exact ⟨Nat.mod_lt _ (by decide), by show p / 6 < 6; omega⟩
      · simp at h
/-- The unit. -/
def un : Nat → Nat → Bool := fun j i => j == 0 && i == 0
def pw (s : Nat → Nat → Bool) : Nat → Nat → Nat → Bool
  | 0 => un
  | n + 1 => pf (pw s n) s
/-- Alike on all 36 cells. -/
def Ag (f g : Nat → Nat → Bool) : Prop := ∀ j i, j < 6 → i < 6 → f j i = g j i
theorem Ag.row {f g : Nat → Nat → Bool} (h : Ag f g) {r : Nat} (hr : r < 6) : rowv (f r) = rowv (g r) := rowv_congr fun i hi => h r i hr hi
theorem Ag.sf {f g : Nat → Nat → Bool} (h : Ag f g) (x y : Nat) : Ag (sf x y f) (sf x y g) := fun j i _ _ => h _ _ (Nat.mod_lt _ (by decide)) (Nat.mod_lt _ (by decide))
theorem Ag.pfo {f g : Nat → Nat → Bool} (h : Ag f g) : ∀ (l : List (Nat × Nat)) {o p : Nat → Nat → Bool}, Ag o p → Ag (pfo f l o) (pfo g l p)
  | [], _, _, ho => ho
  | c :: l, o, p, ho => Ag.pfo h l (o := xf o (Go.Proofs.Ytnkjamdpafpcpaa.sf c.1 c.2 f)) (p := xf p (Go.Proofs.Ytnkjamdpafpcpaa.sf c.1 c.2 g)) fun j i hj hi => by
      have e1 := ho j i hj hi
      have e2 := h.sf c.1 c.2 j i hj hi
      simp only [xf, e1, e2]
theorem Ag.pf {f g : Nat → Nat → Bool} (h : Ag f g) (p : Nat → Nat → Bool) : Ag (pf f p) (pf g p) := h.pfo _ fun _ _ _ _ => rfl
/-- The print of presses by the unit is the presses. -/
theorem pf_un (s : Nat → Nat → Bool) : Ag (pf un s) s := by
  have key : ∀ p, p ≤ 36 → ∀ j i, j < 6 → i < 6 → pfo un (bl s p) zf j i = (decide (6 * j + i < p) && s j i) := by
    intro p
    induction p with
    | zero => intro _ j i _ _; simp [bl, pfo, zf]
    | succ p ih =>
      intro hp j i hj hi
      have e : bl s (p + 1) = bl s p ++ (if s (p / 6) (p % 6) then [(p % 6, p / 6)] else []) := rfl
      have ihh := ih (by omega) j i hj hi
      rw [e]
      split
      next hs =>
        simp only [pfo, List.foldl_append, List.foldl_cons, List.foldl_nil] at ihh ⊢
        simp only [xf, ihh, sf, un]
        by_cases hh : 6 * j + i = p
        · have e1 : p / 6 = j := by omega
          have e2 : p % 6 = i := by omega
          rw [e1, e2] at hs ⊢
          have e3 : ¬ 6 * j + i < p := by omega
          have e4 : 6 * j + i < p + 1 := by omega
          simp [e3, e4, hs]
        · have hne : ¬ ((j + 6 - p / 6) % 6 = 0 ∧ (i + 6 - p % 6) % 6 = 0) := by omega
          have hb : ((j + 6 - p / 6) % 6 == 0 && (i + 6 - p % 6) % 6 == 0) = false := by
            cases hc : ((j + 6 - p / 6) % 6 == 0 && (i + 6 - p % 6) % 6 == 0)
            · rfl
            · exact absurd (by simpa using hc) hne
          rw [hb]
          have : (6 * j + i < p + 1) ↔ (6 * j + i < p) := by omega
          simp [this]
      next hs =>
        rw [List.append_nil, ihh]
        by_cases hh : 6 * j + i = p
        · have e1 : p / 6 = j := by omega
          have e2 : p % 6 = i := by omega
          rw [e1, e2] at hs
          simp [hs]
        · have : (6 * j + i < p + 1) ↔ (6 * j + i < p) := by omega
          simp [this]
  intro j i hj hi
  have h := key 36 (Nat.le_refl _) j i hj hi
  have h36 : 6 * j + i < 36 := by omega
  simp only [pf, h, h36, decide_true, Bool.true_and]
end Go.Proofs.Ytnkjamdpafpcpaa
