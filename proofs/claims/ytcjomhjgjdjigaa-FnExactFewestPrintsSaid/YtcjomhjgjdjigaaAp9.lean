/- CONTRACTS: whether a list has prints, of the model and of the code. -/
import Derived.Test.YtcjomhjgjdjigaaZq9
import Derived.WalkKit
import Derived.ProofKit
import Derived.OpenShut
import Derived.Lib.Hide
import Derived.WalkSpells
import Derived.Below
import Derived.BigQuiet
import Derived.LoopN
namespace Go.Proofs.Ytcjomhjgjdjigaa
open Go.ChangeShapes Go.WideShapes Go.ChangeAt Go.RowKit
set_option linter.unusedVariables false
/-- Whether a print is valid. -/
def okR (p : Pn) : Bool := okr p.k p.a p.b p.c p.d p.e p.f p.x p.y
/-- Whether a list has prints. -/
def lok (z : List Pn) : Bool := decide (z.length ≤ 6) && z.all okR
theorem lok_bad {z : List Pn} {i : Nat} (hi : i < z.length) (h : okR z[i] = false) : lok z = false := by
  unfold lok
  rw [Bool.and_eq_false_iff]
  right
  rw [List.all_eq_false]
  exact ⟨z[i], List.getElem_mem _, by rw [h]; decide⟩
theorem lok_all {z : List Pn} (h : ∀ i (hi : i < z.length), okR z[i] = true) : lok z = decide (z.length ≤ 6) := by
  unfold lok
  have : z.all okR = true := by
    rw [List.all_eq_true]
    intro p hp
    obtain ⟨i, hi, rfl⟩ := List.mem_iff_getElem.1 hp
    exact h i hi
  rw [this, Bool.and_true]
theorem lok_long {z : List Pn} (h : 6 < z.length) : lok z = false := by
  unfold lok
  rw [decide_eq_false (by omega), Bool.false_and]
theorem lok_get {z : List Pn} (h : lok z = true) : z.length ≤ 6 ∧ ∀ i (hi : i < z.length), okR z[i] = true := by
  unfold lok at h
  rw [Bool.and_eq_true, decide_eq_true_eq, List.all_eq_true] at h
  exact ⟨h.1, fun i hi => h.2 _ (List.getElem_mem _)⟩
/-- The prints in a row of their own, and nothing below touched. -/
def La9 (w : World) (B g c : Nat) (z : List Pn) (U : World) : Prop := Op9 B g c z U ∧ Below w.heap.size w U
theorem La9.below {w U V : World} {B g c M : Nat} {z : List Pn} (h : La9 w B g c z U) (hb : Below M U V) (hM : M = U.heap.size) : La9 w B g c z V := ⟨h.1.below hb hM, below_of h.2 hb (by have := h.2.size; omega)⟩
theorem La9.al {w U : World} {B g c : Nat} {z : List Pn} (h : La9 w B g c z U) (o : Obj) : La9 w B g c z (U.alloc o) := h.below (M := U.heap.size) ((Below.refl _ _).alloc (Nat.le_refl _) o) rfl
set_option maxRecDepth 8000 in
set_option maxHeartbeats 1000000 in
theorem slist_any (z : List Pn) (hl : z.length ≤ 1048576) (B g c : Nat) (w : World) (h0 : Op9 B g c z w) : Calls Try.prog 71 #[.slice (some ⟨g, 0, none⟩) z.length c] w fun e w' => e = .returned (.bool (lok z)) ∧ Below w.heap.size w w' := by
  have S0 : Hid (La9 w B g c z w ∧ ∀ j (hj : j < z.length), j < 0 → okR z[j] = true) := Lib.hid ⟨⟨h0, Below.refl _ _⟩, fun j _ hj => by omega⟩
  clear h0
  obtain ⟨r, hr⟩ : ∃ r, r = lok z := ⟨_, rfl⟩
  rw [← hr]
  have HR := Lib.hid hr
  clear hr
  go_enter Try.func71, Try.ntmps71
  go_wp2_with fail
  go_loopw [3] (fun i wr => ∃ k : Nat, k ≤ 7 ∧ i = .int .i64 k ∧ Hid (La9 w B g c z wr ∧ ∀ j (hj : j < z.length), j < k → okR z[j] = true)) (fun i _ => 7 - (intOf i).toNat)
  case atStart => exact ⟨0, by omega, rfl, S0⟩
  case round =>
    obtain ⟨k, hk, rfl, HB⟩ := hrel
    by_cases hlt : k < z.length
    · have hlt' : (k : Int) < z.length := by omega
      have hlt2 : decide ((k : Int) < z.length) = true := decide_eq_true hlt'
      by_cases h7 : k ≤ 6
      · have h7' : (k : Int) ≤ 6 := by omega
        have hk0 : (0 : Int) ≤ k := by omega
        have hc := HB.out.1.1.range hlt
        have HN := Lib.hid (lok_bad hlt)
        have HY : Hid (okR z[k] = true → ∀ j (hj : j < z.length), j < k + 1 → okR z[j] = true) := Lib.hid fun h j hj hj2 => by
          by_cases e : j = k
          · subst e; exact h
          · exact HB.out.2 j hj (by omega)
        generalize z[k] = p at hc HN HY
        obtain ⟨pk, pa, pb, pc, pd, pe, pf, px, py⟩ := p
        dsimp only [Pn.cells, okR] at hc HN HY
        have HP := Lib.hid (spri_any pk pa pb pc pd pe pf px py)
        generalize okr pk pa pb pc pd pe pf px py = b at HP HN HY
        have hC := Lib.hid hc
        clear hc
        go_wp2_with ((with_reducible refine wpLm g (k * 9) [.int .i64 pk, .int .i64 pa, .int .i64 pb, .int .i64 pc, .int .i64 pd, .int .i64 pe, .int .i64 pf, .int .i64 px, .int .i64 py] hC.out _ Try.underlying38 ?_ ?_ ?_ ?_); rfl; rfl; kernel_rfl)
        refine (HP.out _).mono ?_
        rintro e W3 ⟨rfl, hb⟩
        have HE := Lib.hid (HB.out.1.below hb rfl)
        clear hb hC HB
        cases b
        · go_wp2_with fail
          go_ret
          exact ⟨by rw [HR.out, HN.out (by first | rfl | trivial)]; rfl, HE.out.2⟩
        · go_wp2_with fail
          have HE2 := Lib.hid (And.intro HE.out (HY.out (by first | rfl | trivial)))
          go_roundw
          case rel => exact ⟨k + 1, by omega, by go_num, HE2⟩
          case measure => simp [intOf]; omega
      · have h7' : ¬ (k : Int) ≤ 6 := by omega
        have hq : ¬ ((z.length : Int) ≤ 6) := by omega
        have eN := lok_long (z := z) (by omega)
        go_wp2_with fail
        go_ret
        exact ⟨by rw [HR.out, eN]; first | (simp; done) | (simp; omega), HB.out.1.2⟩
    · have hlt' : ¬ (k : Int) < z.length := by omega
      have eY := lok_all (z := z) (fun i hi => HB.out.2 i hi (by omega))
      have eD : decide (z.length ≤ 6) = decide ((z.length : Int) ≤ 6) := by
        apply decide_eq_decide.mpr
        omega
      go_wp2_with fail
      go_ret
      exact ⟨by rw [HR.out, eY, eD]; rfl, HB.out.1.2⟩
set_option maxRecDepth 8000 in
set_option maxHeartbeats 1000000 in
theorem ilist_any (z : List Pn) (hl : z.length ≤ 1048576) (hwf : ∀ p ∈ z, (Lit.int .i64 p.x).wf = true ∧ (Lit.int .i64 p.y).wf = true) (B g c : Nat) (w : World) (h0 : Op9 B g c z w) : Calls Try.prog 74 #[.slice (some ⟨g, 0, none⟩) z.length c] w fun e w' => e = .returned (.bool (lok z)) ∧ Below w.heap.size w w' := by
  have S0 : Hid (La9 w B g c z w ∧ ∀ j (hj : j < z.length), j < 0 → okR z[j] = true) := Lib.hid ⟨⟨h0, Below.refl _ _⟩, fun j _ hj => by omega⟩
  clear h0
  have HW := Lib.hid hwf
  clear hwf
  obtain ⟨r, hr⟩ : ∃ r, r = lok z := ⟨_, rfl⟩
  rw [← hr]
  have HR := Lib.hid hr
  clear hr
  by_cases h6 : 6 < z.length
  · have h6' : (z.length : Int) > 6 := by omega
    have h6'' : (6 : Int) < z.length := by omega
    have eN := Lib.hid (lok_long h6)
    go_enter Try.func74, Try.ntmps74
    go_wp2_with fail
    go_ret
    exact ⟨by rw [HR.out, eN.out]; rfl, Below.refl _ _⟩
  have h6' : ¬ (z.length : Int) > 6 := by omega
  have h6'' : ¬ (6 : Int) < z.length := by omega
  go_enter Try.func74, Try.ntmps74
  go_wp2_with fail
  go_loopw [10] (fun i wr => ∃ k : Nat, k ≤ z.length ∧ i = .int .i64 k ∧ Hid (La9 w B g c z wr ∧ ∀ j (hj : j < z.length), j < k → okR z[j] = true)) (fun i _ => z.length - (intOf i).toNat)
  case atStart => exact ⟨0, by omega, rfl, S0⟩
  case round =>
    obtain ⟨k, hk, rfl, HB⟩ := hrel
    by_cases hlt : k < z.length
    · have hlt' : (k : Int) < z.length := by omega
      have hk0 : (0 : Int) ≤ k := by omega
      have hc := HB.out.1.1.range hlt
      have HN := Lib.hid (lok_bad hlt)
      have HY : Hid (okR z[k] = true → ∀ j (hj : j < z.length), j < k + 1 → okR z[j] = true) := Lib.hid fun h j hj hj2 => by
        by_cases e : j = k
        · subst e; exact h
        · exact HB.out.2 j hj (by omega)
      have HX := HW.out z[k] (List.getElem_mem _)
      generalize z[k] = p at hc HN HY HX
      obtain ⟨pk, pa, pb, pc, pd, pe, pf, px, py⟩ := p
      dsimp only [Pn.cells, okR] at hc HN HY HX
      have HP := Lib.hid (ipri_any pk pa pb pc pd pe pf px py HX.1 HX.2)
      clear HX
      generalize okr pk pa pb pc pd pe pf px py = b at HP HN HY
      have hC := Lib.hid hc
      clear hc
      go_wp2_with ((with_reducible refine wpLm g (k * 9) [.int .i64 pk, .int .i64 pa, .int .i64 pb, .int .i64 pc, .int .i64 pd, .int .i64 pe, .int .i64 pf, .int .i64 px, .int .i64 py] hC.out _ Try.underlying38 ?_ ?_ ?_ ?_); rfl; rfl; kernel_rfl)
      have HA := Lib.hid (HB.out.1.al (.cells #[.int .i64 pk, .int .i64 pa, .int .i64 pb, .int .i64 pc, .int .i64 pd, .int .i64 pe, .int .i64 pf, .int .i64 px, .int .i64 py] 38))
      clear hC HB
      generalize (World.alloc _ _ : World) = W2 at HA ⊢
      refine (HP.out _).mono ?_
      rintro e W3 ⟨rfl, hb⟩
      have HE := Lib.hid (HA.out.below hb rfl)
      clear hb HA
      cases b
      · go_wp2_with fail
        go_ret
        exact ⟨by rw [HR.out, HN.out (by first | rfl | trivial)]; rfl, HE.out.2⟩
      · go_wp2_with fail
        have HE2 := Lib.hid (And.intro HE.out (HY.out (by first | rfl | trivial)))
        go_roundw
        case rel => exact ⟨k + 1, by omega, by go_num, HE2⟩
        case measure => simp [intOf]; omega
    · obtain rfl : k = z.length := by omega
      have eY := lok_all (z := z) (fun i hi => HB.out.2 i hi hi)
      have eD : decide (z.length ≤ 6) = true := decide_eq_true (by omega)
      have E1 := Lib.hid (eY.trans eD)
      clear eY eD
      go_wp2_with fail
      go_ret
      exact ⟨by rw [HR.out, E1.out]; rfl, HB.out.1.2⟩
end Go.Proofs.Ytcjomhjgjdjigaa
