/- CONTRACTS: whether a plan is valid, of the code and of the model. -/
import Derived.Test.YtnkjamdpafpcpaaPd11
import Derived.Test.YtnkjamdpafpcpaaPv8
import Derived.Test.YtnkjamdpafpcpaaRk
import Derived.WalkKit
import Derived.ProofKit
import Derived.OpenShut
import Derived.Lib.Hide
import Derived.WalkSpells
import Derived.Below
import Derived.BigQuiet
import Derived.LoopN
namespace Go.Proofs.Ytnkjamdpafpcpaa
open Go.ChangeShapes Go.WideShapes Go.ChangeAt Go.RowKit
set_option linter.unusedVariables false
abbrev ob11 (m0 m1 m2 m3 m4 m5 : Int) (g1 n1 c1 g2 n2 c2 : Nat) : Obj := .cells #[.int .i64 m0, .int .i64 m1, .int .i64 m2, .int .i64 m3, .int .i64 m4, .int .i64 m5, .slice (some ⟨g1, 0, none⟩) n1 c1, .slice (some ⟨g2, 0, none⟩) n2 c2] 62 (0, 0)
/-- A plan's box in block b, and its rows. -/
def Pb11 (b : Nat) (m0 m1 m2 m3 m4 m5 : Int) (l : List H11) (st : List S11) (g1 c1 g2 c2 : Nat) (w U : World) : Prop := U.heap[b]? = some (ob11 m0 m1 m2 m3 m4 m5 g1 l.length c1 g2 st.length c2) ∧ U.rangeAt g1 0 (hv11 l) ∧ U.rangeAt g2 0 (sv11 st) ∧ Below w.heap.size w U
theorem Pb11.far {b : Nat} {m0 m1 m2 m3 m4 m5 : Int} {l : List H11} {st : List S11} {g1 c1 g2 c2 M : Nat} {w U V : World} (h : Pb11 b m0 m1 m2 m3 m4 m5 l st g1 c1 g2 c2 w U) (hb : Below M U V) (hM : M = U.heap.size) : Pb11 b m0 m1 m2 m3 m4 m5 l st g1 c1 g2 c2 w V := ⟨rowk h.1 hb hM, ra_below h.2.1 hb hM, ra_below h.2.2.1 hb hM, below_of h.2.2.2 hb (by have := h.2.2.2.size; omega)⟩
theorem Pb11.al {b : Nat} {m0 m1 m2 m3 m4 m5 : Int} {l : List H11} {st : List S11} {g1 c1 g2 c2 : Nat} {w U : World} (h : Pb11 b m0 m1 m2 m3 m4 m5 l st g1 c1 g2 c2 w U) (o : Obj) : Pb11 b m0 m1 m2 m3 m4 m5 l st g1 c1 g2 c2 w (U.alloc o) := h.far (M := U.heap.size) ((Below.refl _ _).alloc (Nat.le_refl _) o) rfl
theorem Pb11.drew {b : Nat} {m0 m1 m2 m3 m4 m5 : Int} {l : List H11} {st : List S11} {g1 c1 g2 c2 : Nat} {w U : World} (h : Pb11 b m0 m1 m2 m3 m4 m5 l st g1 c1 g2 c2 w U) : Pb11 b m0 m1 m2 m3 m4 m5 l st g1 c1 g2 c2 w U.drew := h.far (M := U.heap.size) (Below.refl _ _).drew rfl
theorem Pb11.c {b : Nat} {m0 m1 m2 m3 m4 m5 : Int} {l : List H11} {st : List S11} {g1 c1 g2 c2 : Nat} {w U : World} (h : Pb11 b m0 m1 m2 m3 m4 m5 l st g1 c1 g2 c2 w U) : ∀ j, U.cell? ⟨b, j, none⟩ = (#[.int .i64 m0, .int .i64 m1, .int .i64 m2, .int .i64 m3, .int .i64 m4, .int .i64 m5, .slice (some ⟨g1, 0, none⟩) l.length c1, .slice (some ⟨g2, 0, none⟩) st.length c2] : Array Value)[j]? := fun j => cell_of_row U b j _ _ _ h.1
theorem okP_bad1 {s : H11} {l : List H11} {st : List S11} {i : Nat} (hi : i < l.length) (h : okH l[i] = false) : okP s l st = false := by
  cases hq : okP s l st
  · rfl
  · have := (okP_parts hq).2.2.2.1 _ (List.getElem_mem hi)
    rw [h] at this; cases this
theorem okP_bad2 {s : H11} {l : List H11} {st : List S11} {i : Nat} (hi : i < st.length) (h : okS l.length st[i] = false) : okP s l st = false := by
  cases hq : okP s l st
  · rfl
  · have := (okP_parts hq).2.2.2.2 _ (List.getElem_mem hi)
    rw [h] at this; cases this
theorem okP_bad0 {s : H11} {l : List H11} {st : List S11} (h : okH s = false ∨ 4 < l.length ∨ 40 < st.length) : okP s l st = false := by
  cases hq : okP s l st
  · rfl
  · obtain ⟨h1, h2, h3, _⟩ := okP_parts hq
    rcases h with h | h | h
    · rw [h] at h1; cases h1
    · omega
    · omega
theorem okP_good {s : H11} {l : List H11} {st : List S11} (h1 : okH s = true) (h2 : l.length ≤ 4) (h3 : st.length ≤ 40) (h4 : ∀ i (h : i < l.length), okH l[i] = true) (h5 : ∀ i (h : i < st.length), okS l.length st[i] = true) : okP s l st = true := by
  unfold okP
  simp only [Bool.and_eq_true, decide_eq_true_eq, List.all_eq_true]
  refine ⟨⟨⟨⟨h1, h2⟩, h3⟩, fun t ht => ?_⟩, fun p hp => ?_⟩
  · obtain ⟨i, hi, rfl⟩ := List.mem_iff_getElem.1 ht
    exact h4 i hi
  · obtain ⟨i, hi, rfl⟩ := List.mem_iff_getElem.1 hp
    exact h5 i hi
set_option maxRecDepth 8000 in
set_option maxHeartbeats 2000000 in
theorem iplan_11 (m0 m1 m2 m3 m4 m5 : Int) (l : List H11) (st : List S11) (g1 c1 g2 c2 : Nat) (hl : l.length ≤ 1048576) (hst : st.length ≤ 1048576) (hwf : ∀ p ∈ st, (Lit.int .i64 p.x).wf = true ∧ (Lit.int .i64 p.y).wf = true) (w : World) (h1 : w.rangeAt g1 0 (hv11 l)) (h2 : w.rangeAt g2 0 (sv11 st)) : Calls Try.prog 140 #[.agg #[.int .i64 m0, .int .i64 m1, .int .i64 m2, .int .i64 m3, .int .i64 m4, .int .i64 m5, .slice (some ⟨g1, 0, none⟩) l.length c1, .slice (some ⟨g2, 0, none⟩) st.length c2]] w fun e w' => e = .returned (.bool (okP (m0, m1, m2, m3, m4, m5) l st)) ∧ Below w.heap.size w w' := by
  have HW := Lib.hid hwf
  have R1 := Lib.hid h1
  have R2 := Lib.hid h2
  clear hwf h1 h2
  have HS := Lib.hid (sheet_any m0 m1 m2 m3 m4 m5)
  obtain ⟨b, hb0⟩ : ∃ b, b = (ok m0 && ok m1 && ok m2 && ok m3 && ok m4 && ok m5) := ⟨_, rfl⟩
  rw [← hb0] at HS
  have HB0 : Hid (okH (m0, m1, m2, m3, m4, m5) = b) := Lib.hid hb0.symm
  clear hb0
  obtain ⟨r, hr⟩ : ∃ r, r = okP (m0, m1, m2, m3, m4, m5) l st := ⟨_, rfl⟩
  rw [← hr]
  have HR := Lib.hid hr
  clear hr
  cases b
  · go_enter Try.func140, Try.ntmps140
    go_wp2_with fail
    generalize hW : (World.alloc _ _ : World) = W0
    have hB : Below w.heap.size w W0 := by rw [← hW]; (repeat (first | exact Below.refl _ _ | assumption | refine Below.setCell ?_ (by first | (simp; done) | (simp; omega)) _ | refine Below.alloc ?_ (by first | (simp; done) | (simp; omega)) _ | refine Below.drew ?_))
    clear hW
    refine (HS.out _).mono ?_
    rintro e W1 ⟨rfl, hb⟩
    have hB1 := below_of hB hb (by have := hB.size; omega)
    clear hb hB
    go_wp2_with fail
    go_ret
    exact ⟨by rw [HR.out, okP_bad0 (.inl HB0.out)]; rfl, hB1⟩
  by_cases h4 : 4 < l.length
  · have h4' : (l.length : Int) > 4 := by omega
    have h4'' : (4 : Int) < l.length := by omega
    go_enter Try.func140, Try.ntmps140
    go_wp2_with fail
    generalize hW : (World.alloc _ _ : World) = W0
    have hB : Below w.heap.size w W0 := by rw [← hW]; (repeat (first | exact Below.refl _ _ | assumption | refine Below.setCell ?_ (by first | (simp; done) | (simp; omega)) _ | refine Below.alloc ?_ (by first | (simp; done) | (simp; omega)) _ | refine Below.drew ?_))
    have r0 : W0.heap[w.heap.size]? = some (ob11 m0 m1 m2 m3 m4 m5 g1 l.length c1 g2 st.length c2) := by rw [← hW]; exact alloc_at rfl
    clear hW
    refine (HS.out _).mono ?_
    rintro e W1 ⟨rfl, hb⟩
    have hB1 := below_of hB hb (by have := hB.size; omega)
    have r1 := rowk r0 hb rfl
    have a_c := fun j => cell_of_row W1 _ j _ _ _ r1
    clear hb hB r0 r1
    go_wp2_with fail
    go_ret
    exact ⟨by rw [HR.out, okP_bad0 (.inr (.inl h4))]; rfl, hB1⟩
  have h4' : ¬ (l.length : Int) > 4 := by omega
  have h4'' : ¬ (4 : Int) < l.length := by omega
  by_cases h40 : 40 < st.length
  · have h5' : (st.length : Int) > 40 := by omega
    have h5'' : (40 : Int) < st.length := by omega
    go_enter Try.func140, Try.ntmps140
    go_wp2_with fail
    generalize hW : (World.alloc _ _ : World) = W0
    have hB : Below w.heap.size w W0 := by rw [← hW]; (repeat (first | exact Below.refl _ _ | assumption | refine Below.setCell ?_ (by first | (simp; done) | (simp; omega)) _ | refine Below.alloc ?_ (by first | (simp; done) | (simp; omega)) _ | refine Below.drew ?_))
    have r0 : W0.heap[w.heap.size]? = some (ob11 m0 m1 m2 m3 m4 m5 g1 l.length c1 g2 st.length c2) := by rw [← hW]; exact alloc_at rfl
    clear hW
    refine (HS.out _).mono ?_
    rintro e W1 ⟨rfl, hb⟩
    have hB1 := below_of hB hb (by have := hB.size; omega)
    have r1 := rowk r0 hb rfl
    have a_c := fun j => cell_of_row W1 _ j _ _ _ r1
    clear hb hB r0 r1
    go_wp2_with fail
    go_ret
    exact ⟨by rw [HR.out, okP_bad0 (.inr (.inr h40))]; rfl, hB1⟩
  have h5' : ¬ (st.length : Int) > 40 := by omega
  have h5'' : ¬ (40 : Int) < st.length := by omega
  go_enter Try.func140, Try.ntmps140
  go_wp2_with fail
  generalize hW : (World.alloc _ _ : World) = W0
  have P0 : Pb11 w.heap.size m0 m1 m2 m3 m4 m5 l st g1 c1 g2 c2 w W0 := by
    have hB : Below w.heap.size w W0 := by rw [← hW]; (repeat (first | exact Below.refl _ _ | assumption | refine Below.setCell ?_ (by first | (simp; done) | (simp; omega)) _ | refine Below.alloc ?_ (by first | (simp; done) | (simp; omega)) _ | refine Below.drew ?_))
    exact ⟨by rw [← hW]; exact alloc_at rfl, ra_below R1.out hB rfl, ra_below R2.out hB rfl, hB⟩
  clear hW
  refine (HS.out _).mono ?_
  rintro e W1 ⟨rfl, hb⟩
  have P1 := Lib.hid (P0.far hb rfl)
  clear hb P0 R1 R2 HS
  have a_c := P1.out.c
  go_wp2_with fail
  clear a_c
  go_loopw [26] (fun i wr => ∃ k : Nat, k ≤ l.length ∧ i = .int .i64 k ∧ Hid (Pb11 w.heap.size m0 m1 m2 m3 m4 m5 l st g1 c1 g2 c2 w wr ∧ ∀ j (hj : j < l.length), j < k → okH l[j] = true)) (fun i _ => l.length - (intOf i).toNat)
  case atStart => exact ⟨0, by omega, rfl, Lib.hid ⟨P1.out, fun j _ hj => by omega⟩⟩
  case round =>
    obtain ⟨k, hk, rfl, HB⟩ := hrel
    by_cases hlt : k < l.length
    · have hlt' : (k : Int) < l.length := by omega
      have hk0 : (0 : Int) ≤ k := by omega
      have hc := fm_range ch11_len HB.out.1.2.1 hlt
      have HN := Lib.hid (fun h => okP_bad1 (s := (m0, m1, m2, m3, m4, m5)) (st := st) hlt h)
      have HY : Hid (okH l[k] = true → ∀ j (hj : j < l.length), j < k + 1 → okH l[j] = true) := Lib.hid fun h j hj hj2 => by
        by_cases e : j = k
        · subst e; exact h
        · exact HB.out.2 j hj (by omega)
      generalize l[k] = p at hc HN HY
      obtain ⟨q0, q1, q2, q3, q4, q5⟩ := p
      dsimp only [ch11, okH] at hc HN HY
      have HP := Lib.hid (sheet_any q0 q1 q2 q3 q4 q5)
      generalize (ok q0 && ok q1 && ok q2 && ok q3 && ok q4 && ok q5) = b at HP HN HY
      have hC := Lib.hid hc
      clear hc
      go_wp2_with ((with_reducible refine wpLm g1 (k * 6) [.int .i64 q0, .int .i64 q1, .int .i64 q2, .int .i64 q3, .int .i64 q4, .int .i64 q5] hC.out _ Try.underlying28 ?_ ?_ ?_ ?_); rfl; rfl; kernel_rfl)
      have HA := Lib.hid (HB.out.1.al (.cells #[.int .i64 q0, .int .i64 q1, .int .i64 q2, .int .i64 q3, .int .i64 q4, .int .i64 q5] 28))
      clear hC HB
      generalize (World.alloc _ _ : World) = W2 at HA ⊢
      refine (HP.out _).mono ?_
      rintro e W3 ⟨rfl, hb⟩
      have HE := Lib.hid (HA.out.far hb rfl)
      clear hb HA
      cases b
      · go_wp2_with fail
        go_ret
        exact ⟨by rw [HR.out, HN.out (by first | rfl | trivial)]; rfl, HE.out.2.2.2⟩
      · go_wp2_with fail
        have HE2 := Lib.hid (And.intro HE.out (HY.out (by first | rfl | trivial)))
        go_roundw
        case rel => exact ⟨k + 1, by omega, by go_num, HE2⟩
        case measure => simp [intOf]; omega
    · obtain rfl : k = l.length := by omega
      have HL : Hid (∀ i (h : i < l.length), okH l[i] = true) := Lib.hid (fun i h => HB.out.2 i h h)
      have P2 := Lib.hid HB.out.1
      clear HB P1
      have a_c := P2.out.c
      go_wp2_with fail
      clear a_c
      go_loopw [37] (fun i wr => ∃ k : Nat, k ≤ st.length ∧ i = .int .i64 k ∧ Hid (Pb11 w.heap.size m0 m1 m2 m3 m4 m5 l st g1 c1 g2 c2 w wr ∧ ∀ j (hj : j < st.length), j < k → okS l.length st[j] = true)) (fun i _ => st.length - (intOf i).toNat)
      case atStart => exact ⟨0, by omega, rfl, Lib.hid ⟨P2.out, fun j _ hj => by omega⟩⟩
      case round =>
        obtain ⟨k, hk, rfl, HB⟩ := hrel
        by_cases hlt : k < st.length
        · have hlt' : (k : Int) < st.length := by omega
          have hk0 : (0 : Int) ≤ k := by omega
          have hc := fm_range cs11_len HB.out.1.2.2.1 hlt
          have HN := Lib.hid (fun h => okP_bad2 (s := (m0, m1, m2, m3, m4, m5)) (l := l) hlt h)
          have HY : Hid (okS l.length st[k] = true → ∀ j (hj : j < st.length), j < k + 1 → okS l.length st[j] = true) := Lib.hid fun h j hj hj2 => by
            by_cases e : j = k
            · subst e; exact h
            · exact HB.out.2 j hj (by omega)
          have HX := HW.out st[k] (List.getElem_mem _)
          generalize st[k] = p at hc HN HY HX
          obtain ⟨q0, q1, q2, q3⟩ := p
          dsimp only [cs11] at hc HX
          have HP := Lib.hid (istep_11 q0 q1 q2 q3 HX.1 HX.2 l.length hl)
          clear HX
          generalize okS l.length ⟨q0, q1, q2, q3⟩ = b at HP HN HY
          have hC := Lib.hid hc
          clear hc
          have HA := Lib.hid (HB.out.1.al (.cells #[.int .i64 q0, .int .i64 q1, .int .i64 q2, .int .i64 q3] 73))
          have a_c := HA.out.c
          go_wp2_with ((with_reducible refine wpLm g2 (k * 4) [.int .i64 q0, .int .i64 q1, .int .i64 q2, .int .i64 q3] hC.out _ Try.underlying73 ?_ ?_ ?_ ?_); rfl; rfl; kernel_rfl)
          clear a_c hC HB
          generalize (World.alloc _ _ : World) = W2 at HA ⊢
          refine (HP.out _).mono ?_
          rintro e W3 ⟨rfl, hb⟩
          have HE := Lib.hid (HA.out.far hb rfl)
          clear hb HA
          cases b
          · go_wp2_with fail
            go_ret
            exact ⟨by rw [HR.out, HN.out (by first | rfl | trivial)]; rfl, HE.out.2.2.2⟩
          · go_wp2_with fail
            have HE2 := Lib.hid (And.intro HE.out (HY.out (by first | rfl | trivial)))
            go_roundw
            case rel => exact ⟨k + 1, by omega, by go_num, HE2⟩
            case measure => simp [intOf]; omega
        · obtain rfl : k = st.length := by omega
          have E1 := Lib.hid (okP_good (s := (m0, m1, m2, m3, m4, m5)) HB0.out (by omega) (by omega) HL.out (fun i h => HB.out.2 i h h))
          go_wp2_with fail
          go_ret
          exact ⟨by rw [HR.out, E1.out]; rfl, HB.out.1.2.2.2⟩
end Go.Proofs.Ytnkjamdpafpcpaa
