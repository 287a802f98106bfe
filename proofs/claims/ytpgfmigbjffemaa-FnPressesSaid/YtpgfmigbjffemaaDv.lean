/- CONTRACTS: the drawn arguments of ShiftSheet. -/
import Derived.Test.YtpgfmigbjffemaaDu
import Derived.WalkKit
import Derived.ProofKit
import Derived.OpenShut
import Derived.Lib.Hide
import Derived.WalkSpells
import Derived.Below
import Derived.BigQuiet
import Derived.LoopN
namespace Go.Proofs.Ytpgfmigbjffemaa
open Go.ChangeShapes Go.WideShapes Go.ChangeAt Go.RowKit
set_option linter.unusedVariables false
def CodeIn (W : World) (B : Nat) (A : Option Addr) (len : Nat) (zs : List Int) : Prop := ∀ k, k < len → ∃ b o, A = some ⟨b, o, none⟩ ∧ b < B ∧ W.cell? ⟨b, o + k, none⟩ = some (.int .u8 (zs.getD k 0)) ∧ 0 ≤ zs.getD k 0 ∧ zs.getD k 0 ≤ 255
theorem CodeIn.below {W W' : World} {B N : Nat} {A : Option Addr} {len : Nat} {zs : List Int} (h : CodeIn W B A len zs) (hb : Below N W W') (hB : B ≤ N) : CodeIn W' B A len zs := fun k hk => by
  obtain ⟨b, o, h1, h2, h3, h4, h5⟩ := h k hk
  exact ⟨b, o, h1, h2, (hb.cell (p := ⟨b, o + k, none⟩) (Nat.lt_of_lt_of_le h2 hB)).trans h3, h4, h5⟩
theorem cu_new {W : World} {B : Nat} {A : Option Addr} {len cap : Nat} {zs : List Int} (h : CodeIn W B A len zs) (hB : B ≤ W.heap.size) (hl : len ≤ 65536) : Cu (W.alloc (.cells #[.slice A len cap, .int .i64 0, .int .u64 0] 122)) B W.heap.size A len cap zs 0 := by
  refine ⟨fun k hk => ?_, hB, hl, 0, 0, by omega, by omega, by omega, alloc_at rfl⟩
  obtain ⟨b, o, h1, h2, h3, h4, h5⟩ := h k hk
  exact ⟨b, o, h1, h2, by rw [World.cell?_alloc_lt _ _ _ (blk_lt h3)]; exact h3, h4, h5⟩
theorem below_to {w W W' : World} {g : Nat} (h : Below w.heap.size w W) (hg : W.grownBy W' (some g)) (hk : w.heap.size ≤ g) : Below w.heap.size w W' :=
  h.grown hg h.size (fun k e => by cases e; exact hk)
def DsPost (w : World) (e : Ending) (w' : World) : Prop := ∃ (r0 r1 r2 r3 r4 r5 x y : Int), Wf6 r0 r1 r2 r3 r4 r5 ∧ (Lit.int .i64 x).wf = true ∧ ((Lit.int .i64 y).wf = true ∧ -6 ≤ y ∧ y ≤ 8) ∧ e = .returned (.tuple #[.agg #[.int .i64 r0, .int .i64 r1, .int .i64 r2, .int .i64 r3, .int .i64 r4, .int .i64 r5], .int .i64 x, .int .i64 y]) ∧ Below w.heap.size w w'
set_option maxHeartbeats 2000000 in
theorem draw_shift (B : Nat) (A : Option Addr) (len cap : Nat) (zs : List Int) (w : World) (h : CodeIn w B A len zs) (hB : B ≤ w.heap.size) (hl : len ≤ 65536) :
    Calls Try.prog 46 #[.slice A len cap] w (DsPost w) := by
  have H := Lib.hid h
  clear h
  go_enter Try.func46, Try.ntmps46
  go_wp2_with fail
  generalize hW : (World.alloc _ _ : World) = W0
  have HB := Lib.hid (show Below w.heap.size w W0 by rw [← hW]; (repeat (first | exact Below.refl _ _ | assumption | refine Below.setCell ?_ (by first | (simp; done) | (simp; omega)) _ | refine Below.alloc ?_ (by first | (simp; done) | (simp; omega)) _ | refine Below.drew ?_)))
  have Q0 := Lib.hid (show W0.heap[w.heap.size]? = some (.cells #[.int .i64 0, .int .i64 0, .int .i64 0, .int .i64 0, .int .i64 0, .int .i64 0] 28 (0, 0)) by rw [← hW]; exact alloc_past (alloc_at rfl))
  have H0 := Lib.hid (show CuTo B (w.heap.size + 1) A len cap zs 0 W0 W0 by
    refine ⟨?_, g_refl _ _⟩
    rw [← hW]
    have e := cu_new (W := w.alloc (.cells #[.int .i64 0, .int .i64 0, .int .i64 0, .int .i64 0, .int .i64 0, .int .i64 0] 28)) (cap := cap) (H.out.below ((Below.refl _ _).alloc (Nat.le_refl _) _) hB) (by simp; omega) hl
    simpa using e)
  clear hW H
  generalize hg : w.heap.size + 1 = g at H0 ⊢
  refine (pick_any 15 B g A len cap zs 0 W0 H0.out.1 (by omega) (by omega) (by omega)).mono ?_
  rintro e W1 ⟨x, rfl, hx0, hx1, hc⟩
  have H1 := Lib.hid (H0.out.step hc)
  have Q1 := Lib.hid (rowg Q0.out hc.2 (by omega))
  clear hc H0 Q0
  go_wp2_with fail
  refine (pick_any 15 B g A len cap zs (0 + 2) W1 H1.out.1 (by omega) (by omega) (by omega)).mono ?_
  rintro e W2 ⟨y, rfl, hy0, hy1, hc⟩
  have H2 := Lib.hid (H1.out.step hc)
  have Q2 := Lib.hid (rowg Q1.out hc.2 (by omega))
  clear hc H1 Q1
  go_wp2_with fail
  refine (one_any 20 B g A len cap zs (0 + 2 + 2) W2 H2.out.1 (by omega) (by omega) (by omega)).mono ?_
  rintro e W3 ⟨b, rfl, hc⟩
  have H3 := Lib.hid (H2.out.step hc)
  have Q3 := Lib.hid (rowg Q2.out hc.2 (by omega))
  clear hc H2 Q2
  cases b
  case false =>
    go_wp2_with fail
    refine (sheet_dr B g A len cap zs (0 + 2 + 2 + 2) W3 H3.out.1 (by omega)).mono ?_
    rintro e W4 ⟨r0, r1, r2, r3, r4, r5, hw, rfl, hc⟩
    have H4 := Lib.hid (H3.out.step hc)
    have HW := Lib.hid hw
    have q := rowg Q3.out hc.2 (by omega)
    clear hc hw H3 Q3
    have z_c := fun j => cell_of_row W4 _ j _ _ _ q
    have z_f := fun j => frozen_of_row W4 _ j _ _ q
    clear q
    go_wp2_with fail
    refine bodyPost_ret (v := .tuple #[.agg #[.int .i64 r0, .int .i64 r1, .int .i64 r2, .int .i64 r3, .int .i64 r4, .int .i64 r5], .int .i64 (x - 6), .int .i64 (y - 6)]) (by simp [results, Try.results46, go_sem, z_c]) rfl ⟨r0, r1, r2, r3, r4, r5, x - 6, y - 6, HW.out, WalkArith.wf_i64 (by omega), ⟨WalkArith.wf_i64 (by omega), by omega, by omega⟩, rfl, ?_⟩
    exact below6 (below_to HB.out H4.out.2 (by omega)) (Nat.le_refl _)
  case true =>
    go_wp2_with fail
    generalize hW : (World.alloc _ _ : World) = W3a
    have H3a := Lib.hid (show CuTo B g A len cap zs (0 + 2 + 2 + 2) W0 W3a by rw [← hW]; exact H3.out.alloc _)
    have Q3a := Lib.hid (show W3a.heap[w.heap.size]? = some (.cells #[.int .i64 0, .int .i64 0, .int .i64 0, .int .i64 0, .int .i64 0, .int .i64 0] 28 (0, 0)) by rw [← hW]; exact alloc_past Q3.out)
    have L1 := Lib.hid (show ∀ k x, ([9223372036854775807, -9223372036854775808, 4611686018427387904] : List Int)[k]? = some x → W3a.cell? ⟨W3.heap.size, k, none⟩ = some (.int .i64 x) by rw [← hW]; exact new_ints W3 [9223372036854775807, -9223372036854775808, 4611686018427387904])
    have hg1 : g < W3.heap.size := H3.out.1.glt
    clear hW H3 Q3
    refine (among_any W3.heap.size 3 [9223372036854775807, -9223372036854775808, 4611686018427387904] B g A len cap zs (0 + 2 + 2 + 2) W3a H3a.out.1 (by omega) L1.out (by omega) (by decide) (by decide)).mono ?_
    rintro e W4 ⟨v, hv, rfl, hc⟩
    have hvw : (Lit.int .i64 v).wf = true := by
      simp only [List.mem_cons, List.mem_nil_iff, or_false] at hv
      rcases hv with rfl | rfl | rfl <;> decide
    have HV := Lib.hid hvw
    have H4 := Lib.hid (H3a.out.step hc)
    have Q4 := Lib.hid (rowg Q3a.out hc.2 (by omega))
    clear hc H3a Q3a L1 hv hvw hg1
    go_wp2_with fail
    refine (sheet_dr B g A len cap zs (0 + 2 + 2 + 2 + 2) W4 H4.out.1 (by omega)).mono ?_
    rintro e W5 ⟨r0, r1, r2, r3, r4, r5, hw, rfl, hc⟩
    have H5 := Lib.hid (H4.out.step hc)
    have HW := Lib.hid hw
    have q := rowg Q4.out hc.2 (by omega)
    clear hc hw H4 Q4
    have z_c := fun j => cell_of_row W5 _ j _ _ _ q
    have z_f := fun j => frozen_of_row W5 _ j _ _ q
    clear q
    go_wp2_with fail
    refine bodyPost_ret (v := .tuple #[.agg #[.int .i64 r0, .int .i64 r1, .int .i64 r2, .int .i64 r3, .int .i64 r4, .int .i64 r5], .int .i64 v, .int .i64 (y - 6)]) (by simp [results, Try.results46, go_sem, z_c]) rfl ⟨r0, r1, r2, r3, r4, r5, v, y - 6, HW.out, HV.out, ⟨WalkArith.wf_i64 (by omega), by omega, by omega⟩, rfl, ?_⟩
    exact below6 (below_to HB.out H5.out.2 (by omega)) (Nat.le_refl _)
end Go.Proofs.Ytpgfmigbjffemaa
