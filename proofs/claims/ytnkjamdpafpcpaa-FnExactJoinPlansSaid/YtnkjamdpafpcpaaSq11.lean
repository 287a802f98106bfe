/- CONTRACTS: what the ways of pressing do with sheets as maps of cells; the sheet behind a step. -/
import Derived.Test.YtnkjamdpafpcpaaPa4
import Derived.Test.YtnkjamdpafpcpaaSp5
import Derived.Test.YtnkjamdpafpcpaaSa
import Derived.Test.YtnkjamdpafpcpaaSc
import Derived.Test.YtnkjamdpafpcpaaPl11
import Derived.WalkKit
import Derived.ProofKit
import Derived.OpenShut
import Derived.Lib.Hide
import Derived.WalkSpells
import Derived.Below
import Derived.BigQuiet
import Derived.LoopN
namespace Go.Proofs.Ytnkjamdpafpcpaa
open Go.ChangeShapes Go.WideShapes Go.ChangeAt Go.RowKit
set_option linter.unusedVariables false
abbrev Fn11 := Nat → Nat → Bool
theorem r6_dn11 : ∀ (b0 b1 b2 b3 b4 b5 c0 c1 c2 c3 c4 c5 : Bool), bits .andNot .i64 (r6 b0 b1 b2 b3 b4 b5) (r6 c0 c1 c2 c3 c4 c5) = r6 (b0 && !c0) (b1 && !c1) (b2 && !c2) (b3 && !c3) (b4 && !c4) (b5 && !c5) := by decide +kernel
theorem idiff_11 (s p : Fn11) (w : World) : Calls Try.prog 159 #[.agg #[.int .i64 (rowv (s 0)), .int .i64 (rowv (s 1)), .int .i64 (rowv (s 2)), .int .i64 (rowv (s 3)), .int .i64 (rowv (s 4)), .int .i64 (rowv (s 5))], .agg #[.int .i64 (rowv (p 0)), .int .i64 (rowv (p 1)), .int .i64 (rowv (p 2)), .int .i64 (rowv (p 3)), .int .i64 (rowv (p 4)), .int .i64 (rowv (p 5))]] w fun e w' => e = .returned (.agg #[.int .i64 (rowv (xf s p 0)), .int .i64 (rowv (xf s p 1)), .int .i64 (rowv (xf s p 2)), .int .i64 (rowv (xf s p 3)), .int .i64 (rowv (xf s p 4)), .int .i64 (rowv (xf s p 5))]) ∧ Below w.heap.size w w' := by
  have h := xor_any (rowv (s 0)) (rowv (s 1)) (rowv (s 2)) (rowv (s 3)) (rowv (s 4)) (rowv (s 5)) (rowv (p 0)) (rowv (p 1)) (rowv (p 2)) (rowv (p 3)) (rowv (p 4)) (rowv (p 5)) w
  simp only [row_xf] at h
  exact h
theorem ijoin_11 (s p : Fn11) (w : World) : Calls Try.prog 155 #[.agg #[.int .i64 (rowv (s 0)), .int .i64 (rowv (s 1)), .int .i64 (rowv (s 2)), .int .i64 (rowv (s 3)), .int .i64 (rowv (s 4)), .int .i64 (rowv (s 5))], .agg #[.int .i64 (rowv (p 0)), .int .i64 (rowv (p 1)), .int .i64 (rowv (p 2)), .int .i64 (rowv (p 3)), .int .i64 (rowv (p 4)), .int .i64 (rowv (p 5))]] w fun e w' => e = .returned (.agg #[.int .i64 (rowv (jf s p 0)), .int .i64 (rowv (jf s p 1)), .int .i64 (rowv (jf s p 2)), .int .i64 (rowv (jf s p 3)), .int .i64 (rowv (jf s p 4)), .int .i64 (rowv (jf s p 5))]) ∧ Below w.heap.size w w' := by
  have h := or_any (rowv (s 0)) (rowv (s 1)) (rowv (s 2)) (rowv (s 3)) (rowv (s 4)) (rowv (s 5)) (rowv (p 0)) (rowv (p 1)) (rowv (p 2)) (rowv (p 3)) (rowv (p 4)) (rowv (p 5)) w
  simp only [row_jf] at h
  exact h
theorem iwith_11 (s p : Fn11) (w : World) : Calls Try.prog 166 #[.agg #[.int .i64 (rowv (s 0)), .int .i64 (rowv (s 1)), .int .i64 (rowv (s 2)), .int .i64 (rowv (s 3)), .int .i64 (rowv (s 4)), .int .i64 (rowv (s 5))], .agg #[.int .i64 (rowv (p 0)), .int .i64 (rowv (p 1)), .int .i64 (rowv (p 2)), .int .i64 (rowv (p 3)), .int .i64 (rowv (p 4)), .int .i64 (rowv (p 5))]] w fun e w' => e = .returned (.agg #[.int .i64 (rowv (af s (nf p) 0)), .int .i64 (rowv (af s (nf p) 1)), .int .i64 (rowv (af s (nf p) 2)), .int .i64 (rowv (af s (nf p) 3)), .int .i64 (rowv (af s (nf p) 4)), .int .i64 (rowv (af s (nf p) 5))]) ∧ Below w.heap.size w w' := by
  refine (without_any (rowv (s 0)) (rowv (s 1)) (rowv (s 2)) (rowv (s 3)) (rowv (s 4)) (rowv (s 5)) (rowv (p 0)) (rowv (p 1)) (rowv (p 2)) (rowv (p 3)) (rowv (p 4)) (rowv (p 5)) w).mono ?_
  rintro e w' ⟨rfl, hb⟩
  exact ⟨by simp only [rowv, r6_dn11]; rfl, hb⟩
theorem lor_11 (s p : Fn11) (w : World) : Calls Try.prog 150 #[.agg #[.int .i64 (rowv (s 0)), .int .i64 (rowv (s 1)), .int .i64 (rowv (s 2)), .int .i64 (rowv (s 3)), .int .i64 (rowv (s 4)), .int .i64 (rowv (s 5))], .agg #[.int .i64 (rowv (p 0)), .int .i64 (rowv (p 1)), .int .i64 (rowv (p 2)), .int .i64 (rowv (p 3)), .int .i64 (rowv (p 4)), .int .i64 (rowv (p 5))]] w fun e w' => e = .returned (.agg #[.int .i64 (rowv (jf s p 0)), .int .i64 (rowv (jf s p 1)), .int .i64 (rowv (jf s p 2)), .int .i64 (rowv (jf s p 3)), .int .i64 (rowv (jf s p 4)), .int .i64 (rowv (jf s p 5))]) ∧ Below w.heap.size w w' := by
  have h := l2or_any (rowv (s 0)) (rowv (s 1)) (rowv (s 2)) (rowv (s 3)) (rowv (s 4)) (rowv (s 5)) (rowv (p 0)) (rowv (p 1)) (rowv (p 2)) (rowv (p 3)) (rowv (p 4)) (rowv (p 5)) w
  simp only [row_jf] at h
  exact h
theorem land_11 (s p : Fn11) (w : World) : Calls Try.prog 109 #[.agg #[.int .i64 (rowv (s 0)), .int .i64 (rowv (s 1)), .int .i64 (rowv (s 2)), .int .i64 (rowv (s 3)), .int .i64 (rowv (s 4)), .int .i64 (rowv (s 5))], .agg #[.int .i64 (rowv (p 0)), .int .i64 (rowv (p 1)), .int .i64 (rowv (p 2)), .int .i64 (rowv (p 3)), .int .i64 (rowv (p 4)), .int .i64 (rowv (p 5))]] w fun e w' => e = .returned (.agg #[.int .i64 (rowv (af s p 0)), .int .i64 (rowv (af s p 1)), .int .i64 (rowv (af s p 2)), .int .i64 (rowv (af s p 3)), .int .i64 (rowv (af s p 4)), .int .i64 (rowv (af s p 5))]) ∧ Below w.heap.size w w' := by
  have h := l2and_any (rowv (s 0)) (rowv (s 1)) (rowv (s 2)) (rowv (s 3)) (rowv (s 4)) (rowv (s 5)) (rowv (p 0)) (rowv (p 1)) (rowv (p 2)) (rowv (p 3)) (rowv (p 4)) (rowv (p 5)) w
  simp only [row_af] at h
  exact h
theorem lnot_11 (s : Fn11) (w : World) : Calls Try.prog 167 #[.agg #[.int .i64 (rowv (s 0)), .int .i64 (rowv (s 1)), .int .i64 (rowv (s 2)), .int .i64 (rowv (s 3)), .int .i64 (rowv (s 4)), .int .i64 (rowv (s 5))]] w fun e w' => e = .returned (.agg #[.int .i64 (rowv (nf s 0)), .int .i64 (rowv (nf s 1)), .int .i64 (rowv (nf s 2)), .int .i64 (rowv (nf s 3)), .int .i64 (rowv (nf s 4)), .int .i64 (rowv (nf s 5))]) ∧ Below w.heap.size w w' := by
  have h := l2not_any (rowv (s 0)) (rowv (s 1)) (rowv (s 2)) (rowv (s 3)) (rowv (s 4)) (rowv (s 5)) w
  simp only [row_nf] at h
  exact h
theorem lxor_11 (s p : Fn11) (w : World) : Calls Try.prog 160 #[.agg #[.int .i64 (rowv (s 0)), .int .i64 (rowv (s 1)), .int .i64 (rowv (s 2)), .int .i64 (rowv (s 3)), .int .i64 (rowv (s 4)), .int .i64 (rowv (s 5))], .agg #[.int .i64 (rowv (p 0)), .int .i64 (rowv (p 1)), .int .i64 (rowv (p 2)), .int .i64 (rowv (p 3)), .int .i64 (rowv (p 4)), .int .i64 (rowv (p 5))]] w fun e w' => e = .returned (.agg #[.int .i64 (rowv (xf s p 0)), .int .i64 (rowv (xf s p 1)), .int .i64 (rowv (xf s p 2)), .int .i64 (rowv (xf s p 3)), .int .i64 (rowv (xf s p 4)), .int .i64 (rowv (xf s p 5))]) ∧ Below w.heap.size w w' := by
  have h := l2xor_any (rowv (s 0)) (rowv (s 1)) (rowv (s 2)) (rowv (s 3)) (rowv (s 4)) (rowv (s 5)) (rowv (p 0)) (rowv (p 1)) (rowv (p 2)) (rowv (p 3)) (rowv (p 4)) (rowv (p 5)) w
  simp only [row_xf] at h
  exact h
theorem shby_11 (f : Nat → Nat → Bool) {x y : Nat} (hx : x < 6) (hy : y < 6) (w : World) : Calls Try.prog 156 #[.agg #[.int .i64 (rowv (f 0)), .int .i64 (rowv (f 1)), .int .i64 (rowv (f 2)), .int .i64 (rowv (f 3)), .int .i64 (rowv (f 4)), .int .i64 (rowv (f 5))], .agg #[.int .i64 (x : Int), .int .i64 (y : Int)]] w fun e w' => e = .returned (.agg #[.int .i64 (rowv (sf x y f 0)), .int .i64 (rowv (sf x y f 1)), .int .i64 (rowv (sf x y f 2)), .int .i64 (rowv (sf x y f 3)), .int .i64 (rowv (sf x y f 4)), .int .i64 (rowv (sf x y f 5))]) ∧ Below w.heap.size w w' := by
  have HF := Lib.hid (fun w => shifted_f f (x : Int) (y : Int) (WalkArith.wf_i64 (by omega)) (WalkArith.wf_i64 (by omega)) hx hy (by omega) (by omega) w)
  go_enter Try.func156, Try.ntmps156
  go_wp2_with fail
  generalize hW : (World.alloc _ _ : World) = W0
  have hB0 : Below w.heap.size w W0 := by rw [← hW]; (repeat (first | exact Below.refl _ _ | assumption | refine Below.setCell ?_ (by first | (simp; done) | (simp; omega)) _ | refine Below.alloc ?_ (by first | (simp; done) | (simp; omega)) _ | refine Below.drew ?_))
  have qz : W0.heap[(w.heap.size + 1 + 1 : Nat)]? = some oz := by
    rw [← hW]
    repeat (first | (refine alloc_at ?_; first | (simp; done) | (simp; omega)) | refine drew_row ?_ | refine alloc_past ?_ | assumption)
  clear hW
  refine (HF.out _).mono ?_
  rintro e W1 ⟨rfl, hb⟩
  have qz1 := rowk qz hb rfl
  have hB1 := below_of hB0 hb hB0.size
  clear hb hB0 qz
  unfold oz at qz1
  have z_c := fun j => cell_of_row W1 _ j _ _ _ qz1
  have z_f := fun j => frozen_of_row W1 _ j _ _ qz1
  go_wp2_with fail
  have qr := set6a (.int .i64 (rowv (sf x y f 0))) (.int .i64 (rowv (sf x y f 1))) (.int .i64 (rowv (sf x y f 2))) (.int .i64 (rowv (sf x y f 3))) (.int .i64 (rowv (sf x y f 4))) (.int .i64 (rowv (sf x y f 5))) qz1
  have hB2 := below6 (v0 := .int .i64 (rowv (sf x y f 0))) (v1 := .int .i64 (rowv (sf x y f 1))) (v2 := .int .i64 (rowv (sf x y f 2))) (v3 := .int .i64 (rowv (sf x y f 3))) (v4 := .int .i64 (rowv (sf x y f 4))) (v5 := .int .i64 (rowv (sf x y f 5))) hB1 (show w.heap.size ≤ w.heap.size + 1 + 1 by omega)
  clear z_c z_f qz1 hB1
  generalize (World.setCell _ _ _ : World) = X at qr hB2 ⊢
  have x_c := fun j => cell_of_row X _ j _ _ _ qr
  exact bodyPost_ret (v := .agg #[.int .i64 (rowv (sf x y f 0)), .int .i64 (rowv (sf x y f 1)), .int .i64 (rowv (sf x y f 2)), .int .i64 (rowv (sf x y f 3)), .int .i64 (rowv (sf x y f 4)), .int .i64 (rowv (sf x y f 5))]) (by simp [results, Try.results156, go_sem, x_c]) rfl ⟨rfl, hB2⟩
/-- A sheet pressed in one of the three ways. -/
def wy11 (k : Int) (f q : Fn11) : Fn11 := if k = 1 then xf f q else if k = 2 then jf f q else af f (nf q)
/-- The sheet behind a step. -/
def nx11 (F : List Fn11) (f : Fn11) (p : S11) : Fn11 := wy11 p.k f (sf p.x.toNat p.y.toNat (F.getD p.s.toNat (fun _ _ => false)))
/-- The sheet behind the first steps. -/
def at11 (F : List Fn11) (st : List S11) (f : Fn11) (i : Nat) : Fn11 := (st.take i).foldl (nx11 F) f
theorem at11_zero (F : List Fn11) (st : List S11) (f : Fn11) : at11 F st f 0 = f := by simp [at11]
theorem at11_succ (F : List Fn11) (st : List S11) (f : Fn11) {i : Nat} (h : i < st.length) : at11 F st f (i + 1) = nx11 F (at11 F st f i) st[i] := by
  unfold at11
  rw [List.take_add_one, List.getElem?_eq_getElem h, List.foldl_append]
  rfl
/-- The numbers of a sheet of cells. -/
def t11 (f : Fn11) : H11 := (rowv (f 0), rowv (f 1), rowv (f 2), rowv (f 3), rowv (f 4), rowv (f 5))
/-- Whether a step is valid. -/
def okS (n : Nat) (p : S11) : Bool := decide (1 ≤ p.k) && decide (p.k ≤ 3) && (decide (0 ≤ p.s) && decide (p.s < n)) && okc p.x p.y
def okH (t : H11) : Bool := ok t.1 && ok t.2.1 && ok t.2.2.1 && ok t.2.2.2.1 && ok t.2.2.2.2.1 && ok t.2.2.2.2.2
theorem okH_of {t : H11} (h : okH t = true) : ∃ f : Fn11, t = t11 f := by
  obtain ⟨a, b, c, d, e, f⟩ := t
  obtain ⟨g, h0, h1, h2, h3, h4, h5⟩ := sheet_bits a b c d e f h
  exact ⟨g, by unfold t11; rw [h0, h1, h2, h3, h4, h5]⟩
theorem okH_t (f : Fn11) : okH (t11 f) = true := by
  unfold okH t11
  simp only [rowv_ok, Bool.and_self]
/-- Whether a plan is valid. -/
def okP (s : H11) (l : List H11) (st : List S11) : Bool := okH s && decide (l.length ≤ 4) && decide (st.length ≤ 40) && l.all okH && st.all (okS l.length)
theorem okP_parts {s : H11} {l : List H11} {st : List S11} (h : okP s l st = true) : okH s = true ∧ l.length ≤ 4 ∧ st.length ≤ 40 ∧ (∀ t ∈ l, okH t = true) ∧ ∀ p ∈ st, okS l.length p = true := by
  unfold okP at h
  simp only [Bool.and_eq_true, decide_eq_true_eq, List.all_eq_true] at h
  exact ⟨h.1.1.1.1, h.1.1.1.2, h.1.1.2, h.1.2, h.2⟩
theorem all_t11 : ∀ (l : List H11), (∀ t ∈ l, okH t = true) → ∃ F : List Fn11, l = F.map t11
  | [], _ => ⟨[], rfl⟩
  | t :: l, h => by
    obtain ⟨f, hf⟩ := okH_of (h t (List.mem_cons_self ..))
    obtain ⟨F, hF⟩ := all_t11 l (fun u hu => h u (List.mem_cons_of_mem _ hu))
    exact ⟨f :: F, by rw [hf, hF]; rfl⟩
theorem okP_get {s : H11} {l : List H11} {st : List S11} (h : okP s l st = true) : ∃ (f : Fn11) (F : List Fn11), s = t11 f ∧ l = F.map t11 ∧ F.length ≤ 4 ∧ st.length ≤ 40 ∧ ∀ p ∈ st, okS F.length p = true := by
  obtain ⟨h1, h2, h3, h4, h5⟩ := okP_parts h
  obtain ⟨f, rfl⟩ := okH_of h1
  obtain ⟨F, rfl⟩ := all_t11 l h4
  exact ⟨f, F, rfl, rfl, by simpa using h2, h3, by simpa using h5⟩
theorem okP_of {f : Fn11} {F : List Fn11} {st : List S11} (h2 : F.length ≤ 4) (h3 : st.length ≤ 40) (h5 : ∀ p ∈ st, okS F.length p = true) : okP (t11 f) (F.map t11) st = true := by
  unfold okP
  simp only [Bool.and_eq_true, decide_eq_true_eq, List.all_eq_true, List.length_map]
  refine ⟨⟨⟨⟨okH_t f, h2⟩, h3⟩, fun t ht => ?_⟩, h5⟩
  obtain ⟨g, _, rfl⟩ := List.mem_map.mp ht
  exact okH_t g
/-- A valid step in plain numbers. -/
theorem okS_get {n : Nat} {p : S11} (h : okS n p = true) : 1 ≤ p.k ∧ p.k ≤ 3 ∧ ∃ s x y : Nat, p.s = s ∧ p.x = x ∧ p.y = y ∧ s < n ∧ x < 6 ∧ y < 6 := by
  unfold okS okc at h
  simp only [Bool.and_eq_true, decide_eq_true_eq] at h
  obtain ⟨⟨⟨h1, h2⟩, h3, h4⟩, ⟨h5, h6⟩, h7, h8⟩ := h
  exact ⟨h1, h2, p.s.toNat, p.x.toNat, p.y.toNat, by omega, by omega, by omega, by omega, by omega, by omega⟩
theorem nx11_at (F : List Fn11) (f : Fn11) (k : Int) {s x y : Nat} (h : s < F.length) : nx11 F f ⟨k, s, x, y⟩ = wy11 k f (sf x y F[s]) := by
  unfold nx11
  simp [h]
end Go.Proofs.Ytnkjamdpafpcpaa
