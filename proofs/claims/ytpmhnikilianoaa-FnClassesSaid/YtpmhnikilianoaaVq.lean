/- CONTRACTS: vCut, a suffix of a code and one byte more. -/
import Derived.Test.YtpmhnikilianoaaDv
import Derived.Maps.AppendAt
import Derived.Deep.AppendLies
import Derived.Laws.AppendOwnNone
import Derived.OwnWalk
import Derived.WalkKit
import Derived.ProofKit
import Derived.OpenShut
import Derived.Lib.Hide
import Derived.WalkSpells
import Derived.Below
import Derived.BigQuiet
import Derived.LoopN
namespace Go.Proofs.Ytpmhnikilianoaa
open Go.ChangeShapes Go.WideShapes Go.ChangeAt Go.RowKit
set_option linter.unusedVariables false
theorem infoB : (Try.prog.info? 5).map (fun i => (i.zero, i.size, i.bytes)) = some (some (.int .u8 0), 1, 1) := by kernel_rfl
/-- The bytes of the suffix. -/
def vsuf (zs : List Int) (n m : Nat) : List Int := (List.range m).map fun j => zs.getD (n + j) 0
theorem vsuf_len (zs : List Int) (n m : Nat) : (vsuf zs n m).length = m := by simp [vsuf]
theorem vsuf_at (zs : List Int) (n m : Nat) {j : Nat} (h : j < m) : (vsuf zs n m)[j]? = some (zs.getD (n + j) 0) := by simp [vsuf, h]
def vb (l : List Int) : List Value := l.map (Value.int .u8)
theorem vb_one (l : List Int) : ∀ u ∈ vb l, u.oneCell' = true := by
  intro u hu
  obtain ⟨x, _, rfl⟩ := List.mem_map.mp hu
  rfl
def VcPost (w : World) (e : Ending) (w' : World) : Prop := ∃ g cap zs, e = .returned (.slice (some ⟨g, 0, none⟩) zs.length cap) ∧ zs.length ≤ 65536 ∧ CodeIn w' w'.heap.size (some ⟨g, 0, none⟩) zs.length zs ∧ Below w.heap.size w w'
theorem own_byte {W : World} {B g n cap j : Nat} {xs : List Value} (h : W.ownsRow B 5 1 (.slice (some ⟨g, 0, none⟩) n cap) n xs) {u : Value} (hx : xs[j]? = some u) : W.cell? ⟨g, j, none⟩ = some u := by
  rcases h.2 with ⟨e1, _⟩ | ⟨g2, cap2, cur, e1, hb, hh, _, _, _, ht⟩
  · exact absurd e1 (by simp)
  · simp only [Value.slice.injEq, Option.some.injEq, Addr.mk.injEq, and_true, true_and] at e1
    obtain ⟨rfl, rfl⟩ := e1
    have hj : j < n * 1 := by
      have := (List.getElem?_eq_some_iff.mp hx).1
      rw [h.1] at this; exact this
    rw [← ht, List.getElem?_take, if_pos hj, Array.getElem?_toList] at hx
    rw [cell_of_row W g j _ _ _ hh]
    exact hx
theorem vc_fin {w w' : World} {g cap : Nat} {l : List Int} {x : Int} (hl : l.length + 1 ≤ 65536) (hr : ∀ y ∈ l, 0 ≤ y ∧ y ≤ 255) (hx : 0 ≤ x ∧ x ≤ 255) (ho : w'.ownsRow w.heap.size 5 1 (.slice (some ⟨g, 0, none⟩) (l.length + 1) cap) (l.length + 1) (vb l ++ [.int .u8 x])) (hb : Below w.heap.size w w') : VcPost w (.returned (.slice (some ⟨g, 0, none⟩) (l.length + 1) cap)) w' := by
  have el : (l ++ [x]).length = l.length + 1 := by simp
  refine ⟨g, cap, l ++ [x], by rw [el], by rw [el]; exact hl, ?_, hb⟩
  intro k hk
  rw [el] at hk
  have hv : (vb l ++ [.int .u8 x])[k]? = some (.int .u8 ((l ++ [x]).getD k 0)) := by
    have : vb l ++ [Value.int .u8 x] = (l ++ [x]).map (Value.int .u8) := by simp [vb]
    rw [this, List.getElem?_map, List.getD_eq_getElem?_getD, List.getElem?_eq_getElem (by rw [el]; exact hk)]
    rfl
  have hm : 0 ≤ (l ++ [x]).getD k 0 ∧ (l ++ [x]).getD k 0 ≤ 255 := by
    rw [List.getD_eq_getElem?_getD, List.getElem?_eq_getElem (by rw [el]; exact hk)]
    have h2 : (l ++ [x])[k]'(by rw [el]; exact hk) ∈ l ++ [x] := List.getElem_mem _
    rcases List.mem_append.mp h2 with h3 | h3
    · exact hr _ h3
    · rw [List.mem_singleton.mp h3]; exact hx
  exact ⟨g, 0, rfl, (ho.lt g rfl).2, by rw [Nat.zero_add]; exact own_byte ho hv, hm.1, hm.2⟩
set_option maxHeartbeats 2000000 in
theorem vcut_pos (B b o n len cap : Nat) (zs : List Int) (w : World) (h : CodeIn w B (some ⟨b, o, none⟩) len zs) (hB : B ≤ w.heap.size) (hl : len ≤ 65536) (hc : len ≤ cap) (hcm : cap ≤ maxLen) (hn1 : 1 ≤ n) (hn2 : n ≤ 2) (hlt : n < len) : Calls Try.prog 64 #[.slice (some ⟨b, o, none⟩) len cap, .int .i64 (n : Int)] w (VcPost w) := by
  obtain ⟨i0, hi, hz0, hz1, hz2⟩ := info_parts infoB
  have H := Lib.hid h
  clear h
  unfold maxLen at hcm
  have hg : ¬ ((n : Int) > len) := by omega
  have hg' : (n : Int) ≤ len := by omega
  have hnc : ¬ (cap = n) := by omega
  have HO := Lib.hid (World.ownsRow_lit (base := w.heap.size) (e := 5) (size := 1) w #[] 0 (Nat.le_refl _) (by unfold maxLen; omega) rfl)
  have hc2 : IntKind.u8.wrap (n : Int) = (n : Int) := by rw [IntKind.wrap_u8]; omega
  have HN := Lib.hid (show ∀ j u, (vb (vsuf zs n (len - n)))[j]? = some u → (w.alloc (.cells #[] 5)).cell? ((⟨b, o + n, none⟩ : Addr).add j) = some u from fun j u hu => by
    have hj : j < len - n := by
      have := (List.getElem?_eq_some_iff.mp hu).1
      simpa [vb, vsuf_len] using this
    have hu2 : u = .int .u8 (zs.getD (n + j) 0) := by
      unfold vb at hu
      rw [List.getElem?_map, vsuf_at zs n _ hj] at hu
      simpa using hu.symm
    obtain ⟨b', o', e1, e2, e3, _⟩ := H.out (n + j) (by omega)
    cases e1
    have ea : (⟨b, o + n, none⟩ : Addr).add j = ⟨b, o + (n + j), none⟩ := by unfold Addr.add; split <;> simp_all [Nat.add_assoc]
    rw [ea, hu2, World.cell?_alloc_lt _ _ _ (by show b < w.heap.size; omega)]
    exact e3)
  have HR := Lib.hid (show ∀ y ∈ vsuf zs n (len - n), 0 ≤ y ∧ y ≤ 255 from fun y hy => by
    obtain ⟨j, hj, rfl⟩ := List.mem_map.mp hy
    obtain ⟨_, _, _, _, _, h1, h2⟩ := H.out (n + j) (by have := List.mem_range.mp hj; omega)
    exact ⟨h1, h2⟩)
  have hvl := vsuf_len zs n (len - n)
  have HL := Lib.hid hvl
  clear hvl H
  go_enter Try.func64, Try.ntmps64
  go_wp2_with (first | (at_builtin; refine wpList_append_lies _ rfl (.tmp 11) (.tmp 14) 68 rfl w.heap.size 5 i0 (.int .u8 0) 1 1 Try.underlying68 hi hz0 hz1 hz2 rfl (by decide) (.slice (some ⟨w.heap.size, 0, none⟩) 0 0) 0 [] rfl HO.out ⟨b, o + n, none⟩ (len - n) (cap - n) (vb (vsuf zs n (len - n))) (by rfl) (by simp [vb, vsuf_len]) HN.out (vb_one _) (by omega) (by unfold maxLen; omega) (by omega) (by simp) _ rfl ?_; intro g1 cap1 w1 hown1 hgr1 hat1 hlt1; simp only [Nat.zero_add, List.nil_append] at hown1 ⊢; have HO1 := Lib.hid (hown1.alloc (.cells #[.int .u8 (n : Int)] 5)); have hgl := (hown1.lt g1 rfl).1; have HB1 := Lib.hid (((Below.refl w.heap.size w).alloc (Nat.le_refl _) (.cells #[] 5)).grown hgr1 (by simp) (fun k hk => by simp [Value.ownBlock] at hk; omega)); clear hown1 hgr1 hat1 HO HN) | (at_builtin; refine wpList_append_lies _ rfl (.tmp 15) (.tmp 18) 68 rfl w.heap.size 5 i0 (.int .u8 0) 1 1 Try.underlying68 hi hz0 hz1 hz2 rfl (by decide) (.slice (some ⟨g1, 0, none⟩) (len - n) cap1) (len - n) (vb (vsuf zs n (len - n))) rfl HO1.out ⟨w1.heap.size, 0, none⟩ 1 1 [.int .u8 (n : Int)] (by rfl) rfl (cell_one_new _ _ _) (by simp; rfl) (by decide) (by unfold maxLen; omega) (by omega) (by have := HB1.out.size; simp; omega) _ rfl ?_; intro g2 cap2 w2 hown2 hgr2 hat2 hlt2))
  go_ret
  have HB2 : Below w.heap.size w w2 := (HB1.out.alloc HB1.out.size (.cells #[.int .u8 (n : Int)] 5)).grown hgr2 (by have := HB1.out.size; simp; omega) (fun k hk => by simp [Value.ownBlock] at hk; omega)
  have hf := vc_fin (w := w) (w' := w2) (g := g2) (cap := cap2) (l := vsuf zs n (len - n)) (x := (n : Int)) (by rw [HL.out]; omega) HR.out (by omega) (by rw [HL.out]; exact hown2) HB2
  rw [HL.out] at hf
  exact hf
theorem own_some {W : World} {B : Nat} {v : Value} (h : W.ownsRow B 5 1 v (0 + 0) ([] ++ [])) (hv : v ≠ .slice none 0 0) : ∃ g cap, v = .slice (some ⟨g, 0, none⟩) 0 cap ∧ W.ownsRow B 5 1 (.slice (some ⟨g, 0, none⟩) 0 cap) 0 [] := by
  rcases h.2 with ⟨e, _⟩ | ⟨g, cap, cur, e, hr⟩
  · exact absurd e hv
  · exact ⟨g, cap, e, by rw [← e]; exact h⟩
set_option maxHeartbeats 4000000 in
theorem vcut_zero (b o n len cap : Nat) (w : World) (hn1 : 1 ≤ n) (hn2 : n ≤ 2) (hlt : len ≤ n) (hc : len ≤ cap) (hcm : cap ≤ maxLen) : Calls Try.prog 64 #[.slice (some ⟨b, o, none⟩) len cap, .int .i64 (n : Int)] w (VcPost w) := by
  obtain ⟨i0, hi, hz0, hz1, hz2⟩ := info_parts infoB
  unfold maxLen at hcm
  have HO := Lib.hid (World.ownsRow_lit (base := w.heap.size) (e := 5) (size := 1) w #[] 0 (Nat.le_refl _) (by unfold maxLen; omega) rfl)
  have hc2 : IntKind.u8.wrap (len : Int) = (len : Int) := by rw [IntKind.wrap_u8]; omega
  have hl0 : (0 : Int) ≤ len := by omega
  have hlc : (len : Int) ≤ cap := by omega
  have hcm' : (cap : Int) ≤ 9223372036854775807 := by omega
  rcases Nat.lt_or_eq_of_le hlt with hgt | hgt
  · have hg : (n : Int) > len := by omega
    have hg' : (len : Int) < n := by omega
    rcases Nat.lt_or_eq_of_le hc with hcl | hcl
    · have hnc : ¬ (cap = len) := by omega
      go_enter Try.func64, Try.ntmps64
      go_wp2_with (first | (at_builtin; refine wpList_append_own _ rfl (.tmp 11) (.tmp 14) 68 rfl w.heap.size 5 i0 (.int .u8 0) 1 1 Try.underlying68 hi hz0 hz1 hz2 rfl (by decide) (.slice (some ⟨w.heap.size, 0, none⟩) 0 0) 0 [] rfl HO.out _ 0 _ [] (by rfl) rfl (by simp) (by simp) (by unfold maxLen; omega) (by omega) (by simp) ?_; intro v1 w1 hown1 hgr1 hn1; obtain ⟨g1, cap1, rfl, hown2⟩ := own_some hown1 (fun e => by have := (hn1.mp e).1; simp at this); have HO1 := Lib.hid (hown2.alloc (.cells #[.int .u8 (len : Int)] 5)); have HB1 := Lib.hid (((Below.refl w.heap.size w).alloc (Nat.le_refl _) (.cells #[] 5)).grown hgr1 (by simp) (fun k hk => by simp [Value.ownBlock] at hk; omega)); have hgl := Lib.hid (hown2.lt g1 rfl).1; clear hown1 hown2 hgr1 hn1 HO) | (at_builtin; refine wpList_append_lies _ rfl (.tmp 15) (.tmp 18) 68 rfl w.heap.size 5 i0 (.int .u8 0) 1 1 Try.underlying68 hi hz0 hz1 hz2 rfl (by decide) (.slice (some ⟨g1, 0, none⟩) 0 cap1) 0 [] rfl HO1.out ⟨w1.heap.size, 0, none⟩ 1 1 [.int .u8 (len : Int)] (by rfl) rfl (cell_one_new _ _ _) (by simp; rfl) (by decide) (by unfold maxLen; omega) (by omega) (by have := HB1.out.size; simp; omega) _ rfl ?_; intro g2 cap2 w2 hown2 hgr2 hat2 hlt2))
      go_ret
      have HB2 : Below w.heap.size w w2 := (HB1.out.alloc HB1.out.size (.cells #[.int .u8 (len : Int)] 5)).grown hgr2 (by have := HB1.out.size; simp; omega) (fun k hk => by simp [Value.ownBlock] at hk; have := hgl.out; omega)
      exact vc_fin (w := w) (w' := w2) (g := g2) (cap := cap2) (l := []) (x := (len : Int)) (by simp) (by simp) (by omega) hown2 HB2
    · subst hcl
      go_enter Try.func64, Try.ntmps64
      go_wp2_with (first | (at_builtin; refine wpList_append_own _ rfl (.tmp 11) (.tmp 14) 68 rfl w.heap.size 5 i0 (.int .u8 0) 1 1 Try.underlying68 hi hz0 hz1 hz2 rfl (by decide) (.slice (some ⟨w.heap.size, 0, none⟩) 0 0) 0 [] rfl HO.out _ 0 _ [] (by rfl) rfl (by simp) (by simp) (by unfold maxLen; omega) (by omega) (by simp) ?_; intro v1 w1 hown1 hgr1 hn1; obtain ⟨g1, cap1, rfl, hown2⟩ := own_some hown1 (fun e => by have := (hn1.mp e).1; simp at this); have HO1 := Lib.hid (hown2.alloc (.cells #[.int .u8 (len : Int)] 5)); have HB1 := Lib.hid (((Below.refl w.heap.size w).alloc (Nat.le_refl _) (.cells #[] 5)).grown hgr1 (by simp) (fun k hk => by simp [Value.ownBlock] at hk; omega)); have hgl := Lib.hid (hown2.lt g1 rfl).1; clear hown1 hown2 hgr1 hn1 HO) | (at_builtin; refine wpList_append_lies _ rfl (.tmp 15) (.tmp 18) 68 rfl w.heap.size 5 i0 (.int .u8 0) 1 1 Try.underlying68 hi hz0 hz1 hz2 rfl (by decide) (.slice (some ⟨g1, 0, none⟩) 0 cap1) 0 [] rfl HO1.out ⟨w1.heap.size, 0, none⟩ 1 1 [.int .u8 (len : Int)] (by rfl) rfl (cell_one_new _ _ _) (by simp; rfl) (by decide) (by unfold maxLen; omega) (by omega) (by have := HB1.out.size; simp; omega) _ rfl ?_; intro g2 cap2 w2 hown2 hgr2 hat2 hlt2))
      go_ret
      have HB2 : Below w.heap.size w w2 := (HB1.out.alloc HB1.out.size (.cells #[.int .u8 (len : Int)] 5)).grown hgr2 (by have := HB1.out.size; simp; omega) (fun k hk => by simp [Value.ownBlock] at hk; have := hgl.out; omega)
      exact vc_fin (w := w) (w' := w2) (g := g2) (cap := cap2) (l := []) (x := (len : Int)) (by simp) (by simp) (by omega) hown2 HB2
  · subst hgt
    rcases Nat.lt_or_eq_of_le hc with hcl | hcl
    · have hnc : ¬ (cap = len) := by omega
      go_enter Try.func64, Try.ntmps64
      go_wp2_with (first | (at_builtin; refine wpList_append_own _ rfl (.tmp 11) (.tmp 14) 68 rfl w.heap.size 5 i0 (.int .u8 0) 1 1 Try.underlying68 hi hz0 hz1 hz2 rfl (by decide) (.slice (some ⟨w.heap.size, 0, none⟩) 0 0) 0 [] rfl HO.out _ 0 _ [] (by rfl) rfl (by simp) (by simp) (by unfold maxLen; omega) (by omega) (by simp) ?_; intro v1 w1 hown1 hgr1 hn1; obtain ⟨g1, cap1, rfl, hown2⟩ := own_some hown1 (fun e => by have := (hn1.mp e).1; simp at this); have HO1 := Lib.hid (hown2.alloc (.cells #[.int .u8 (len : Int)] 5)); have HB1 := Lib.hid (((Below.refl w.heap.size w).alloc (Nat.le_refl _) (.cells #[] 5)).grown hgr1 (by simp) (fun k hk => by simp [Value.ownBlock] at hk; omega)); have hgl := Lib.hid (hown2.lt g1 rfl).1; clear hown1 hown2 hgr1 hn1 HO) | (at_builtin; refine wpList_append_lies _ rfl (.tmp 15) (.tmp 18) 68 rfl w.heap.size 5 i0 (.int .u8 0) 1 1 Try.underlying68 hi hz0 hz1 hz2 rfl (by decide) (.slice (some ⟨g1, 0, none⟩) 0 cap1) 0 [] rfl HO1.out ⟨w1.heap.size, 0, none⟩ 1 1 [.int .u8 (len : Int)] (by rfl) rfl (cell_one_new _ _ _) (by simp; rfl) (by decide) (by unfold maxLen; omega) (by omega) (by have := HB1.out.size; simp; omega) _ rfl ?_; intro g2 cap2 w2 hown2 hgr2 hat2 hlt2))
      go_ret
      have HB2 : Below w.heap.size w w2 := (HB1.out.alloc HB1.out.size (.cells #[.int .u8 (len : Int)] 5)).grown hgr2 (by have := HB1.out.size; simp; omega) (fun k hk => by simp [Value.ownBlock] at hk; have := hgl.out; omega)
      exact vc_fin (w := w) (w' := w2) (g := g2) (cap := cap2) (l := []) (x := (len : Int)) (by simp) (by simp) (by omega) hown2 HB2
    · subst hcl
      go_enter Try.func64, Try.ntmps64
      go_wp2_with (first | (at_builtin; refine wpList_append_own _ rfl (.tmp 11) (.tmp 14) 68 rfl w.heap.size 5 i0 (.int .u8 0) 1 1 Try.underlying68 hi hz0 hz1 hz2 rfl (by decide) (.slice (some ⟨w.heap.size, 0, none⟩) 0 0) 0 [] rfl HO.out _ 0 _ [] (by rfl) rfl (by simp) (by simp) (by unfold maxLen; omega) (by omega) (by simp) ?_; intro v1 w1 hown1 hgr1 hn1; obtain ⟨g1, cap1, rfl, hown2⟩ := own_some hown1 (fun e => by have := (hn1.mp e).1; simp at this); have HO1 := Lib.hid (hown2.alloc (.cells #[.int .u8 (len : Int)] 5)); have HB1 := Lib.hid (((Below.refl w.heap.size w).alloc (Nat.le_refl _) (.cells #[] 5)).grown hgr1 (by simp) (fun k hk => by simp [Value.ownBlock] at hk; omega)); have hgl := Lib.hid (hown2.lt g1 rfl).1; clear hown1 hown2 hgr1 hn1 HO) | (at_builtin; refine wpList_append_lies _ rfl (.tmp 15) (.tmp 18) 68 rfl w.heap.size 5 i0 (.int .u8 0) 1 1 Try.underlying68 hi hz0 hz1 hz2 rfl (by decide) (.slice (some ⟨g1, 0, none⟩) 0 cap1) 0 [] rfl HO1.out ⟨w1.heap.size, 0, none⟩ 1 1 [.int .u8 (len : Int)] (by rfl) rfl (cell_one_new _ _ _) (by simp; rfl) (by decide) (by unfold maxLen; omega) (by omega) (by have := HB1.out.size; simp; omega) _ rfl ?_; intro g2 cap2 w2 hown2 hgr2 hat2 hlt2))
      go_ret
      have HB2 : Below w.heap.size w w2 := (HB1.out.alloc HB1.out.size (.cells #[.int .u8 (len : Int)] 5)).grown hgr2 (by have := HB1.out.size; simp; omega) (fun k hk => by simp [Value.ownBlock] at hk; have := hgl.out; omega)
      exact vc_fin (w := w) (w' := w2) (g := g2) (cap := cap2) (l := []) (x := (len : Int)) (by simp) (by simp) (by omega) hown2 HB2
set_option maxRecDepth 8000 in
set_option maxHeartbeats 1000000 in
theorem vcut_none (n : Nat) (w : World) (hn1 : 1 ≤ n) (hn2 : n ≤ 2) : Calls Try.prog 64 #[.slice none 0 0, .int .i64 (n : Int)] w (VcPost w) := by
  obtain ⟨i0, hi, hz0, hz1, hz2⟩ := info_parts infoB
  have HO := Lib.hid (World.ownsRow_lit (base := w.heap.size) (e := 5) (size := 1) w #[] 0 (Nat.le_refl _) (by unfold maxLen; omega) rfl)
  have HO1 := Lib.hid (HO.out.alloc (.cells #[.int .u8 0] 5))
  have HN1 := Lib.hid (cell_one_new (w.alloc (.cells #[] 5)) (.int .u8 0) 5)
  rw [World.size_alloc] at HN1
  have hg : (n : Int) > 0 := by omega
  have hg' : (0 : Int) < n := by omega
  go_enter Try.func64, Try.ntmps64
  go_wp2_with (first | (at_builtin; refine wpList_append_own_none _ rfl (.tmp 11) (.tmp 14) 68 rfl w.heap.size 5 i0 1 Try.underlying68 hi (.slice (some ⟨w.heap.size, 0, none⟩) 0 0) 0 [] rfl HO.out (by rfl) ?_) | (at_builtin; refine wpList_append_lies _ rfl (.tmp 15) (.tmp 18) 68 rfl w.heap.size 5 i0 (.int .u8 0) 1 1 Try.underlying68 hi hz0 hz1 hz2 rfl (by decide) (.slice (some ⟨w.heap.size, 0, none⟩) 0 0) 0 [] rfl HO1.out ⟨w.heap.size + 1, 0, none⟩ 1 1 [.int .u8 0] (by rfl) rfl HN1.out (by simp; rfl) (by decide) (by unfold maxLen; omega) (by omega) (by simp; omega) _ rfl ?_; intro g2 cap2 w2 hown2 hgr2 hat2 hlt2))
  go_ret
  exact vc_fin (w := w) (w' := w2) (g := g2) (cap := cap2) (l := []) (x := 0) (by simp) (by simp) (by omega) hown2 (Below.grown (by (repeat (first | exact Below.refl _ _ | assumption | refine Below.setCell ?_ (by first | (simp; done) | (simp; omega)) _ | refine Below.alloc ?_ (by first | (simp; done) | (simp; omega)) _ | refine Below.drew ?_))) hgr2 (by simp; omega) (fun k hk => by simp [Value.ownBlock] at hk; omega))
end Go.Proofs.Ytpmhnikilianoaa
