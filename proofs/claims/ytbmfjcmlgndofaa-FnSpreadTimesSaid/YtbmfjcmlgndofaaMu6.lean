/- MERGED, for one claim's sake: Vq, Vr, Bg7, Dy, Dz. -/
import Derived.Test.YtbmfjcmlgndofaaDv
import Derived.Test.YtbmfjcmlgndofaaDu
import Derived.Maps.AppendAt
import Derived.Deep.AppendLies
import Derived.Laws.AppendOwnNone
import Derived.OwnWalk
import Derived.WalkKit
import Derived.ProofKit
import Derived.OpenShut
import Derived.Lib.Hide
import Derived.WalkSpells
import Derived.Below
import Derived.BigQuiet
import Derived.LoopN
import Derived.Deep.RegionHeld3
namespace Go.Proofs.Ytbmfjcmlgndofaa
open Go.ChangeShapes Go.WideShapes Go.ChangeAt Go.RowKit
set_option linter.unusedVariables false
/- Vq -/
theorem infoB : (Try.prog.info? 5).map (fun i => (i.zero, i.size, i.bytes)) = some (some (.int .u8 0), 1, 1) := by kernel_rfl
/-- The bytes of the suffix. -/
def vsuf (zs : List Int) (n m : Nat) : List Int := (List.range m).map fun j => zs.getD (n + j) 0
theorem vsuf_len (zs : List Int) (n m : Nat) : (vsuf zs n m).length = m := by simp [vsuf]
theorem vsuf_at (zs : List Int) (n m : Nat) {j : Nat} (h : j < m) : (vsuf zs n m)[j]? = some (zs.getD (n + j) 0) := by simp [vsuf, h]
def vb (l : List Int) : List Value := l.map (Value.int .u8)
theorem vb_one (l : List Int) : ∀ u ∈ vb l, u.oneCell' = true := by
  intro u hu
  obtain ⟨x, _, rfl⟩ := List.mem_map.mp hu
  rfl
def VcPost (w : World) (e : Ending) (w' : World) : Prop := ∃ g cap zs, e = .returned (.slice (some ⟨g, 0, none⟩) zs.length cap) ∧ zs.length ≤ 65536 ∧ CodeIn w' w'.heap.size (some ⟨g, 0, none⟩) zs.length zs ∧ Below w.heap.size w w'
theorem own_byte {W : World} {B g n cap j : Nat} {xs : List Value} (h : W.ownsRow B 5 1 (.slice (some ⟨g, 0, none⟩) n cap) n xs) {u : Value} (hx : xs[j]? = some u) : W.cell? ⟨g, j, none⟩ = some u := by
  rcases h.2 with ⟨e1, _⟩ | ⟨g2, cap2, cur, e1, hb, hh, _, _, _, ht⟩
  · exact absurd e1 (by simp)
  · simp only [Value.slice.injEq, Option.some.injEq, Addr.mk.injEq, and_true, true_and] at e1
    obtain ⟨rfl, rfl⟩ := e1
    have hj : j < n * 1 := by
      have := (List.getElem?_eq_some_iff.mp hx).1
      rw [h.1] at this; exact this
    rw [← ht, List.getElem?_take, if_pos hj, Array.getElem?_toList] at hx
    rw [cell_of_row W g j _ _ _ hh]
    exact hx
theorem vc_fin {w w' : World} {g cap : Nat} {l : List Int} {x : Int} (hl : l.length + 1 ≤ 65536) (hr : ∀ y ∈ l, 0 ≤ y ∧ y ≤ 255) (hx : 0 ≤ x ∧ x ≤ 255) (ho : w'.ownsRow w.heap.size 5 1 (.slice (some ⟨g, 0, none⟩) (l.length + 1) cap) (l.length + 1) (vb l ++ [.int .u8 x])) (hb : Below w.heap.size w w') : VcPost w (.returned (.slice (some ⟨g, 0, none⟩) (l.length + 1) cap)) w' := by
  have el : (l ++ [x]).length = l.length + 1 := by simp
  refine ⟨g, cap, l ++ [x], by rw [el], by rw [el]; exact hl, ?_, hb⟩
  intro k hk
  rw [el] at hk
  have hv : (vb l ++ [.int .u8 x])[k]? = some (.int .u8 ((l ++ [x]).getD k 0)) := by
    have : vb l ++ [Value.int .u8 x] = (l ++ [x]).map (Value.int .u8) := by simp [vb]
    rw [this, List.getElem?_map, List.getD_eq_getElem?_getD, List.getElem?_eq_getElem (by rw [el]; exact hk)]
    rfl
  have hm : 0 ≤ (l ++ [x]).getD k 0 ∧ (l ++ [x]).getD k 0 ≤ 255 := by
    rw [List.getD_eq_getElem?_getD, List.getElem?_eq_getElem (by rw [el]; exact hk)]
    have h2 : (l ++ [x])[k]'(by rw [el]; exact hk) ∈ l ++ [x] := List.getElem_mem _
    rcases List.mem_append.mp h2 with h3 | h3
    · exact hr _ h3
    · rw [List.mem_singleton.mp h3]; exact hx
  exact ⟨g, 0, rfl, (ho.lt g rfl).2, by rw [Nat.zero_add]; exact own_byte ho hv, hm.1, hm.2⟩
set_option maxHeartbeats 2000000 in
theorem vcut_pos (B b o n len cap : Nat) (zs : List Int) (w : World) (h : CodeIn w B (some ⟨b, o, none⟩) len zs) (hB : B ≤ w.heap.size) (hl : len ≤ 65536) (hc : len ≤ cap) (hcm : cap ≤ maxLen) (hn1 : 1 ≤ n) (hn2 : n ≤ 2) (hlt : n < len) : Calls Try.prog 69 #[.slice (some ⟨b, o, none⟩) len cap, .int .i64 (n : Int)] w (VcPost w) := by
  obtain ⟨i0, hi, hz0, hz1, hz2⟩ := info_parts infoB
  have H := Lib.hid h
  clear h
  unfold maxLen at hcm
  have hg : ¬ ((n : Int) > len) := by omega
  have hg' : (n : Int) ≤ len := by omega
  have hnc : ¬ (cap = n) := by omega
  have HO := Lib.hid (World.ownsRow_lit (base := w.heap.size) (e := 5) (size := 1) w #[] 0 (Nat.le_refl _) (by unfold maxLen; omega) rfl)
  have hc2 : IntKind.u8.wrap (n : Int) = (n : Int) := by rw [IntKind.wrap_u8]; omega
  have HN := Lib.hid (show ∀ j u, (vb (vsuf zs n (len - n)))[j]? = some u → (w.alloc (.cells #[] 5)).cell? ((⟨b, o + n, none⟩ : Addr).add j) = some u from fun j u hu => by
    have hj : j < len - n := by
      have := (List.getElem?_eq_some_iff.mp hu).1
      simpa [vb, vsuf_len] using this
    have hu2 : u = .int .u8 (zs.getD (n + j) 0) := by
      unfold vb at hu
      rw [List.getElem?_map, vsuf_at zs n _ hj] at hu
      simpa using hu.symm
    obtain ⟨b', o', e1, e2, e3, _⟩ := H.out (n + j) (by omega)
    cases e1
    have ea : (⟨b, o + n, none⟩ : Addr).add j = ⟨b, o + (n + j), none⟩ := by unfold Addr.add; split <;> simp_all [Nat.add_assoc]
    rw [ea, hu2, World.cell?_alloc_lt _ _ _ (by show b < w.heap.size; omega)]
    exact e3)
  have HR := Lib.hid (show ∀ y ∈ vsuf zs n (len - n), 0 ≤ y ∧ y ≤ 255 from fun y hy => by
    obtain ⟨j, hj, rfl⟩ := List.mem_map.mp hy
    obtain ⟨_, _, _, _, _, h1, h2⟩ := H.out (n + j) (by have := List.mem_range.mp hj; omega)
    exact ⟨h1, h2⟩)
  have hvl := vsuf_len zs n (len - n)
  have HL := Lib.hid hvl
  clear hvl H
  go_enter Try.func69, Try.ntmps69
  go_wp2_with (first | (at_builtin; refine wpList_append_lies _ rfl (.tmp 11) (.tmp 14) 44 rfl w.heap.size 5 i0 (.int .u8 0) 1 1 Try.underlying44 hi hz0 hz1 hz2 rfl (by decide) (.slice (some ⟨w.heap.size, 0, none⟩) 0 0) 0 [] rfl HO.out ⟨b, o + n, none⟩ (len - n) (cap - n) (vb (vsuf zs n (len - n))) (by rfl) (by simp [vb, vsuf_len]) HN.out (vb_one _) (by omega) (by unfold maxLen; omega) (by omega) (by simp) _ rfl ?_; intro g1 cap1 w1 hown1 hgr1 hat1 hlt1; simp only [Nat.zero_add, List.nil_append] at hown1 ⊢; have HO1 := Lib.hid (hown1.alloc (.cells #[.int .u8 (n : Int)] 5)); have hgl := (hown1.lt g1 rfl).1; have HB1 := Lib.hid (((Below.refl w.heap.size w).alloc (Nat.le_refl _) (.cells #[] 5)).grown hgr1 (by simp) (fun k hk => by simp [Value.ownBlock] at hk; omega)); clear hown1 hgr1 hat1 HO HN) | (at_builtin; refine wpList_append_lies _ rfl (.tmp 15) (.tmp 18) 44 rfl w.heap.size 5 i0 (.int .u8 0) 1 1 Try.underlying44 hi hz0 hz1 hz2 rfl (by decide) (.slice (some ⟨g1, 0, none⟩) (len - n) cap1) (len - n) (vb (vsuf zs n (len - n))) rfl HO1.out ⟨w1.heap.size, 0, none⟩ 1 1 [.int .u8 (n : Int)] (by rfl) rfl (cell_one_new _ _ _) (by simp; rfl) (by decide) (by unfold maxLen; omega) (by omega) (by have := HB1.out.size; simp; omega) _ rfl ?_; intro g2 cap2 w2 hown2 hgr2 hat2 hlt2))
  go_ret
  have HB2 : Below w.heap.size w w2 := (HB1.out.alloc HB1.out.size (.cells #[.int .u8 (n : Int)] 5)).grown hgr2 (by have := HB1.out.size; simp; omega) (fun k hk => by simp [Value.ownBlock] at hk; omega)
  have hf := vc_fin (w := w) (w' := w2) (g := g2) (cap := cap2) (l := vsuf zs n (len - n)) (x := (n : Int)) (by rw [HL.out]; omega) HR.out (by omega) (by rw [HL.out]; exact hown2) HB2
  rw [HL.out] at hf
  exact hf
theorem own_some {W : World} {B : Nat} {v : Value} (h : W.ownsRow B 5 1 v (0 + 0) ([] ++ [])) (hv : v ≠ .slice none 0 0) : ∃ g cap, v = .slice (some ⟨g, 0, none⟩) 0 cap ∧ W.ownsRow B 5 1 (.slice (some ⟨g, 0, none⟩) 0 cap) 0 [] := by
  rcases h.2 with ⟨e, _⟩ | ⟨g, cap, cur, e, hr⟩
  · exact absurd e hv
  · exact ⟨g, cap, e, by rw [← e]; exact h⟩
set_option maxHeartbeats 4000000 in
theorem vcut_zero (b o n len cap : Nat) (w : World) (hn1 : 1 ≤ n) (hn2 : n ≤ 2) (hlt : len ≤ n) (hc : len ≤ cap) (hcm : cap ≤ maxLen) : Calls Try.prog 69 #[.slice (some ⟨b, o, none⟩) len cap, .int .i64 (n : Int)] w (VcPost w) := by
  obtain ⟨i0, hi, hz0, hz1, hz2⟩ := info_parts infoB
  unfold maxLen at hcm
  have HO := Lib.hid (World.ownsRow_lit (base := w.heap.size) (e := 5) (size := 1) w #[] 0 (Nat.le_refl _) (by unfold maxLen; omega) rfl)
  have hc2 : IntKind.u8.wrap (len : Int) = (len : Int) := by rw [IntKind.wrap_u8]; omega
  have hl0 : (0 : Int) ≤ len := by omega
  have hlc : (len : Int) ≤ cap := by omega
  have hcm' : (cap : Int) ≤ 9223372036854775807 := by omega
  rcases Nat.lt_or_eq_of_le hlt with hgt | hgt
  · have hg : (n : Int) > len := by omega
    have hg' : (len : Int) < n := by omega
    rcases Nat.lt_or_eq_of_le hc with hcl | hcl
    · have hnc : ¬ (cap = len) := by omega
      go_enter Try.func69, Try.ntmps69
      go_wp2_with (first | (at_builtin; refine wpList_append_own _ rfl (.tmp 11) (.tmp 14) 44 rfl w.heap.size 5 i0 (.int .u8 0) 1 1 Try.underlying44 hi hz0 hz1 hz2 rfl (by decide) (.slice (some ⟨w.heap.size, 0, none⟩) 0 0) 0 [] rfl HO.out _ 0 _ [] (by rfl) rfl (by simp) (by simp) (by unfold maxLen; omega) (by omega) (by simp) ?_; intro v1 w1 hown1 hgr1 hn1; obtain ⟨g1, cap1, rfl, hown2⟩ := own_some hown1 (fun e => by have := (hn1.mp e).1; simp at this); have HO1 := Lib.hid (hown2.alloc (.cells #[.int .u8 (len : Int)] 5)); have HB1 := Lib.hid (((Below.refl w.heap.size w).alloc (Nat.le_refl _) (.cells #[] 5)).grown hgr1 (by simp) (fun k hk => by simp [Value.ownBlock] at hk; omega)); have hgl := Lib.hid (hown2.lt g1 rfl).1; clear hown1 hown2 hgr1 hn1 HO) | (at_builtin; refine wpList_append_lies _ rfl (.tmp 15) (.tmp 18) 44 rfl w.heap.size 5 i0 (.int .u8 0) 1 1 Try.underlying44 hi hz0 hz1 hz2 rfl (by decide) (.slice (some ⟨g1, 0, none⟩) 0 cap1) 0 [] rfl HO1.out ⟨w1.heap.size, 0, none⟩ 1 1 [.int .u8 (len : Int)] (by rfl) rfl (cell_one_new _ _ _) (by simp; rfl) (by decide) (by unfold maxLen; omega) (by omega) (by have := HB1.out.size; simp; omega) _ rfl ?_; intro g2 cap2 w2 hown2 hgr2 hat2 hlt2))
      go_ret
      have HB2 : Below w.heap.size w w2 := (HB1.out.alloc HB1.out.size (.cells #[.int .u8 (len : Int)] 5)).grown hgr2 (by have := HB1.out.size; simp; omega) (fun k hk => by simp [Value.ownBlock] at hk; have := hgl.out; omega)
      exact vc_fin (w := w) (w' := w2) (g := g2) (cap := cap2) (l := []) (x := (len : Int)) (by simp) (by simp) (by omega) hown2 HB2
    · subst hcl
      go_enter Try.func69, Try.ntmps69
      go_wp2_with (first | (at_builtin; refine wpList_append_own _ rfl (.tmp 11) (.tmp 14) 44 rfl w.heap.size 5 i0 (.int .u8 0) 1 1 Try.underlying44 hi hz0 hz1 hz2 rfl (by decide) (.slice (some ⟨w.heap.size, 0, none⟩) 0 0) 0 [] rfl HO.out _ 0 _ [] (by rfl) rfl (by simp) (by simp) (by unfold maxLen; omega) (by omega) (by simp) ?_; intro v1 w1 hown1 hgr1 hn1; obtain ⟨g1, cap1, rfl, hown2⟩ := own_some hown1 (fun e => by have := (hn1.mp e).1; simp at this); have HO1 := Lib.hid (hown2.alloc (.cells #[.int .u8 (len : Int)] 5)); have HB1 := Lib.hid (((Below.refl w.heap.size w).alloc (Nat.le_refl _) (.cells #[] 5)).grown hgr1 (by simp) (fun k hk => by simp [Value.ownBlock] at hk; omega)); have hgl := Lib.hid (hown2.lt g1 rfl).1; clear hown1 hown2 hgr1 hn1 HO) | (at_builtin; refine wpList_append_lies _ rfl (.tmp 15) (.tmp 18) 44 rfl w.heap.size 5 i0 (.int .u8 0) 1 1 Try.underlying44 hi hz0 hz1 hz2 rfl (by decide) (.slice (some ⟨g1, 0, none⟩) 0 cap1) 0 [] rfl HO1.out ⟨w1.heap.size, 0, none⟩ 1 1 [.int .u8 (len : Int)] (by rfl) rfl (cell_one_new _ _ _) (by simp; rfl) (by decide) (by unfold maxLen; omega) (by omega) (by have := HB1.out.size; simp; omega) _ rfl ?_; intro g2 cap2 w2 hown2 hgr2 hat2 hlt2))
      go_ret
      have HB2 : Below w.heap.size w w2 := (HB1.out.alloc HB1.out.size (.cells #[.int .u8 (len : Int)] 5)).grown hgr2 (by have := HB1.out.size; simp; omega) (fun k hk => by simp [Value.ownBlock] at hk; have := hgl.out; omega)
      exact vc_fin (w := w) (w' := w2) (g := g2) (cap := cap2) (l := []) (x := (len : Int)) (by simp) (by simp) (by omega) hown2 HB2
  · subst hgt
    rcases Nat.lt_or_eq_of_le hc with hcl | hcl
    · have hnc : ¬ (cap = len) := by omega
      go_enter Try.func69, Try.ntmps69
      go_wp2_with (first | (at_builtin; refine wpList_append_own _ rfl (.tmp 11) (.tmp 14) 44 rfl w.heap.size 5 i0 (.int .u8 0) 1 1 Try.underlying44 hi hz0 hz1 hz2 rfl (by decide) (.slice (some ⟨w.heap.size, 0, none⟩) 0 0) 0 [] rfl HO.out _ 0 _ [] (by rfl) rfl (by simp) (by simp) (by unfold maxLen; omega) (by omega) (by simp) ?_; intro v1 w1 hown1 hgr1 hn1; obtain ⟨g1, cap1, rfl, hown2⟩ := own_some hown1 (fun e => by have := (hn1.mp e).1; simp at this); have HO1 := Lib.hid (hown2.alloc (.cells #[.int .u8 (len : Int)] 5)); have HB1 := Lib.hid (((Below.refl w.heap.size w).alloc (Nat.le_refl _) (.cells #[] 5)).grown hgr1 (by simp) (fun k hk => by simp [Value.ownBlock] at hk; omega)); have hgl := Lib.hid (hown2.lt g1 rfl).1; clear hown1 hown2 hgr1 hn1 HO) | (at_builtin; refine wpList_append_lies _ rfl (.tmp 15) (.tmp 18) 44 rfl w.heap.size 5 i0 (.int .u8 0) 1 1 Try.underlying44 hi hz0 hz1 hz2 rfl (by decide) (.slice (some ⟨g1, 0, none⟩) 0 cap1) 0 [] rfl HO1.out ⟨w1.heap.size, 0, none⟩ 1 1 [.int .u8 (len : Int)] (by rfl) rfl (cell_one_new _ _ _) (by simp; rfl) (by decide) (by unfold maxLen; omega) (by omega) (by have := HB1.out.size; simp; omega) _ rfl ?_; intro g2 cap2 w2 hown2 hgr2 hat2 hlt2))
      go_ret
      have HB2 : Below w.heap.size w w2 := (HB1.out.alloc HB1.out.size (.cells #[.int .u8 (len : Int)] 5)).grown hgr2 (by have := HB1.out.size; simp; omega) (fun k hk => by simp [Value.ownBlock] at hk; have := hgl.out; omega)
      exact vc_fin (w := w) (w' := w2) (g := g2) (cap := cap2) (l := []) (x := (len : Int)) (by simp) (by simp) (by omega) hown2 HB2
    · subst hcl
      go_enter Try.func69, Try.ntmps69
      go_wp2_with (first | (at_builtin; refine wpList_append_own _ rfl (.tmp 11) (.tmp 14) 44 rfl w.heap.size 5 i0 (.int .u8 0) 1 1 Try.underlying44 hi hz0 hz1 hz2 rfl (by decide) (.slice (some ⟨w.heap.size, 0, none⟩) 0 0) 0 [] rfl HO.out _ 0 _ [] (by rfl) rfl (by simp) (by simp) (by unfold maxLen; omega) (by omega) (by simp) ?_; intro v1 w1 hown1 hgr1 hn1; obtain ⟨g1, cap1, rfl, hown2⟩ := own_some hown1 (fun e => by have := (hn1.mp e).1; simp at this); have HO1 := Lib.hid (hown2.alloc (.cells #[.int .u8 (len : Int)] 5)); have HB1 := Lib.hid (((Below.refl w.heap.size w).alloc (Nat.le_refl _) (.cells #[] 5)).grown hgr1 (by simp) (fun k hk => by simp [Value.ownBlock] at hk; omega)); have hgl := Lib.hid (hown2.lt g1 rfl).1; clear hown1 hown2 hgr1 hn1 HO) | (at_builtin; refine wpList_append_lies _ rfl (.tmp 15) (.tmp 18) 44 rfl w.heap.size 5 i0 (.int .u8 0) 1 1 Try.underlying44 hi hz0 hz1 hz2 rfl (by decide) (.slice (some ⟨g1, 0, none⟩) 0 cap1) 0 [] rfl HO1.out ⟨w1.heap.size, 0, none⟩ 1 1 [.int .u8 (len : Int)] (by rfl) rfl (cell_one_new _ _ _) (by simp; rfl) (by decide) (by unfold maxLen; omega) (by omega) (by have := HB1.out.size; simp; omega) _ rfl ?_; intro g2 cap2 w2 hown2 hgr2 hat2 hlt2))
      go_ret
      have HB2 : Below w.heap.size w w2 := (HB1.out.alloc HB1.out.size (.cells #[.int .u8 (len : Int)] 5)).grown hgr2 (by have := HB1.out.size; simp; omega) (fun k hk => by simp [Value.ownBlock] at hk; have := hgl.out; omega)
      exact vc_fin (w := w) (w' := w2) (g := g2) (cap := cap2) (l := []) (x := (len : Int)) (by simp) (by simp) (by omega) hown2 HB2
set_option maxRecDepth 8000 in
set_option maxHeartbeats 1000000 in
theorem vcut_none (n : Nat) (w : World) (hn1 : 1 ≤ n) (hn2 : n ≤ 2) : Calls Try.prog 69 #[.slice none 0 0, .int .i64 (n : Int)] w (VcPost w) := by
  obtain ⟨i0, hi, hz0, hz1, hz2⟩ := info_parts infoB
  have HO := Lib.hid (World.ownsRow_lit (base := w.heap.size) (e := 5) (size := 1) w #[] 0 (Nat.le_refl _) (by unfold maxLen; omega) rfl)
  have HO1 := Lib.hid (HO.out.alloc (.cells #[.int .u8 0] 5))
  have HN1 := Lib.hid (cell_one_new (w.alloc (.cells #[] 5)) (.int .u8 0) 5)
  rw [World.size_alloc] at HN1
  have hg : (n : Int) > 0 := by omega
  have hg' : (0 : Int) < n := by omega
  go_enter Try.func69, Try.ntmps69
  go_wp2_with (first | (at_builtin; refine wpList_append_own_none _ rfl (.tmp 11) (.tmp 14) 44 rfl w.heap.size 5 i0 1 Try.underlying44 hi (.slice (some ⟨w.heap.size, 0, none⟩) 0 0) 0 [] rfl HO.out (by rfl) ?_) | (at_builtin; refine wpList_append_lies _ rfl (.tmp 15) (.tmp 18) 44 rfl w.heap.size 5 i0 (.int .u8 0) 1 1 Try.underlying44 hi hz0 hz1 hz2 rfl (by decide) (.slice (some ⟨w.heap.size, 0, none⟩) 0 0) 0 [] rfl HO1.out ⟨w.heap.size + 1, 0, none⟩ 1 1 [.int .u8 0] (by rfl) rfl HN1.out (by simp; rfl) (by decide) (by unfold maxLen; omega) (by omega) (by simp; omega) _ rfl ?_; intro g2 cap2 w2 hown2 hgr2 hat2 hlt2))
  go_ret
  exact vc_fin (w := w) (w' := w2) (g := g2) (cap := cap2) (l := []) (x := 0) (by simp) (by simp) (by omega) hown2 (Below.grown (by (repeat (first | exact Below.refl _ _ | assumption | refine Below.setCell ?_ (by first | (simp; done) | (simp; omega)) _ | refine Below.alloc ?_ (by first | (simp; done) | (simp; omega)) _ | refine Below.drew ?_))) hgr2 (by simp; omega) (fun k hk => by simp [Value.ownBlock] at hk; omega))
/- Vr -/
set_option maxHeartbeats 4000000 in
theorem vcut_zero_x (x : Addr) (n len cap : Nat) (w : World) (hn1 : 1 ≤ n) (hn2 : n ≤ 2) (hlt : len ≤ n) (hc : len ≤ cap) (hcm : cap ≤ maxLen) : Calls Try.prog 69 #[.slice (some x) len cap, .int .i64 (n : Int)] w (VcPost w) := by
  obtain ⟨i0, hi, hz0, hz1, hz2⟩ := info_parts infoB
  unfold maxLen at hcm
  have HO := Lib.hid (World.ownsRow_lit (base := w.heap.size) (e := 5) (size := 1) w #[] 0 (Nat.le_refl _) (by unfold maxLen; omega) rfl)
  have hc2 : IntKind.u8.wrap (len : Int) = (len : Int) := by rw [IntKind.wrap_u8]; omega
  have hl0 : (0 : Int) ≤ len := by omega
  have hlc : (len : Int) ≤ cap := by omega
  have hcm' : (cap : Int) ≤ 9223372036854775807 := by omega
  rcases Nat.lt_or_eq_of_le hlt with hgt | hgt
  · have hg : (n : Int) > len := by omega
    have hg' : (len : Int) < n := by omega
    rcases Nat.lt_or_eq_of_le hc with hcl | hcl
    · have hnc : ¬ (cap = len) := by omega
      go_enter Try.func69, Try.ntmps69
      go_wp2_with (first | (at_builtin; refine wpList_append_own _ rfl (.tmp 11) (.tmp 14) 44 rfl w.heap.size 5 i0 (.int .u8 0) 1 1 Try.underlying44 hi hz0 hz1 hz2 rfl (by decide) (.slice (some ⟨w.heap.size, 0, none⟩) 0 0) 0 [] rfl HO.out _ 0 _ [] (by rfl) rfl (by simp) (by simp) (by unfold maxLen; omega) (by omega) (by simp) ?_; intro v1 w1 hown1 hgr1 hn1; obtain ⟨g1, cap1, rfl, hown2⟩ := own_some hown1 (fun e => by have := (hn1.mp e).1; simp at this); have HO1 := Lib.hid (hown2.alloc (.cells #[.int .u8 (len : Int)] 5)); have HB1 := Lib.hid (((Below.refl w.heap.size w).alloc (Nat.le_refl _) (.cells #[] 5)).grown hgr1 (by simp) (fun k hk => by simp [Value.ownBlock] at hk; omega)); have hgl := Lib.hid (hown2.lt g1 rfl).1; clear hown1 hown2 hgr1 hn1 HO) | (at_builtin; refine wpList_append_lies _ rfl (.tmp 15) (.tmp 18) 44 rfl w.heap.size 5 i0 (.int .u8 0) 1 1 Try.underlying44 hi hz0 hz1 hz2 rfl (by decide) (.slice (some ⟨g1, 0, none⟩) 0 cap1) 0 [] rfl HO1.out ⟨w1.heap.size, 0, none⟩ 1 1 [.int .u8 (len : Int)] (by rfl) rfl (cell_one_new _ _ _) (by simp; rfl) (by decide) (by unfold maxLen; omega) (by omega) (by have := HB1.out.size; simp; omega) _ rfl ?_; intro g2 cap2 w2 hown2 hgr2 hat2 hlt2))
      go_ret
      have HB2 : Below w.heap.size w w2 := (HB1.out.alloc HB1.out.size (.cells #[.int .u8 (len : Int)] 5)).grown hgr2 (by have := HB1.out.size; simp; omega) (fun k hk => by simp [Value.ownBlock] at hk; have := hgl.out; omega)
      exact vc_fin (w := w) (w' := w2) (g := g2) (cap := cap2) (l := []) (x := (len : Int)) (by simp) (by simp) (by omega) hown2 HB2
    · subst hcl
      go_enter Try.func69, Try.ntmps69
      go_wp2_with (first | (at_builtin; refine wpList_append_own _ rfl (.tmp 11) (.tmp 14) 44 rfl w.heap.size 5 i0 (.int .u8 0) 1 1 Try.underlying44 hi hz0 hz1 hz2 rfl (by decide) (.slice (some ⟨w.heap.size, 0, none⟩) 0 0) 0 [] rfl HO.out _ 0 _ [] (by rfl) rfl (by simp) (by simp) (by unfold maxLen; omega) (by omega) (by simp) ?_; intro v1 w1 hown1 hgr1 hn1; obtain ⟨g1, cap1, rfl, hown2⟩ := own_some hown1 (fun e => by have := (hn1.mp e).1; simp at this); have HO1 := Lib.hid (hown2.alloc (.cells #[.int .u8 (len : Int)] 5)); have HB1 := Lib.hid (((Below.refl w.heap.size w).alloc (Nat.le_refl _) (.cells #[] 5)).grown hgr1 (by simp) (fun k hk => by simp [Value.ownBlock] at hk; omega)); have hgl := Lib.hid (hown2.lt g1 rfl).1; clear hown1 hown2 hgr1 hn1 HO) | (at_builtin; refine wpList_append_lies _ rfl (.tmp 15) (.tmp 18) 44 rfl w.heap.size 5 i0 (.int .u8 0) 1 1 Try.underlying44 hi hz0 hz1 hz2 rfl (by decide) (.slice (some ⟨g1, 0, none⟩) 0 cap1) 0 [] rfl HO1.out ⟨w1.heap.size, 0, none⟩ 1 1 [.int .u8 (len : Int)] (by rfl) rfl (cell_one_new _ _ _) (by simp; rfl) (by decide) (by unfold maxLen; omega) (by omega) (by have := HB1.out.size; simp; omega) _ rfl ?_; intro g2 cap2 w2 hown2 hgr2 hat2 hlt2))
      go_ret
      have HB2 : Below w.heap.size w w2 := (HB1.out.alloc HB1.out.size (.cells #[.int .u8 (len : Int)] 5)).grown hgr2 (by have := HB1.out.size; simp; omega) (fun k hk => by simp [Value.ownBlock] at hk; have := hgl.out; omega)
      exact vc_fin (w := w) (w' := w2) (g := g2) (cap := cap2) (l := []) (x := (len : Int)) (by simp) (by simp) (by omega) hown2 HB2
  · subst hgt
    rcases Nat.lt_or_eq_of_le hc with hcl | hcl
    · have hnc : ¬ (cap = len) := by omega
      go_enter Try.func69, Try.ntmps69
      go_wp2_with (first | (at_builtin; refine wpList_append_own _ rfl (.tmp 11) (.tmp 14) 44 rfl w.heap.size 5 i0 (.int .u8 0) 1 1 Try.underlying44 hi hz0 hz1 hz2 rfl (by decide) (.slice (some ⟨w.heap.size, 0, none⟩) 0 0) 0 [] rfl HO.out _ 0 _ [] (by rfl) rfl (by simp) (by simp) (by unfold maxLen; omega) (by omega) (by simp) ?_; intro v1 w1 hown1 hgr1 hn1; obtain ⟨g1, cap1, rfl, hown2⟩ := own_some hown1 (fun e => by have := (hn1.mp e).1; simp at this); have HO1 := Lib.hid (hown2.alloc (.cells #[.int .u8 (len : Int)] 5)); have HB1 := Lib.hid (((Below.refl w.heap.size w).alloc (Nat.le_refl _) (.cells #[] 5)).grown hgr1 (by simp) (fun k hk => by simp [Value.ownBlock] at hk; omega)); have hgl := Lib.hid (hown2.lt g1 rfl).1; clear hown1 hown2 hgr1 hn1 HO) | (at_builtin; refine wpList_append_lies _ rfl (.tmp 15) (.tmp 18) 44 rfl w.heap.size 5 i0 (.int .u8 0) 1 1 Try.underlying44 hi hz0 hz1 hz2 rfl (by decide) (.slice (some ⟨g1, 0, none⟩) 0 cap1) 0 [] rfl HO1.out ⟨w1.heap.size, 0, none⟩ 1 1 [.int .u8 (len : Int)] (by rfl) rfl (cell_one_new _ _ _) (by simp; rfl) (by decide) (by unfold maxLen; omega) (by omega) (by have := HB1.out.size; simp; omega) _ rfl ?_; intro g2 cap2 w2 hown2 hgr2 hat2 hlt2))
      go_ret
      have HB2 : Below w.heap.size w w2 := (HB1.out.alloc HB1.out.size (.cells #[.int .u8 (len : Int)] 5)).grown hgr2 (by have := HB1.out.size; simp; omega) (fun k hk => by simp [Value.ownBlock] at hk; have := hgl.out; omega)
      exact vc_fin (w := w) (w' := w2) (g := g2) (cap := cap2) (l := []) (x := (len : Int)) (by simp) (by simp) (by omega) hown2 HB2
    · subst hcl
      go_enter Try.func69, Try.ntmps69
      go_wp2_with (first | (at_builtin; refine wpList_append_own _ rfl (.tmp 11) (.tmp 14) 44 rfl w.heap.size 5 i0 (.int .u8 0) 1 1 Try.underlying44 hi hz0 hz1 hz2 rfl (by decide) (.slice (some ⟨w.heap.size, 0, none⟩) 0 0) 0 [] rfl HO.out _ 0 _ [] (by rfl) rfl (by simp) (by simp) (by unfold maxLen; omega) (by omega) (by simp) ?_; intro v1 w1 hown1 hgr1 hn1; obtain ⟨g1, cap1, rfl, hown2⟩ := own_some hown1 (fun e => by have := (hn1.mp e).1; simp at this); have HO1 := Lib.hid (hown2.alloc (.cells #[.int .u8 (len : Int)] 5)); have HB1 := Lib.hid (((Below.refl w.heap.size w).alloc (Nat.le_refl _) (.cells #[] 5)).grown hgr1 (by simp) (fun k hk => by simp [Value.ownBlock] at hk; omega)); have hgl := Lib.hid (hown2.lt g1 rfl).1; clear hown1 hown2 hgr1 hn1 HO) | (at_builtin; refine wpList_append_lies _ rfl (.tmp 15) (.tmp 18) 44 rfl w.heap.size 5 i0 (.int .u8 0) 1 1 Try.underlying44 hi hz0 hz1 hz2 rfl (by decide) (.slice (some ⟨g1, 0, none⟩) 0 cap1) 0 [] rfl HO1.out ⟨w1.heap.size, 0, none⟩ 1 1 [.int .u8 (len : Int)] (by rfl) rfl (cell_one_new _ _ _) (by simp; rfl) (by decide) (by unfold maxLen; omega) (by omega) (by have := HB1.out.size; simp; omega) _ rfl ?_; intro g2 cap2 w2 hown2 hgr2 hat2 hlt2))
      go_ret
      have HB2 : Below w.heap.size w w2 := (HB1.out.alloc HB1.out.size (.cells #[.int .u8 (len : Int)] 5)).grown hgr2 (by have := HB1.out.size; simp; omega) (fun k hk => by simp [Value.ownBlock] at hk; have := hgl.out; omega)
      exact vc_fin (w := w) (w' := w2) (g := g2) (cap := cap2) (l := []) (x := (len : Int)) (by simp) (by simp) (by omega) hown2 HB2

def SlOk (A : Option Addr) (len cap : Nat) : Prop := (A = none ∧ len = 0 ∧ cap = 0) ∨ ∃ x, A = some x ∧ len ≤ cap ∧ cap ≤ maxLen
theorem vcut_all (A : Option Addr) (len cap : Nat) (zs : List Int) (w : World) (hcode : CodeIn w w.heap.size A len zs) (hr : SlOk A len cap) (hl : len ≤ 65536) (n : Nat) (hn1 : 1 ≤ n) (hn2 : n ≤ 2) (W : World) (hb : Below w.heap.size w W) : Calls Try.prog 69 #[.slice A len cap, .int .i64 (n : Int)] W fun e w' => ∃ g c zs, zs.length ≤ 65536 ∧ CodeIn w' w'.heap.size (some ⟨g, 0, none⟩) zs.length zs ∧ e = .returned (.slice (some ⟨g, 0, none⟩) zs.length c) ∧ Below W.heap.size W w' := by
  suffices h : Calls Try.prog 69 #[.slice A len cap, .int .i64 (n : Int)] W (VcPost W) from h.mono fun e w' ⟨g, c, zs, h1, h2, h3, h4⟩ => ⟨g, c, zs, h2, h3, h1, h4⟩
  rcases hr with ⟨rfl, rfl, rfl⟩ | ⟨x, rfl, hlc, hm⟩
  · exact vcut_none n W hn1 hn2
  · by_cases hlt : len ≤ n
    · exact vcut_zero_x x n len cap W hn1 hn2 hlt hlc hm
    · obtain ⟨b, o, e, _⟩ := hcode 0 (by omega)
      cases e
      exact vcut_pos w.heap.size b o n len cap zs W (hcode.below hb (Nat.le_refl _)) hb.size hl hlc hm hn1 hn2 (by omega)
/- Bg7 -/
theorem big_no (A : Option Addr) (len cap : Nat) (hl : len ≤ 65536) (w : World) : Calls Try.prog 60 #[.slice A len cap] w fun e w' => e = .returned (.bool false) ∧ w' = w := by
  go_enter Try.func60, Try.ntmps60
  go_wp2_with fail
  go_ret
  exact ⟨by simp <;> omega, rfl⟩
theorem big_yes (A : Option Addr) (len cap : Nat) (hl : 65536 < len) (w : World) : Calls Try.prog 60 #[.slice A len cap] w fun e w' => e = .returned (.bool true) ∧ w' = w := by
  go_enter Try.func60, Try.ntmps60
  go_wp2_with fail
  go_ret
  exact ⟨by simp <;> omega, rfl⟩
/- Dy -/
def DtPost (w : World) (e : Ending) (w' : World) : Prop := ∃ (r0 r1 r2 r3 r4 r5 s0 s1 s2 s3 s4 s5 : Int), Wf6 r0 r1 r2 r3 r4 r5 ∧ Wf6 s0 s1 s2 s3 s4 s5 ∧ e = .returned (.tuple #[.agg #[.int .i64 r0, .int .i64 r1, .int .i64 r2, .int .i64 r3, .int .i64 r4, .int .i64 r5], .agg #[.int .i64 s0, .int .i64 s1, .int .i64 s2, .int .i64 s3, .int .i64 s4, .int .i64 s5]]) ∧ Below w.heap.size w w'
set_option maxHeartbeats 2000000 in
theorem draw_two (B : Nat) (A : Option Addr) (len cap : Nat) (zs : List Int) (w : World) (h : CodeIn w B A len zs) (hB : B ≤ w.heap.size) (hl : len ≤ 65536) :
    Calls Try.prog 78 #[.slice A len cap] w (DtPost w) := by
  have H := Lib.hid h
  clear h
  go_enter Try.func78, Try.ntmps78
  go_wp2_with fail
  generalize hW : (World.alloc _ _ : World) = W0
  have HB := Lib.hid (show Below w.heap.size w W0 by rw [← hW]; (repeat (first | exact Below.refl _ _ | assumption | refine Below.setCell ?_ (by first | (simp; done) | (simp; omega)) _ | refine Below.alloc ?_ (by first | (simp; done) | (simp; omega)) _ | refine Below.drew ?_)))
  have Q0 := Lib.hid (show W0.heap[w.heap.size]? = some (.cells #[.int .i64 0, .int .i64 0, .int .i64 0, .int .i64 0, .int .i64 0, .int .i64 0] 28 (0, 0)) by rw [← hW]; exact alloc_past (alloc_past (alloc_at rfl)))
  have P0 := Lib.hid (show W0.heap[w.heap.size + 1]? = some (.cells #[.int .i64 0, .int .i64 0, .int .i64 0, .int .i64 0, .int .i64 0, .int .i64 0] 28 (0, 0)) by rw [← hW]; exact alloc_past (alloc_at (by simp)))
  have H0 := Lib.hid (show CuTo B (w.heap.size + 1 + 1) A len cap zs 0 W0 W0 by
    refine ⟨?_, g_refl _ _⟩
    rw [← hW]
    have e := cu_new (W := (w.alloc (.cells #[.int .i64 0, .int .i64 0, .int .i64 0, .int .i64 0, .int .i64 0, .int .i64 0] 28)).alloc (.cells #[.int .i64 0, .int .i64 0, .int .i64 0, .int .i64 0, .int .i64 0, .int .i64 0] 28)) (cap := cap) (H.out.below (((Below.refl _ _).alloc (Nat.le_refl _) _).alloc (by simp) _) hB) (by simp; omega) hl
    simpa using e)
  clear hW H
  generalize hg : w.heap.size + 1 + 1 = g at H0 ⊢
  refine (stamp_dr B g A len cap zs 0 W0 H0.out.1 (by omega)).mono ?_
  rintro e W1 ⟨r0, r1, r2, r3, r4, r5, hw, rfl, hc⟩
  have H1 := Lib.hid (H0.out.step hc)
  have Q1 := Lib.hid (rowg Q0.out hc.2 (by omega))
  have P1 := Lib.hid (rowg P0.out hc.2 (by omega))
  have HR := Lib.hid hw
  clear hc hw H0 Q0 P0
  go_wp2_with fail
  refine (stamp_dr B g A len cap zs (0 + 100) W1 H1.out.1 (by omega)).mono ?_
  rintro e W2 ⟨s0, s1, s2, s3, s4, s5, hw, rfl, hc⟩
  have H2 := Lib.hid (H1.out.step hc)
  have HS := Lib.hid hw
  have q := rowg Q1.out hc.2 (by omega)
  have p := rowg P1.out hc.2 (by omega)
  clear hc hw H1 Q1 P1
  have z_c := fun j => cell_of_row W2 _ j _ _ _ q
  have z_f := fun j => frozen_of_row W2 _ j _ _ q
  have y_c := fun j => cell_of_row W2 _ j _ _ _ p
  have y_f := fun j => frozen_of_row W2 _ j _ _ p
  have HB2 := Lib.hid (below_to HB.out H2.out.2 (by omega))
  clear q p
  go_wp2_with fail
  refine bodyPost_ret (v := .tuple #[.agg #[.int .i64 r0, .int .i64 r1, .int .i64 r2, .int .i64 r3, .int .i64 r4, .int .i64 r5], .agg #[.int .i64 s0, .int .i64 s1, .int .i64 s2, .int .i64 s3, .int .i64 s4, .int .i64 s5]]) (by simp [results, Try.results78, go_sem, z_c, y_c]) rfl ⟨r0, r1, r2, r3, r4, r5, s0, s1, s2, s3, s4, s5, HR.out, HS.out, rfl, ?_⟩
  exact below6 (below6 HB2.out (Nat.le_refl _)) (by omega)
set_option maxHeartbeats 1000000 in
theorem draw_sum (B : Nat) (A : Option Addr) (len cap : Nat) (zs : List Int) (w : World) (h : CodeIn w B A len zs) (hB : B ≤ w.heap.size) (hl : len ≤ 65536) :
    Calls Try.prog 81 #[.slice A len cap] w (DtPost w) := by
  have H := Lib.hid h
  clear h
  go_enter Try.func81, Try.ntmps81
  go_wp2_with fail
  generalize hW : (World.alloc _ _ : World) = W0
  have HB := Lib.hid (show Below w.heap.size w W0 by rw [← hW]; (repeat (first | exact Below.refl _ _ | assumption | refine Below.setCell ?_ (by first | (simp; done) | (simp; omega)) _ | refine Below.alloc ?_ (by first | (simp; done) | (simp; omega)) _ | refine Below.drew ?_)))
  have Q0 := Lib.hid (show W0.heap[w.heap.size]? = some (.cells #[.int .i64 0, .int .i64 0, .int .i64 0, .int .i64 0, .int .i64 0, .int .i64 0] 28 (0, 0)) by rw [← hW]; exact alloc_past (alloc_at rfl))
  have P0 := Lib.hid (show W0.heap[w.heap.size + 1]? = some (.cells #[.int .i64 0, .int .i64 0, .int .i64 0, .int .i64 0, .int .i64 0, .int .i64 0] 28 (0, 0)) by rw [← hW]; exact alloc_at (by simp))
  clear hW
  refine (draw_two B A len cap zs W0 (H.out.below HB.out hB) (Nat.le_trans hB HB.out.size) hl).mono ?_
  rintro e W1 ⟨r0, r1, r2, r3, r4, r5, s0, s1, s2, s3, s4, s5, hr, hs, rfl, hb⟩
  have HR := Lib.hid hr
  have HS := Lib.hid hs
  have q := rowk Q0.out hb rfl
  have p := rowk P0.out hb rfl
  have HB2 := Lib.hid (below_of HB.out hb HB.out.size)
  clear hb hr hs
  have z_c := fun j => cell_of_row W1 _ j _ _ _ q
  have z_f := fun j => frozen_of_row W1 _ j _ _ q
  have y_c := fun j => cell_of_row W1 _ j _ _ _ p
  have y_f := fun j => frozen_of_row W1 _ j _ _ p
  clear q p
  go_wp2_with fail
  refine bodyPost_ret (v := .tuple #[.agg #[.int .i64 r0, .int .i64 r1, .int .i64 r2, .int .i64 r3, .int .i64 r4, .int .i64 r5], .agg #[.int .i64 s0, .int .i64 s1, .int .i64 s2, .int .i64 s3, .int .i64 s4, .int .i64 s5]]) (by simp [results, Try.results81, go_sem, z_c, y_c]) rfl ⟨r0, r1, r2, r3, r4, r5, s0, s1, s2, s3, s4, s5, HR.out, HS.out, rfl, ?_⟩
  exact below6 (below6 HB2.out (Nat.le_refl _)) (by omega)
/- Dz -/
theorem PkPost.out {n : Int} {B g : Nat} {A : Option Addr} {len cap : Nat} {zs : List Int} {m : Int} {w w' : World} {e : Ending} (h : PkPost n B g A len cap zs m w e w') : ∃ r : Int, e = .returned (.int .i64 r) ∧ 0 ≤ r ∧ (r < n ∨ r = 0) ∧ CuTo B g A len cap zs m w w' := h
/-- Midway: two sheets in blocks. -/
def Dd (w : World) (k6 k7 : Nat) (r0 r1 r2 r3 r4 r5 : Int) (s0 s1 s2 s3 s4 s5 : Int) (U : World) : Prop := U.heap[k6]? = some (.cells #[.int .i64 r0, .int .i64 r1, .int .i64 r2, .int .i64 r3, .int .i64 r4, .int .i64 r5] 28 (0, 0)) ∧ U.heap[k7]? = some (.cells #[.int .i64 s0, .int .i64 s1, .int .i64 s2, .int .i64 s3, .int .i64 s4, .int .i64 s5] 28 (0, 0)) ∧ Below w.heap.size w U
theorem SKd {w U : World} {k6 k7 : Nat} {r0 r1 r2 r3 r4 r5 s0 s1 s2 s3 s4 s5 : Int} (h : Dd w k6 k7 r0 r1 r2 r3 r4 r5 s0 s1 s2 s3 s4 s5 U) : U.cell? ⟨k6, 0, none⟩ = some (.int .i64 r0) ∧ U.cell? ⟨k6, 1, none⟩ = some (.int .i64 r1) ∧ U.cell? ⟨k6, 2, none⟩ = some (.int .i64 r2) ∧ U.cell? ⟨k6, 3, none⟩ = some (.int .i64 r3) ∧ U.cell? ⟨k6, 4, none⟩ = some (.int .i64 r4) ∧ U.cell? ⟨k6, 5, none⟩ = some (.int .i64 r5) ∧ U.cell? ⟨k7, 0, none⟩ = some (.int .i64 s0) ∧ U.cell? ⟨k7, 1, none⟩ = some (.int .i64 s1) ∧ U.cell? ⟨k7, 2, none⟩ = some (.int .i64 s2) ∧ U.cell? ⟨k7, 3, none⟩ = some (.int .i64 s3) ∧ U.cell? ⟨k7, 4, none⟩ = some (.int .i64 s4) ∧ U.cell? ⟨k7, 5, none⟩ = some (.int .i64 s5) ∧ Dd w k6 k7 r0 r1 r2 r3 r4 r5 s0 s1 s2 s3 s4 s5 U :=
  have h0 := fun j => cell_of_row U _ j _ _ _ h.1
  have h1 := fun j => cell_of_row U _ j _ _ _ h.2.1
  ⟨h0 0, h0 1, h0 2, h0 3, h0 4, h0 5, h1 0, h1 1, h1 2, h1 3, h1 4, h1 5, h⟩
theorem Dd.drew {w U : World} {k6 k7 : Nat} {r0 r1 r2 r3 r4 r5 s0 s1 s2 s3 s4 s5 : Int} (h : Dd w k6 k7 r0 r1 r2 r3 r4 r5 s0 s1 s2 s3 s4 s5 U) : Dd w k6 k7 r0 r1 r2 r3 r4 r5 s0 s1 s2 s3 s4 s5 U.drew := ⟨h.1, h.2.1, h.2.2.drew⟩
theorem Dd.al {w U : World} {k6 k7 : Nat} {r0 r1 r2 r3 r4 r5 s0 s1 s2 s3 s4 s5 : Int} (h : Dd w k6 k7 r0 r1 r2 r3 r4 r5 s0 s1 s2 s3 s4 s5 U) (o : Obj) : Dd w k6 k7 r0 r1 r2 r3 r4 r5 s0 s1 s2 s3 s4 s5 (U.alloc o) := ⟨alloc_past h.1, alloc_past h.2.1, h.2.2.alloc h.2.2.size _⟩
theorem Dd.gr {w U V : World} {k6 k7 g : Nat} {r0 r1 r2 r3 r4 r5 s0 s1 s2 s3 s4 s5 : Int} (h : Dd w k6 k7 r0 r1 r2 r3 r4 r5 s0 s1 s2 s3 s4 s5 U) (hg : U.grownBy V (some g)) (h6 : k6 ≠ g) (h7 : k7 ≠ g) (hw : w.heap.size ≤ g) : Dd w k6 k7 r0 r1 r2 r3 r4 r5 s0 s1 s2 s3 s4 s5 V := ⟨rowg h.1 hg h6, rowg h.2.1 hg h7, below_to h.2.2 hg hw⟩
theorem Dd.set {w U : World} {k6 k7 g i : Nat} {v : Value} {r0 r1 r2 r3 r4 r5 s0 s1 s2 s3 s4 s5 : Int} (h : Dd w k6 k7 r0 r1 r2 r3 r4 r5 s0 s1 s2 s3 s4 s5 U) (h6 : k6 ≠ g) (h7 : k7 ≠ g) (hw : w.heap.size ≤ g) : Dd w k6 k7 r0 r1 r2 r3 r4 r5 s0 s1 s2 s3 s4 s5 (U.setCell ⟨g, i, none⟩ v) := ⟨by rw [Below.heap_setCell _ _ _ _ h6]; exact h.1, by rw [Below.heap_setCell _ _ _ _ h7]; exact h.2.1, h.2.2.setCell hw _⟩
theorem among8 (bl n : Nat) (B g : Nat) (A : Option Addr) (len cap : Nat) (zs : List Int) (m : Int) (w : World) (h : Cu w B g A len cap zs m) (hm : m ≤ 900000) (hl : w.heap[bl]? = some (.cells #[.int .i64 1, .int .i64 2, .int .i64 3, .int .i64 0, .int .i64 6, .int .i64 12, .int .i64 13, .int .i64 (-1)] 3 (0, 0))) (hne : bl ≠ g) (hn0 : 0 < n) (hn1 : n ≤ 8) : Calls Try.prog 175 #[.pointer (some ⟨g, 0, none⟩), .slice (some ⟨bl, 0, none⟩) n 8] w fun e w' => ∃ x, -1 ≤ x ∧ x ≤ 13 ∧ e = .returned (.int .i64 x) ∧ CuTo B g A len cap zs (m + 2) w w' := by
  have hlen : (([1, 2, 3, 0, 6, 12, 13, -1] : List Int).take n).length = n := by rw [List.length_take]; simp; omega
  have H := among_any bl 8 (([1, 2, 3, 0, 6, 12, 13, -1] : List Int).take n) B g A len cap zs m w h hm (fun k x hx => by
    rw [cell_of_row w bl k _ _ _ hl]
    have hk : ([1, 2, 3, 0, 6, 12, 13, -1] : List Int)[k]? = some x := by
      rw [List.getElem?_take] at hx
      split at hx
      · exact hx
      · cases hx
    have : (#[.int .i64 1, .int .i64 2, .int .i64 3, .int .i64 0, .int .i64 6, .int .i64 12, .int .i64 13, .int .i64 (-1)] : Array Value) = ((([1, 2, 3, 0, 6, 12, 13, -1] : List Int)).map (Value.int .i64)).toArray := rfl
    rw [this, List.getElem?_toArray, List.getElem?_map, hk]
    rfl) hne (by rw [hlen]; exact hn0) (by rw [hlen]; omega)
  rw [hlen] at H
  refine H.mono ?_
  rintro e w' ⟨x, hx, rfl, hc⟩
  have hm := List.mem_of_mem_take hx
  simp only [List.mem_cons, List.mem_nil_iff, or_false] at hm
  exact ⟨x, by omega, by omega, rfl, hc⟩
theorem set12 {V : World} {a b : Nat} {r0 r1 r2 r3 r4 r5 s0 s1 s2 s3 s4 s5 : Int} (hab : a ≠ b) (ha : V.heap[a]? = some (.cells #[.int .i64 0, .int .i64 0, .int .i64 0, .int .i64 0, .int .i64 0, .int .i64 0] 28 (0, 0))) (hb : V.heap[b]? = some (.cells #[.int .i64 0, .int .i64 0, .int .i64 0, .int .i64 0, .int .i64 0, .int .i64 0] 28 (0, 0))) : ((((((((((((V.setCell ⟨a, 0, none⟩ (.int .i64 r0)).setCell ⟨a, 1, none⟩ (.int .i64 r1)).setCell ⟨a, 2, none⟩ (.int .i64 r2)).setCell ⟨a, 3, none⟩ (.int .i64 r3)).setCell ⟨a, 4, none⟩ (.int .i64 r4)).setCell ⟨a, 5, none⟩ (.int .i64 r5)).setCell ⟨b, 0, none⟩ (.int .i64 s0)).setCell ⟨b, 1, none⟩ (.int .i64 s1)).setCell ⟨b, 2, none⟩ (.int .i64 s2)).setCell ⟨b, 3, none⟩ (.int .i64 s3)).setCell ⟨b, 4, none⟩ (.int .i64 s4)).setCell ⟨b, 5, none⟩ (.int .i64 s5)).heap[a]? = some (.cells #[.int .i64 r0, .int .i64 r1, .int .i64 r2, .int .i64 r3, .int .i64 r4, .int .i64 r5] 28 (0, 0)) ∧ ((((((((((((V.setCell ⟨a, 0, none⟩ (.int .i64 r0)).setCell ⟨a, 1, none⟩ (.int .i64 r1)).setCell ⟨a, 2, none⟩ (.int .i64 r2)).setCell ⟨a, 3, none⟩ (.int .i64 r3)).setCell ⟨a, 4, none⟩ (.int .i64 r4)).setCell ⟨a, 5, none⟩ (.int .i64 r5)).setCell ⟨b, 0, none⟩ (.int .i64 s0)).setCell ⟨b, 1, none⟩ (.int .i64 s1)).setCell ⟨b, 2, none⟩ (.int .i64 s2)).setCell ⟨b, 3, none⟩ (.int .i64 s3)).setCell ⟨b, 4, none⟩ (.int .i64 s4)).setCell ⟨b, 5, none⟩ (.int .i64 s5)).heap[b]? = some (.cells #[.int .i64 s0, .int .i64 s1, .int .i64 s2, .int .i64 s3, .int .i64 s4, .int .i64 s5] 28 (0, 0)) := by
  have q1 := set6row (.int .i64 r0) (.int .i64 r1) (.int .i64 r2) (.int .i64 r3) (.int .i64 r4) (.int .i64 r5) ha
  have p1 : ((((((V.setCell ⟨a, 0, none⟩ (.int .i64 r0)).setCell ⟨a, 1, none⟩ (.int .i64 r1)).setCell ⟨a, 2, none⟩ (.int .i64 r2)).setCell ⟨a, 3, none⟩ (.int .i64 r3)).setCell ⟨a, 4, none⟩ (.int .i64 r4)).setCell ⟨a, 5, none⟩ (.int .i64 r5)).heap[b]? = some (.cells #[.int .i64 0, .int .i64 0, .int .i64 0, .int .i64 0, .int .i64 0, .int .i64 0] 28 (0, 0)) := by
    rw [Below.heap_setCell _ _ _ _ hab.symm, Below.heap_setCell _ _ _ _ hab.symm, Below.heap_setCell _ _ _ _ hab.symm, Below.heap_setCell _ _ _ _ hab.symm, Below.heap_setCell _ _ _ _ hab.symm, Below.heap_setCell _ _ _ _ hab.symm]
    exact hb
  refine ⟨?_, set6row _ _ _ _ _ _ p1⟩
  rw [Below.heap_setCell _ _ _ _ hab, Below.heap_setCell _ _ _ _ hab, Below.heap_setCell _ _ _ _ hab, Below.heap_setCell _ _ _ _ hab, Below.heap_setCell _ _ _ _ hab, Below.heap_setCell _ _ _ _ hab]
  exact q1
def DnPost (w : World) (e : Ending) (w' : World) : Prop := ∃ (r0 r1 r2 r3 r4 r5 s0 s1 s2 s3 s4 s5 n : Int), Wf6 r0 r1 r2 r3 r4 r5 ∧ Wf6 s0 s1 s2 s3 s4 s5 ∧ (-1 ≤ n ∧ n ≤ 13) ∧ e = .returned (.tuple #[.agg #[.int .i64 r0, .int .i64 r1, .int .i64 r2, .int .i64 r3, .int .i64 r4, .int .i64 r5], .agg #[.int .i64 s0, .int .i64 s1, .int .i64 s2, .int .i64 s3, .int .i64 s4, .int .i64 s5], .int .i64 n]) ∧ Below w.heap.size w w'
set_option maxRecDepth 8000 in
set_option maxHeartbeats 4000000 in
theorem draw_times (B : Nat) (A : Option Addr) (len cap : Nat) (zs : List Int) (w : World) (h : CodeIn w B A len zs) (hB : B ≤ w.heap.size) (hl : len ≤ 65536) : Calls Try.prog 75 #[.slice A len cap] w (DnPost w) := by
  have H := Lib.hid h
  clear h
  go_enter Try.func75, Try.ntmps75
  go_wp2_with fail
  generalize hW : (World.alloc _ _ : World) = W0
  have HB := Lib.hid (show Below w.heap.size w W0 by rw [← hW]; (repeat (first | exact Below.refl _ _ | assumption | refine Below.setCell ?_ (by first | (simp; done) | (simp; omega)) _ | refine Below.alloc ?_ (by first | (simp; done) | (simp; omega)) _ | refine Below.drew ?_)))
  have Q0 := Lib.hid (show W0.heap[w.heap.size]? = some (.cells #[.int .i64 0, .int .i64 0, .int .i64 0, .int .i64 0, .int .i64 0, .int .i64 0] 28 (0, 0)) by rw [← hW]; exact alloc_past (alloc_past (alloc_at rfl)))
  have P0 := Lib.hid (show W0.heap[w.heap.size + 1]? = some (.cells #[.int .i64 0, .int .i64 0, .int .i64 0, .int .i64 0, .int .i64 0, .int .i64 0] 28 (0, 0)) by rw [← hW]; exact alloc_past (alloc_at (by simp)))
  have H0 := Lib.hid (show CuTo B (w.heap.size + 1 + 1) A len cap zs 0 W0 W0 by
    refine ⟨?_, g_refl _ _⟩
    rw [← hW]
    have e := cu_new (W := (w.alloc (.cells #[.int .i64 0, .int .i64 0, .int .i64 0, .int .i64 0, .int .i64 0, .int .i64 0] 28)).alloc (.cells #[.int .i64 0, .int .i64 0, .int .i64 0, .int .i64 0, .int .i64 0, .int .i64 0] 28)) (cap := cap) (H.out.below (((Below.refl _ _).alloc (Nat.le_refl _) _).alloc (by simp) _) hB) (by simp; omega) hl
    simpa using e)
  clear hW H
  generalize hg : w.heap.size + 1 + 1 = g at H0 ⊢
  refine (stamp_dr B g A len cap zs 0 W0 H0.out.1 (by omega)).mono ?_
  rintro e W1 ⟨r0, r1, r2, r3, r4, r5, hw, rfl, hc⟩
  have H1 := Lib.hid (H0.out.step hc)
  have Q1 := Lib.hid (rowg Q0.out hc.2 (by omega))
  have P1 := Lib.hid (rowg P0.out hc.2 (by omega))
  have HR := Lib.hid hw
  clear hc hw H0 Q0 P0
  go_wp2_with fail
  refine (stamp_dr B g A len cap zs (0 + 100) W1 H1.out.1 (by omega)).mono ?_
  rintro e W2 ⟨s0, s1, s2, s3, s4, s5, hw, rfl, hc⟩
  have H2 := Lib.hid (H1.out.step hc)
  have HS := Lib.hid hw
  have Q2 := Lib.hid (rowg Q1.out hc.2 (by omega))
  have P2 := Lib.hid (rowg P1.out hc.2 (by omega))
  clear hc hw H1 Q1 P1
  have HB2 := Lib.hid (below_to HB.out H2.out.2 (by omega))
  have hgl := H2.out.1.glt
  go_wp2_with fail
  have hcu := (H2.out.1.alloc (.cells #[.int .i64 r0, .int .i64 r1, .int .i64 r2, .int .i64 r3, .int .i64 r4, .int .i64 r5] 28)).alloc (.cells #[.int .i64 s0, .int .i64 s1, .int .i64 s2, .int .i64 s3, .int .i64 s4, .int .i64 s5] 28)
  have hq : ((W2.alloc (.cells #[.int .i64 r0, .int .i64 r1, .int .i64 r2, .int .i64 r3, .int .i64 r4, .int .i64 r5] 28)).alloc (.cells #[.int .i64 s0, .int .i64 s1, .int .i64 s2, .int .i64 s3, .int .i64 s4, .int .i64 s5] 28)).heap[w.heap.size]? = some (.cells #[.int .i64 0, .int .i64 0, .int .i64 0, .int .i64 0, .int .i64 0, .int .i64 0] 28 (0, 0)) := alloc_past (alloc_past Q2.out)
  have hp : ((W2.alloc (.cells #[.int .i64 r0, .int .i64 r1, .int .i64 r2, .int .i64 r3, .int .i64 r4, .int .i64 r5] 28)).alloc (.cells #[.int .i64 s0, .int .i64 s1, .int .i64 s2, .int .i64 s3, .int .i64 s4, .int .i64 s5] 28)).heap[w.heap.size + 1]? = some (.cells #[.int .i64 0, .int .i64 0, .int .i64 0, .int .i64 0, .int .i64 0, .int .i64 0] 28 (0, 0)) := alloc_past (alloc_past P2.out)
  have hD : Dd w W2.heap.size (W2.heap.size + 1) r0 r1 r2 r3 r4 r5 s0 s1 s2 s3 s4 s5 ((W2.alloc (.cells #[.int .i64 r0, .int .i64 r1, .int .i64 r2, .int .i64 r3, .int .i64 r4, .int .i64 r5] 28)).alloc (.cells #[.int .i64 s0, .int .i64 s1, .int .i64 s2, .int .i64 s3, .int .i64 s4, .int .i64 s5] 28)) := ⟨alloc_past (alloc_at rfl), alloc_at (by simp), (HB2.out.alloc HB2.out.size _).alloc (by have := HB2.out.size; simp; omega) _⟩
  have hsz : ((W2.alloc (.cells #[.int .i64 r0, .int .i64 r1, .int .i64 r2, .int .i64 r3, .int .i64 r4, .int .i64 r5] 28)).alloc (.cells #[.int .i64 s0, .int .i64 s1, .int .i64 s2, .int .i64 s3, .int .i64 s4, .int .i64 s5] 28)).heap.size = W2.heap.size + 2 := by simp
  clear HB HB2 H2 Q2 P2
  have hg1 : w.heap.size ≠ g := by omega
  have hg2 : w.heap.size + 1 ≠ g := by omega
  generalize hk7 : W2.heap.size + 1 = k7 at hD ⊢
  generalize hk6 : W2.heap.size = k6 at hD ⊢
  generalize (World.alloc _ _ : World) = W at hcu hq hp hD hsz ⊢
  refine wp_region_held_drew (S := (fun U => U.cell? ⟨k6, 0, none⟩ = some (.int .i64 r0) ∧ U.cell? ⟨k6, 1, none⟩ = some (.int .i64 r1) ∧ U.cell? ⟨k6, 2, none⟩ = some (.int .i64 r2) ∧ U.cell? ⟨k6, 3, none⟩ = some (.int .i64 r3) ∧ U.cell? ⟨k6, 4, none⟩ = some (.int .i64 r4) ∧ U.cell? ⟨k6, 5, none⟩ = some (.int .i64 r5) ∧ U.cell? ⟨k7, 0, none⟩ = some (.int .i64 s0) ∧ U.cell? ⟨k7, 1, none⟩ = some (.int .i64 s1) ∧ U.cell? ⟨k7, 2, none⟩ = some (.int .i64 s2) ∧ U.cell? ⟨k7, 3, none⟩ = some (.int .i64 s3) ∧ U.cell? ⟨k7, 4, none⟩ = some (.int .i64 s4) ∧ U.cell? ⟨k7, 5, none⟩ = some (.int .i64 s5) ∧ Dd w k6 k7 r0 r1 r2 r3 r4 r5 s0 s1 s2 s3 s4 s5 U)) (by kernel_rfl) ?_ (fun hHeld => ?_)
  · (try dsimp only)
    exact SKd hD.drew
  have hD := hD.drew
  have hcu : Cu W.drew B g A len cap zs (0 + 100 + 100) := by obtain ⟨h1, h2, h3, a, s, h4, h5, h6, h7⟩ := hcu; exact ⟨h1, h2, h3, a, s, h4, h5, h6, h7⟩
  have hq := drew_row hq
  have hp := drew_row hp
  have hsz : W.drew.heap.size = W2.heap.size + 2 := hsz
  generalize W.drew = V at hD hcu hq hp hsz hHeld ⊢
  refine wpAnyH_take (i := 0) (oi := { dst := some 15, op := Go.Op.load 28 (Go.Operand.tmp 6), type := 28, pos := "l5_spread.go:199", after := #[], guard := none }) (v := ?_) rfl (by kernel_rfl) (by kernel_rfl) (by kernel_rfl) (fun _ _ _ h => h) (Or.inl ⟨by rfl, ?_⟩) (by assumption) ?_
  rotate_left
  · intro w hSw; (try dsimp only at hSw); go_simp; (try with_reducible rfl)
  simp only [Act.put, List.setIfInBounds_toArray, List.set_cons_zero, List.set_cons_succ]
  refine wpAnyH_take (i := 1) (oi := { dst := some 16, op := Go.Op.load 28 (Go.Operand.tmp 7), type := 28, pos := "l5_spread.go:199", after := #[{ on := 10, ground := Go.Ground.gcOnly Go.Departure.lateStores }], guard := none }) (v := ?_) rfl (by kernel_rfl) (by kernel_rfl) (by kernel_rfl) (fun _ _ _ h => h) (Or.inl ⟨by rfl, ?_⟩) (by assumption) ?_
  rotate_left
  · intro w hSw; (try dsimp only at hSw); go_simp; (try with_reducible rfl)
  simp only [Act.put, List.setIfInBounds_toArray, List.set_cons_zero, List.set_cons_succ]
  refine wpAnyH_take (i := 2) (oi := { dst := some 17, op := Go.Op.move (Go.Operand.tmp 5), type := 135, pos := "l5_spread.go:199", after := #[], guard := none }) (v := ?_) rfl (by kernel_rfl) (by kernel_rfl) (by kernel_rfl) (fun _ _ _ h => h) (Or.inl ⟨by rfl, ?_⟩) (by assumption) ?_
  rotate_left
  · intro w hSw; (try dsimp only at hSw); go_simp; (try with_reducible rfl)
  simp only [Act.put, List.setIfInBounds_toArray, List.set_cons_zero, List.set_cons_succ]
  refine wpAnyH_take (i := 4) (oi := { dst := some 19, op := Go.Op.move (Go.Operand.tmp 5), type := 135, pos := "l5_spread.go:199", after := #[], guard := none }) (v := ?_) rfl (by kernel_rfl) (by kernel_rfl) (by kernel_rfl) (fun _ _ _ h => h) (Or.inl ⟨by rfl, ?_⟩) (by assumption) ?_
  rotate_left
  · intro w hSw; (try dsimp only at hSw); go_simp; (try with_reducible rfl)
  simp only [Act.put, List.setIfInBounds_toArray, List.set_cons_zero, List.set_cons_succ]
  refine wpAnyH_ready (rs := [3, 5]) (by kernel_rfl) (by simp) ?_
  refine AllReadyH.cons (o := { dst := some 18, op := Go.Op.buildSlice 153 8 #[(0, Go.Operand.const (Go.Value.int Go.IntKind.i64 1)), (1, Go.Operand.const (Go.Value.int Go.IntKind.i64 2)), (2, Go.Operand.const (Go.Value.int Go.IntKind.i64 3)), (3, Go.Operand.const (Go.Value.int Go.IntKind.i64 0)), (4, Go.Operand.const (Go.Value.int Go.IntKind.i64 6)), (5, Go.Operand.const (Go.Value.int Go.IntKind.i64 12)), (6, Go.Operand.const (Go.Value.int Go.IntKind.i64 13)), (7, Go.Operand.const (Go.Value.int Go.IntKind.i64 (-1)))], type := 153, pos := "l5_spread.go:199", after := #[], guard := none }) rfl (fun K hK => ?_) ?_
  · skip
    go_simp
    have hlit : (V.alloc (.cells #[.int .i64 1, .int .i64 2, .int .i64 3, .int .i64 0, .int .i64 6, .int .i64 12, .int .i64 13, .int .i64 (-1)] 3)).heap[k6 + 2]? = some (.cells #[.int .i64 1, .int .i64 2, .int .i64 3, .int .i64 0, .int .i64 6, .int .i64 12, .int .i64 13, .int .i64 (-1)] 3 (0, 0)) := alloc_at (by omega)
    have hD := hD.al (.cells #[.int .i64 1, .int .i64 2, .int .i64 3, .int .i64 0, .int .i64 6, .int .i64 12, .int .i64 13, .int .i64 (-1)] 3)
    have hcu := hcu.alloc (.cells #[.int .i64 1, .int .i64 2, .int .i64 3, .int .i64 0, .int .i64 6, .int .i64 12, .int .i64 13, .int .i64 (-1)] 3)
    have hq := alloc_past (o := (.cells #[.int .i64 1, .int .i64 2, .int .i64 3, .int .i64 0, .int .i64 6, .int .i64 12, .int .i64 13, .int .i64 (-1)] 3)) hq
    have hp := alloc_past (o := (.cells #[.int .i64 1, .int .i64 2, .int .i64 3, .int .i64 0, .int .i64 6, .int .i64 12, .int .i64 13, .int .i64 (-1)] 3)) hp
    refine hK.out _ _ ?_ (fun hHeld => ?_)
    · (try dsimp only)
      exact SKd hD
    clear hK K
    (try simp only [Act.put, List.setIfInBounds_toArray, List.set_cons_zero, List.set_cons_succ])
    generalize (World.alloc _ _ : World) = V1 at hlit hD hcu hq hp hHeld ⊢
    refine wpAnyH_ready (rs := [5]) (by kernel_rfl) (by simp) ?_
    refine AllReadyH.cons (o := { dst := some 20, op := Go.Op.call { callee := Go.Callee.value (Go.Operand.func 158), args := #[Go.Operand.tmp 19, Go.Operand.const (Go.Value.int Go.IntKind.i64 24)], argTypes := #[135, 3] }, type := 3, pos := "l5_spread.go:199", after := #[{ on := 4, ground := Go.Ground.data }], guard := none }) rfl (fun K hK => ?_) AllReadyH.nil
    go_simp
    (go_at_call 158; (with_reducible refine (pick_any 24 B g A len cap zs (0 + 100 + 100) _ hcu (by omega) (by omega) (by omega)).mono ?_); rintro e V2 ⟨v, rfl, hv0, hv1, hc⟩; go_wp2_with fail)
    have hcu := hc.1
    have hD := hD.gr hc.2 (by omega) (by omega) (by omega)
    have hq := rowg hq hc.2 (by omega)
    have hp := rowg hp hc.2 (by omega)
    have hlit := rowg hlit hc.2 (by omega)
    clear hc
    refine hK.out _ _ ?_ (fun hHeld => ?_)
    · (try dsimp only)
      exact SKd hD
    clear hK K
    (try simp only [Act.put, List.setIfInBounds_toArray, List.set_cons_zero, List.set_cons_succ])
    have hv9 : v ≤ 23 := by omega
    obtain ⟨q, htq⟩ : ∃ q, v.tdiv 11 = q := ⟨_, rfl⟩
    have hq0 : 0 ≤ q ∧ q ≤ 2 := by rw [← htq, Int.tdiv_eq_ediv_of_nonneg hv0]; omega
    have hvn0 : 0 < (6 + q).toNat := by omega
    have hvn8 : (6 + q).toNat ≤ 8 := by omega
    have hvs0 : 0 ≤ 6 + q := by omega
    have hvs8 : 6 + q ≤ 8 := by omega
    have hvd : IntKind.i64.wrap q = q := by rw [IntKind.wrap_i64]; omega
    have hvw : IntKind.i64.wrap (6 + q) = 6 + q := by rw [IntKind.wrap_i64]; omega
    refine wpAnyH_take (i := 6) (oi := { dst := some 21, op := Go.Op.binOp Go.BinOp.quo 3 (Go.Operand.tmp 20) (Go.Operand.const (Go.Value.int Go.IntKind.i64 11)) 3, type := 3, pos := "l5_spread.go:199", after := #[{ on := 5, ground := Go.Ground.data }], guard := none }) (v := ?_) rfl (by kernel_rfl) (by kernel_rfl) (by kernel_rfl) (fun _ _ _ h => h) (Or.inl ⟨by rfl, ?_⟩) (by assumption) ?_
    rotate_left
    · intro w hSw; (try dsimp only at hSw); go_simp; (try with_reducible rfl)
    simp only [Act.put, List.setIfInBounds_toArray, List.set_cons_zero, List.set_cons_succ]
    refine wpAnyH_take (i := 7) (oi := { dst := some 22, op := Go.Op.binOp Go.BinOp.add 3 (Go.Operand.const (Go.Value.int Go.IntKind.i64 6)) (Go.Operand.tmp 21) 3, type := 3, pos := "l5_spread.go:199", after := #[{ on := 6, ground := Go.Ground.data }], guard := none }) (v := ?_) rfl (by kernel_rfl) (by kernel_rfl) (by kernel_rfl) (fun _ _ _ h => h) (Or.inl ⟨by rfl, ?_⟩) (by assumption) ?_
    rotate_left
    · intro w hSw; (try dsimp only at hSw); go_simp; (try with_reducible rfl)
    simp only [Act.put, List.setIfInBounds_toArray, List.set_cons_zero, List.set_cons_succ]
    refine wpAnyH_take (i := 8) (oi := { dst := some 23, op := Go.Op.slice 153 (Go.Operand.tmp 18) none (some (Go.Operand.tmp 22)) none, type := 153, pos := "l5_spread.go:199", after := #[{ on := 3, ground := Go.Ground.data }, { on := 7, ground := Go.Ground.data }], guard := none }) (v := ?_) rfl (by kernel_rfl) (by kernel_rfl) (by kernel_rfl) (fun _ _ _ h => h) (Or.inl ⟨by rfl, ?_⟩) (by assumption) ?_
    rotate_left
    · intro w hSw; (try dsimp only at hSw); go_simp; (try with_reducible rfl)
    simp only [Act.put, List.setIfInBounds_toArray, List.set_cons_zero, List.set_cons_succ]
    refine wpAnyH_ready (rs := [9]) (by kernel_rfl) (by simp) ?_
    refine AllReadyH.cons (o := { dst := some 24, op := Go.Op.call { callee := Go.Callee.value (Go.Operand.func 175), args := #[Go.Operand.tmp 17, Go.Operand.tmp 23], argTypes := #[135, 153] }, type := 3, pos := "l5_spread.go:199", after := #[{ on := 2, ground := Go.Ground.data }, { on := 8, ground := Go.Ground.data }, { on := 5, ground := Go.Ground.chain }], guard := none }) rfl (fun K hK => ?_) AllReadyH.nil
    go_simp
    (go_at_call 175; (with_reducible refine (among8 (k6 + 2) _ B g A len cap zs (0 + 100 + 100 + 2) _ hcu (by omega) hlit (by omega) (by omega) (by omega)).mono ?_); rintro e V3 ⟨n, hn0, hn1, rfl, hc⟩; go_wp2_with fail)
    have hD := hD.gr hc.2 (by omega) (by omega) (by omega)
    have hq := rowg hq hc.2 (by omega)
    have hp := rowg hp hc.2 (by omega)
    have z_c := fun j => cell_of_row V3 _ j _ _ _ hq
    have z_f := fun j => frozen_of_row V3 _ j _ _ hq
    have y_c := fun j => cell_of_row V3 _ j _ _ _ hp
    have y_f := fun j => frozen_of_row V3 _ j _ _ hp
    clear hc
    refine hK.out _ _ ?_ (fun hHeld => ?_)
    · (try dsimp only)
      exact SKd hD
    clear hK K
    (try simp only [Act.put, List.setIfInBounds_toArray, List.set_cons_zero, List.set_cons_succ])
    refine wpAnyH_ready (rs := [10]) (by kernel_rfl) (by simp) ?_
    refine AllReadyH.cons (o := { dst := none, op := Go.Op.store 28 (Go.Operand.tmp 2) (Go.Operand.tmp 15), type := 0, pos := "l5_spread.go:199", after := #[{ on := 0, ground := Go.Ground.data }, { on := 9, ground := Go.Ground.chain }, { on := 0, ground := Go.Ground.phase }, { on := 1, ground := Go.Ground.textOnly Go.Departure.lateStores }, { on := 2, ground := Go.Ground.textOnly Go.Departure.lateStores }, { on := 3, ground := Go.Ground.textOnly Go.Departure.lateStores }, { on := 4, ground := Go.Ground.textOnly Go.Departure.lateStores }, { on := 5, ground := Go.Ground.textOnly Go.Departure.lateStoresUnsure }, { on := 6, ground := Go.Ground.textOnly Go.Departure.lateStores }, { on := 7, ground := Go.Ground.textOnly Go.Departure.lateStores }, { on := 8, ground := Go.Ground.textOnly Go.Departure.lateStoresUnsure }, { on := 9, ground := Go.Ground.textOnly Go.Departure.lateStoresUnsure }], guard := none }) rfl (fun K hK => ?_) AllReadyH.nil
    go_simp
    have hD := (((((hD.set (g := w.heap.size) (i := 0) (v := .int .i64 r0) (by omega) (by omega) (Nat.le_refl _)).set (g := w.heap.size) (i := 1) (v := .int .i64 r1) (by omega) (by omega) (Nat.le_refl _)).set (g := w.heap.size) (i := 2) (v := .int .i64 r2) (by omega) (by omega) (Nat.le_refl _)).set (g := w.heap.size) (i := 3) (v := .int .i64 r3) (by omega) (by omega) (Nat.le_refl _)).set (g := w.heap.size) (i := 4) (v := .int .i64 r4) (by omega) (by omega) (Nat.le_refl _)).set (g := w.heap.size) (i := 5) (v := .int .i64 r5) (by omega) (by omega) (Nat.le_refl _)
    refine hK.out _ _ ?_ (fun hHeld => ?_)
    · (try dsimp only)
      exact SKd hD
    clear hK K
    (try simp only [Act.put, List.setIfInBounds_toArray, List.set_cons_zero, List.set_cons_succ])
    refine wpAnyH_ready (rs := [11]) (by kernel_rfl) (by simp) ?_
    refine AllReadyH.cons (o := { dst := none, op := Go.Op.store 28 (Go.Operand.tmp 3) (Go.Operand.tmp 16), type := 0, pos := "l5_spread.go:199", after := #[{ on := 1, ground := Go.Ground.data }, { on := 10, ground := Go.Ground.chain }, { on := 0, ground := Go.Ground.phase }, { on := 1, ground := Go.Ground.phase }, { on := 2, ground := Go.Ground.textOnly Go.Departure.lateStores }, { on := 3, ground := Go.Ground.textOnly Go.Departure.lateStores }, { on := 4, ground := Go.Ground.textOnly Go.Departure.lateStores }, { on := 5, ground := Go.Ground.textOnly Go.Departure.lateStoresUnsure }, { on := 6, ground := Go.Ground.textOnly Go.Departure.lateStores }, { on := 7, ground := Go.Ground.textOnly Go.Departure.lateStores }, { on := 8, ground := Go.Ground.textOnly Go.Departure.lateStoresUnsure }, { on := 9, ground := Go.Ground.textOnly Go.Departure.lateStoresUnsure }, { on := 10, ground := Go.Ground.phase }], guard := none }) rfl (fun K hK => ?_) AllReadyH.nil
    go_simp
    have hD := (((((hD.set (g := w.heap.size + 1) (i := 0) (v := .int .i64 s0) (by omega) (by omega) (Nat.le_succ _)).set (g := w.heap.size + 1) (i := 1) (v := .int .i64 s1) (by omega) (by omega) (Nat.le_succ _)).set (g := w.heap.size + 1) (i := 2) (v := .int .i64 s2) (by omega) (by omega) (Nat.le_succ _)).set (g := w.heap.size + 1) (i := 3) (v := .int .i64 s3) (by omega) (by omega) (Nat.le_succ _)).set (g := w.heap.size + 1) (i := 4) (v := .int .i64 s4) (by omega) (by omega) (Nat.le_succ _)).set (g := w.heap.size + 1) (i := 5) (v := .int .i64 s5) (by omega) (by omega) (Nat.le_succ _)
    refine hK.out _ _ ?_ (fun hHeld => ?_)
    · (try dsimp only)
      exact SKd hD
    clear hK K
    (try simp only [Act.put, List.setIfInBounds_toArray, List.set_cons_zero, List.set_cons_succ])
    refine wpAnyH_take (i := 12) (oi := { dst := some 4, op := Go.Op.assign (Go.Operand.tmp 24), type := 3, pos := "l5_spread.go:199", after := #[{ on := 9, ground := Go.Ground.data }, { on := 11, ground := Go.Ground.chain }, { on := 0, ground := Go.Ground.phase }, { on := 1, ground := Go.Ground.phase }, { on := 2, ground := Go.Ground.phase }, { on := 3, ground := Go.Ground.phase }, { on := 4, ground := Go.Ground.phase }, { on := 5, ground := Go.Ground.phase }, { on := 6, ground := Go.Ground.phase }, { on := 7, ground := Go.Ground.phase }, { on := 8, ground := Go.Ground.phase }, { on := 9, ground := Go.Ground.phase }, { on := 10, ground := Go.Ground.phase }, { on := 11, ground := Go.Ground.phase }], guard := none }) (v := ?_) rfl (by kernel_rfl) (by kernel_rfl) (by kernel_rfl) (fun _ _ _ h => h) (Or.inl ⟨by rfl, ?_⟩) (by assumption) ?_
    rotate_left
    · intro w hSw; (try dsimp only at hSw); go_simp; (try with_reducible rfl)
    simp only [Act.put, List.setIfInBounds_toArray, List.set_cons_zero, List.set_cons_succ]
    refine wpAnyH_done (by kernel_rfl) ?_ _
    clear hvw hvd htq hvs0 hvs8 hvn0 hvn8
    have h12 := set12 (r0 := r0) (r1 := r1) (r2 := r2) (r3 := r3) (r4 := r4) (r5 := r5) (s0 := s0) (s1 := s1) (s2 := s2) (s3 := s3) (s4 := s4) (s5 := s5) (show w.heap.size ≠ w.heap.size + 1 by omega) hq hp
    have hB := hD.2.2
    clear hHeld hD z_c z_f y_c y_f hq hp hcu hlit
    generalize (World.setCell _ _ _ : World) = X at h12 hB ⊢
    have z_c := fun j => cell_of_row X _ j _ _ _ h12.1
    have y_c := fun j => cell_of_row X _ j _ _ _ h12.2
    clear h12
    go_wp2_with fail
    exact bodyPost_ret (v := .tuple #[.agg #[.int .i64 r0, .int .i64 r1, .int .i64 r2, .int .i64 r3, .int .i64 r4, .int .i64 r5], .agg #[.int .i64 s0, .int .i64 s1, .int .i64 s2, .int .i64 s3, .int .i64 s4, .int .i64 s5], .int .i64 n]) (by simp [results, Try.results75, go_sem, z_c, y_c]) rfl ⟨r0, r1, r2, r3, r4, r5, s0, s1, s2, s3, s4, s5, n, HR.out, HS.out, ⟨hn0, hn1⟩, rfl, hB⟩
  · skip
    refine AllReadyH.cons (o := { dst := some 20, op := Go.Op.call { callee := Go.Callee.value (Go.Operand.func 158), args := #[Go.Operand.tmp 19, Go.Operand.const (Go.Value.int Go.IntKind.i64 24)], argTypes := #[135, 3] }, type := 3, pos := "l5_spread.go:199", after := #[{ on := 4, ground := Go.Ground.data }], guard := none }) rfl (fun K hK => ?_) AllReadyH.nil
    go_simp
    (go_at_call 158; (with_reducible refine (pick_any 24 B g A len cap zs (0 + 100 + 100) _ hcu (by omega) (by omega) (by omega)).mono ?_); rintro e V2 ⟨v, rfl, hv0, hv1, hc⟩; go_wp2_with fail)
    have hcu := hc.1
    have hD := hD.gr hc.2 (by omega) (by omega) (by omega)
    have hq := rowg hq hc.2 (by omega)
    have hp := rowg hp hc.2 (by omega)
    skip
    clear hc
    refine hK.out _ _ ?_ (fun hHeld => ?_)
    · (try dsimp only)
      exact SKd hD
    clear hK K
    (try simp only [Act.put, List.setIfInBounds_toArray, List.set_cons_zero, List.set_cons_succ])
    have hv9 : v ≤ 23 := by omega
    obtain ⟨q, htq⟩ : ∃ q, v.tdiv 11 = q := ⟨_, rfl⟩
    have hq0 : 0 ≤ q ∧ q ≤ 2 := by rw [← htq, Int.tdiv_eq_ediv_of_nonneg hv0]; omega
    have hvn0 : 0 < (6 + q).toNat := by omega
    have hvn8 : (6 + q).toNat ≤ 8 := by omega
    have hvs0 : 0 ≤ 6 + q := by omega
    have hvs8 : 6 + q ≤ 8 := by omega
    have hvd : IntKind.i64.wrap q = q := by rw [IntKind.wrap_i64]; omega
    have hvw : IntKind.i64.wrap (6 + q) = 6 + q := by rw [IntKind.wrap_i64]; omega
    refine wpAnyH_take (i := 6) (oi := { dst := some 21, op := Go.Op.binOp Go.BinOp.quo 3 (Go.Operand.tmp 20) (Go.Operand.const (Go.Value.int Go.IntKind.i64 11)) 3, type := 3, pos := "l5_spread.go:199", after := #[{ on := 5, ground := Go.Ground.data }], guard := none }) (v := ?_) rfl (by kernel_rfl) (by kernel_rfl) (by kernel_rfl) (fun _ _ _ h => h) (Or.inl ⟨by rfl, ?_⟩) (by assumption) ?_
    rotate_left
    · intro w hSw; (try dsimp only at hSw); go_simp; (try with_reducible rfl)
    simp only [Act.put, List.setIfInBounds_toArray, List.set_cons_zero, List.set_cons_succ]
    refine wpAnyH_take (i := 7) (oi := { dst := some 22, op := Go.Op.binOp Go.BinOp.add 3 (Go.Operand.const (Go.Value.int Go.IntKind.i64 6)) (Go.Operand.tmp 21) 3, type := 3, pos := "l5_spread.go:199", after := #[{ on := 6, ground := Go.Ground.data }], guard := none }) (v := ?_) rfl (by kernel_rfl) (by kernel_rfl) (by kernel_rfl) (fun _ _ _ h => h) (Or.inl ⟨by rfl, ?_⟩) (by assumption) ?_
    rotate_left
    · intro w hSw; (try dsimp only at hSw); go_simp; (try with_reducible rfl)
    simp only [Act.put, List.setIfInBounds_toArray, List.set_cons_zero, List.set_cons_succ]
    refine wpAnyH_ready (rs := [3]) (by kernel_rfl) (by simp) ?_
    refine AllReadyH.cons (o := { dst := some 18, op := Go.Op.buildSlice 153 8 #[(0, Go.Operand.const (Go.Value.int Go.IntKind.i64 1)), (1, Go.Operand.const (Go.Value.int Go.IntKind.i64 2)), (2, Go.Operand.const (Go.Value.int Go.IntKind.i64 3)), (3, Go.Operand.const (Go.Value.int Go.IntKind.i64 0)), (4, Go.Operand.const (Go.Value.int Go.IntKind.i64 6)), (5, Go.Operand.const (Go.Value.int Go.IntKind.i64 12)), (6, Go.Operand.const (Go.Value.int Go.IntKind.i64 13)), (7, Go.Operand.const (Go.Value.int Go.IntKind.i64 (-1)))], type := 153, pos := "l5_spread.go:199", after := #[], guard := none }) rfl (fun K hK => ?_) AllReadyH.nil
    go_simp
    have hvl := hcu.glt
    have hlit : (V2.alloc (.cells #[.int .i64 1, .int .i64 2, .int .i64 3, .int .i64 0, .int .i64 6, .int .i64 12, .int .i64 13, .int .i64 (-1)] 3)).heap[V2.heap.size]? = some (.cells #[.int .i64 1, .int .i64 2, .int .i64 3, .int .i64 0, .int .i64 6, .int .i64 12, .int .i64 13, .int .i64 (-1)] 3 (0, 0)) := alloc_at rfl
    have hD := hD.al (.cells #[.int .i64 1, .int .i64 2, .int .i64 3, .int .i64 0, .int .i64 6, .int .i64 12, .int .i64 13, .int .i64 (-1)] 3)
    have hcu := hcu.alloc (.cells #[.int .i64 1, .int .i64 2, .int .i64 3, .int .i64 0, .int .i64 6, .int .i64 12, .int .i64 13, .int .i64 (-1)] 3)
    have hq := alloc_past (o := (.cells #[.int .i64 1, .int .i64 2, .int .i64 3, .int .i64 0, .int .i64 6, .int .i64 12, .int .i64 13, .int .i64 (-1)] 3)) hq
    have hp := alloc_past (o := (.cells #[.int .i64 1, .int .i64 2, .int .i64 3, .int .i64 0, .int .i64 6, .int .i64 12, .int .i64 13, .int .i64 (-1)] 3)) hp
    refine hK.out _ _ ?_ (fun hHeld => ?_)
    · (try dsimp only)
      exact SKd hD
    clear hK K
    (try simp only [Act.put, List.setIfInBounds_toArray, List.set_cons_zero, List.set_cons_succ])
    generalize hkl : V2.heap.size = kl at hlit ⊢
    generalize (World.alloc _ _ : World) = V1 at hlit hD hcu hq hp hHeld ⊢
    refine wpAnyH_take (i := 8) (oi := { dst := some 23, op := Go.Op.slice 153 (Go.Operand.tmp 18) none (some (Go.Operand.tmp 22)) none, type := 153, pos := "l5_spread.go:199", after := #[{ on := 3, ground := Go.Ground.data }, { on := 7, ground := Go.Ground.data }], guard := none }) (v := ?_) rfl (by kernel_rfl) (by kernel_rfl) (by kernel_rfl) (fun _ _ _ h => h) (Or.inl ⟨by rfl, ?_⟩) (by assumption) ?_
    rotate_left
    · intro w hSw; (try dsimp only at hSw); go_simp; (try with_reducible rfl)
    simp only [Act.put, List.setIfInBounds_toArray, List.set_cons_zero, List.set_cons_succ]
    refine wpAnyH_ready (rs := [9]) (by kernel_rfl) (by simp) ?_
    refine AllReadyH.cons (o := { dst := some 24, op := Go.Op.call { callee := Go.Callee.value (Go.Operand.func 175), args := #[Go.Operand.tmp 17, Go.Operand.tmp 23], argTypes := #[135, 153] }, type := 3, pos := "l5_spread.go:199", after := #[{ on := 2, ground := Go.Ground.data }, { on := 8, ground := Go.Ground.data }, { on := 5, ground := Go.Ground.chain }], guard := none }) rfl (fun K hK => ?_) AllReadyH.nil
    go_simp
    (go_at_call 175; (with_reducible refine (among8 kl _ B g A len cap zs (0 + 100 + 100 + 2) _ hcu (by omega) hlit (by omega) (by omega) (by omega)).mono ?_); rintro e V3 ⟨n, hn0, hn1, rfl, hc⟩; go_wp2_with fail)
    have hD := hD.gr hc.2 (by omega) (by omega) (by omega)
    have hq := rowg hq hc.2 (by omega)
    have hp := rowg hp hc.2 (by omega)
    have z_c := fun j => cell_of_row V3 _ j _ _ _ hq
    have z_f := fun j => frozen_of_row V3 _ j _ _ hq
    have y_c := fun j => cell_of_row V3 _ j _ _ _ hp
    have y_f := fun j => frozen_of_row V3 _ j _ _ hp
    clear hc
    refine hK.out _ _ ?_ (fun hHeld => ?_)
    · (try dsimp only)
      exact SKd hD
    clear hK K
    (try simp only [Act.put, List.setIfInBounds_toArray, List.set_cons_zero, List.set_cons_succ])
    refine wpAnyH_ready (rs := [10]) (by kernel_rfl) (by simp) ?_
    refine AllReadyH.cons (o := { dst := none, op := Go.Op.store 28 (Go.Operand.tmp 2) (Go.Operand.tmp 15), type := 0, pos := "l5_spread.go:199", after := #[{ on := 0, ground := Go.Ground.data }, { on := 9, ground := Go.Ground.chain }, { on := 0, ground := Go.Ground.phase }, { on := 1, ground := Go.Ground.textOnly Go.Departure.lateStores }, { on := 2, ground := Go.Ground.textOnly Go.Departure.lateStores }, { on := 3, ground := Go.Ground.textOnly Go.Departure.lateStores }, { on := 4, ground := Go.Ground.textOnly Go.Departure.lateStores }, { on := 5, ground := Go.Ground.textOnly Go.Departure.lateStoresUnsure }, { on := 6, ground := Go.Ground.textOnly Go.Departure.lateStores }, { on := 7, ground := Go.Ground.textOnly Go.Departure.lateStores }, { on := 8, ground := Go.Ground.textOnly Go.Departure.lateStoresUnsure }, { on := 9, ground := Go.Ground.textOnly Go.Departure.lateStoresUnsure }], guard := none }) rfl (fun K hK => ?_) AllReadyH.nil
    go_simp
    have hD := (((((hD.set (g := w.heap.size) (i := 0) (v := .int .i64 r0) (by omega) (by omega) (Nat.le_refl _)).set (g := w.heap.size) (i := 1) (v := .int .i64 r1) (by omega) (by omega) (Nat.le_refl _)).set (g := w.heap.size) (i := 2) (v := .int .i64 r2) (by omega) (by omega) (Nat.le_refl _)).set (g := w.heap.size) (i := 3) (v := .int .i64 r3) (by omega) (by omega) (Nat.le_refl _)).set (g := w.heap.size) (i := 4) (v := .int .i64 r4) (by omega) (by omega) (Nat.le_refl _)).set (g := w.heap.size) (i := 5) (v := .int .i64 r5) (by omega) (by omega) (Nat.le_refl _)
    refine hK.out _ _ ?_ (fun hHeld => ?_)
    · (try dsimp only)
      exact SKd hD
    clear hK K
    (try simp only [Act.put, List.setIfInBounds_toArray, List.set_cons_zero, List.set_cons_succ])
    refine wpAnyH_ready (rs := [11]) (by kernel_rfl) (by simp) ?_
    refine AllReadyH.cons (o := { dst := none, op := Go.Op.store 28 (Go.Operand.tmp 3) (Go.Operand.tmp 16), type := 0, pos := "l5_spread.go:199", after := #[{ on := 1, ground := Go.Ground.data }, { on := 10, ground := Go.Ground.chain }, { on := 0, ground := Go.Ground.phase }, { on := 1, ground := Go.Ground.phase }, { on := 2, ground := Go.Ground.textOnly Go.Departure.lateStores }, { on := 3, ground := Go.Ground.textOnly Go.Departure.lateStores }, { on := 4, ground := Go.Ground.textOnly Go.Departure.lateStores }, { on := 5, ground := Go.Ground.textOnly Go.Departure.lateStoresUnsure }, { on := 6, ground := Go.Ground.textOnly Go.Departure.lateStores }, { on := 7, ground := Go.Ground.textOnly Go.Departure.lateStores }, { on := 8, ground := Go.Ground.textOnly Go.Departure.lateStoresUnsure }, { on := 9, ground := Go.Ground.textOnly Go.Departure.lateStoresUnsure }, { on := 10, ground := Go.Ground.phase }], guard := none }) rfl (fun K hK => ?_) AllReadyH.nil
    go_simp
    have hD := (((((hD.set (g := w.heap.size + 1) (i := 0) (v := .int .i64 s0) (by omega) (by omega) (Nat.le_succ _)).set (g := w.heap.size + 1) (i := 1) (v := .int .i64 s1) (by omega) (by omega) (Nat.le_succ _)).set (g := w.heap.size + 1) (i := 2) (v := .int .i64 s2) (by omega) (by omega) (Nat.le_succ _)).set (g := w.heap.size + 1) (i := 3) (v := .int .i64 s3) (by omega) (by omega) (Nat.le_succ _)).set (g := w.heap.size + 1) (i := 4) (v := .int .i64 s4) (by omega) (by omega) (Nat.le_succ _)).set (g := w.heap.size + 1) (i := 5) (v := .int .i64 s5) (by omega) (by omega) (Nat.le_succ _)
    refine hK.out _ _ ?_ (fun hHeld => ?_)
    · (try dsimp only)
      exact SKd hD
    clear hK K
    (try simp only [Act.put, List.setIfInBounds_toArray, List.set_cons_zero, List.set_cons_succ])
    refine wpAnyH_take (i := 12) (oi := { dst := some 4, op := Go.Op.assign (Go.Operand.tmp 24), type := 3, pos := "l5_spread.go:199", after := #[{ on := 9, ground := Go.Ground.data }, { on := 11, ground := Go.Ground.chain }, { on := 0, ground := Go.Ground.phase }, { on := 1, ground := Go.Ground.phase }, { on := 2, ground := Go.Ground.phase }, { on := 3, ground := Go.Ground.phase }, { on := 4, ground := Go.Ground.phase }, { on := 5, ground := Go.Ground.phase }, { on := 6, ground := Go.Ground.phase }, { on := 7, ground := Go.Ground.phase }, { on := 8, ground := Go.Ground.phase }, { on := 9, ground := Go.Ground.phase }, { on := 10, ground := Go.Ground.phase }, { on := 11, ground := Go.Ground.phase }], guard := none }) (v := ?_) rfl (by kernel_rfl) (by kernel_rfl) (by kernel_rfl) (fun _ _ _ h => h) (Or.inl ⟨by rfl, ?_⟩) (by assumption) ?_
    rotate_left
    · intro w hSw; (try dsimp only at hSw); go_simp; (try with_reducible rfl)
    simp only [Act.put, List.setIfInBounds_toArray, List.set_cons_zero, List.set_cons_succ]
    refine wpAnyH_done (by kernel_rfl) ?_ _
    clear hvw hvd htq hvs0 hvs8 hvn0 hvn8
    have h12 := set12 (r0 := r0) (r1 := r1) (r2 := r2) (r3 := r3) (r4 := r4) (r5 := r5) (s0 := s0) (s1 := s1) (s2 := s2) (s3 := s3) (s4 := s4) (s5 := s5) (show w.heap.size ≠ w.heap.size + 1 by omega) hq hp
    have hB := hD.2.2
    clear hHeld hD z_c z_f y_c y_f hq hp hcu hlit
    generalize (World.setCell _ _ _ : World) = X at h12 hB ⊢
    have z_c := fun j => cell_of_row X _ j _ _ _ h12.1
    have y_c := fun j => cell_of_row X _ j _ _ _ h12.2
    clear h12
    go_wp2_with fail
    exact bodyPost_ret (v := .tuple #[.agg #[.int .i64 r0, .int .i64 r1, .int .i64 r2, .int .i64 r3, .int .i64 r4, .int .i64 r5], .agg #[.int .i64 s0, .int .i64 s1, .int .i64 s2, .int .i64 s3, .int .i64 s4, .int .i64 s5], .int .i64 n]) (by simp [results, Try.results75, go_sem, z_c, y_c]) rfl ⟨r0, r1, r2, r3, r4, r5, s0, s1, s2, s3, s4, s5, n, HR.out, HS.out, ⟨hn0, hn1⟩, rfl, hB⟩
end Go.Proofs.Ytbmfjcmlgndofaa
