/- MERGED, for one claim's sake: Vq, Vr, Bg7, Dy, Dz, Rq5, Dc5, Do5. -/
import Derived.Test.YtbmfjcmlgndofaaDv
import Derived.Test.YtbmfjcmlgndofaaDu
import Derived.Test.YtbmfjcmlgndofaaPm5
import Derived.Maps.AppendAt
import Derived.Deep.AppendLies
import Derived.Laws.AppendOwnNone
import Derived.OwnWalk
import Derived.WalkKit
import Derived.ProofKit
import Derived.OpenShut
import Derived.Lib.Hide
import Derived.WalkSpells
import Derived.Below
import Derived.BigQuiet
import Derived.LoopN
import Derived.Deep.RegionHeld3
namespace Go.Proofs.Ytbmfjcmlgndofaa
open Go.ChangeShapes Go.WideShapes Go.ChangeAt Go.RowKit
set_option linter.unusedVariables false
/- Vq -/
theorem infoB : (Try.prog.info? 5).map (fun i => (i.zero, i.size, i.bytes)) = some (some (.int .u8 0), 1, 1) := by kernel_rfl
/-- The bytes of the suffix. -/
def vsuf (zs : List Int) (n m : Nat) : List Int := (List.range m).map fun j => zs.getD (n + j) 0
theorem vsuf_len (zs : List Int) (n m : Nat) : (vsuf zs n m).length = m := by simp [vsuf]
theorem vsuf_at (zs : List Int) (n m : Nat) {j : Nat} (h : j < m) : (vsuf zs n m)[j]? = some (zs.getD (n + j) 0) := by simp [vsuf, h]
def vb (l : List Int) : List Value := l.map (Value.int .u8)
theorem vb_one (l : List Int) : ∀ u ∈ vb l, u.oneCell' = true := by
  intro u hu
  obtain ⟨x, _, rfl⟩ := List.mem_map.mp hu
  rfl
def VcPost (w : World) (e : Ending) (w' : World) : Prop := ∃ g cap zs, e = .returned (.slice (some ⟨g, 0, none⟩) zs.length cap) ∧ zs.length ≤ 65536 ∧ CodeIn w' w'.heap.size (some ⟨g, 0, none⟩) zs.length zs ∧ Below w.heap.size w w'
theorem own_byte {W : World} {B g n cap j : Nat} {xs : List Value} (h : W.ownsRow B 5 1 (.slice (some ⟨g, 0, none⟩) n cap) n xs) {u : Value} (hx : xs[j]? = some u) : W.cell? ⟨g, j, none⟩ = some u := by
  rcases h.2 with ⟨e1, _⟩ | ⟨g2, cap2, cur, e1, hb, hh, _, _, _, ht⟩
  · exact absurd e1 (by simp)
  · simp only [Value.slice.injEq, Option.some.injEq, Addr.mk.injEq, and_true, true_and] at e1
    obtain ⟨rfl, rfl⟩ := e1
    have hj : j < n * 1 := by
      have := (List.getElem?_eq_some_iff.mp hx).1
      rw [h.1] at this; exact this
    rw [← ht, List.getElem?_take, if_pos hj, Array.getElem?_toList] at hx
    rw [cell_of_row W g j _ _ _ hh]
    exact hx
theorem vc_fin {w w' : World} {g cap : Nat} {l : List Int} {x : Int} (hl : l.length + 1 ≤ 65536) (hr : ∀ y ∈ l, 0 ≤ y ∧ y ≤ 255) (hx : 0 ≤ x ∧ x ≤ 255) (ho : w'.ownsRow w.heap.size 5 1 (.slice (some ⟨g, 0, none⟩) (l.length + 1) cap) (l.length + 1) (vb l ++ [.int .u8 x])) (hb : Below w.heap.size w w') : VcPost w (.returned (.slice (some ⟨g, 0, none⟩) (l.length + 1) cap)) w' := by
  have el : (l ++ [x]).length = l.length + 1 := by simp
  refine ⟨g, cap, l ++ [x], by rw [el], by rw [el]; exact hl, ?_, hb⟩
  intro k hk
  rw [el] at hk
  have hv : (vb l ++ [.int .u8 x])[k]? = some (.int .u8 ((l ++ [x]).getD k 0)) := by
    have : vb l ++ [Value.int .u8 x] = (l ++ [x]).map (Value.int .u8) := by simp [vb]
    rw [this, List.getElem?_map, List.getD_eq_getElem?_getD, List.getElem?_eq_getElem (by rw [el]; exact hk)]
    rfl
  have hm : 0 ≤ (l ++ [x]).getD k 0 ∧ (l ++ [x]).getD k 0 ≤ 255 := by
    rw [List.getD_eq_getElem?_getD, List.getElem?_eq_getElem (by rw [el]; exact hk)]
    have h2 : (l ++ [x])[k]'(by rw [el]; exact hk) ∈ l ++ [x] := List.getElem_mem _
    rcases List.mem_append.mp h2 with h3 | h3
    · exact hr _ h3
    · rw [List.mem_singleton.mp h3]; exact hx
  exact ⟨g, 0, rfl, (ho.lt g rfl).2, by rw [Nat.zero_add]; exact own_byte ho hv, hm.1, hm.2⟩
set_option maxHeartbeats 2000000 in
theorem vcut_pos (B b o n len cap : Nat) (zs : List Int) (w : World) (h : CodeIn w B (some ⟨b, o, none⟩) len zs) (hB : B ≤ w.heap.size) (hl : len ≤ 65536) (hc : len ≤ cap) (hcm : cap ≤ maxLen) (hn1 : 1 ≤ n) (hn2 : n ≤ 2) (hlt : n < len) : Calls Try.prog 69 #[.slice (some ⟨b, o, none⟩) len cap, .int .i64 (n : Int)] w (VcPost w) := by
  obtain ⟨i0, hi, hz0, hz1, hz2⟩ := info_parts infoB
  have H := Lib.hid h
  clear h
  unfold maxLen at hcm
  have hg : ¬ ((n : Int) > len) := by omega
  have hg' : (n : Int) ≤ len := by omega
  have hnc : ¬ (cap = n) := by omega
  have HO := Lib.hid (World.ownsRow_lit (base := w.heap.size) (e := 5) (size := 1) w #[] 0 (Nat.le_refl _) (by unfold maxLen; omega) rfl)
  have hc2 : IntKind.u8.wrap (n : Int) = (n : Int) := by rw [IntKind.wrap_u8]; omega
  have HN := Lib.hid (show ∀ j u, (vb (vsuf zs n (len - n)))[j]? = some u → (w.alloc (.cells #[] 5)).cell? ((⟨b, o + n, none⟩ : Addr).add j) = some u from fun j u hu => by
    have hj : j < len - n := by
      have := (List.getElem?_eq_some_iff.mp hu).1
      simpa [vb, vsuf_len] using this
    have hu2 : u = .int .u8 (zs.getD (n + j) 0) := by
      unfold vb at hu
      rw [List.getElem?_map, vsuf_at zs n _ hj] at hu
      simpa using hu.symm
    obtain ⟨b', o', e1, e2, e3, _⟩ := H.out (n + j) (by omega)
    cases e1
    have ea : (⟨b, o + n, none⟩ : Addr).add j = ⟨b, o + (n + j), none⟩ := by unfold Addr.add; split <;> simp_all [Nat.add_assoc]
    rw [ea, hu2, World.cell?_alloc_lt _ _ _ (by show b < w.heap.size; omega)]
    exact e3)
  have HR := Lib.hid (show ∀ y ∈ vsuf zs n (len - n), 0 ≤ y ∧ y ≤ 255 from fun y hy => by
    obtain ⟨j, hj, rfl⟩ := List.mem_map.mp hy
    obtain ⟨_, _, _, _, _, h1, h2⟩ := H.out (n + j) (by have := List.mem_range.mp hj; omega)
    exact ⟨h1, h2⟩)
  have hvl := vsuf_len zs n (len - n)
  have HL := Lib.hid hvl
  clear hvl H
  go_enter Try.func69, Try.ntmps69
  go_wp2_with (first | (at_builtin; refine wpList_append_lies _ rfl (.tmp 11) (.tmp 14) 44 rfl w.heap.size 5 i0 (.int .u8 0) 1 1 Try.underlying44 hi hz0 hz1 hz2 rfl (by decide) (.slice (some ⟨w.heap.size, 0, none⟩) 0 0) 0 [] rfl HO.out ⟨b, o + n, none⟩ (len - n) (cap - n) (vb (vsuf zs n (len - n))) (by rfl) (by simp [vb, vsuf_len]) HN.out (vb_one _) (by omega) (by unfold maxLen; omega) (by omega) (by simp) _ rfl ?_; intro g1 cap1 w1 hown1 hgr1 hat1 hlt1; simp only [Nat.zero_add, List.nil_append] at hown1 ⊢; have HO1 := Lib.hid (hown1.alloc (.cells #[.int .u8 (n : Int)] 5)); have hgl := (hown1.lt g1 rfl).1; have HB1 := Lib.hid (((Below.refl w.heap.size w).alloc (Nat.le_refl _) (.cells #[] 5)).grown hgr1 (by simp) (fun k hk => by simp [Value.ownBlock] at hk; omega)); clear hown1 hgr1 hat1 HO HN) | (at_builtin; refine wpList_append_lies _ rfl (.tmp 15) (.tmp 18) 44 rfl w.heap.size 5 i0 (.int .u8 0) 1 1 Try.underlying44 hi hz0 hz1 hz2 rfl (by decide) (.slice (some ⟨g1, 0, none⟩) (len - n) cap1) (len - n) (vb (vsuf zs n (len - n))) rfl HO1.out ⟨w1.heap.size, 0, none⟩ 1 1 [.int .u8 (n : Int)] (by rfl) rfl (cell_one_new _ _ _) (by simp; rfl) (by decide) (by unfold maxLen; omega) (by omega) (by have := HB1.out.size; simp; omega) _ rfl ?_; intro g2 cap2 w2 hown2 hgr2 hat2 hlt2))
  go_ret
  have HB2 : Below w.heap.size w w2 := (HB1.out.alloc HB1.out.size (.cells #[.int .u8 (n : Int)] 5)).grown hgr2 (by have := HB1.out.size; simp; omega) (fun k hk => by simp [Value.ownBlock] at hk; omega)
  have hf := vc_fin (w := w) (w' := w2) (g := g2) (cap := cap2) (l := vsuf zs n (len - n)) (x := (n : Int)) (by rw [HL.out]; omega) HR.out (by omega) (by rw [HL.out]; exact hown2) HB2
  rw [HL.out] at hf
  exact hf
theorem own_some {W : World} {B : Nat} {v : Value} (h : W.ownsRow B 5 1 v (0 + 0) ([] ++ [])) (hv : v ≠ .slice none 0 0) : ∃ g cap, v = .slice (some ⟨g, 0, none⟩) 0 cap ∧ W.ownsRow B 5 1 (.slice (some ⟨g, 0, none⟩) 0 cap) 0 [] := by
  rcases h.2 with ⟨e, _⟩ | ⟨g, cap, cur, e, hr⟩
  · exact absurd e hv
  · exact ⟨g, cap, e, by rw [← e]; exact h⟩
set_option maxHeartbeats 4000000 in
theorem vcut_zero (b o n len cap : Nat) (w : World) (hn1 : 1 ≤ n) (hn2 : n ≤ 2) (hlt : len ≤ n) (hc : len ≤ cap) (hcm : cap ≤ maxLen) : Calls Try.prog 69 #[.slice (some ⟨b, o, none⟩) len cap, .int .i64 (n : Int)] w (VcPost w) := by
  obtain ⟨i0, hi, hz0, hz1, hz2⟩ := info_parts infoB
  unfold maxLen at hcm
  have HO := Lib.hid (World.ownsRow_lit (base := w.heap.size) (e := 5) (size := 1) w #[] 0 (Nat.le_refl _) (by unfold maxLen; omega) rfl)
  have hc2 : IntKind.u8.wrap (len : Int) = (len : Int) := by rw [IntKind.wrap_u8]; omega
  have hl0 : (0 : Int) ≤ len := by omega
  have hlc : (len : Int) ≤ cap := by omega
  have hcm' : (cap : Int) ≤ 9223372036854775807 := by omega
  rcases Nat.lt_or_eq_of_le hlt with hgt | hgt
  · have hg : (n : Int) > len := by omega
    have hg' : (len : Int) < n := by omega
    rcases Nat.lt_or_eq_of_le hc with hcl | hcl
    · have hnc : ¬ (cap = len) := by omega
      go_enter Try.func69, Try.ntmps69
      go_wp2_with (first | (at_builtin; refine wpList_append_own _ rfl (.tmp 11) (.tmp 14) 44 rfl w.heap.size 5 i0 (.int .u8 0) 1 1 Try.underlying44 hi hz0 hz1 hz2 rfl (by decide) (.slice (some ⟨w.heap.size, 0, none⟩) 0 0) 0 [] rfl HO.out _ 0 _ [] (by rfl) rfl (by simp) (by simp) (by unfold maxLen; omega) (by omega) (by simp) ?_; intro v1 w1 hown1 hgr1 hn1; obtain ⟨g1, cap1, rfl, hown2⟩ := own_some hown1 (fun e => by have := (hn1.mp e).1; simp at this); have HO1 := Lib.hid (hown2.alloc (.cells #[.int .u8 (len : Int)] 5)); have HB1 := Lib.hid (((Below.refl w.heap.size w).alloc (Nat.le_refl _) (.cells #[] 5)).grown hgr1 (by simp) (fun k hk => by simp [Value.ownBlock] at hk; omega)); have hgl := Lib.hid (hown2.lt g1 rfl).1; clear hown1 hown2 hgr1 hn1 HO) | (at_builtin; refine wpList_append_lies _ rfl (.tmp 15) (.tmp 18) 44 rfl w.heap.size 5 i0 (.int .u8 0) 1 1 Try.underlying44 hi hz0 hz1 hz2 rfl (by decide) (.slice (some ⟨g1, 0, none⟩) 0 cap1) 0 [] rfl HO1.out ⟨w1.heap.size, 0, none⟩ 1 1 [.int .u8 (len : Int)] (by rfl) rfl (cell_one_new _ _ _) (by simp; rfl) (by decide) (by unfold maxLen; omega) (by omega) (by have := HB1.out.size; simp; omega) _ rfl ?_; intro g2 cap2 w2 hown2 hgr2 hat2 hlt2))
      go_ret
      have HB2 : Below w.heap.size w w2 := (HB1.out.alloc HB1.out.size (.cells #[.int .u8 (len : Int)] 5)).grown hgr2 (by have := HB1.out.size; simp; omega) (fun k hk => by simp [Value.ownBlock] at hk; have := hgl.out; omega)
      exact vc_fin (w := w) (w' := w2) (g := g2) (cap := cap2) (l := []) (x := (len : Int)) (by simp) (by simp) (by omega) hown2 HB2
    · subst hcl
      go_enter Try.func69, Try.ntmps69
      go_wp2_with (first | (at_builtin; refine wpList_append_own _ rfl (.tmp 11) (.tmp 14) 44 rfl w.heap.size 5 i0 (.int .u8 0) 1 1 Try.underlying44 hi hz0 hz1 hz2 rfl (by decide) (.slice (some ⟨w.heap.size, 0, none⟩) 0 0) 0 [] rfl HO.out _ 0 _ [] (by rfl) rfl (by simp) (by simp) (by unfold maxLen; omega) (by omega) (by simp) ?_; intro v1 w1 hown1 hgr1 hn1; obtain ⟨g1, cap1, rfl, hown2⟩ := own_some hown1 (fun e => by have := (hn1.mp e).1; simp at this); have HO1 := Lib.hid (hown2.alloc (.cells #[.int .u8 (len : Int)] 5)); have HB1 := Lib.hid (((Below.refl w.heap.size w).alloc (Nat.le_refl _) (.cells #[] 5)).grown hgr1 (by simp) (fun k hk => by simp [Value.ownBlock] at hk; omega)); have hgl := Lib.hid (hown2.lt g1 rfl).1; clear hown1 hown2 hgr1 hn1 HO) | (at_builtin; refine wpList_append_lies _ rfl (.tmp 15) (.tmp 18) 44 rfl w.heap.size 5 i0 (.int .u8 0) 1 1 Try.underlying44 hi hz0 hz1 hz2 rfl (by decide) (.slice (some ⟨g1, 0, none⟩) 0 cap1) 0 [] rfl HO1.out ⟨w1.heap.size, 0, none⟩ 1 1 [.int .u8 (len : Int)] (by rfl) rfl (cell_one_new _ _ _) (by simp; rfl) (by decide) (by unfold maxLen; omega) (by omega) (by have := HB1.out.size; simp; omega) _ rfl ?_; intro g2 cap2 w2 hown2 hgr2 hat2 hlt2))
      go_ret
      have HB2 : Below w.heap.size w w2 := (HB1.out.alloc HB1.out.size (.cells #[.int .u8 (len : Int)] 5)).grown hgr2 (by have := HB1.out.size; simp; omega) (fun k hk => by simp [Value.ownBlock] at hk; have := hgl.out; omega)
      exact vc_fin (w := w) (w' := w2) (g := g2) (cap := cap2) (l := []) (x := (len : Int)) (by simp) (by simp) (by omega) hown2 HB2
  · subst hgt
    rcases Nat.lt_or_eq_of_le hc with hcl | hcl
    · have hnc : ¬ (cap = len) := by omega
      go_enter Try.func69, Try.ntmps69
      go_wp2_with (first | (at_builtin; refine wpList_append_own _ rfl (.tmp 11) (.tmp 14) 44 rfl w.heap.size 5 i0 (.int .u8 0) 1 1 Try.underlying44 hi hz0 hz1 hz2 rfl (by decide) (.slice (some ⟨w.heap.size, 0, none⟩) 0 0) 0 [] rfl HO.out _ 0 _ [] (by rfl) rfl (by simp) (by simp) (by unfold maxLen; omega) (by omega) (by simp) ?_; intro v1 w1 hown1 hgr1 hn1; obtain ⟨g1, cap1, rfl, hown2⟩ := own_some hown1 (fun e => by have := (hn1.mp e).1; simp at this); have HO1 := Lib.hid (hown2.alloc (.cells #[.int .u8 (len : Int)] 5)); have HB1 := Lib.hid (((Below.refl w.heap.size w).alloc (Nat.le_refl _) (.cells #[] 5)).grown hgr1 (by simp) (fun k hk => by simp [Value.ownBlock] at hk; omega)); have hgl := Lib.hid (hown2.lt g1 rfl).1; clear hown1 hown2 hgr1 hn1 HO) | (at_builtin; refine wpList_append_lies _ rfl (.tmp 15) (.tmp 18) 44 rfl w.heap.size 5 i0 (.int .u8 0) 1 1 Try.underlying44 hi hz0 hz1 hz2 rfl (by decide) (.slice (some ⟨g1, 0, none⟩) 0 cap1) 0 [] rfl HO1.out ⟨w1.heap.size, 0, none⟩ 1 1 [.int .u8 (len : Int)] (by rfl) rfl (cell_one_new _ _ _) (by simp; rfl) (by decide) (by unfold maxLen; omega) (by omega) (by have := HB1.out.size; simp; omega) _ rfl ?_; intro g2 cap2 w2 hown2 hgr2 hat2 hlt2))
      go_ret
      have HB2 : Below w.heap.size w w2 := (HB1.out.alloc HB1.out.size (.cells #[.int .u8 (len : Int)] 5)).grown hgr2 (by have := HB1.out.size; simp; omega) (fun k hk => by simp [Value.ownBlock] at hk; have := hgl.out; omega)
      exact vc_fin (w := w) (w' := w2) (g := g2) (cap := cap2) (l := []) (x := (len : Int)) (by simp) (by simp) (by omega) hown2 HB2
    · subst hcl
      go_enter Try.func69, Try.ntmps69
      go_wp2_with (first | (at_builtin; refine wpList_append_own _ rfl (.tmp 11) (.tmp 14) 44 rfl w.heap.size 5 i0 (.int .u8 0) 1 1 Try.underlying44 hi hz0 hz1 hz2 rfl (by decide) (.slice (some ⟨w.heap.size, 0, none⟩) 0 0) 0 [] rfl HO.out _ 0 _ [] (by rfl) rfl (by simp) (by simp) (by unfold maxLen; omega) (by omega) (by simp) ?_; intro v1 w1 hown1 hgr1 hn1; obtain ⟨g1, cap1, rfl, hown2⟩ := own_some hown1 (fun e => by have := (hn1.mp e).1; simp at this); have HO1 := Lib.hid (hown2.alloc (.cells #[.int .u8 (len : Int)] 5)); have HB1 := Lib.hid (((Below.refl w.heap.size w).alloc (Nat.le_refl _) (.cells #[] 5)).grown hgr1 (by simp) (fun k hk => by simp [Value.ownBlock] at hk; omega)); have hgl := Lib.hid (hown2.lt g1 rfl).1; clear hown1 hown2 hgr1 hn1 HO) | (at_builtin; refine wpList_append_lies _ rfl (.tmp 15) (.tmp 18) 44 rfl w.heap.size 5 i0 (.int .u8 0) 1 1 Try.underlying44 hi hz0 hz1 hz2 rfl (by decide) (.slice (some ⟨g1, 0, none⟩) 0 cap1) 0 [] rfl HO1.out ⟨w1.heap.size, 0, none⟩ 1 1 [.int .u8 (len : Int)] (by rfl) rfl (cell_one_new _ _ _) (by simp; rfl) (by decide) (by unfold maxLen; omega) (by omega) (by have := HB1.out.size; simp; omega) _ rfl ?_; intro g2 cap2 w2 hown2 hgr2 hat2 hlt2))
      go_ret
      have HB2 : Below w.heap.size w w2 := (HB1.out.alloc HB1.out.size (.cells #[.int .u8 (len : Int)] 5)).grown hgr2 (by have := HB1.out.size; simp; omega) (fun k hk => by simp [Value.ownBlock] at hk; have := hgl.out; omega)
      exact vc_fin (w := w) (w' := w2) (g := g2) (cap := cap2) (l := []) (x := (len : Int)) (by simp) (by simp) (by omega) hown2 HB2
set_option maxRecDepth 8000 in
set_option maxHeartbeats 1000000 in
theorem vcut_none (n : Nat) (w : World) (hn1 : 1 ≤ n) (hn2 : n ≤ 2) : Calls Try.prog 69 #[.slice none 0 0, .int .i64 (n : Int)] w (VcPost w) := by
  obtain ⟨i0, hi, hz0, hz1, hz2⟩ := info_parts infoB
  have HO := Lib.hid (World.ownsRow_lit (base := w.heap.size) (e := 5) (size := 1) w #[] 0 (Nat.le_refl _) (by unfold maxLen; omega) rfl)
  have HO1 := Lib.hid (HO.out.alloc (.cells #[.int .u8 0] 5))
  have HN1 := Lib.hid (cell_one_new (w.alloc (.cells #[] 5)) (.int .u8 0) 5)
  rw [World.size_alloc] at HN1
  have hg : (n : Int) > 0 := by omega
  have hg' : (0 : Int) < n := by omega
  go_enter Try.func69, Try.ntmps69
  go_wp2_with (first | (at_builtin; refine wpList_append_own_none _ rfl (.tmp 11) (.tmp 14) 44 rfl w.heap.size 5 i0 1 Try.underlying44 hi (.slice (some ⟨w.heap.size, 0, none⟩) 0 0) 0 [] rfl HO.out (by rfl) ?_) | (at_builtin; refine wpList_append_lies _ rfl (.tmp 15) (.tmp 18) 44 rfl w.heap.size 5 i0 (.int .u8 0) 1 1 Try.underlying44 hi hz0 hz1 hz2 rfl (by decide) (.slice (some ⟨w.heap.size, 0, none⟩) 0 0) 0 [] rfl HO1.out ⟨w.heap.size + 1, 0, none⟩ 1 1 [.int .u8 0] (by rfl) rfl HN1.out (by simp; rfl) (by decide) (by unfold maxLen; omega) (by omega) (by simp; omega) _ rfl ?_; intro g2 cap2 w2 hown2 hgr2 hat2 hlt2))
  go_ret
  exact vc_fin (w := w) (w' := w2) (g := g2) (cap := cap2) (l := []) (x := 0) (by simp) (by simp) (by omega) hown2 (Below.grown (by (repeat (first | exact Below.refl _ _ | assumption | refine Below.setCell ?_ (by first | (simp; done) | (simp; omega)) _ | refine Below.alloc ?_ (by first | (simp; done) | (simp; omega)) _ | refine Below.drew ?_))) hgr2 (by simp; omega) (fun k hk => by simp [Value.ownBlock] at hk; omega))
/- Vr -/
set_option maxHeartbeats 4000000 in
theorem vcut_zero_x (x : Addr) (n len cap : Nat) (w : World) (hn1 : 1 ≤ n) (hn2 : n ≤ 2) (hlt : len ≤ n) (hc : len ≤ cap) (hcm : cap ≤ maxLen) : Calls Try.prog 69 #[.slice (some x) len cap, .int .i64 (n : Int)] w (VcPost w) := by
  obtain ⟨i0, hi, hz0, hz1, hz2⟩ := info_parts infoB
  unfold maxLen at hcm
  have HO := Lib.hid (World.ownsRow_lit (base := w.heap.size) (e := 5) (size := 1) w #[] 0 (Nat.le_refl _) (by unfold maxLen; omega) rfl)
  have hc2 : IntKind.u8.wrap (len : Int) = (len : Int) := by rw [IntKind.wrap_u8]; omega
  have hl0 : (0 : Int) ≤ len := by omega
  have hlc : (len : Int) ≤ cap := by omega
  have hcm' : (cap : Int) ≤ 9223372036854775807 := by omega
  rcases Nat.lt_or_eq_of_le hlt with hgt | hgt
  · have hg : (n : Int) > len := by omega
    have hg' : (len : Int) < n := by omega
    rcases Nat.lt_or_eq_of_le hc with hcl | hcl
    · have hnc : ¬ (cap = len) := by omega
      go_enter Try.func69, Try.ntmps69
      go_wp2_with (first | (at_builtin; refine wpList_append_own _ rfl (.tmp 11) (.tmp 14) 44 rfl w.heap.size 5 i0 (.int .u8 0) 1 1 Try.underlying44 hi hz0 hz1 hz2 rfl (by decide) (.slice (some ⟨w.heap.size, 0, none⟩) 0 0) 0 [] rfl HO.out _ 0 _ [] (by rfl) rfl (by simp) (by simp) (by unfold maxLen; omega) (by omega) (by simp) ?_; intro v1 w1 hown1 hgr1 hn1; obtain ⟨g1, cap1, rfl, hown2⟩ := own_some hown1 (fun e => by have := (hn1.mp e).1; simp at this); have HO1 := Lib.hid (hown2.alloc (.cells #[.int .u8 (len : Int)] 5)); have HB1 := Lib.hid (((Below.refl w.heap.size w).alloc (Nat.le_refl _) (.cells #[] 5)).grown hgr1 (by simp) (fun k hk => by simp [Value.ownBlock] at hk; omega)); have hgl := Lib.hid (hown2.lt g1 rfl).1; clear hown1 hown2 hgr1 hn1 HO) | (at_builtin; refine wpList_append_lies _ rfl (.tmp 15) (.tmp 18) 44 rfl w.heap.size 5 i0 (.int .u8 0) 1 1 Try.underlying44 hi hz0 hz1 hz2 rfl (by decide) (.slice (some ⟨g1, 0, none⟩) 0 cap1) 0 [] rfl HO1.out ⟨w1.heap.size, 0, none⟩ 1 1 [.int .u8 (len : Int)] (by rfl) rfl (cell_one_new _ _ _) (by simp; rfl) (by decide) (by unfold maxLen; omega) (by omega) (by have := HB1.out.size; simp; omega) _ rfl ?_; intro g2 cap2 w2 hown2 hgr2 hat2 hlt2))
      go_ret
      have HB2 : Below w.heap.size w w2 := (HB1.out.alloc HB1.out.size (.cells #[.int .u8 (len : Int)] 5)).grown hgr2 (by have := HB1.out.size; simp; omega) (fun k hk => by simp [Value.ownBlock] at hk; have := hgl.out; omega)
      exact vc_fin (w := w) (w' := w2) (g := g2) (cap := cap2) (l := []) (x := (len : Int)) (by simp) (by simp) (by omega) hown2 HB2
    · subst hcl
      go_enter Try.func69, Try.ntmps69
      go_wp2_with (first | (at_builtin; refine wpList_append_own _ rfl (.tmp 11) (.tmp 14) 44 rfl w.heap.size 5 i0 (.int .u8 0) 1 1 Try.underlying44 hi hz0 hz1 hz2 rfl (by decide) (.slice (some ⟨w.heap.size, 0, none⟩) 0 0) 0 [] rfl HO.out _ 0 _ [] (by rfl) rfl (by simp) (by simp) (by unfold maxLen; omega) (by omega) (by simp) ?_; intro v1 w1 hown1 hgr1 hn1; obtain ⟨g1, cap1, rfl, hown2⟩ := own_some hown1 (fun e => by have := (hn1.mp e).1; simp at this); have HO1 := Lib.hid (hown2.alloc (.cells #[.int .u8 (len : Int)] 5)); have HB1 := Lib.hid (((Below.refl w.heap.size w).alloc (Nat.le_refl _) (.cells #[] 5)).grown hgr1 (by simp) (fun k hk => by simp [Value.ownBlock] at hk; omega)); have hgl := Lib.hid (hown2.lt g1 rfl).1; clear hown1 hown2 hgr1 hn1 HO) | (at_builtin; refine wpList_append_lies _ rfl (.tmp 15) (.tmp 18) 44 rfl w.heap.size 5 i0 (.int .u8 0) 1 1 Try.underlying44 hi hz0 hz1 hz2 rfl (by decide) (.slice (some ⟨g1, 0, none⟩) 0 cap1) 0 [] rfl HO1.out ⟨w1.heap.size, 0, none⟩ 1 1 [.int .u8 (len : Int)] (by rfl) rfl (cell_one_new _ _ _) (by simp; rfl) (by decide) (by unfold maxLen; omega) (by omega) (by have := HB1.out.size; simp; omega) _ rfl ?_; intro g2 cap2 w2 hown2 hgr2 hat2 hlt2))
      go_ret
      have HB2 : Below w.heap.size w w2 := (HB1.out.alloc HB1.out.size (.cells #[.int .u8 (len : Int)] 5)).grown hgr2 (by have := HB1.out.size; simp; omega) (fun k hk => by simp [Value.ownBlock] at hk; have := hgl.out; omega)
      exact vc_fin (w := w) (w' := w2) (g := g2) (cap := cap2) (l := []) (x := (len : Int)) (by simp) (by simp) (by omega) hown2 HB2
  · subst hgt
    rcases Nat.lt_or_eq_of_le hc with hcl | hcl
    · have hnc : ¬ (cap = len) := by omega
      go_enter Try.func69, Try.ntmps69
      go_wp2_with (first | (at_builtin; refine wpList_append_own _ rfl (.tmp 11) (.tmp 14) 44 rfl w.heap.size 5 i0 (.int .u8 0) 1 1 Try.underlying44 hi hz0 hz1 hz2 rfl (by decide) (.slice (some ⟨w.heap.size, 0, none⟩) 0 0) 0 [] rfl HO.out _ 0 _ [] (by rfl) rfl (by simp) (by simp) (by unfold maxLen; omega) (by omega) (by simp) ?_; intro v1 w1 hown1 hgr1 hn1; obtain ⟨g1, cap1, rfl, hown2⟩ := own_some hown1 (fun e => by have := (hn1.mp e).1; simp at this); have HO1 := Lib.hid (hown2.alloc (.cells #[.int .u8 (len : Int)] 5)); have HB1 := Lib.hid (((Below.refl w.heap.size w).alloc (Nat.le_refl _) (.cells #[] 5)).grown hgr1 (by simp) (fun k hk => by simp [Value.ownBlock] at hk; omega)); have hgl := Lib.hid (hown2.lt g1 rfl).1; clear hown1 hown2 hgr1 hn1 HO) | (at_builtin; refine wpList_append_lies _ rfl (.tmp 15) (.tmp 18) 44 rfl w.heap.size 5 i0 (.int .u8 0) 1 1 Try.underlying44 hi hz0 hz1 hz2 rfl (by decide) (.slice (some ⟨g1, 0, none⟩) 0 cap1) 0 [] rfl HO1.out ⟨w1.heap.size, 0, none⟩ 1 1 [.int .u8 (len : Int)] (by rfl) rfl (cell_one_new _ _ _) (by simp; rfl) (by decide) (by unfold maxLen; omega) (by omega) (by have := HB1.out.size; simp; omega) _ rfl ?_; intro g2 cap2 w2 hown2 hgr2 hat2 hlt2))
      go_ret
      have HB2 : Below w.heap.size w w2 := (HB1.out.alloc HB1.out.size (.cells #[.int .u8 (len : Int)] 5)).grown hgr2 (by have := HB1.out.size; simp; omega) (fun k hk => by simp [Value.ownBlock] at hk; have := hgl.out; omega)
      exact vc_fin (w := w) (w' := w2) (g := g2) (cap := cap2) (l := []) (x := (len : Int)) (by simp) (by simp) (by omega) hown2 HB2
    · subst hcl
      go_enter Try.func69, Try.ntmps69
      go_wp2_with (first | (at_builtin; refine wpList_append_own _ rfl (.tmp 11) (.tmp 14) 44 rfl w.heap.size 5 i0 (.int .u8 0) 1 1 Try.underlying44 hi hz0 hz1 hz2 rfl (by decide) (.slice (some ⟨w.heap.size, 0, none⟩) 0 0) 0 [] rfl HO.out _ 0 _ [] (by rfl) rfl (by simp) (by simp) (by unfold maxLen; omega) (by omega) (by simp) ?_; intro v1 w1 hown1 hgr1 hn1; obtain ⟨g1, cap1, rfl, hown2⟩ := own_some hown1 (fun e => by have := (hn1.mp e).1; simp at this); have HO1 := Lib.hid (hown2.alloc (.cells #[.int .u8 (len : Int)] 5)); have HB1 := Lib.hid (((Below.refl w.heap.size w).alloc (Nat.le_refl _) (.cells #[] 5)).grown hgr1 (by simp) (fun k hk => by simp [Value.ownBlock] at hk; omega)); have hgl := Lib.hid (hown2.lt g1 rfl).1; clear hown1 hown2 hgr1 hn1 HO) | (at_builtin; refine wpList_append_lies _ rfl (.tmp 15) (.tmp 18) 44 rfl w.heap.size 5 i0 (.int .u8 0) 1 1 Try.underlying44 hi hz0 hz1 hz2 rfl (by decide) (.slice (some ⟨g1, 0, none⟩) 0 cap1) 0 [] rfl HO1.out ⟨w1.heap.size, 0, none⟩ 1 1 [.int .u8 (len : Int)] (by rfl) rfl (cell_one_new _ _ _) (by simp; rfl) (by decide) (by unfold maxLen; omega) (by omega) (by have := HB1.out.size; simp; omega) _ rfl ?_; intro g2 cap2 w2 hown2 hgr2 hat2 hlt2))
      go_ret
      have HB2 : Below w.heap.size w w2 := (HB1.out.alloc HB1.out.size (.cells #[.int .u8 (len : Int)] 5)).grown hgr2 (by have := HB1.out.size; simp; omega) (fun k hk => by simp [Value.ownBlock] at hk; have := hgl.out; omega)
      exact vc_fin (w := w) (w' := w2) (g := g2) (cap := cap2) (l := []) (x := (len : Int)) (by simp) (by simp) (by omega) hown2 HB2

def SlOk (A : Option Addr) (len cap : Nat) : Prop := (A = none ∧ len = 0 ∧ cap = 0) ∨ ∃ x, A = some x ∧ len ≤ cap ∧ cap ≤ maxLen
theorem vcut_all (A : Option Addr) (len cap : Nat) (zs : List Int) (w : World) (hcode : CodeIn w w.heap.size A len zs) (hr : SlOk A len cap) (hl : len ≤ 65536) (n : Nat) (hn1 : 1 ≤ n) (hn2 : n ≤ 2) (W : World) (hb : Below w.heap.size w W) : Calls Try.prog 69 #[.slice A len cap, .int .i64 (n : Int)] W fun e w' => ∃ g c zs, zs.length ≤ 65536 ∧ CodeIn w' w'.heap.size (some ⟨g, 0, none⟩) zs.length zs ∧ e = .returned (.slice (some ⟨g, 0, none⟩) zs.length c) ∧ Below W.heap.size W w' := by
  suffices h : Calls Try.prog 69 #[.slice A len cap, .int .i64 (n : Int)] W (VcPost W) from h.mono fun e w' ⟨g, c, zs, h1, h2, h3, h4⟩ => ⟨g, c, zs, h2, h3, h1, h4⟩
  rcases hr with ⟨rfl, rfl, rfl⟩ | ⟨x, rfl, hlc, hm⟩
  · exact vcut_none n W hn1 hn2
  · by_cases hlt : len ≤ n
    · exact vcut_zero_x x n len cap W hn1 hn2 hlt hlc hm
    · obtain ⟨b, o, e, _⟩ := hcode 0 (by omega)
      cases e
      exact vcut_pos w.heap.size b o n len cap zs W (hcode.below hb (Nat.le_refl _)) hb.size hl hlc hm hn1 hn2 (by omega)
/- Bg7 -/
theorem big_no (A : Option Addr) (len cap : Nat) (hl : len ≤ 65536) (w : World) : Calls Try.prog 60 #[.slice A len cap] w fun e w' => e = .returned (.bool false) ∧ w' = w := by
  go_enter Try.func60, Try.ntmps60
  go_wp2_with fail
  go_ret
  exact ⟨by simp <;> omega, rfl⟩
theorem big_yes (A : Option Addr) (len cap : Nat) (hl : 65536 < len) (w : World) : Calls Try.prog 60 #[.slice A len cap] w fun e w' => e = .returned (.bool true) ∧ w' = w := by
  go_enter Try.func60, Try.ntmps60
  go_wp2_with fail
  go_ret
  exact ⟨by simp <;> omega, rfl⟩
/- Dy -/
def DtPost (w : World) (e : Ending) (w' : World) : Prop := ∃ (r0 r1 r2 r3 r4 r5 s0 s1 s2 s3 s4 s5 : Int), Wf6 r0 r1 r2 r3 r4 r5 ∧ Wf6 s0 s1 s2 s3 s4 s5 ∧ e = .returned (.tuple #[.agg #[.int .i64 r0, .int .i64 r1, .int .i64 r2, .int .i64 r3, .int .i64 r4, .int .i64 r5], .agg #[.int .i64 s0, .int .i64 s1, .int .i64 s2, .int .i64 s3, .int .i64 s4, .int .i64 s5]]) ∧ Below w.heap.size w w'
set_option maxHeartbeats 2000000 in
theorem draw_two (B : Nat) (A : Option Addr) (len cap : Nat) (zs : List Int) (w : World) (h : CodeIn w B A len zs) (hB : B ≤ w.heap.size) (hl : len ≤ 65536) :
    Calls Try.prog 78 #[.slice A len cap] w (DtPost w) := by
  have H := Lib.hid h
  clear h
  go_enter Try.func78, Try.ntmps78
  go_wp2_with fail
  generalize hW : (World.alloc _ _ : World) = W0
  have HB := Lib.hid (show Below w.heap.size w W0 by rw [← hW]; (repeat (first | exact Below.refl _ _ | assumption | refine Below.setCell ?_ (by first | (simp; done) | (simp; omega)) _ | refine Below.alloc ?_ (by first | (simp; done) | (simp; omega)) _ | refine Below.drew ?_)))
  have Q0 := Lib.hid (show W0.heap[w.heap.size]? = some (.cells #[.int .i64 0, .int .i64 0, .int .i64 0, .int .i64 0, .int .i64 0, .int .i64 0] 28 (0, 0)) by rw [← hW]; exact alloc_past (alloc_past (alloc_at rfl)))
  have P0 := Lib.hid (show W0.heap[w.heap.size + 1]? = some (.cells #[.int .i64 0, .int .i64 0, .int .i64 0, .int .i64 0, .int .i64 0, .int .i64 0] 28 (0, 0)) by rw [← hW]; exact alloc_past (alloc_at (by simp)))
  have H0 := Lib.hid (show CuTo B (w.heap.size + 1 + 1) A len cap zs 0 W0 W0 by
    refine ⟨?_, g_refl _ _⟩
    rw [← hW]
    have e := cu_new (W := (w.alloc (.cells #[.int .i64 0, .int .i64 0, .int .i64 0, .int .i64 0, .int .i64 0, .int .i64 0] 28)).alloc (.cells #[.int .i64 0, .int .i64 0, .int .i64 0, .int .i64 0, .int .i64 0, .int .i64 0] 28)) (cap := cap) (H.out.below (((Below.refl _ _).alloc (Nat.le_refl _) _).alloc (by simp) _) hB) (by simp; omega) hl
    simpa using e)
  clear hW H
  generalize hg : w.heap.size + 1 + 1 = g at H0 ⊢
  refine (stamp_dr B g A len cap zs 0 W0 H0.out.1 (by omega)).mono ?_
  rintro e W1 ⟨r0, r1, r2, r3, r4, r5, hw, rfl, hc⟩
  have H1 := Lib.hid (H0.out.step hc)
  have Q1 := Lib.hid (rowg Q0.out hc.2 (by omega))
  have P1 := Lib.hid (rowg P0.out hc.2 (by omega))
  have HR := Lib.hid hw
  clear hc hw H0 Q0 P0
  go_wp2_with fail
  refine (stamp_dr B g A len cap zs (0 + 100) W1 H1.out.1 (by omega)).mono ?_
  rintro e W2 ⟨s0, s1, s2, s3, s4, s5, hw, rfl, hc⟩
  have H2 := Lib.hid (H1.out.step hc)
  have HS := Lib.hid hw
  have q := rowg Q1.out hc.2 (by omega)
  have p := rowg P1.out hc.2 (by omega)
  clear hc hw H1 Q1 P1
  have z_c := fun j => cell_of_row W2 _ j _ _ _ q
  have z_f := fun j => frozen_of_row W2 _ j _ _ q
  have y_c := fun j => cell_of_row W2 _ j _ _ _ p
  have y_f := fun j => frozen_of_row W2 _ j _ _ p
  have HB2 := Lib.hid (below_to HB.out H2.out.2 (by omega))
  clear q p
  go_wp2_with fail
  refine bodyPost_ret (v := .tuple #[.agg #[.int .i64 r0, .int .i64 r1, .int .i64 r2, .int .i64 r3, .int .i64 r4, .int .i64 r5], .agg #[.int .i64 s0, .int .i64 s1, .int .i64 s2, .int .i64 s3, .int .i64 s4, .int .i64 s5]]) (by simp [results, Try.results78, go_sem, z_c, y_c]) rfl ⟨r0, r1, r2, r3, r4, r5, s0, s1, s2, s3, s4, s5, HR.out, HS.out, rfl, ?_⟩
  exact below6 (below6 HB2.out (Nat.le_refl _)) (by omega)
set_option maxHeartbeats 1000000 in
theorem draw_sum (B : Nat) (A : Option Addr) (len cap : Nat) (zs : List Int) (w : World) (h : CodeIn w B A len zs) (hB : B ≤ w.heap.size) (hl : len ≤ 65536) :
    Calls Try.prog 81 #[.slice A len cap] w (DtPost w) := by
  have H := Lib.hid h
  clear h
  go_enter Try.func81, Try.ntmps81
  go_wp2_with fail
  generalize hW : (World.alloc _ _ : World) = W0
  have HB := Lib.hid (show Below w.heap.size w W0 by rw [← hW]; (repeat (first | exact Below.refl _ _ | assumption | refine Below.setCell ?_ (by first | (simp; done) | (simp; omega)) _ | refine Below.alloc ?_ (by first | (simp; done) | (simp; omega)) _ | refine Below.drew ?_)))
  have Q0 := Lib.hid (show W0.heap[w.heap.size]? = some (.cells #[.int .i64 0, .int .i64 0, .int .i64 0, .int .i64 0, .int .i64 0, .int .i64 0] 28 (0, 0)) by rw [← hW]; exact alloc_past (alloc_at rfl))
  have P0 := Lib.hid (show W0.heap[w.heap.size + 1]? = some (.cells #[.int .i64 0, .int .i64 0, .int .i64 0, .int .i64 0, .int .i64 0, .int .i64 0] 28 (0, 0)) by rw [← hW]; exact alloc_at (by simp))
  clear hW
  refine (draw_two B A len cap zs W0 (H.out.below HB.out hB) (Nat.le_trans hB HB.out.size) hl).mono ?_
  rintro e W1 ⟨r0, r1, r2, r3, r4, r5, s0, s1, s2, s3, s4, s5, hr, hs, rfl, hb⟩
  have HR := Lib.hid hr
  have HS := Lib.hid hs
  have q := rowk Q0.out hb rfl
  have p := rowk P0.out hb rfl
  have HB2 := Lib.hid (below_of HB.out hb HB.out.size)
  clear hb hr hs
  have z_c := fun j => cell_of_row W1 _ j _ _ _ q
  have z_f := fun j => frozen_of_row W1 _ j _ _ q
  have y_c := fun j => cell_of_row W1 _ j _ _ _ p
  have y_f := fun j => frozen_of_row W1 _ j _ _ p
  clear q p
  go_wp2_with fail
  refine bodyPost_ret (v := .tuple #[.agg #[.int .i64 r0, .int .i64 r1, .int .i64 r2, .int .i64 r3, .int .i64 r4, .int .i64 r5], .agg #[.int .i64 s0, .int .i64 s1, .int .i64 s2, .int .i64 s3, .int .i64 s4, .int .i64 s5]]) (by simp [results, Try.results81, go_sem, z_c, y_c]) rfl ⟨r0, r1, r2, r3, r4, r5, s0, s1, s2, s3, s4, s5, HR.out, HS.out, rfl, ?_⟩
  exact below6 (below6 HB2.out (Nat.le_refl _)) (by omega)
/- Dz -/
theorem PkPost.out {n : Int} {B g : Nat} {A : Option Addr} {len cap : Nat} {zs : List Int} {m : Int} {w w' : World} {e : Ending} (h : PkPost n B g A len cap zs m w e w') : ∃ r : Int, e = .returned (.int .i64 r) ∧ 0 ≤ r ∧ (r < n ∨ r = 0) ∧ CuTo B g A len cap zs m w w' := h
/-- Midway: two sheets in blocks. -/
def Dd (w : World) (k6 k7 : Nat) (r0 r1 r2 r3 r4 r5 : Int) (s0 s1 s2 s3 s4 s5 : Int) (U : World) : Prop := U.heap[k6]? = some (.cells #[.int .i64 r0, .int .i64 r1, .int .i64 r2, .int .i64 r3, .int .i64 r4, .int .i64 r5] 28 (0, 0)) ∧ U.heap[k7]? = some (.cells #[.int .i64 s0, .int .i64 s1, .int .i64 s2, .int .i64 s3, .int .i64 s4, .int .i64 s5] 28 (0, 0)) ∧ Below w.heap.size w U
theorem SKd {w U : World} {k6 k7 : Nat} {r0 r1 r2 r3 r4 r5 s0 s1 s2 s3 s4 s5 : Int} (h : Dd w k6 k7 r0 r1 r2 r3 r4 r5 s0 s1 s2 s3 s4 s5 U) : U.cell? ⟨k6, 0, none⟩ = some (.int .i64 r0) ∧ U.cell? ⟨k6, 1, none⟩ = some (.int .i64 r1) ∧ U.cell? ⟨k6, 2, none⟩ = some (.int .i64 r2) ∧ U.cell? ⟨k6, 3, none⟩ = some (.int .i64 r3) ∧ U.cell? ⟨k6, 4, none⟩ = some (.int .i64 r4) ∧ U.cell? ⟨k6, 5, none⟩ = some (.int .i64 r5) ∧ U.cell? ⟨k7, 0, none⟩ = some (.int .i64 s0) ∧ U.cell? ⟨k7, 1, none⟩ = some (.int .i64 s1) ∧ U.cell? ⟨k7, 2, none⟩ = some (.int .i64 s2) ∧ U.cell? ⟨k7, 3, none⟩ = some (.int .i64 s3) ∧ U.cell? ⟨k7, 4, none⟩ = some (.int .i64 s4) ∧ U.cell? ⟨k7, 5, none⟩ = some (.int .i64 s5) ∧ Dd w k6 k7 r0 r1 r2 r3 r4 r5 s0 s1 s2 s3 s4 s5 U :=
  have h0 := fun j => cell_of_row U _ j _ _ _ h.1
  have h1 := fun j => cell_of_row U _ j _ _ _ h.2.1
  ⟨h0 0, h0 1, h0 2, h0 3, h0 4, h0 5, h1 0, h1 1, h1 2, h1 3, h1 4, h1 5, h⟩
theorem Dd.drew {w U : World} {k6 k7 : Nat} {r0 r1 r2 r3 r4 r5 s0 s1 s2 s3 s4 s5 : Int} (h : Dd w k6 k7 r0 r1 r2 r3 r4 r5 s0 s1 s2 s3 s4 s5 U) : Dd w k6 k7 r0 r1 r2 r3 r4 r5 s0 s1 s2 s3 s4 s5 U.drew := ⟨h.1, h.2.1, h.2.2.drew⟩
theorem Dd.al {w U : World} {k6 k7 : Nat} {r0 r1 r2 r3 r4 r5 s0 s1 s2 s3 s4 s5 : Int} (h : Dd w k6 k7 r0 r1 r2 r3 r4 r5 s0 s1 s2 s3 s4 s5 U) (o : Obj) : Dd w k6 k7 r0 r1 r2 r3 r4 r5 s0 s1 s2 s3 s4 s5 (U.alloc o) := ⟨alloc_past h.1, alloc_past h.2.1, h.2.2.alloc h.2.2.size _⟩
theorem Dd.gr {w U V : World} {k6 k7 g : Nat} {r0 r1 r2 r3 r4 r5 s0 s1 s2 s3 s4 s5 : Int} (h : Dd w k6 k7 r0 r1 r2 r3 r4 r5 s0 s1 s2 s3 s4 s5 U) (hg : U.grownBy V (some g)) (h6 : k6 ≠ g) (h7 : k7 ≠ g) (hw : w.heap.size ≤ g) : Dd w k6 k7 r0 r1 r2 r3 r4 r5 s0 s1 s2 s3 s4 s5 V := ⟨rowg h.1 hg h6, rowg h.2.1 hg h7, below_to h.2.2 hg hw⟩
theorem Dd.set {w U : World} {k6 k7 g i : Nat} {v : Value} {r0 r1 r2 r3 r4 r5 s0 s1 s2 s3 s4 s5 : Int} (h : Dd w k6 k7 r0 r1 r2 r3 r4 r5 s0 s1 s2 s3 s4 s5 U) (h6 : k6 ≠ g) (h7 : k7 ≠ g) (hw : w.heap.size ≤ g) : Dd w k6 k7 r0 r1 r2 r3 r4 r5 s0 s1 s2 s3 s4 s5 (U.setCell ⟨g, i, none⟩ v) := ⟨by rw [Below.heap_setCell _ _ _ _ h6]; exact h.1, by rw [Below.heap_setCell _ _ _ _ h7]; exact h.2.1, h.2.2.setCell hw _⟩
theorem among8 (bl n : Nat) (B g : Nat) (A : Option Addr) (len cap : Nat) (zs : List Int) (m : Int) (w : World) (h : Cu w B g A len cap zs m) (hm : m ≤ 900000) (hl : w.heap[bl]? = some (.cells #[.int .i64 1, .int .i64 2, .int .i64 3, .int .i64 0, .int .i64 6, .int .i64 12, .int .i64 13, .int .i64 (-1)] 3 (0, 0))) (hne : bl ≠ g) (hn0 : 0 < n) (hn1 : n ≤ 8) : Calls Try.prog 175 #[.pointer (some ⟨g, 0, none⟩), .slice (some ⟨bl, 0, none⟩) n 8] w fun e w' => ∃ x, -1 ≤ x ∧ x ≤ 13 ∧ e = .returned (.int .i64 x) ∧ CuTo B g A len cap zs (m + 2) w w' := by
  have hlen : (([1, 2, 3, 0, 6, 12, 13, -1] : List Int).take n).length = n := by rw [List.length_take]; simp; omega
  have H := among_any bl 8 (([1, 2, 3, 0, 6, 12, 13, -1] : List Int).take n) B g A len cap zs m w h hm (fun k x hx => by
    rw [cell_of_row w bl k _ _ _ hl]
    have hk : ([1, 2, 3, 0, 6, 12, 13, -1] : List Int)[k]? = some x := by
      rw [List.getElem?_take] at hx
      split at hx
      · exact hx
      · cases hx
    have : (#[.int .i64 1, .int .i64 2, .int .i64 3, .int .i64 0, .int .i64 6, .int .i64 12, .int .i64 13, .int .i64 (-1)] : Array Value) = ((([1, 2, 3, 0, 6, 12, 13, -1] : List Int)).map (Value.int .i64)).toArray := rfl
    rw [this, List.getElem?_toArray, List.getElem?_map, hk]
    rfl) hne (by rw [hlen]; exact hn0) (by rw [hlen]; omega)
  rw [hlen] at H
  refine H.mono ?_
  rintro e w' ⟨x, hx, rfl, hc⟩
  have hm := List.mem_of_mem_take hx
  simp only [List.mem_cons, List.mem_nil_iff, or_false] at hm
  exact ⟨x, by omega, by omega, rfl, hc⟩
theorem set12 {V : World} {a b : Nat} {r0 r1 r2 r3 r4 r5 s0 s1 s2 s3 s4 s5 : Int} (hab : a ≠ b) (ha : V.heap[a]? = some (.cells #[.int .i64 0, .int .i64 0, .int .i64 0, .int .i64 0, .int .i64 0, .int .i64 0] 28 (0, 0))) (hb : V.heap[b]? = some (.cells #[.int .i64 0, .int .i64 0, .int .i64 0, .int .i64 0, .int .i64 0, .int .i64 0] 28 (0, 0))) : ((((((((((((V.setCell ⟨a, 0, none⟩ (.int .i64 r0)).setCell ⟨a, 1, none⟩ (.int .i64 r1)).setCell ⟨a, 2, none⟩ (.int .i64 r2)).setCell ⟨a, 3, none⟩ (.int .i64 r3)).setCell ⟨a, 4, none⟩ (.int .i64 r4)).setCell ⟨a, 5, none⟩ (.int .i64 r5)).setCell ⟨b, 0, none⟩ (.int .i64 s0)).setCell ⟨b, 1, none⟩ (.int .i64 s1)).setCell ⟨b, 2, none⟩ (.int .i64 s2)).setCell ⟨b, 3, none⟩ (.int .i64 s3)).setCell ⟨b, 4, none⟩ (.int .i64 s4)).setCell ⟨b, 5, none⟩ (.int .i64 s5)).heap[a]? = some (.cells #[.int .i64 r0, .int .i64 r1, .int .i64 r2, .int .i64 r3, .int .i64 r4, .int .i64 r5] 28 (0, 0)) ∧ ((((((((((((V.setCell ⟨a, 0, none⟩ (.int .i64 r0)).setCell ⟨a, 1, none⟩ (.int .i64 r1)).setCell ⟨a, 2, none⟩ (.int .i64 r2)).setCell ⟨a, 3, none⟩ (.int .i64 r3)).setCell ⟨a, 4, none⟩ (.int .i64 r4)).setCell ⟨a, 5, none⟩ (.int .i64 r5)).setCell ⟨b, 0, none⟩ (.int .i64 s0)).setCell ⟨b, 1, none⟩ (.int .i64 s1)).setCell ⟨b, 2, none⟩ (.int .i64 s2)).setCell ⟨b, 3, none⟩ (.int .i64 s3)).setCell ⟨b, 4, none⟩ (.int .i64 s4)).setCell ⟨b, 5, none⟩ (.int .i64 s5)).heap[b]? = some (.cells #[.int .i64 s0, .int .i64 s1, .int .i64 s2, .int .i64 s3, .int .i64 s4, .int .i64 s5] 28 (0, 0)) := by
  have q1 := set6row (.int .i64 r0) (.int .i64 r1) (.int .i64 r2) (.int .i64 r3) (.int .i64 r4) (.int .i64 r5) ha
  have p1 : ((((((V.setCell ⟨a, 0, none⟩ (.int .i64 r0)).setCell ⟨a, 1, none⟩ (.int .i64 r1)).setCell ⟨a, 2, none⟩ (.int .i64 r2)).setCell ⟨a, 3, none⟩ (.int .i64 r3)).setCell ⟨a, 4, none⟩ (.int .i64 r4)).setCell ⟨a, 5, none⟩ (.int .i64 r5)).heap[b]? = some (.cells #[.int .i64 0, .int .i64 0, .int .i64 0, .int .i64 0, .int .i64 0, .int .i64 0] 28 (0, 0)) := by
    rw [Below.heap_setCell _ _ _ _ hab.symm, Below.heap_setCell _ _ _ _ hab.symm, Below.heap_setCell _ _ _ _ hab.symm, Below.heap_setCell _ _ _ _ hab.symm, Below.heap_setCell _ _ _ _ hab.symm, Below.heap_setCell _ _ _ _ hab.symm]
    exact hb
  refine ⟨?_, set6row _ _ _ _ _ _ p1⟩
  rw [Below.heap_setCell _ _ _ _ hab, Below.heap_setCell _ _ _ _ hab, Below.heap_setCell _ _ _ _ hab, Below.heap_setCell _ _ _ _ hab, Below.heap_setCell _ _ _ _ hab, Below.heap_setCell _ _ _ _ hab]
  exact q1
def DnPost (w : World) (e : Ending) (w' : World) : Prop := ∃ (r0 r1 r2 r3 r4 r5 s0 s1 s2 s3 s4 s5 n : Int), Wf6 r0 r1 r2 r3 r4 r5 ∧ Wf6 s0 s1 s2 s3 s4 s5 ∧ (-1 ≤ n ∧ n ≤ 13) ∧ e = .returned (.tuple #[.agg #[.int .i64 r0, .int .i64 r1, .int .i64 r2, .int .i64 r3, .int .i64 r4, .int .i64 r5], .agg #[.int .i64 s0, .int .i64 s1, .int .i64 s2, .int .i64 s3, .int .i64 s4, .int .i64 s5], .int .i64 n]) ∧ Below w.heap.size w w'
set_option maxRecDepth 8000 in
set_option maxHeartbeats 4000000 in
theorem draw_times (B : Nat) (A : Option Addr) (len cap : Nat) (zs : List Int) (w : World) (h : CodeIn w B A len zs) (hB : B ≤ w.heap.size) (hl : len ≤ 65536) : Calls Try.prog 75 #[.slice A len cap] w (DnPost w) := by
  have H := Lib.hid h
  clear h
  go_enter Try.func75, Try.ntmps75
  go_wp2_with fail
  generalize hW : (World.alloc _ _ : World) = W0
  have HB := Lib.hid (show Below w.heap.size w W0 by rw [← hW]; (repeat (first | exact Below.refl _ _ | assumption | refine Below.setCell ?_ (by first | (simp; done) | (simp; omega)) _ | refine Below.alloc ?_ (by first | (simp; done) | (simp; omega)) _ | refine Below.drew ?_)))
  have Q0 := Lib.hid (show W0.heap[w.heap.size]? = some (.cells #[.int .i64 0, .int .i64 0, .int .i64 0, .int .i64 0, .int .i64 0, .int .i64 0] 28 (0, 0)) by rw [← hW]; exact alloc_past (alloc_past (alloc_at rfl)))
  have P0 := Lib.hid (show W0.heap[w.heap.size + 1]? = some (.cells #[.int .i64 0, .int .i64 0, .int .i64 0, .int .i64 0, .int .i64 0, .int .i64 0] 28 (0, 0)) by rw [← hW]; exact alloc_past (alloc_at (by simp)))
  have H0 := Lib.hid (show CuTo B (w.heap.size + 1 + 1) A len cap zs 0 W0 W0 by
    refine ⟨?_, g_refl _ _⟩
    rw [← hW]
    have e := cu_new (W := (w.alloc (.cells #[.int .i64 0, .int .i64 0, .int .i64 0, .int .i64 0, .int .i64 0, .int .i64 0] 28)).alloc (.cells #[.int .i64 0, .int .i64 0, .int .i64 0, .int .i64 0, .int .i64 0, .int .i64 0] 28)) (cap := cap) (H.out.below (((Below.refl _ _).alloc (Nat.le_refl _) _).alloc (by simp) _) hB) (by simp; omega) hl
    simpa using e)
  clear hW H
  generalize hg : w.heap.size + 1 + 1 = g at H0 ⊢
  refine (stamp_dr B g A len cap zs 0 W0 H0.out.1 (by omega)).mono ?_
  rintro e W1 ⟨r0, r1, r2, r3, r4, r5, hw, rfl, hc⟩
  have H1 := Lib.hid (H0.out.step hc)
  have Q1 := Lib.hid (rowg Q0.out hc.2 (by omega))
  have P1 := Lib.hid (rowg P0.out hc.2 (by omega))
  have HR := Lib.hid hw
  clear hc hw H0 Q0 P0
  go_wp2_with fail
  refine (stamp_dr B g A len cap zs (0 + 100) W1 H1.out.1 (by omega)).mono ?_
  rintro e W2 ⟨s0, s1, s2, s3, s4, s5, hw, rfl, hc⟩
  have H2 := Lib.hid (H1.out.step hc)
  have HS := Lib.hid hw
  have Q2 := Lib.hid (rowg Q1.out hc.2 (by omega))
  have P2 := Lib.hid (rowg P1.out hc.2 (by omega))
  clear hc hw H1 Q1 P1
  have HB2 := Lib.hid (below_to HB.out H2.out.2 (by omega))
  have hgl := H2.out.1.glt
  go_wp2_with fail
  have hcu := (H2.out.1.alloc (.cells #[.int .i64 r0, .int .i64 r1, .int .i64 r2, .int .i64 r3, .int .i64 r4, .int .i64 r5] 28)).alloc (.cells #[.int .i64 s0, .int .i64 s1, .int .i64 s2, .int .i64 s3, .int .i64 s4, .int .i64 s5] 28)
  have hq : ((W2.alloc (.cells #[.int .i64 r0, .int .i64 r1, .int .i64 r2, .int .i64 r3, .int .i64 r4, .int .i64 r5] 28)).alloc (.cells #[.int .i64 s0, .int .i64 s1, .int .i64 s2, .int .i64 s3, .int .i64 s4, .int .i64 s5] 28)).heap[w.heap.size]? = some (.cells #[.int .i64 0, .int .i64 0, .int .i64 0, .int .i64 0, .int .i64 0, .int .i64 0] 28 (0, 0)) := alloc_past (alloc_past Q2.out)
  have hp : ((W2.alloc (.cells #[.int .i64 r0, .int .i64 r1, .int .i64 r2, .int .i64 r3, .int .i64 r4, .int .i64 r5] 28)).alloc (.cells #[.int .i64 s0, .int .i64 s1, .int .i64 s2, .int .i64 s3, .int .i64 s4, .int .i64 s5] 28)).heap[w.heap.size + 1]? = some (.cells #[.int .i64 0, .int .i64 0, .int .i64 0, .int .i64 0, .int .i64 0, .int .i64 0] 28 (0, 0)) := alloc_past (alloc_past P2.out)
  have hD : Dd w W2.heap.size (W2.heap.size + 1) r0 r1 r2 r3 r4 r5 s0 s1 s2 s3 s4 s5 ((W2.alloc (.cells #[.int .i64 r0, .int .i64 r1, .int .i64 r2, .int .i64 r3, .int .i64 r4, .int .i64 r5] 28)).alloc (.cells #[.int .i64 s0, .int .i64 s1, .int .i64 s2, .int .i64 s3, .int .i64 s4, .int .i64 s5] 28)) := ⟨alloc_past (alloc_at rfl), alloc_at (by simp), (HB2.out.alloc HB2.out.size _).alloc (by have := HB2.out.size; simp; omega) _⟩
  have hsz : ((W2.alloc (.cells #[.int .i64 r0, .int .i64 r1, .int .i64 r2, .int .i64 r3, .int .i64 r4, .int .i64 r5] 28)).alloc (.cells #[.int .i64 s0, .int .i64 s1, .int .i64 s2, .int .i64 s3, .int .i64 s4, .int .i64 s5] 28)).heap.size = W2.heap.size + 2 := by simp
  clear HB HB2 H2 Q2 P2
  have hg1 : w.heap.size ≠ g := by omega
  have hg2 : w.heap.size + 1 ≠ g := by omega
  generalize hk7 : W2.heap.size + 1 = k7 at hD ⊢
  generalize hk6 : W2.heap.size = k6 at hD ⊢
  generalize (World.alloc _ _ : World) = W at hcu hq hp hD hsz ⊢
  refine wp_region_held_drew (S := (fun U => U.cell? ⟨k6, 0, none⟩ = some (.int .i64 r0) ∧ U.cell? ⟨k6, 1, none⟩ = some (.int .i64 r1) ∧ U.cell? ⟨k6, 2, none⟩ = some (.int .i64 r2) ∧ U.cell? ⟨k6, 3, none⟩ = some (.int .i64 r3) ∧ U.cell? ⟨k6, 4, none⟩ = some (.int .i64 r4) ∧ U.cell? ⟨k6, 5, none⟩ = some (.int .i64 r5) ∧ U.cell? ⟨k7, 0, none⟩ = some (.int .i64 s0) ∧ U.cell? ⟨k7, 1, none⟩ = some (.int .i64 s1) ∧ U.cell? ⟨k7, 2, none⟩ = some (.int .i64 s2) ∧ U.cell? ⟨k7, 3, none⟩ = some (.int .i64 s3) ∧ U.cell? ⟨k7, 4, none⟩ = some (.int .i64 s4) ∧ U.cell? ⟨k7, 5, none⟩ = some (.int .i64 s5) ∧ Dd w k6 k7 r0 r1 r2 r3 r4 r5 s0 s1 s2 s3 s4 s5 U)) (by kernel_rfl) ?_ (fun hHeld => ?_)
  · (try dsimp only)
    exact SKd hD.drew
  have hD := hD.drew
  have hcu : Cu W.drew B g A len cap zs (0 + 100 + 100) := by obtain ⟨h1, h2, h3, a, s, h4, h5, h6, h7⟩ := hcu; exact ⟨h1, h2, h3, a, s, h4, h5, h6, h7⟩
  have hq := drew_row hq
  have hp := drew_row hp
  have hsz : W.drew.heap.size = W2.heap.size + 2 := hsz
  generalize W.drew = V at hD hcu hq hp hsz hHeld ⊢
  refine wpAnyH_take (i := 0) (oi := { dst := some 15, op := Go.Op.load 28 (Go.Operand.tmp 6), type := 28, pos := "l5_spread.go:199", after := #[], guard := none }) (v := ?_) rfl (by kernel_rfl) (by kernel_rfl) (by kernel_rfl) (fun _ _ _ h => h) (Or.inl ⟨by rfl, ?_⟩) (by assumption) ?_
  rotate_left
  · intro w hSw; (try dsimp only at hSw); go_simp; (try with_reducible rfl)
  simp only [Act.put, List.setIfInBounds_toArray, List.set_cons_zero, List.set_cons_succ]
  refine wpAnyH_take (i := 1) (oi := { dst := some 16, op := Go.Op.load 28 (Go.Operand.tmp 7), type := 28, pos := "l5_spread.go:199", after := #[{ on := 10, ground := Go.Ground.gcOnly Go.Departure.lateStores }], guard := none }) (v := ?_) rfl (by kernel_rfl) (by kernel_rfl) (by kernel_rfl) (fun _ _ _ h => h) (Or.inl ⟨by rfl, ?_⟩) (by assumption) ?_
  rotate_left
  · intro w hSw; (try dsimp only at hSw); go_simp; (try with_reducible rfl)
  simp only [Act.put, List.setIfInBounds_toArray, List.set_cons_zero, List.set_cons_succ]
  refine wpAnyH_take (i := 2) (oi := { dst := some 17, op := Go.Op.move (Go.Operand.tmp 5), type := 135, pos := "l5_spread.go:199", after := #[], guard := none }) (v := ?_) rfl (by kernel_rfl) (by kernel_rfl) (by kernel_rfl) (fun _ _ _ h => h) (Or.inl ⟨by rfl, ?_⟩) (by assumption) ?_
  rotate_left
  · intro w hSw; (try dsimp only at hSw); go_simp; (try with_reducible rfl)
  simp only [Act.put, List.setIfInBounds_toArray, List.set_cons_zero, List.set_cons_succ]
  refine wpAnyH_take (i := 4) (oi := { dst := some 19, op := Go.Op.move (Go.Operand.tmp 5), type := 135, pos := "l5_spread.go:199", after := #[], guard := none }) (v := ?_) rfl (by kernel_rfl) (by kernel_rfl) (by kernel_rfl) (fun _ _ _ h => h) (Or.inl ⟨by rfl, ?_⟩) (by assumption) ?_
  rotate_left
  · intro w hSw; (try dsimp only at hSw); go_simp; (try with_reducible rfl)
  simp only [Act.put, List.setIfInBounds_toArray, List.set_cons_zero, List.set_cons_succ]
  refine wpAnyH_ready (rs := [3, 5]) (by kernel_rfl) (by simp) ?_
  refine AllReadyH.cons (o := { dst := some 18, op := Go.Op.buildSlice 153 8 #[(0, Go.Operand.const (Go.Value.int Go.IntKind.i64 1)), (1, Go.Operand.const (Go.Value.int Go.IntKind.i64 2)), (2, Go.Operand.const (Go.Value.int Go.IntKind.i64 3)), (3, Go.Operand.const (Go.Value.int Go.IntKind.i64 0)), (4, Go.Operand.const (Go.Value.int Go.IntKind.i64 6)), (5, Go.Operand.const (Go.Value.int Go.IntKind.i64 12)), (6, Go.Operand.const (Go.Value.int Go.IntKind.i64 13)), (7, Go.Operand.const (Go.Value.int Go.IntKind.i64 (-1)))], type := 153, pos := "l5_spread.go:199", after := #[], guard := none }) rfl (fun K hK => ?_) ?_
  · skip
    go_simp
    have hlit : (V.alloc (.cells #[.int .i64 1, .int .i64 2, .int .i64 3, .int .i64 0, .int .i64 6, .int .i64 12, .int .i64 13, .int .i64 (-1)] 3)).heap[k6 + 2]? = some (.cells #[.int .i64 1, .int .i64 2, .int .i64 3, .int .i64 0, .int .i64 6, .int .i64 12, .int .i64 13, .int .i64 (-1)] 3 (0, 0)) := alloc_at (by omega)
    have hD := hD.al (.cells #[.int .i64 1, .int .i64 2, .int .i64 3, .int .i64 0, .int .i64 6, .int .i64 12, .int .i64 13, .int .i64 (-1)] 3)
    have hcu := hcu.alloc (.cells #[.int .i64 1, .int .i64 2, .int .i64 3, .int .i64 0, .int .i64 6, .int .i64 12, .int .i64 13, .int .i64 (-1)] 3)
    have hq := alloc_past (o := (.cells #[.int .i64 1, .int .i64 2, .int .i64 3, .int .i64 0, .int .i64 6, .int .i64 12, .int .i64 13, .int .i64 (-1)] 3)) hq
    have hp := alloc_past (o := (.cells #[.int .i64 1, .int .i64 2, .int .i64 3, .int .i64 0, .int .i64 6, .int .i64 12, .int .i64 13, .int .i64 (-1)] 3)) hp
    refine hK.out _ _ ?_ (fun hHeld => ?_)
    · (try dsimp only)
      exact SKd hD
    clear hK K
    (try simp only [Act.put, List.setIfInBounds_toArray, List.set_cons_zero, List.set_cons_succ])
    generalize (World.alloc _ _ : World) = V1 at hlit hD hcu hq hp hHeld ⊢
    refine wpAnyH_ready (rs := [5]) (by kernel_rfl) (by simp) ?_
    refine AllReadyH.cons (o := { dst := some 20, op := Go.Op.call { callee := Go.Callee.value (Go.Operand.func 158), args := #[Go.Operand.tmp 19, Go.Operand.const (Go.Value.int Go.IntKind.i64 24)], argTypes := #[135, 3] }, type := 3, pos := "l5_spread.go:199", after := #[{ on := 4, ground := Go.Ground.data }], guard := none }) rfl (fun K hK => ?_) AllReadyH.nil
    go_simp
    (go_at_call 158; (with_reducible refine (pick_any 24 B g A len cap zs (0 + 100 + 100) _ hcu (by omega) (by omega) (by omega)).mono ?_); rintro e V2 ⟨v, rfl, hv0, hv1, hc⟩; go_wp2_with fail)
    have hcu := hc.1
    have hD := hD.gr hc.2 (by omega) (by omega) (by omega)
    have hq := rowg hq hc.2 (by omega)
    have hp := rowg hp hc.2 (by omega)
    have hlit := rowg hlit hc.2 (by omega)
    clear hc
    refine hK.out _ _ ?_ (fun hHeld => ?_)
    · (try dsimp only)
      exact SKd hD
    clear hK K
    (try simp only [Act.put, List.setIfInBounds_toArray, List.set_cons_zero, List.set_cons_succ])
    have hv9 : v ≤ 23 := by omega
    obtain ⟨q, htq⟩ : ∃ q, v.tdiv 11 = q := ⟨_, rfl⟩
    have hq0 : 0 ≤ q ∧ q ≤ 2 := by rw [← htq, Int.tdiv_eq_ediv_of_nonneg hv0]; omega
    have hvn0 : 0 < (6 + q).toNat := by omega
    have hvn8 : (6 + q).toNat ≤ 8 := by omega
    have hvs0 : 0 ≤ 6 + q := by omega
    have hvs8 : 6 + q ≤ 8 := by omega
    have hvd : IntKind.i64.wrap q = q := by rw [IntKind.wrap_i64]; omega
    have hvw : IntKind.i64.wrap (6 + q) = 6 + q := by rw [IntKind.wrap_i64]; omega
    refine wpAnyH_take (i := 6) (oi := { dst := some 21, op := Go.Op.binOp Go.BinOp.quo 3 (Go.Operand.tmp 20) (Go.Operand.const (Go.Value.int Go.IntKind.i64 11)) 3, type := 3, pos := "l5_spread.go:199", after := #[{ on := 5, ground := Go.Ground.data }], guard := none }) (v := ?_) rfl (by kernel_rfl) (by kernel_rfl) (by kernel_rfl) (fun _ _ _ h => h) (Or.inl ⟨by rfl, ?_⟩) (by assumption) ?_
    rotate_left
    · intro w hSw; (try dsimp only at hSw); go_simp; (try with_reducible rfl)
    simp only [Act.put, List.setIfInBounds_toArray, List.set_cons_zero, List.set_cons_succ]
    refine wpAnyH_take (i := 7) (oi := { dst := some 22, op := Go.Op.binOp Go.BinOp.add 3 (Go.Operand.const (Go.Value.int Go.IntKind.i64 6)) (Go.Operand.tmp 21) 3, type := 3, pos := "l5_spread.go:199", after := #[{ on := 6, ground := Go.Ground.data }], guard := none }) (v := ?_) rfl (by kernel_rfl) (by kernel_rfl) (by kernel_rfl) (fun _ _ _ h => h) (Or.inl ⟨by rfl, ?_⟩) (by assumption) ?_
    rotate_left
    · intro w hSw; (try dsimp only at hSw); go_simp; (try with_reducible rfl)
    simp only [Act.put, List.setIfInBounds_toArray, List.set_cons_zero, List.set_cons_succ]
    refine wpAnyH_take (i := 8) (oi := { dst := some 23, op := Go.Op.slice 153 (Go.Operand.tmp 18) none (some (Go.Operand.tmp 22)) none, type := 153, pos := "l5_spread.go:199", after := #[{ on := 3, ground := Go.Ground.data }, { on := 7, ground := Go.Ground.data }], guard := none }) (v := ?_) rfl (by kernel_rfl) (by kernel_rfl) (by kernel_rfl) (fun _ _ _ h => h) (Or.inl ⟨by rfl, ?_⟩) (by assumption) ?_
    rotate_left
    · intro w hSw; (try dsimp only at hSw); go_simp; (try with_reducible rfl)
    simp only [Act.put, List.setIfInBounds_toArray, List.set_cons_zero, List.set_cons_succ]
    refine wpAnyH_ready (rs := [9]) (by kernel_rfl) (by simp) ?_
    refine AllReadyH.cons (o := { dst := some 24, op := Go.Op.call { callee := Go.Callee.value (Go.Operand.func 175), args := #[Go.Operand.tmp 17, Go.Operand.tmp 23], argTypes := #[135, 153] }, type := 3, pos := "l5_spread.go:199", after := #[{ on := 2, ground := Go.Ground.data }, { on := 8, ground := Go.Ground.data }, { on := 5, ground := Go.Ground.chain }], guard := none }) rfl (fun K hK => ?_) AllReadyH.nil
    go_simp
    (go_at_call 175; (with_reducible refine (among8 (k6 + 2) _ B g A len cap zs (0 + 100 + 100 + 2) _ hcu (by omega) hlit (by omega) (by omega) (by omega)).mono ?_); rintro e V3 ⟨n, hn0, hn1, rfl, hc⟩; go_wp2_with fail)
    have hD := hD.gr hc.2 (by omega) (by omega) (by omega)
    have hq := rowg hq hc.2 (by omega)
    have hp := rowg hp hc.2 (by omega)
    have z_c := fun j => cell_of_row V3 _ j _ _ _ hq
    have z_f := fun j => frozen_of_row V3 _ j _ _ hq
    have y_c := fun j => cell_of_row V3 _ j _ _ _ hp
    have y_f := fun j => frozen_of_row V3 _ j _ _ hp
    clear hc
    refine hK.out _ _ ?_ (fun hHeld => ?_)
    · (try dsimp only)
      exact SKd hD
    clear hK K
    (try simp only [Act.put, List.setIfInBounds_toArray, List.set_cons_zero, List.set_cons_succ])
    refine wpAnyH_ready (rs := [10]) (by kernel_rfl) (by simp) ?_
    refine AllReadyH.cons (o := { dst := none, op := Go.Op.store 28 (Go.Operand.tmp 2) (Go.Operand.tmp 15), type := 0, pos := "l5_spread.go:199", after := #[{ on := 0, ground := Go.Ground.data }, { on := 9, ground := Go.Ground.chain }, { on := 0, ground := Go.Ground.phase }, { on := 1, ground := Go.Ground.textOnly Go.Departure.lateStores }, { on := 2, ground := Go.Ground.textOnly Go.Departure.lateStores }, { on := 3, ground := Go.Ground.textOnly Go.Departure.lateStores }, { on := 4, ground := Go.Ground.textOnly Go.Departure.lateStores }, { on := 5, ground := Go.Ground.textOnly Go.Departure.lateStoresUnsure }, { on := 6, ground := Go.Ground.textOnly Go.Departure.lateStores }, { on := 7, ground := Go.Ground.textOnly Go.Departure.lateStores }, { on := 8, ground := Go.Ground.textOnly Go.Departure.lateStoresUnsure }, { on := 9, ground := Go.Ground.textOnly Go.Departure.lateStoresUnsure }], guard := none }) rfl (fun K hK => ?_) AllReadyH.nil
    go_simp
    have hD := (((((hD.set (g := w.heap.size) (i := 0) (v := .int .i64 r0) (by omega) (by omega) (Nat.le_refl _)).set (g := w.heap.size) (i := 1) (v := .int .i64 r1) (by omega) (by omega) (Nat.le_refl _)).set (g := w.heap.size) (i := 2) (v := .int .i64 r2) (by omega) (by omega) (Nat.le_refl _)).set (g := w.heap.size) (i := 3) (v := .int .i64 r3) (by omega) (by omega) (Nat.le_refl _)).set (g := w.heap.size) (i := 4) (v := .int .i64 r4) (by omega) (by omega) (Nat.le_refl _)).set (g := w.heap.size) (i := 5) (v := .int .i64 r5) (by omega) (by omega) (Nat.le_refl _)
    refine hK.out _ _ ?_ (fun hHeld => ?_)
    · (try dsimp only)
      exact SKd hD
    clear hK K
    (try simp only [Act.put, List.setIfInBounds_toArray, List.set_cons_zero, List.set_cons_succ])
    refine wpAnyH_ready (rs := [11]) (by kernel_rfl) (by simp) ?_
    refine AllReadyH.cons (o := { dst := none, op := Go.Op.store 28 (Go.Operand.tmp 3) (Go.Operand.tmp 16), type := 0, pos := "l5_spread.go:199", after := #[{ on := 1, ground := Go.Ground.data }, { on := 10, ground := Go.Ground.chain }, { on := 0, ground := Go.Ground.phase }, { on := 1, ground := Go.Ground.phase }, { on := 2, ground := Go.Ground.textOnly Go.Departure.lateStores }, { on := 3, ground := Go.Ground.textOnly Go.Departure.lateStores }, { on := 4, ground := Go.Ground.textOnly Go.Departure.lateStores }, { on := 5, ground := Go.Ground.textOnly Go.Departure.lateStoresUnsure }, { on := 6, ground := Go.Ground.textOnly Go.Departure.lateStores }, { on := 7, ground := Go.Ground.textOnly Go.Departure.lateStores }, { on := 8, ground := Go.Ground.textOnly Go.Departure.lateStoresUnsure }, { on := 9, ground := Go.Ground.textOnly Go.Departure.lateStoresUnsure }, { on := 10, ground := Go.Ground.phase }], guard := none }) rfl (fun K hK => ?_) AllReadyH.nil
    go_simp
    have hD := (((((hD.set (g := w.heap.size + 1) (i := 0) (v := .int .i64 s0) (by omega) (by omega) (Nat.le_succ _)).set (g := w.heap.size + 1) (i := 1) (v := .int .i64 s1) (by omega) (by omega) (Nat.le_succ _)).set (g := w.heap.size + 1) (i := 2) (v := .int .i64 s2) (by omega) (by omega) (Nat.le_succ _)).set (g := w.heap.size + 1) (i := 3) (v := .int .i64 s3) (by omega) (by omega) (Nat.le_succ _)).set (g := w.heap.size + 1) (i := 4) (v := .int .i64 s4) (by omega) (by omega) (Nat.le_succ _)).set (g := w.heap.size + 1) (i := 5) (v := .int .i64 s5) (by omega) (by omega) (Nat.le_succ _)
    refine hK.out _ _ ?_ (fun hHeld => ?_)
    · (try dsimp only)
      exact SKd hD
    clear hK K
    (try simp only [Act.put, List.setIfInBounds_toArray, List.set_cons_zero, List.set_cons_succ])
    refine wpAnyH_take (i := 12) (oi := { dst := some 4, op := Go.Op.assign (Go.Operand.tmp 24), type := 3, pos := "l5_spread.go:199", after := #[{ on := 9, ground := Go.Ground.data }, { on := 11, ground := Go.Ground.chain }, { on := 0, ground := Go.Ground.phase }, { on := 1, ground := Go.Ground.phase }, { on := 2, ground := Go.Ground.phase }, { on := 3, ground := Go.Ground.phase }, { on := 4, ground := Go.Ground.phase }, { on := 5, ground := Go.Ground.phase }, { on := 6, ground := Go.Ground.phase }, { on := 7, ground := Go.Ground.phase }, { on := 8, ground := Go.Ground.phase }, { on := 9, ground := Go.Ground.phase }, { on := 10, ground := Go.Ground.phase }, { on := 11, ground := Go.Ground.phase }], guard := none }) (v := ?_) rfl (by kernel_rfl) (by kernel_rfl) (by kernel_rfl) (fun _ _ _ h => h) (Or.inl ⟨by rfl, ?_⟩) (by assumption) ?_
    rotate_left
    · intro w hSw; (try dsimp only at hSw); go_simp; (try with_reducible rfl)
    simp only [Act.put, List.setIfInBounds_toArray, List.set_cons_zero, List.set_cons_succ]
    refine wpAnyH_done (by kernel_rfl) ?_ _
    clear hvw hvd htq hvs0 hvs8 hvn0 hvn8
    have h12 := set12 (r0 := r0) (r1 := r1) (r2 := r2) (r3 := r3) (r4 := r4) (r5 := r5) (s0 := s0) (s1 := s1) (s2 := s2) (s3 := s3) (s4 := s4) (s5 := s5) (show w.heap.size ≠ w.heap.size + 1 by omega) hq hp
    have hB := hD.2.2
    clear hHeld hD z_c z_f y_c y_f hq hp hcu hlit
    generalize (World.setCell _ _ _ : World) = X at h12 hB ⊢
    have z_c := fun j => cell_of_row X _ j _ _ _ h12.1
    have y_c := fun j => cell_of_row X _ j _ _ _ h12.2
    clear h12
    go_wp2_with fail
    exact bodyPost_ret (v := .tuple #[.agg #[.int .i64 r0, .int .i64 r1, .int .i64 r2, .int .i64 r3, .int .i64 r4, .int .i64 r5], .agg #[.int .i64 s0, .int .i64 s1, .int .i64 s2, .int .i64 s3, .int .i64 s4, .int .i64 s5], .int .i64 n]) (by simp [results, Try.results75, go_sem, z_c, y_c]) rfl ⟨r0, r1, r2, r3, r4, r5, s0, s1, s2, s3, s4, s5, n, HR.out, HS.out, ⟨hn0, hn1⟩, rfl, hB⟩
  · skip
    refine AllReadyH.cons (o := { dst := some 20, op := Go.Op.call { callee := Go.Callee.value (Go.Operand.func 158), args := #[Go.Operand.tmp 19, Go.Operand.const (Go.Value.int Go.IntKind.i64 24)], argTypes := #[135, 3] }, type := 3, pos := "l5_spread.go:199", after := #[{ on := 4, ground := Go.Ground.data }], guard := none }) rfl (fun K hK => ?_) AllReadyH.nil
    go_simp
    (go_at_call 158; (with_reducible refine (pick_any 24 B g A len cap zs (0 + 100 + 100) _ hcu (by omega) (by omega) (by omega)).mono ?_); rintro e V2 ⟨v, rfl, hv0, hv1, hc⟩; go_wp2_with fail)
    have hcu := hc.1
    have hD := hD.gr hc.2 (by omega) (by omega) (by omega)
    have hq := rowg hq hc.2 (by omega)
    have hp := rowg hp hc.2 (by omega)
    skip
    clear hc
    refine hK.out _ _ ?_ (fun hHeld => ?_)
    · (try dsimp only)
      exact SKd hD
    clear hK K
    (try simp only [Act.put, List.setIfInBounds_toArray, List.set_cons_zero, List.set_cons_succ])
    have hv9 : v ≤ 23 := by omega
    obtain ⟨q, htq⟩ : ∃ q, v.tdiv 11 = q := ⟨_, rfl⟩
    have hq0 : 0 ≤ q ∧ q ≤ 2 := by rw [← htq, Int.tdiv_eq_ediv_of_nonneg hv0]; omega
    have hvn0 : 0 < (6 + q).toNat := by omega
    have hvn8 : (6 + q).toNat ≤ 8 := by omega
    have hvs0 : 0 ≤ 6 + q := by omega
    have hvs8 : 6 + q ≤ 8 := by omega
    have hvd : IntKind.i64.wrap q = q := by rw [IntKind.wrap_i64]; omega
    have hvw : IntKind.i64.wrap (6 + q) = 6 + q := by rw [IntKind.wrap_i64]; omega
    refine wpAnyH_take (i := 6) (oi := { dst := some 21, op := Go.Op.binOp Go.BinOp.quo 3 (Go.Operand.tmp 20) (Go.Operand.const (Go.Value.int Go.IntKind.i64 11)) 3, type := 3, pos := "l5_spread.go:199", after := #[{ on := 5, ground := Go.Ground.data }], guard := none }) (v := ?_) rfl (by kernel_rfl) (by kernel_rfl) (by kernel_rfl) (fun _ _ _ h => h) (Or.inl ⟨by rfl, ?_⟩) (by assumption) ?_
    rotate_left
    · intro w hSw; (try dsimp only at hSw); go_simp; (try with_reducible rfl)
    simp only [Act.put, List.setIfInBounds_toArray, List.set_cons_zero, List.set_cons_succ]
    refine wpAnyH_take (i := 7) (oi := { dst := some 22, op := Go.Op.binOp Go.BinOp.add 3 (Go.Operand.const (Go.Value.int Go.IntKind.i64 6)) (Go.Operand.tmp 21) 3, type := 3, pos := "l5_spread.go:199", after := #[{ on := 6, ground := Go.Ground.data }], guard := none }) (v := ?_) rfl (by kernel_rfl) (by kernel_rfl) (by kernel_rfl) (fun _ _ _ h => h) (Or.inl ⟨by rfl, ?_⟩) (by assumption) ?_
    rotate_left
    · intro w hSw; (try dsimp only at hSw); go_simp; (try with_reducible rfl)
    simp only [Act.put, List.setIfInBounds_toArray, List.set_cons_zero, List.set_cons_succ]
    refine wpAnyH_ready (rs := [3]) (by kernel_rfl) (by simp) ?_
    refine AllReadyH.cons (o := { dst := some 18, op := Go.Op.buildSlice 153 8 #[(0, Go.Operand.const (Go.Value.int Go.IntKind.i64 1)), (1, Go.Operand.const (Go.Value.int Go.IntKind.i64 2)), (2, Go.Operand.const (Go.Value.int Go.IntKind.i64 3)), (3, Go.Operand.const (Go.Value.int Go.IntKind.i64 0)), (4, Go.Operand.const (Go.Value.int Go.IntKind.i64 6)), (5, Go.Operand.const (Go.Value.int Go.IntKind.i64 12)), (6, Go.Operand.const (Go.Value.int Go.IntKind.i64 13)), (7, Go.Operand.const (Go.Value.int Go.IntKind.i64 (-1)))], type := 153, pos := "l5_spread.go:199", after := #[], guard := none }) rfl (fun K hK => ?_) AllReadyH.nil
    go_simp
    have hvl := hcu.glt
    have hlit : (V2.alloc (.cells #[.int .i64 1, .int .i64 2, .int .i64 3, .int .i64 0, .int .i64 6, .int .i64 12, .int .i64 13, .int .i64 (-1)] 3)).heap[V2.heap.size]? = some (.cells #[.int .i64 1, .int .i64 2, .int .i64 3, .int .i64 0, .int .i64 6, .int .i64 12, .int .i64 13, .int .i64 (-1)] 3 (0, 0)) := alloc_at rfl
    have hD := hD.al (.cells #[.int .i64 1, .int .i64 2, .int .i64 3, .int .i64 0, .int .i64 6, .int .i64 12, .int .i64 13, .int .i64 (-1)] 3)
    have hcu := hcu.alloc (.cells #[.int .i64 1, .int .i64 2, .int .i64 3, .int .i64 0, .int .i64 6, .int .i64 12, .int .i64 13, .int .i64 (-1)] 3)
    have hq := alloc_past (o := (.cells #[.int .i64 1, .int .i64 2, .int .i64 3, .int .i64 0, .int .i64 6, .int .i64 12, .int .i64 13, .int .i64 (-1)] 3)) hq
    have hp := alloc_past (o := (.cells #[.int .i64 1, .int .i64 2, .int .i64 3, .int .i64 0, .int .i64 6, .int .i64 12, .int .i64 13, .int .i64 (-1)] 3)) hp
    refine hK.out _ _ ?_ (fun hHeld => ?_)
    · (try dsimp only)
      exact SKd hD
    clear hK K
    (try simp only [Act.put, List.setIfInBounds_toArray, List.set_cons_zero, List.set_cons_succ])
    generalize hkl : V2.heap.size = kl at hlit ⊢
    generalize (World.alloc _ _ : World) = V1 at hlit hD hcu hq hp hHeld ⊢
    refine wpAnyH_take (i := 8) (oi := { dst := some 23, op := Go.Op.slice 153 (Go.Operand.tmp 18) none (some (Go.Operand.tmp 22)) none, type := 153, pos := "l5_spread.go:199", after := #[{ on := 3, ground := Go.Ground.data }, { on := 7, ground := Go.Ground.data }], guard := none }) (v := ?_) rfl (by kernel_rfl) (by kernel_rfl) (by kernel_rfl) (fun _ _ _ h => h) (Or.inl ⟨by rfl, ?_⟩) (by assumption) ?_
    rotate_left
    · intro w hSw; (try dsimp only at hSw); go_simp; (try with_reducible rfl)
    simp only [Act.put, List.setIfInBounds_toArray, List.set_cons_zero, List.set_cons_succ]
    refine wpAnyH_ready (rs := [9]) (by kernel_rfl) (by simp) ?_
    refine AllReadyH.cons (o := { dst := some 24, op := Go.Op.call { callee := Go.Callee.value (Go.Operand.func 175), args := #[Go.Operand.tmp 17, Go.Operand.tmp 23], argTypes := #[135, 153] }, type := 3, pos := "l5_spread.go:199", after := #[{ on := 2, ground := Go.Ground.data }, { on := 8, ground := Go.Ground.data }, { on := 5, ground := Go.Ground.chain }], guard := none }) rfl (fun K hK => ?_) AllReadyH.nil
    go_simp
    (go_at_call 175; (with_reducible refine (among8 kl _ B g A len cap zs (0 + 100 + 100 + 2) _ hcu (by omega) hlit (by omega) (by omega) (by omega)).mono ?_); rintro e V3 ⟨n, hn0, hn1, rfl, hc⟩; go_wp2_with fail)
    have hD := hD.gr hc.2 (by omega) (by omega) (by omega)
    have hq := rowg hq hc.2 (by omega)
    have hp := rowg hp hc.2 (by omega)
    have z_c := fun j => cell_of_row V3 _ j _ _ _ hq
    have z_f := fun j => frozen_of_row V3 _ j _ _ hq
    have y_c := fun j => cell_of_row V3 _ j _ _ _ hp
    have y_f := fun j => frozen_of_row V3 _ j _ _ hp
    clear hc
    refine hK.out _ _ ?_ (fun hHeld => ?_)
    · (try dsimp only)
      exact SKd hD
    clear hK K
    (try simp only [Act.put, List.setIfInBounds_toArray, List.set_cons_zero, List.set_cons_succ])
    refine wpAnyH_ready (rs := [10]) (by kernel_rfl) (by simp) ?_
    refine AllReadyH.cons (o := { dst := none, op := Go.Op.store 28 (Go.Operand.tmp 2) (Go.Operand.tmp 15), type := 0, pos := "l5_spread.go:199", after := #[{ on := 0, ground := Go.Ground.data }, { on := 9, ground := Go.Ground.chain }, { on := 0, ground := Go.Ground.phase }, { on := 1, ground := Go.Ground.textOnly Go.Departure.lateStores }, { on := 2, ground := Go.Ground.textOnly Go.Departure.lateStores }, { on := 3, ground := Go.Ground.textOnly Go.Departure.lateStores }, { on := 4, ground := Go.Ground.textOnly Go.Departure.lateStores }, { on := 5, ground := Go.Ground.textOnly Go.Departure.lateStoresUnsure }, { on := 6, ground := Go.Ground.textOnly Go.Departure.lateStores }, { on := 7, ground := Go.Ground.textOnly Go.Departure.lateStores }, { on := 8, ground := Go.Ground.textOnly Go.Departure.lateStoresUnsure }, { on := 9, ground := Go.Ground.textOnly Go.Departure.lateStoresUnsure }], guard := none }) rfl (fun K hK => ?_) AllReadyH.nil
    go_simp
    have hD := (((((hD.set (g := w.heap.size) (i := 0) (v := .int .i64 r0) (by omega) (by omega) (Nat.le_refl _)).set (g := w.heap.size) (i := 1) (v := .int .i64 r1) (by omega) (by omega) (Nat.le_refl _)).set (g := w.heap.size) (i := 2) (v := .int .i64 r2) (by omega) (by omega) (Nat.le_refl _)).set (g := w.heap.size) (i := 3) (v := .int .i64 r3) (by omega) (by omega) (Nat.le_refl _)).set (g := w.heap.size) (i := 4) (v := .int .i64 r4) (by omega) (by omega) (Nat.le_refl _)).set (g := w.heap.size) (i := 5) (v := .int .i64 r5) (by omega) (by omega) (Nat.le_refl _)
    refine hK.out _ _ ?_ (fun hHeld => ?_)
    · (try dsimp only)
      exact SKd hD
    clear hK K
    (try simp only [Act.put, List.setIfInBounds_toArray, List.set_cons_zero, List.set_cons_succ])
    refine wpAnyH_ready (rs := [11]) (by kernel_rfl) (by simp) ?_
    refine AllReadyH.cons (o := { dst := none, op := Go.Op.store 28 (Go.Operand.tmp 3) (Go.Operand.tmp 16), type := 0, pos := "l5_spread.go:199", after := #[{ on := 1, ground := Go.Ground.data }, { on := 10, ground := Go.Ground.chain }, { on := 0, ground := Go.Ground.phase }, { on := 1, ground := Go.Ground.phase }, { on := 2, ground := Go.Ground.textOnly Go.Departure.lateStores }, { on := 3, ground := Go.Ground.textOnly Go.Departure.lateStores }, { on := 4, ground := Go.Ground.textOnly Go.Departure.lateStores }, { on := 5, ground := Go.Ground.textOnly Go.Departure.lateStoresUnsure }, { on := 6, ground := Go.Ground.textOnly Go.Departure.lateStores }, { on := 7, ground := Go.Ground.textOnly Go.Departure.lateStores }, { on := 8, ground := Go.Ground.textOnly Go.Departure.lateStoresUnsure }, { on := 9, ground := Go.Ground.textOnly Go.Departure.lateStoresUnsure }, { on := 10, ground := Go.Ground.phase }], guard := none }) rfl (fun K hK => ?_) AllReadyH.nil
    go_simp
    have hD := (((((hD.set (g := w.heap.size + 1) (i := 0) (v := .int .i64 s0) (by omega) (by omega) (Nat.le_succ _)).set (g := w.heap.size + 1) (i := 1) (v := .int .i64 s1) (by omega) (by omega) (Nat.le_succ _)).set (g := w.heap.size + 1) (i := 2) (v := .int .i64 s2) (by omega) (by omega) (Nat.le_succ _)).set (g := w.heap.size + 1) (i := 3) (v := .int .i64 s3) (by omega) (by omega) (Nat.le_succ _)).set (g := w.heap.size + 1) (i := 4) (v := .int .i64 s4) (by omega) (by omega) (Nat.le_succ _)).set (g := w.heap.size + 1) (i := 5) (v := .int .i64 s5) (by omega) (by omega) (Nat.le_succ _)
    refine hK.out _ _ ?_ (fun hHeld => ?_)
    · (try dsimp only)
      exact SKd hD
    clear hK K
    (try simp only [Act.put, List.setIfInBounds_toArray, List.set_cons_zero, List.set_cons_succ])
    refine wpAnyH_take (i := 12) (oi := { dst := some 4, op := Go.Op.assign (Go.Operand.tmp 24), type := 3, pos := "l5_spread.go:199", after := #[{ on := 9, ground := Go.Ground.data }, { on := 11, ground := Go.Ground.chain }, { on := 0, ground := Go.Ground.phase }, { on := 1, ground := Go.Ground.phase }, { on := 2, ground := Go.Ground.phase }, { on := 3, ground := Go.Ground.phase }, { on := 4, ground := Go.Ground.phase }, { on := 5, ground := Go.Ground.phase }, { on := 6, ground := Go.Ground.phase }, { on := 7, ground := Go.Ground.phase }, { on := 8, ground := Go.Ground.phase }, { on := 9, ground := Go.Ground.phase }, { on := 10, ground := Go.Ground.phase }, { on := 11, ground := Go.Ground.phase }], guard := none }) (v := ?_) rfl (by kernel_rfl) (by kernel_rfl) (by kernel_rfl) (fun _ _ _ h => h) (Or.inl ⟨by rfl, ?_⟩) (by assumption) ?_
    rotate_left
    · intro w hSw; (try dsimp only at hSw); go_simp; (try with_reducible rfl)
    simp only [Act.put, List.setIfInBounds_toArray, List.set_cons_zero, List.set_cons_succ]
    refine wpAnyH_done (by kernel_rfl) ?_ _
    clear hvw hvd htq hvs0 hvs8 hvn0 hvn8
    have h12 := set12 (r0 := r0) (r1 := r1) (r2 := r2) (r3 := r3) (r4 := r4) (r5 := r5) (s0 := s0) (s1 := s1) (s2 := s2) (s3 := s3) (s4 := s4) (s5 := s5) (show w.heap.size ≠ w.heap.size + 1 by omega) hq hp
    have hB := hD.2.2
    clear hHeld hD z_c z_f y_c y_f hq hp hcu hlit
    generalize (World.setCell _ _ _ : World) = X at h12 hB ⊢
    have z_c := fun j => cell_of_row X _ j _ _ _ h12.1
    have y_c := fun j => cell_of_row X _ j _ _ _ h12.2
    clear h12
    go_wp2_with fail
    exact bodyPost_ret (v := .tuple #[.agg #[.int .i64 r0, .int .i64 r1, .int .i64 r2, .int .i64 r3, .int .i64 r4, .int .i64 r5], .agg #[.int .i64 s0, .int .i64 s1, .int .i64 s2, .int .i64 s3, .int .i64 s4, .int .i64 s5], .int .i64 n]) (by simp [results, Try.results75, go_sem, z_c, y_c]) rfl ⟨r0, r1, r2, r3, r4, r5, s0, s1, s2, s3, s4, s5, n, HR.out, HS.out, ⟨hn0, hn1⟩, rfl, hB⟩
/- Rq5 -/
def Rk5 (w : World) (B g : Nat) (A : Option Addr) (len cap : Nat) (zs : List Int) (m : Int) (L : List (Nat × Obj)) (W : World) : Prop := CuTo B g A len cap zs m w W ∧ ∀ p ∈ L, W.heap[p.1]? = some p.2 ∧ p.1 ≠ g
section
variable {w W W' : World} {B g : Nat} {A : Option Addr} {len cap : Nat} {zs : List Int} {m m' : Int} {L L' : List (Nat × Obj)}
theorem Rk5.step (h : Rk5 w B g A len cap zs m L W) (hc : CuTo B g A len cap zs m' W W') : Rk5 w B g A len cap zs m' L W' := ⟨h.1.step hc, fun p hp => ⟨rowg (h.2 p hp).1 hc.2 (h.2 p hp).2, (h.2 p hp).2⟩⟩
theorem Rk5.below {N : Nat} (h : Rk5 w B g A len cap zs m L W) (hb : Below N W W') (hN : N = W.heap.size) : Rk5 w B g A len cap zs m L W' := ⟨h.1.below hb hN, fun p hp => ⟨rowk (h.2 p hp).1 hb hN, (h.2 p hp).2⟩⟩
theorem Rk5.put (h : Rk5 w B g A len cap zs m L W) (o : Obj) (k : Nat) (hk : k = W.heap.size) : Rk5 w B g A len cap zs m ((k, o) :: L) (W.alloc o) := by
  subst hk
  have hgl := h.1.1.glt
  refine ⟨h.1.alloc o, fun p hp => ?_⟩
  rcases List.mem_cons.mp hp with rfl | hp
  · exact ⟨alloc_at rfl, by show W.heap.size ≠ g; omega⟩
  · exact ⟨alloc_past (h.2 p hp).1, (h.2 p hp).2⟩
theorem Rk5.sub (h : Rk5 w B g A len cap zs m L W) (hs : ∀ p ∈ L', p ∈ L) : Rk5 w B g A len cap zs m L' W := ⟨h.1, fun p hp => h.2 p (hs p hp)⟩
theorem Rk5.idx (h : Rk5 w B g A len cap zs m L W) (is : List Nat) (hL : is.filterMap (fun i => L[i]?) = L') : Rk5 w B g A len cap zs m L' W := h.sub fun p hp => by
  subst hL
  obtain ⟨i, _, hi⟩ := List.mem_filterMap.mp hp
  exact List.mem_of_getElem? hi
theorem Rk5.mono (h : Rk5 w B g A len cap zs m L W) (hm : m ≤ m') : Rk5 w B g A len cap zs m' L W := ⟨h.1.mono hm, h.2⟩
theorem Cu.drw (h : Cu W B g A len cap zs m) : Cu W.drew B g A len cap zs m := by
  obtain ⟨h1, h2, h3, a, s, h4, h5, h6, h7⟩ := h
  exact ⟨h1, h2, h3, a, s, h4, h5, h6, h7⟩
theorem CuTo.drew (h : CuTo B g A len cap zs m w W) : CuTo B g A len cap zs m w W.drew := by
  obtain ⟨h1, hgr⟩ := h
  exact ⟨Cu.drw h1, ⟨hgr.os, hgr.tape, hgr.output, hgr.size, hgr.block⟩⟩
theorem Rk5.drew (h : Rk5 w B g A len cap zs m L W) : Rk5 w B g A len cap zs m L W.drew := ⟨CuTo.drew h.1, fun p hp => ⟨drew_row (h.2 p hp).1, (h.2 p hp).2⟩⟩
theorem Rk5.get (h : Rk5 w B g A len cap zs m L W) (i : Nat) {k : Nat} {o : Obj} (hi : L[i]? = some (k, o)) : W.heap[k]? = some o := (h.2 _ (List.mem_of_getElem? hi)).1
theorem Rk5.set {k : Nat} {v0 v1 v2 v3 v4 v5 : Value} (u0 u1 u2 u3 u4 u5 : Value) (h : Rk5 w B g A len cap zs m ((k, .cells #[v0, v1, v2, v3, v4, v5] 28 (0, 0)) :: L) W) (hg : g < w.heap.size) (hk : w.heap.size ≤ k) (hL : ∀ p ∈ L, p.1 ≠ k) : Rk5 w B g A len cap zs m ((k, .cells #[u0, u1, u2, u3, u4, u5] 28 (0, 0)) :: L) ((((((W.setCell ⟨k, 0, none⟩ u0).setCell ⟨k, 1, none⟩ u1).setCell ⟨k, 2, none⟩ u2).setCell ⟨k, 3, none⟩ u3).setCell ⟨k, 4, none⟩ u4).setCell ⟨k, 5, none⟩ u5) := by
  refine ⟨CuTo.set6 u0 u1 u2 u3 u4 u5 h.1 hg hk, fun p hp => ?_⟩
  rcases List.mem_cons.mp hp with rfl | hp
  · exact ⟨set6row _ _ _ _ _ _ (h.2 _ (List.mem_cons_self ..)).1, (h.2 _ (List.mem_cons_self ..)).2⟩
  · have hne := hL p hp
    have h0 := h.2 p (List.mem_cons_of_mem _ hp)
    refine ⟨?_, h0.2⟩
    rw [Below.heap_setCell _ _ _ _ hne, Below.heap_setCell _ _ _ _ hne, Below.heap_setCell _ _ _ _ hne, Below.heap_setCell _ _ _ _ hne, Below.heap_setCell _ _ _ _ hne, Below.heap_setCell _ _ _ _ hne]
    exact h0.1
end
theorem ok_bd {a : Int} (h : ok a = true) : 0 ≤ a ∧ a ≤ 63 := by simpa [ok] using h
theorem ok_fin {a : Int} (h : ok a = true) : ∃ n : Fin 64, a = ((n.val : Nat) : Int) := by
  obtain ⟨h0, h1⟩ := ok_bd h
  obtain ⟨n, rfl⟩ := Int.eq_ofNat_of_zero_le h0
  exact ⟨⟨n, by omega⟩, rfl⟩
theorem ok_wf {a : Int} (h : ok a = true) : (Lit.int .i64 a).wf = true := by
  have := ok_bd h
  exact WalkArith.wf_i64 ⟨by omega, by omega⟩
theorem ok_or8 : ∀ a b : Fin 64, ok (bits .or .i64 ((a.val : Nat) : Int) ((b.val : Nat) : Int)) = true := by decide +kernel
theorem ok_xor8 : ∀ (a : Fin 64) (x : Fin 6), ok (bits .xor .i64 ((a.val : Nat) : Int) (wrap64 (2 ^ x.val))) = true := by decide +kernel
def Ok6 (r0 r1 r2 r3 r4 r5 : Int) : Prop := ok r0 = true ∧ ok r1 = true ∧ ok r2 = true ∧ ok r3 = true ∧ ok r4 = true ∧ ok r5 = true
theorem Ok6.of (r0 r1 r2 r3 r4 r5 : Int) (h : (ok r0 && ok r1 && ok r2 && ok r3 && ok r4 && ok r5) = true) : Ok6 r0 r1 r2 r3 r4 r5 := by simpa [Ok6, Bool.and_eq_true, and_assoc] using h
theorem Ok6.wf (r0 r1 r2 r3 r4 r5 : Int) (h : Ok6 r0 r1 r2 r3 r4 r5) : Wf6 r0 r1 r2 r3 r4 r5 := ⟨ok_wf h.1, ok_wf h.2.1, ok_wf h.2.2.1, ok_wf h.2.2.2.1, ok_wf h.2.2.2.2.1, ok_wf h.2.2.2.2.2⟩
theorem ok_xor {a x : Int} (h : ok a = true) (hx : 0 ≤ x ∧ x ≤ 5) : ok (bits .xor .i64 a (wrap64 (2 ^ x.toNat))) = true := by
  obtain ⟨n, rfl⟩ := ok_fin h
  obtain ⟨k, rfl⟩ := Int.eq_ofNat_of_zero_le hx.1
  exact ok_xor8 n ⟨k, by omega⟩
theorem ok_or {a b : Int} (h : ok a = true) (h' : ok b = true) : ok (bits .or .i64 a b) = true := by
  obtain ⟨n, rfl⟩ := ok_fin h
  obtain ⟨k, rfl⟩ := ok_fin h'
  exact ok_or8 n k
theorem flip_ok (a0 a1 a2 a3 a4 a5 : Int) (h : Ok6 a0 a1 a2 a3 a4 a5) (x y : Int) (hx : 0 ≤ x ∧ x ≤ 5) (hy : 0 ≤ y ∧ y ≤ 5) : ∃ (r0 r1 r2 r3 r4 r5 : Int), Ok6 r0 r1 r2 r3 r4 r5 ∧ ∀ w, Calls Try.prog 231 #[.agg #[.int .i64 a0, .int .i64 a1, .int .i64 a2, .int .i64 a3, .int .i64 a4, .int .i64 a5], .int .i64 x, .int .i64 y] w fun e w' => e = .returned (.agg #[.int .i64 r0, .int .i64 r1, .int .i64 r2, .int .i64 r3, .int .i64 r4, .int .i64 r5]) ∧ Below w.heap.size w w' := by
  obtain ⟨h0, h1, h2, h3, h4, h5⟩ := h
  refine ⟨_, _, _, _, _, _, ⟨?_, ?_, ?_, ?_, ?_, ?_⟩, fun w => l2flip_any a0 a1 a2 a3 a4 a5 x y hx hy w⟩
  all_goals
    split
    · exact ok_xor (by assumption) hx
    · assumption
theorem or_ok (a0 a1 a2 a3 a4 a5 : Int) (b0 b1 b2 b3 b4 b5 : Int) (h : Ok6 a0 a1 a2 a3 a4 a5) (h' : Ok6 b0 b1 b2 b3 b4 b5) : ∃ (r0 r1 r2 r3 r4 r5 : Int), Ok6 r0 r1 r2 r3 r4 r5 ∧ ∀ w, Calls Try.prog 137 #[.agg #[.int .i64 a0, .int .i64 a1, .int .i64 a2, .int .i64 a3, .int .i64 a4, .int .i64 a5], .agg #[.int .i64 b0, .int .i64 b1, .int .i64 b2, .int .i64 b3, .int .i64 b4, .int .i64 b5]] w fun e w' => e = .returned (.agg #[.int .i64 r0, .int .i64 r1, .int .i64 r2, .int .i64 r3, .int .i64 r4, .int .i64 r5]) ∧ Below w.heap.size w w' :=
  ⟨_, _, _, _, _, _, ⟨ok_or h.1 h'.1, ok_or h.2.1 h'.2.1, ok_or h.2.2.1 h'.2.2.1, ok_or h.2.2.2.1 h'.2.2.2.1, ok_or h.2.2.2.2.1 h'.2.2.2.2.1, ok_or h.2.2.2.2.2 h'.2.2.2.2.2⟩, fun w => l2or_any a0 a1 a2 a3 a4 a5 b0 b1 b2 b3 b4 b5 w⟩
theorem rowv_ok1 (f : Nat → Bool) : ok (rowv f) = true := rowv_ok f
theorem Ok6.bits (r0 r1 r2 r3 r4 r5 : Int) (h : Ok6 r0 r1 r2 r3 r4 r5) : ∃ f : Fn6, r0 = rowv (f 0) ∧ r1 = rowv (f 1) ∧ r2 = rowv (f 2) ∧ r3 = rowv (f 3) ∧ r4 = rowv (f 4) ∧ r5 = rowv (f 5) := sheet_bits r0 r1 r2 r3 r4 r5 (by obtain ⟨h0, h1, h2, h3, h4, h5⟩ := h; simp [*])
theorem spread_ok (a0 a1 a2 a3 a4 a5 : Int) (b0 b1 b2 b3 b4 b5 : Int) (h : Ok6 a0 a1 a2 a3 a4 a5) (h' : Ok6 b0 b1 b2 b3 b4 b5) : ∃ (r0 r1 r2 r3 r4 r5 : Int), Ok6 r0 r1 r2 r3 r4 r5 ∧ ∀ w, Calls Try.prog 178 #[.agg #[.int .i64 a0, .int .i64 a1, .int .i64 a2, .int .i64 a3, .int .i64 a4, .int .i64 a5], .agg #[.int .i64 b0, .int .i64 b1, .int .i64 b2, .int .i64 b3, .int .i64 b4, .int .i64 b5]] w fun e w' => e = .returned (.agg #[.int .i64 r0, .int .i64 r1, .int .i64 r2, .int .i64 r3, .int .i64 r4, .int .i64 r5]) ∧ Below w.heap.size w w' := by
  obtain ⟨s, rfl, rfl, rfl, rfl, rfl, rfl⟩ := Ok6.bits a0 a1 a2 a3 a4 a5 h
  obtain ⟨p, rfl, rfl, rfl, rfl, rfl, rfl⟩ := Ok6.bits b0 b1 b2 b3 b4 b5 h'
  exact ⟨_, _, _, _, _, _, ⟨rowv_ok _, rowv_ok _, rowv_ok _, rowv_ok _, rowv_ok _, rowv_ok _⟩, fun w => lspread_f s p w⟩
theorem close_ok (a0 a1 a2 a3 a4 a5 : Int) (b0 b1 b2 b3 b4 b5 : Int) (h : Ok6 a0 a1 a2 a3 a4 a5) (h' : Ok6 b0 b1 b2 b3 b4 b5) : ∃ (r0 r1 r2 r3 r4 r5 : Int), Ok6 r0 r1 r2 r3 r4 r5 ∧ ∀ w, Calls Try.prog 172 #[.agg #[.int .i64 a0, .int .i64 a1, .int .i64 a2, .int .i64 a3, .int .i64 a4, .int .i64 a5], .agg #[.int .i64 b0, .int .i64 b1, .int .i64 b2, .int .i64 b3, .int .i64 b4, .int .i64 b5]] w fun e w' => e = .returned (.agg #[.int .i64 r0, .int .i64 r1, .int .i64 r2, .int .i64 r3, .int .i64 r4, .int .i64 r5]) ∧ Below w.heap.size w w' := by
  obtain ⟨s, rfl, rfl, rfl, rfl, rfl, rfl⟩ := Ok6.bits a0 a1 a2 a3 a4 a5 h
  obtain ⟨p, rfl, rfl, rfl, rfl, rfl, rfl⟩ := Ok6.bits b0 b1 b2 b3 b4 b5 h'
  exact ⟨_, _, _, _, _, _, ⟨rowv_ok _, rowv_ok _, rowv_ok _, rowv_ok _, rowv_ok _, rowv_ok _⟩, fun w => lclose_f s p w⟩
/- Dc5 -/
theorem cells1 {U : World} {k : Nat} {r0 r1 r2 r3 r4 r5 : Int} (h : U.heap[k]? = some (.cells #[.int .i64 r0, .int .i64 r1, .int .i64 r2, .int .i64 r3, .int .i64 r4, .int .i64 r5] 28 (0, 0))) : U.cell? ⟨k, 0, none⟩ = some (.int .i64 r0) ∧ U.cell? ⟨k, 1, none⟩ = some (.int .i64 r1) ∧ U.cell? ⟨k, 2, none⟩ = some (.int .i64 r2) ∧ U.cell? ⟨k, 3, none⟩ = some (.int .i64 r3) ∧ U.cell? ⟨k, 4, none⟩ = some (.int .i64 r4) ∧ U.cell? ⟨k, 5, none⟩ = some (.int .i64 r5) :=
  have h0 := fun j => cell_of_row U _ j _ _ _ h
  ⟨h0 0, h0 1, h0 2, h0 3, h0 4, h0 5⟩
theorem cells2 {U : World} {k l : Nat} {r0 r1 r2 r3 r4 r5 s0 s1 s2 s3 s4 s5 : Int} (h : U.heap[k]? = some (.cells #[.int .i64 r0, .int .i64 r1, .int .i64 r2, .int .i64 r3, .int .i64 r4, .int .i64 r5] 28 (0, 0))) (h' : U.heap[l]? = some (.cells #[.int .i64 s0, .int .i64 s1, .int .i64 s2, .int .i64 s3, .int .i64 s4, .int .i64 s5] 28 (0, 0))) : U.cell? ⟨k, 0, none⟩ = some (.int .i64 r0) ∧ U.cell? ⟨k, 1, none⟩ = some (.int .i64 r1) ∧ U.cell? ⟨k, 2, none⟩ = some (.int .i64 r2) ∧ U.cell? ⟨k, 3, none⟩ = some (.int .i64 r3) ∧ U.cell? ⟨k, 4, none⟩ = some (.int .i64 r4) ∧ U.cell? ⟨k, 5, none⟩ = some (.int .i64 r5) ∧ U.cell? ⟨l, 0, none⟩ = some (.int .i64 s0) ∧ U.cell? ⟨l, 1, none⟩ = some (.int .i64 s1) ∧ U.cell? ⟨l, 2, none⟩ = some (.int .i64 s2) ∧ U.cell? ⟨l, 3, none⟩ = some (.int .i64 s3) ∧ U.cell? ⟨l, 4, none⟩ = some (.int .i64 s4) ∧ U.cell? ⟨l, 5, none⟩ = some (.int .i64 s5) :=
  have h0 := fun j => cell_of_row U _ j _ _ _ h
  have h1 := fun j => cell_of_row U _ j _ _ _ h'
  ⟨h0 0, h0 1, h0 2, h0 3, h0 4, h0 5, h1 0, h1 1, h1 2, h1 3, h1 4, h1 5⟩
def SqPost (B g : Nat) (A : Option Addr) (len cap : Nat) (zs : List Int) (m : Int) (w : World) (e : Ending) (w' : World) : Prop := ∃ (r0 r1 r2 r3 r4 r5 s0 s1 s2 s3 s4 s5 : Int), Wf6 r0 r1 r2 r3 r4 r5 ∧ Wf6 s0 s1 s2 s3 s4 s5 ∧ e = .returned (.tuple #[.agg #[.int .i64 r0, .int .i64 r1, .int .i64 r2, .int .i64 r3, .int .i64 r4, .int .i64 r5], .agg #[.int .i64 s0, .int .i64 s1, .int .i64 s2, .int .i64 s3, .int .i64 s4, .int .i64 s5]]) ∧ CuTo B g A len cap zs m w w'
set_option maxRecDepth 8000 in
set_option maxHeartbeats 4000000 in
theorem spread5_dr (B g : Nat) (A : Option Addr) (len cap : Nat) (zs : List Int) (m : Int) (w : World) (h : Cu w B g A len cap zs m) (hm : m ≤ 500000) :
    Calls Try.prog 173 #[.pointer (some ⟨g, 0, none⟩)] w (SqPost B g A len cap zs (m + 250) w) := by
  have hgl := h.glt
  have H := Lib.hid h
  clear h
  go_enter Try.func173, Try.ntmps173
  go_wp2_with fail
  have hR : Rk5 w B g A len cap zs (m) [(w.heap.size, (.cells #[.int .i64 0, .int .i64 0, .int .i64 0, .int .i64 0, .int .i64 0, .int .i64 0] 28 (0, 0))), (w.heap.size + 1, (.cells #[.int .i64 0, .int .i64 0, .int .i64 0, .int .i64 0, .int .i64 0, .int .i64 0] 28 (0, 0)))] ((w.alloc (.cells #[.int .i64 0, .int .i64 0, .int .i64 0, .int .i64 0, .int .i64 0, .int .i64 0] 28)).alloc (.cells #[.int .i64 0, .int .i64 0, .int .i64 0, .int .i64 0, .int .i64 0, .int .i64 0] 28)) := by
    have h0 := Rk5.put (Rk5.put (L := []) ⟨⟨H.out, g_refl w g⟩, fun p hp => by cases hp⟩ (.cells #[.int .i64 0, .int .i64 0, .int .i64 0, .int .i64 0, .int .i64 0, .int .i64 0] 28) w.heap.size rfl) (.cells #[.int .i64 0, .int .i64 0, .int .i64 0, .int .i64 0, .int .i64 0, .int .i64 0] 28) (w.heap.size + 1) (by simp)
    exact h0.idx [1, 0] rfl
  generalize (World.alloc _ _ : World) = W0 at hR ⊢
  refine (sheet_dr B g A len cap zs m W0 hR.1.1 (by omega)).mono ?_
  rintro e W1 ⟨s0, s1, s2, s3, s4, s5, hw, rfl, hc⟩
  have HS := Lib.hid hw
  have HR := Lib.hid (hR.step hc)
  clear hw hc hR
  go_wp2_with fail
  refine (stamp_dr B g A len cap zs (m + 90) W1 HR.out.1.1 (by omega)).mono ?_
  rintro e W2 ⟨p0, p1, p2, p3, p4, p5, hw, rfl, hc⟩
  have HP := Lib.hid hw
  have hR := HR.out.step hc
  clear hw hc HR
  have hk4 : w.heap.size + 1 < W2.heap.size := row_lt (hR.get 1 rfl)
  have HR := Lib.hid hR
  clear hR
  go_wp2_with fail
  have hR : Rk5 w B g A len cap zs (m + 90 + 100) [(W2.heap.size, (.cells #[.int .i64 s0, .int .i64 s1, .int .i64 s2, .int .i64 s3, .int .i64 s4, .int .i64 s5] 28 (0, 0))), (W2.heap.size + 1, (.cells #[.int .i64 p0, .int .i64 p1, .int .i64 p2, .int .i64 p3, .int .i64 p4, .int .i64 p5] 28 (0, 0))), (w.heap.size, (.cells #[.int .i64 0, .int .i64 0, .int .i64 0, .int .i64 0, .int .i64 0, .int .i64 0] 28 (0, 0))), (w.heap.size + 1, (.cells #[.int .i64 0, .int .i64 0, .int .i64 0, .int .i64 0, .int .i64 0, .int .i64 0] 28 (0, 0)))] ((W2.alloc (.cells #[.int .i64 s0, .int .i64 s1, .int .i64 s2, .int .i64 s3, .int .i64 s4, .int .i64 s5] 28)).alloc (.cells #[.int .i64 p0, .int .i64 p1, .int .i64 p2, .int .i64 p3, .int .i64 p4, .int .i64 p5] 28)) := by
    have h0 := Rk5.put (Rk5.put HR.out (.cells #[.int .i64 s0, .int .i64 s1, .int .i64 s2, .int .i64 s3, .int .i64 s4, .int .i64 s5] 28) W2.heap.size rfl) (.cells #[.int .i64 p0, .int .i64 p1, .int .i64 p2, .int .i64 p3, .int .i64 p4, .int .i64 p5] 28) (W2.heap.size + 1) (by simp)
    exact h0.idx [1, 0, 2, 3] rfl
  clear HR
  generalize hk5 : W2.heap.size + 1 = k5 at hR ⊢
  generalize hk4e : W2.heap.size = k4 at hR hk4 hk5 ⊢
  generalize (World.alloc _ _ : World) = W3 at hR ⊢
  obtain ⟨bs, hbs⟩ : ∃ b, (ok s0 && ok s1 && ok s2 && ok s3 && ok s4 && ok s5) = b := ⟨_, rfl⟩
  obtain ⟨bp, hbp⟩ : ∃ b, (ok p0 && ok p1 && ok p2 && ok p3 && ok p4 && ok p5) = b := ⟨_, rfl⟩
  have HBs := sh_as s0 s1 s2 s3 s4 s5 hbs
  have HBp := sh_as p0 p1 p2 p3 p4 p5 hbp
  have HbS := Lib.hid hbs
  have HbP := Lib.hid hbp
  clear hbs hbp
  refine (HBs.out W3).mono ?_
  rintro e W4 ⟨rfl, hb⟩
  have hR := hR.below hb rfl
  clear hb HBs
  cases bs
  case false =>
    have HQ := Lib.hid hR
    clear hR
    go_wp2_with fail
    have hR := HQ.out
    clear HQ
    refine wp_region_held_drew (S := (fun U => U.cell? ⟨k4, 0, none⟩ = some (.int .i64 s0) ∧ U.cell? ⟨k4, 1, none⟩ = some (.int .i64 s1) ∧ U.cell? ⟨k4, 2, none⟩ = some (.int .i64 s2) ∧ U.cell? ⟨k4, 3, none⟩ = some (.int .i64 s3) ∧ U.cell? ⟨k4, 4, none⟩ = some (.int .i64 s4) ∧ U.cell? ⟨k4, 5, none⟩ = some (.int .i64 s5) ∧ U.cell? ⟨k5, 0, none⟩ = some (.int .i64 p0) ∧ U.cell? ⟨k5, 1, none⟩ = some (.int .i64 p1) ∧ U.cell? ⟨k5, 2, none⟩ = some (.int .i64 p2) ∧ U.cell? ⟨k5, 3, none⟩ = some (.int .i64 p3) ∧ U.cell? ⟨k5, 4, none⟩ = some (.int .i64 p4) ∧ U.cell? ⟨k5, 5, none⟩ = some (.int .i64 p5))) (by kernel_rfl) ?_ (fun hHeld => ?_)
    · (try dsimp only)
      exact cells2 (hR.drew.get 0 rfl) (hR.drew.get 1 rfl)
    have hR := hR.drew
    generalize W4.drew = V13 at hR hHeld ⊢
    refine wpAnyH_take (i := 0) (oi := { dst := some 54, op := Go.Op.load 28 (Go.Operand.tmp 4), type := 28, pos := "l5_spread.go:167", after := #[], guard := none }) (v := ?_) rfl (by kernel_rfl) (by kernel_rfl) (by kernel_rfl) (fun _ _ _ h => h) (Or.inl ⟨by rfl, ?_⟩) (by assumption) ?_
    rotate_left
    · intro w hSw; (try dsimp only at hSw); go_simp; (try with_reducible rfl)
    simp only [Act.put, List.setIfInBounds_toArray, List.set_cons_zero, List.set_cons_succ]
    refine wpAnyH_take (i := 1) (oi := { dst := some 55, op := Go.Op.load 28 (Go.Operand.tmp 5), type := 28, pos := "l5_spread.go:167", after := #[{ on := 2, ground := Go.Ground.gcOnly Go.Departure.lateStores }], guard := none }) (v := ?_) rfl (by kernel_rfl) (by kernel_rfl) (by kernel_rfl) (fun _ _ _ h => h) (Or.inl ⟨by rfl, ?_⟩) (by assumption) ?_
    rotate_left
    · intro w hSw; (try dsimp only at hSw); go_simp; (try with_reducible rfl)
    simp only [Act.put, List.setIfInBounds_toArray, List.set_cons_zero, List.set_cons_succ]
    have z_q := hR.get 2 rfl
    have z_c := fun j => cell_of_row V13 _ j _ _ _ z_q
    have z_f := fun j => frozen_of_row V13 _ j _ _ z_q
    clear z_q
    refine wpAnyH_ready (rs := [2]) (by kernel_rfl) (by simp) ?_
    refine AllReadyH.cons (o := { dst := none, op := Go.Op.store 28 (Go.Operand.tmp 2) (Go.Operand.tmp 54), type := 0, pos := "l5_spread.go:167", after := #[{ on := 0, ground := Go.Ground.data }, { on := 0, ground := Go.Ground.phase }, { on := 1, ground := Go.Ground.textOnly Go.Departure.lateStores }], guard := none }) rfl (fun K hK => ?_) AllReadyH.nil
    go_simp
    clear z_c z_f
    have hR : Rk5 w B g A len cap zs _ [(w.heap.size, (.cells #[.int .i64 0, .int .i64 0, .int .i64 0, .int .i64 0, .int .i64 0, .int .i64 0] 28 (0, 0))), (k4, (.cells #[.int .i64 s0, .int .i64 s1, .int .i64 s2, .int .i64 s3, .int .i64 s4, .int .i64 s5] 28 (0, 0))), (k5, (.cells #[.int .i64 p0, .int .i64 p1, .int .i64 p2, .int .i64 p3, .int .i64 p4, .int .i64 p5] 28 (0, 0))), (w.heap.size + 1, (.cells #[.int .i64 0, .int .i64 0, .int .i64 0, .int .i64 0, .int .i64 0, .int .i64 0] 28 (0, 0)))] V13 := hR.idx [2, 0, 1, 3] rfl
    have hR := (Rk5.set (.int .i64 s0) (.int .i64 s1) (.int .i64 s2) (.int .i64 s3) (.int .i64 s4) (.int .i64 s5) hR hgl (Nat.le_refl _) (by intro p hp; simp only [List.mem_cons, List.mem_nil_iff, or_false] at hp; rcases hp with rfl | rfl | rfl <;> (show _ ≠ _; omega)))
    have hR := hR.idx [1, 2, 0, 3] rfl
    refine hK.out _ _ ?_ (fun hHeld => ?_)
    · (try dsimp only)
      exact cells2 (hR.get 0 rfl) (hR.get 1 rfl)
    clear hK K
    (try simp only [Act.put, List.setIfInBounds_toArray, List.set_cons_zero, List.set_cons_succ])
    generalize (World.setCell _ _ _ : World) = V14 at hR hHeld ⊢
    have y_q := hR.get 3 rfl
    have y_c := fun j => cell_of_row V14 _ j _ _ _ y_q
    have y_f := fun j => frozen_of_row V14 _ j _ _ y_q
    clear y_q
    refine wpAnyH_ready (rs := [3]) (by kernel_rfl) (by simp) ?_
    refine AllReadyH.cons (o := { dst := none, op := Go.Op.store 28 (Go.Operand.tmp 3) (Go.Operand.tmp 55), type := 0, pos := "l5_spread.go:167", after := #[{ on := 1, ground := Go.Ground.data }, { on := 2, ground := Go.Ground.chain }, { on := 0, ground := Go.Ground.phase }, { on := 1, ground := Go.Ground.phase }, { on := 2, ground := Go.Ground.phase }], guard := none }) rfl (fun K hK => ?_) AllReadyH.nil
    go_simp
    clear y_c y_f
    have hR : Rk5 w B g A len cap zs _ [(w.heap.size + 1, (.cells #[.int .i64 0, .int .i64 0, .int .i64 0, .int .i64 0, .int .i64 0, .int .i64 0] 28 (0, 0))), (k4, (.cells #[.int .i64 s0, .int .i64 s1, .int .i64 s2, .int .i64 s3, .int .i64 s4, .int .i64 s5] 28 (0, 0))), (k5, (.cells #[.int .i64 p0, .int .i64 p1, .int .i64 p2, .int .i64 p3, .int .i64 p4, .int .i64 p5] 28 (0, 0))), (w.heap.size, (.cells #[.int .i64 s0, .int .i64 s1, .int .i64 s2, .int .i64 s3, .int .i64 s4, .int .i64 s5] 28 (0, 0)))] V14 := hR.idx [3, 0, 1, 2] rfl
    have hR := (Rk5.set (.int .i64 p0) (.int .i64 p1) (.int .i64 p2) (.int .i64 p3) (.int .i64 p4) (.int .i64 p5) hR hgl (Nat.le_succ _) (by intro p hp; simp only [List.mem_cons, List.mem_nil_iff, or_false] at hp; rcases hp with rfl | rfl | rfl <;> (show _ ≠ _; omega)))
    have hR := hR.idx [1, 2, 3, 0] rfl
    refine hK.out _ _ ?_ (fun hHeld => ?_)
    · (try dsimp only)
      exact cells2 (hR.get 0 rfl) (hR.get 1 rfl)
    clear hK K
    (try simp only [Act.put, List.setIfInBounds_toArray, List.set_cons_zero, List.set_cons_succ])
    generalize (World.setCell _ _ _ : World) = V15 at hR hHeld ⊢
    refine wpAnyH_done (by kernel_rfl) ?_ _
    clear hHeld
    have z_q := hR.get 2 rfl
    have y_q := hR.get 3 rfl
    have z_c := fun j => cell_of_row V15 _ j _ _ _ z_q
    have y_c := fun j => cell_of_row V15 _ j _ _ _ y_q
    clear z_q y_q
    go_wp2_with fail
    exact bodyPost_ret (v := .tuple #[.agg #[.int .i64 s0, .int .i64 s1, .int .i64 s2, .int .i64 s3, .int .i64 s4, .int .i64 s5], .agg #[.int .i64 p0, .int .i64 p1, .int .i64 p2, .int .i64 p3, .int .i64 p4, .int .i64 p5]]) (by simp [results, Try.results173, go_sem, z_c, y_c]) rfl ⟨s0, s1, s2, s3, s4, s5, p0, p1, p2, p3, p4, p5, HS.out, HP.out, rfl, hR.1.mono (by omega)⟩
  case true =>
    have c_q := hR.get 1 rfl
    have c_c := fun j => cell_of_row W4 _ j _ _ _ c_q
    have c_f := fun j => frozen_of_row W4 _ j _ _ c_q
    clear c_q
    have HQ := Lib.hid hR
    clear hR
    go_wp2_with fail
    refine (HBp.out W4).mono ?_
    rintro e W5 ⟨rfl, hb⟩
    have hR := HQ.out.below hb rfl
    clear hb HBp HQ c_c c_f
    cases bp
    case false =>
      have HQ := Lib.hid hR
      clear hR
      go_wp2_with fail
      have hR := HQ.out
      clear HQ
      refine wp_region_held_drew (S := (fun U => U.cell? ⟨k4, 0, none⟩ = some (.int .i64 s0) ∧ U.cell? ⟨k4, 1, none⟩ = some (.int .i64 s1) ∧ U.cell? ⟨k4, 2, none⟩ = some (.int .i64 s2) ∧ U.cell? ⟨k4, 3, none⟩ = some (.int .i64 s3) ∧ U.cell? ⟨k4, 4, none⟩ = some (.int .i64 s4) ∧ U.cell? ⟨k4, 5, none⟩ = some (.int .i64 s5) ∧ U.cell? ⟨k5, 0, none⟩ = some (.int .i64 p0) ∧ U.cell? ⟨k5, 1, none⟩ = some (.int .i64 p1) ∧ U.cell? ⟨k5, 2, none⟩ = some (.int .i64 p2) ∧ U.cell? ⟨k5, 3, none⟩ = some (.int .i64 p3) ∧ U.cell? ⟨k5, 4, none⟩ = some (.int .i64 p4) ∧ U.cell? ⟨k5, 5, none⟩ = some (.int .i64 p5))) (by kernel_rfl) ?_ (fun hHeld => ?_)
      · (try dsimp only)
        exact cells2 (hR.drew.get 0 rfl) (hR.drew.get 1 rfl)
      have hR := hR.drew
      generalize W5.drew = V13 at hR hHeld ⊢
      refine wpAnyH_take (i := 0) (oi := { dst := some 54, op := Go.Op.load 28 (Go.Operand.tmp 4), type := 28, pos := "l5_spread.go:167", after := #[], guard := none }) (v := ?_) rfl (by kernel_rfl) (by kernel_rfl) (by kernel_rfl) (fun _ _ _ h => h) (Or.inl ⟨by rfl, ?_⟩) (by assumption) ?_
      rotate_left
      · intro w hSw; (try dsimp only at hSw); go_simp; (try with_reducible rfl)
      simp only [Act.put, List.setIfInBounds_toArray, List.set_cons_zero, List.set_cons_succ]
      refine wpAnyH_take (i := 1) (oi := { dst := some 55, op := Go.Op.load 28 (Go.Operand.tmp 5), type := 28, pos := "l5_spread.go:167", after := #[{ on := 2, ground := Go.Ground.gcOnly Go.Departure.lateStores }], guard := none }) (v := ?_) rfl (by kernel_rfl) (by kernel_rfl) (by kernel_rfl) (fun _ _ _ h => h) (Or.inl ⟨by rfl, ?_⟩) (by assumption) ?_
      rotate_left
      · intro w hSw; (try dsimp only at hSw); go_simp; (try with_reducible rfl)
      simp only [Act.put, List.setIfInBounds_toArray, List.set_cons_zero, List.set_cons_succ]
      have z_q := hR.get 2 rfl
      have z_c := fun j => cell_of_row V13 _ j _ _ _ z_q
      have z_f := fun j => frozen_of_row V13 _ j _ _ z_q
      clear z_q
      refine wpAnyH_ready (rs := [2]) (by kernel_rfl) (by simp) ?_
      refine AllReadyH.cons (o := { dst := none, op := Go.Op.store 28 (Go.Operand.tmp 2) (Go.Operand.tmp 54), type := 0, pos := "l5_spread.go:167", after := #[{ on := 0, ground := Go.Ground.data }, { on := 0, ground := Go.Ground.phase }, { on := 1, ground := Go.Ground.textOnly Go.Departure.lateStores }], guard := none }) rfl (fun K hK => ?_) AllReadyH.nil
      go_simp
      clear z_c z_f
      have hR : Rk5 w B g A len cap zs _ [(w.heap.size, (.cells #[.int .i64 0, .int .i64 0, .int .i64 0, .int .i64 0, .int .i64 0, .int .i64 0] 28 (0, 0))), (k4, (.cells #[.int .i64 s0, .int .i64 s1, .int .i64 s2, .int .i64 s3, .int .i64 s4, .int .i64 s5] 28 (0, 0))), (k5, (.cells #[.int .i64 p0, .int .i64 p1, .int .i64 p2, .int .i64 p3, .int .i64 p4, .int .i64 p5] 28 (0, 0))), (w.heap.size + 1, (.cells #[.int .i64 0, .int .i64 0, .int .i64 0, .int .i64 0, .int .i64 0, .int .i64 0] 28 (0, 0)))] V13 := hR.idx [2, 0, 1, 3] rfl
      have hR := (Rk5.set (.int .i64 s0) (.int .i64 s1) (.int .i64 s2) (.int .i64 s3) (.int .i64 s4) (.int .i64 s5) hR hgl (Nat.le_refl _) (by intro p hp; simp only [List.mem_cons, List.mem_nil_iff, or_false] at hp; rcases hp with rfl | rfl | rfl <;> (show _ ≠ _; omega)))
      have hR := hR.idx [1, 2, 0, 3] rfl
      refine hK.out _ _ ?_ (fun hHeld => ?_)
      · (try dsimp only)
        exact cells2 (hR.get 0 rfl) (hR.get 1 rfl)
      clear hK K
      (try simp only [Act.put, List.setIfInBounds_toArray, List.set_cons_zero, List.set_cons_succ])
      generalize (World.setCell _ _ _ : World) = V14 at hR hHeld ⊢
      have y_q := hR.get 3 rfl
      have y_c := fun j => cell_of_row V14 _ j _ _ _ y_q
      have y_f := fun j => frozen_of_row V14 _ j _ _ y_q
      clear y_q
      refine wpAnyH_ready (rs := [3]) (by kernel_rfl) (by simp) ?_
      refine AllReadyH.cons (o := { dst := none, op := Go.Op.store 28 (Go.Operand.tmp 3) (Go.Operand.tmp 55), type := 0, pos := "l5_spread.go:167", after := #[{ on := 1, ground := Go.Ground.data }, { on := 2, ground := Go.Ground.chain }, { on := 0, ground := Go.Ground.phase }, { on := 1, ground := Go.Ground.phase }, { on := 2, ground := Go.Ground.phase }], guard := none }) rfl (fun K hK => ?_) AllReadyH.nil
      go_simp
      clear y_c y_f
      have hR : Rk5 w B g A len cap zs _ [(w.heap.size + 1, (.cells #[.int .i64 0, .int .i64 0, .int .i64 0, .int .i64 0, .int .i64 0, .int .i64 0] 28 (0, 0))), (k4, (.cells #[.int .i64 s0, .int .i64 s1, .int .i64 s2, .int .i64 s3, .int .i64 s4, .int .i64 s5] 28 (0, 0))), (k5, (.cells #[.int .i64 p0, .int .i64 p1, .int .i64 p2, .int .i64 p3, .int .i64 p4, .int .i64 p5] 28 (0, 0))), (w.heap.size, (.cells #[.int .i64 s0, .int .i64 s1, .int .i64 s2, .int .i64 s3, .int .i64 s4, .int .i64 s5] 28 (0, 0)))] V14 := hR.idx [3, 0, 1, 2] rfl
      have hR := (Rk5.set (.int .i64 p0) (.int .i64 p1) (.int .i64 p2) (.int .i64 p3) (.int .i64 p4) (.int .i64 p5) hR hgl (Nat.le_succ _) (by intro p hp; simp only [List.mem_cons, List.mem_nil_iff, or_false] at hp; rcases hp with rfl | rfl | rfl <;> (show _ ≠ _; omega)))
      have hR := hR.idx [1, 2, 3, 0] rfl
      refine hK.out _ _ ?_ (fun hHeld => ?_)
      · (try dsimp only)
        exact cells2 (hR.get 0 rfl) (hR.get 1 rfl)
      clear hK K
      (try simp only [Act.put, List.setIfInBounds_toArray, List.set_cons_zero, List.set_cons_succ])
      generalize (World.setCell _ _ _ : World) = V15 at hR hHeld ⊢
      refine wpAnyH_done (by kernel_rfl) ?_ _
      clear hHeld
      have z_q := hR.get 2 rfl
      have y_q := hR.get 3 rfl
      have z_c := fun j => cell_of_row V15 _ j _ _ _ z_q
      have y_c := fun j => cell_of_row V15 _ j _ _ _ y_q
      clear z_q y_q
      go_wp2_with fail
      exact bodyPost_ret (v := .tuple #[.agg #[.int .i64 s0, .int .i64 s1, .int .i64 s2, .int .i64 s3, .int .i64 s4, .int .i64 s5], .agg #[.int .i64 p0, .int .i64 p1, .int .i64 p2, .int .i64 p3, .int .i64 p4, .int .i64 p5]]) (by simp [results, Try.results173, go_sem, z_c, y_c]) rfl ⟨s0, s1, s2, s3, s4, s5, p0, p1, p2, p3, p4, p5, HS.out, HP.out, rfl, hR.1.mono (by omega)⟩
    case true =>
      have HQ := Lib.hid hR
      clear hR
      go_wp2_with fail
      refine (one_any 2 B g A len cap zs (m + 90 + 100) W5 HQ.out.1.1 (by omega) (by omega) (by omega)).mono ?_
      rintro e W6 ⟨bo, rfl, hc⟩
      have hR := HQ.out.step hc
      clear hc HQ
      cases bo
      case false =>
        have HQ := Lib.hid hR
        clear hR
        go_wp2_with fail
        have hR := HQ.out
        clear HQ
        refine wp_region_held_drew (S := (fun U => U.cell? ⟨k4, 0, none⟩ = some (.int .i64 s0) ∧ U.cell? ⟨k4, 1, none⟩ = some (.int .i64 s1) ∧ U.cell? ⟨k4, 2, none⟩ = some (.int .i64 s2) ∧ U.cell? ⟨k4, 3, none⟩ = some (.int .i64 s3) ∧ U.cell? ⟨k4, 4, none⟩ = some (.int .i64 s4) ∧ U.cell? ⟨k4, 5, none⟩ = some (.int .i64 s5) ∧ U.cell? ⟨k5, 0, none⟩ = some (.int .i64 p0) ∧ U.cell? ⟨k5, 1, none⟩ = some (.int .i64 p1) ∧ U.cell? ⟨k5, 2, none⟩ = some (.int .i64 p2) ∧ U.cell? ⟨k5, 3, none⟩ = some (.int .i64 p3) ∧ U.cell? ⟨k5, 4, none⟩ = some (.int .i64 p4) ∧ U.cell? ⟨k5, 5, none⟩ = some (.int .i64 p5))) (by kernel_rfl) ?_ (fun hHeld => ?_)
        · (try dsimp only)
          exact cells2 (hR.drew.get 0 rfl) (hR.drew.get 1 rfl)
        have hR := hR.drew
        generalize W6.drew = V13 at hR hHeld ⊢
        refine wpAnyH_take (i := 0) (oi := { dst := some 54, op := Go.Op.load 28 (Go.Operand.tmp 4), type := 28, pos := "l5_spread.go:167", after := #[], guard := none }) (v := ?_) rfl (by kernel_rfl) (by kernel_rfl) (by kernel_rfl) (fun _ _ _ h => h) (Or.inl ⟨by rfl, ?_⟩) (by assumption) ?_
        rotate_left
        · intro w hSw; (try dsimp only at hSw); go_simp; (try with_reducible rfl)
        simp only [Act.put, List.setIfInBounds_toArray, List.set_cons_zero, List.set_cons_succ]
        refine wpAnyH_take (i := 1) (oi := { dst := some 55, op := Go.Op.load 28 (Go.Operand.tmp 5), type := 28, pos := "l5_spread.go:167", after := #[{ on := 2, ground := Go.Ground.gcOnly Go.Departure.lateStores }], guard := none }) (v := ?_) rfl (by kernel_rfl) (by kernel_rfl) (by kernel_rfl) (fun _ _ _ h => h) (Or.inl ⟨by rfl, ?_⟩) (by assumption) ?_
        rotate_left
        · intro w hSw; (try dsimp only at hSw); go_simp; (try with_reducible rfl)
        simp only [Act.put, List.setIfInBounds_toArray, List.set_cons_zero, List.set_cons_succ]
        have z_q := hR.get 2 rfl
        have z_c := fun j => cell_of_row V13 _ j _ _ _ z_q
        have z_f := fun j => frozen_of_row V13 _ j _ _ z_q
        clear z_q
        refine wpAnyH_ready (rs := [2]) (by kernel_rfl) (by simp) ?_
        refine AllReadyH.cons (o := { dst := none, op := Go.Op.store 28 (Go.Operand.tmp 2) (Go.Operand.tmp 54), type := 0, pos := "l5_spread.go:167", after := #[{ on := 0, ground := Go.Ground.data }, { on := 0, ground := Go.Ground.phase }, { on := 1, ground := Go.Ground.textOnly Go.Departure.lateStores }], guard := none }) rfl (fun K hK => ?_) AllReadyH.nil
        go_simp
        clear z_c z_f
        have hR : Rk5 w B g A len cap zs _ [(w.heap.size, (.cells #[.int .i64 0, .int .i64 0, .int .i64 0, .int .i64 0, .int .i64 0, .int .i64 0] 28 (0, 0))), (k4, (.cells #[.int .i64 s0, .int .i64 s1, .int .i64 s2, .int .i64 s3, .int .i64 s4, .int .i64 s5] 28 (0, 0))), (k5, (.cells #[.int .i64 p0, .int .i64 p1, .int .i64 p2, .int .i64 p3, .int .i64 p4, .int .i64 p5] 28 (0, 0))), (w.heap.size + 1, (.cells #[.int .i64 0, .int .i64 0, .int .i64 0, .int .i64 0, .int .i64 0, .int .i64 0] 28 (0, 0)))] V13 := hR.idx [2, 0, 1, 3] rfl
        have hR := (Rk5.set (.int .i64 s0) (.int .i64 s1) (.int .i64 s2) (.int .i64 s3) (.int .i64 s4) (.int .i64 s5) hR hgl (Nat.le_refl _) (by intro p hp; simp only [List.mem_cons, List.mem_nil_iff, or_false] at hp; rcases hp with rfl | rfl | rfl <;> (show _ ≠ _; omega)))
        have hR := hR.idx [1, 2, 0, 3] rfl
        refine hK.out _ _ ?_ (fun hHeld => ?_)
        · (try dsimp only)
          exact cells2 (hR.get 0 rfl) (hR.get 1 rfl)
        clear hK K
        (try simp only [Act.put, List.setIfInBounds_toArray, List.set_cons_zero, List.set_cons_succ])
        generalize (World.setCell _ _ _ : World) = V14 at hR hHeld ⊢
        have y_q := hR.get 3 rfl
        have y_c := fun j => cell_of_row V14 _ j _ _ _ y_q
        have y_f := fun j => frozen_of_row V14 _ j _ _ y_q
        clear y_q
        refine wpAnyH_ready (rs := [3]) (by kernel_rfl) (by simp) ?_
        refine AllReadyH.cons (o := { dst := none, op := Go.Op.store 28 (Go.Operand.tmp 3) (Go.Operand.tmp 55), type := 0, pos := "l5_spread.go:167", after := #[{ on := 1, ground := Go.Ground.data }, { on := 2, ground := Go.Ground.chain }, { on := 0, ground := Go.Ground.phase }, { on := 1, ground := Go.Ground.phase }, { on := 2, ground := Go.Ground.phase }], guard := none }) rfl (fun K hK => ?_) AllReadyH.nil
        go_simp
        clear y_c y_f
        have hR : Rk5 w B g A len cap zs _ [(w.heap.size + 1, (.cells #[.int .i64 0, .int .i64 0, .int .i64 0, .int .i64 0, .int .i64 0, .int .i64 0] 28 (0, 0))), (k4, (.cells #[.int .i64 s0, .int .i64 s1, .int .i64 s2, .int .i64 s3, .int .i64 s4, .int .i64 s5] 28 (0, 0))), (k5, (.cells #[.int .i64 p0, .int .i64 p1, .int .i64 p2, .int .i64 p3, .int .i64 p4, .int .i64 p5] 28 (0, 0))), (w.heap.size, (.cells #[.int .i64 s0, .int .i64 s1, .int .i64 s2, .int .i64 s3, .int .i64 s4, .int .i64 s5] 28 (0, 0)))] V14 := hR.idx [3, 0, 1, 2] rfl
        have hR := (Rk5.set (.int .i64 p0) (.int .i64 p1) (.int .i64 p2) (.int .i64 p3) (.int .i64 p4) (.int .i64 p5) hR hgl (Nat.le_succ _) (by intro p hp; simp only [List.mem_cons, List.mem_nil_iff, or_false] at hp; rcases hp with rfl | rfl | rfl <;> (show _ ≠ _; omega)))
        have hR := hR.idx [1, 2, 3, 0] rfl
        refine hK.out _ _ ?_ (fun hHeld => ?_)
        · (try dsimp only)
          exact cells2 (hR.get 0 rfl) (hR.get 1 rfl)
        clear hK K
        (try simp only [Act.put, List.setIfInBounds_toArray, List.set_cons_zero, List.set_cons_succ])
        generalize (World.setCell _ _ _ : World) = V15 at hR hHeld ⊢
        refine wpAnyH_done (by kernel_rfl) ?_ _
        clear hHeld
        have z_q := hR.get 2 rfl
        have y_q := hR.get 3 rfl
        have z_c := fun j => cell_of_row V15 _ j _ _ _ z_q
        have y_c := fun j => cell_of_row V15 _ j _ _ _ y_q
        clear z_q y_q
        go_wp2_with fail
        exact bodyPost_ret (v := .tuple #[.agg #[.int .i64 s0, .int .i64 s1, .int .i64 s2, .int .i64 s3, .int .i64 s4, .int .i64 s5], .agg #[.int .i64 p0, .int .i64 p1, .int .i64 p2, .int .i64 p3, .int .i64 p4, .int .i64 p5]]) (by simp [results, Try.results173, go_sem, z_c, y_c]) rfl ⟨s0, s1, s2, s3, s4, s5, p0, p1, p2, p3, p4, p5, HS.out, HP.out, rfl, hR.1.mono (by omega)⟩
      case true =>
        have OS := Lib.hid (Ok6.of s0 s1 s2 s3 s4 s5 HbS.out)
        have OP := Lib.hid (Ok6.of p0 p1 p2 p3 p4 p5 HbP.out)
        clear HbS HbP
        have hk6 : k5 < W6.heap.size := row_lt (hR.get 1 rfl)
        have HQ := Lib.hid hR
        clear hR
        go_wp2_with fail
        have hR : Rk5 w B g A len cap zs (m + 90 + 100 + 2) [(W6.heap.size, (.cells #[.int .i64 0, .int .i64 0, .int .i64 0, .int .i64 0, .int .i64 0, .int .i64 0] 28 (0, 0))), (k4, (.cells #[.int .i64 s0, .int .i64 s1, .int .i64 s2, .int .i64 s3, .int .i64 s4, .int .i64 s5] 28 (0, 0))), (k5, (.cells #[.int .i64 p0, .int .i64 p1, .int .i64 p2, .int .i64 p3, .int .i64 p4, .int .i64 p5] 28 (0, 0))), (w.heap.size, (.cells #[.int .i64 0, .int .i64 0, .int .i64 0, .int .i64 0, .int .i64 0, .int .i64 0] 28 (0, 0))), (w.heap.size + 1, (.cells #[.int .i64 0, .int .i64 0, .int .i64 0, .int .i64 0, .int .i64 0, .int .i64 0] 28 (0, 0)))] (W6.alloc (.cells #[.int .i64 0, .int .i64 0, .int .i64 0, .int .i64 0, .int .i64 0, .int .i64 0] 28)) := (HQ.out.put (.cells #[.int .i64 0, .int .i64 0, .int .i64 0, .int .i64 0, .int .i64 0, .int .i64 0] 28) W6.heap.size rfl)
        clear HQ
        generalize W6.heap.size = k6 at hR hk6 ⊢
        generalize (World.alloc _ _ : World) = W7 at hR ⊢
        have HQ := Lib.hid hR
        clear hR
        refine (pick_any 4 B g A len cap zs (m + 90 + 100 + 2) W7 HQ.out.1.1 (by omega) (by omega) (by omega)).mono ?_
        rintro e W8 ⟨n, rfl, hn0, hn1, hc⟩
        have hn3 : n ≤ 3 := by omega
        have HS0 := Lib.hid (HQ.out.step hc)
        clear hc HQ hn1
        obtain ⟨c0, rfl⟩ : ∃ c : Nat, n = c := ⟨n.toNat, by omega⟩
        have hwr : IntKind.i64.wrap (1 + (c0 : Int)) = ((c0 + 1 : Nat) : Int) := by rw [IntKind.wrap_i64]; omega
        go_wp2_with fail
        try rw [hwr]
        clear hwr
        go_loopw [7] (fun n wr => ∃ c : Nat, c ≤ 4 ∧ n = .int .i64 c ∧ Hid (∃ f0 f1 f2 f3 f4 f5, Ok6 f0 f1 f2 f3 f4 f5 ∧ Rk5 w B g A len cap zs (m + 90 + 100 + 4 + 4 * (4 - (c : Int))) [(k6, (.cells #[.int .i64 f0, .int .i64 f1, .int .i64 f2, .int .i64 f3, .int .i64 f4, .int .i64 f5] 28 (0, 0))), (k4, (.cells #[.int .i64 s0, .int .i64 s1, .int .i64 s2, .int .i64 s3, .int .i64 s4, .int .i64 s5] 28 (0, 0))), (k5, (.cells #[.int .i64 p0, .int .i64 p1, .int .i64 p2, .int .i64 p3, .int .i64 p4, .int .i64 p5] 28 (0, 0))), (w.heap.size, (.cells #[.int .i64 0, .int .i64 0, .int .i64 0, .int .i64 0, .int .i64 0, .int .i64 0] 28 (0, 0))), (w.heap.size + 1, (.cells #[.int .i64 0, .int .i64 0, .int .i64 0, .int .i64 0, .int .i64 0, .int .i64 0] 28 (0, 0)))] wr)) (fun n _ => (intOf n).toNat)
        case atStart => exact ⟨c0 + 1, by omega, by first | rfl | go_num, Lib.hid ⟨0, 0, 0, 0, 0, 0, ⟨by decide, by decide, by decide, by decide, by decide, by decide⟩, HS0.out.mono (by omega)⟩⟩
        case round =>
          obtain ⟨c, hc4, rfl, HE⟩ := hrel
          obtain ⟨f0, f1, f2, f3, f4, f5, hof, hR⟩ := HE.out
          have OF := Lib.hid hof
          clear HE hof HS0
          by_cases hp : 0 < c
          · skip
            obtain ⟨d, rfl⟩ : ∃ d, c = d + 1 := ⟨c - 1, by omega⟩
            have hp' : (0 : Int) < ((d + 1 : Nat) : Int) := by omega
            have HQ := Lib.hid hR
            clear hR
            go_wp2_with fail
            have hR := HQ.out
            clear HQ
            refine wp_region_held_drew (S := (fun _ => True)) (by kernel_rfl) trivial (fun hHeld => ?_)
            clear hHeld
            have hR := hR.drew
            generalize wr.drew = V7 at hR ⊢
            refine wpAnyH_take (i := 1) (oi := { dst := some 31, op := Go.Op.build 28 #[], type := 28, pos := "l5_spread.go:157", after := #[], guard := none }) (v := ?_) rfl (by kernel_rfl) (by kernel_rfl) (by kernel_rfl) (fun _ _ _ h => h) (Or.inl ⟨by rfl, ?_⟩) trivial ?_
            rotate_left
            · intro w hSw; clear hSw; go_simp; (try with_reducible rfl)
            simp only [Act.put, List.setIfInBounds_toArray, List.set_cons_zero, List.set_cons_succ]
            refine wpAnyH_take (i := 2) (oi := { dst := some 32, op := Go.Op.move (Go.Operand.tmp 0), type := 135, pos := "l5_spread.go:157", after := #[], guard := none }) (v := ?_) rfl (by kernel_rfl) (by kernel_rfl) (by kernel_rfl) (fun _ _ _ h => h) (Or.inl ⟨by rfl, ?_⟩) trivial ?_
            rotate_left
            · intro w hSw; clear hSw; go_simp; (try with_reducible rfl)
            simp only [Act.put, List.setIfInBounds_toArray, List.set_cons_zero, List.set_cons_succ]
            refine wpAnyH_take (i := 4) (oi := { dst := some 34, op := Go.Op.move (Go.Operand.tmp 0), type := 135, pos := "l5_spread.go:157", after := #[], guard := none }) (v := ?_) rfl (by kernel_rfl) (by kernel_rfl) (by kernel_rfl) (fun _ _ _ h => h) (Or.inl ⟨by rfl, ?_⟩) trivial ?_
            rotate_left
            · intro w hSw; clear hSw; go_simp; (try with_reducible rfl)
            simp only [Act.put, List.setIfInBounds_toArray, List.set_cons_zero, List.set_cons_succ]
            refine wpAnyH_ready (rs := [0, 3]) (by kernel_rfl) (by simp) ?_
            refine AllReadyH.cons (o := { dst := some 30, op := Go.Op.load 28 (Go.Operand.tmp 6), type := 28, pos := "l5_spread.go:157", after := #[], guard := none }) rfl (fun K hK => ?_) ?_
            · skip
              have z_q := hR.get 0 rfl
              have z_c := fun j => cell_of_row V7 _ j _ _ _ z_q
              have z_f := fun j => frozen_of_row V7 _ j _ _ z_q
              clear z_q
              go_simp
              clear z_c z_f
              refine hK.out _ _ trivial (fun hHeld => ?_)
              clear hK K hHeld
              (try simp only [Act.put, List.setIfInBounds_toArray, List.set_cons_zero, List.set_cons_succ])
              refine wpAnyH_ready (rs := [3]) (by kernel_rfl) (by simp) ?_
              refine AllReadyH.cons (o := { dst := some 33, op := Go.Op.call { callee := Go.Callee.value (Go.Operand.func 158), args := #[Go.Operand.tmp 32, Go.Operand.const (Go.Value.int Go.IntKind.i64 6)], argTypes := #[135, 3] }, type := 3, pos := "l5_spread.go:157", after := #[{ on := 2, ground := Go.Ground.data }], guard := none }) rfl (fun K hK => ?_) AllReadyH.nil
              go_simp
              have hcu := hR.1.1
              (go_at_call 158; (with_reducible refine (pick_any 6 B g A len cap zs (m + 90 + 100 + 4 + 4 * (4 - ((d + 1 : Nat) : Int))) _ hcu (by omega) (by omega) (by omega)).mono ?_); rintro e V8 ⟨x, rfl, hx0, hx1, hc⟩; go_wp2_with fail)
              clear hcu
              have hx : 0 ≤ x ∧ x ≤ 5 := by omega
              have hR := hR.step hc
              clear hc
              refine hK.out _ _ trivial (fun hHeld => ?_)
              clear hK K hHeld
              (try simp only [Act.put, List.setIfInBounds_toArray, List.set_cons_zero, List.set_cons_succ])
              refine wpAnyH_ready (rs := [5]) (by kernel_rfl) (by simp) ?_
              refine AllReadyH.cons (o := { dst := some 35, op := Go.Op.call { callee := Go.Callee.value (Go.Operand.func 158), args := #[Go.Operand.tmp 34, Go.Operand.const (Go.Value.int Go.IntKind.i64 6)], argTypes := #[135, 3] }, type := 3, pos := "l5_spread.go:157", after := #[{ on := 4, ground := Go.Ground.data }, { on := 3, ground := Go.Ground.chain }], guard := none }) rfl (fun K hK => ?_) AllReadyH.nil
              go_simp
              have hcu := hR.1.1
              (go_at_call 158; (with_reducible refine (pick_any 6 B g A len cap zs (m + 90 + 100 + 4 + 4 * (4 - ((d + 1 : Nat) : Int)) + 2) _ hcu (by omega) (by omega) (by omega)).mono ?_); rintro e V9 ⟨y, rfl, hy0, hy1, hc⟩; go_wp2_with fail)
              clear hcu
              have hy : 0 ≤ y ∧ y ≤ 5 := by omega
              have hR := hR.step hc
              clear hc
              refine hK.out _ _ trivial (fun hHeld => ?_)
              clear hK K hHeld
              (try simp only [Act.put, List.setIfInBounds_toArray, List.set_cons_zero, List.set_cons_succ])
              refine wpAnyH_ready (rs := [6]) (by kernel_rfl) (by simp) ?_
              refine AllReadyH.cons (o := { dst := some 36, op := Go.Op.call { callee := Go.Callee.value (Go.Operand.func 231), args := #[Go.Operand.tmp 31, Go.Operand.tmp 33, Go.Operand.tmp 35], argTypes := #[28, 3, 3] }, type := 28, pos := "l5_spread.go:157", after := #[{ on := 1, ground := Go.Ground.data }, { on := 3, ground := Go.Ground.data }, { on := 5, ground := Go.Ground.data }, { on := 5, ground := Go.Ground.chain }], guard := none }) rfl (fun K hK => ?_) AllReadyH.nil
              go_simp
              obtain ⟨u0, u1, u2, u3, u4, u5, ou, hu⟩ := flip_ok 0 0 0 0 0 0 ⟨by decide, by decide, by decide, by decide, by decide, by decide⟩ x y hx hy
              (go_at_call 231; (with_reducible refine (hu _).mono ?_); rintro e V10 ⟨rfl, hb⟩; go_wp2_with fail)
              have hR := hR.below hb rfl
              clear hb hu
              refine hK.out _ _ trivial (fun hHeld => ?_)
              clear hK K hHeld
              (try simp only [Act.put, List.setIfInBounds_toArray, List.set_cons_zero, List.set_cons_succ])
              refine wpAnyH_ready (rs := [7]) (by kernel_rfl) (by simp) ?_
              refine AllReadyH.cons (o := { dst := some 37, op := Go.Op.call { callee := Go.Callee.value (Go.Operand.func 137), args := #[Go.Operand.tmp 30, Go.Operand.tmp 36], argTypes := #[28, 28] }, type := 28, pos := "l5_spread.go:157", after := #[{ on := 0, ground := Go.Ground.data }, { on := 6, ground := Go.Ground.data }, { on := 6, ground := Go.Ground.chain }], guard := none }) rfl (fun K hK => ?_) AllReadyH.nil
              go_simp
              obtain ⟨v0, v1, v2, v3, v4, v5, ov, hv⟩ := or_ok f0 f1 f2 f3 f4 f5 u0 u1 u2 u3 u4 u5 OF.out ou
              (go_at_call 137; (with_reducible refine (hv _).mono ?_); rintro e V11 ⟨rfl, hb⟩; go_wp2_with fail)
              have hR := hR.below hb rfl
              have OV := Lib.hid ov
              clear hb hv ov ou
              refine hK.out _ _ trivial (fun hHeld => ?_)
              clear hK K hHeld
              (try simp only [Act.put, List.setIfInBounds_toArray, List.set_cons_zero, List.set_cons_succ])
              have z_q := hR.get 0 rfl
              have z_c := fun j => cell_of_row V11 _ j _ _ _ z_q
              have z_f := fun j => frozen_of_row V11 _ j _ _ z_q
              clear z_q
              refine wpAnyH_ready (rs := [8]) (by kernel_rfl) (by simp) ?_
              refine AllReadyH.cons (o := { dst := none, op := Go.Op.store 28 (Go.Operand.tmp 6) (Go.Operand.tmp 37), type := 0, pos := "l5_spread.go:157", after := #[{ on := 7, ground := Go.Ground.data }, { on := 7, ground := Go.Ground.chain }, { on := 0, ground := Go.Ground.phase }, { on := 1, ground := Go.Ground.phase }, { on := 2, ground := Go.Ground.phase }, { on := 3, ground := Go.Ground.phase }, { on := 4, ground := Go.Ground.phase }, { on := 5, ground := Go.Ground.phase }, { on := 6, ground := Go.Ground.phase }, { on := 7, ground := Go.Ground.phase }], guard := none }) rfl (fun K hK => ?_) AllReadyH.nil
              go_simp
              clear z_c z_f
              have hR := Rk5.set (.int .i64 v0) (.int .i64 v1) (.int .i64 v2) (.int .i64 v3) (.int .i64 v4) (.int .i64 v5) hR hgl (by omega) (by intro p hp; simp only [List.mem_cons, List.mem_nil_iff, or_false] at hp; rcases hp with rfl | rfl | rfl | rfl <;> (show _ ≠ _; omega))
              generalize (World.setCell _ _ _ : World) = V12 at hR ⊢
              refine hK.out _ _ trivial (fun hHeld => ?_)
              clear hK K hHeld
              (try simp only [Act.put, List.setIfInBounds_toArray, List.set_cons_zero, List.set_cons_succ])
              refine wpAnyH_done (by kernel_rfl) ?_ _
              have HQ := Lib.hid hR
              clear hR
              go_wp2_with fail
              go_roundw
              case rel => exact ⟨d, by omega, by go_num, Lib.hid ⟨v0, v1, v2, v3, v4, v5, OV.out, HQ.out.mono (by omega)⟩⟩
              case measure => first | (simp [intOf]; done) | (simp [intOf]; omega)
            · skip
              refine AllReadyH.cons (o := { dst := some 33, op := Go.Op.call { callee := Go.Callee.value (Go.Operand.func 158), args := #[Go.Operand.tmp 32, Go.Operand.const (Go.Value.int Go.IntKind.i64 6)], argTypes := #[135, 3] }, type := 3, pos := "l5_spread.go:157", after := #[{ on := 2, ground := Go.Ground.data }], guard := none }) rfl (fun K hK => ?_) AllReadyH.nil
              go_simp
              have hcu := hR.1.1
              (go_at_call 158; (with_reducible refine (pick_any 6 B g A len cap zs (m + 90 + 100 + 4 + 4 * (4 - ((d + 1 : Nat) : Int))) _ hcu (by omega) (by omega) (by omega)).mono ?_); rintro e V8 ⟨x, rfl, hx0, hx1, hc⟩; go_wp2_with fail)
              clear hcu
              have hx : 0 ≤ x ∧ x ≤ 5 := by omega
              have hR := hR.step hc
              clear hc
              refine hK.out _ _ trivial (fun hHeld => ?_)
              clear hK K hHeld
              (try simp only [Act.put, List.setIfInBounds_toArray, List.set_cons_zero, List.set_cons_succ])
              refine wpAnyH_ready (rs := [0, 5]) (by kernel_rfl) (by simp) ?_
              refine AllReadyH.cons (o := { dst := some 30, op := Go.Op.load 28 (Go.Operand.tmp 6), type := 28, pos := "l5_spread.go:157", after := #[], guard := none }) rfl (fun K hK => ?_) ?_
              · skip
                have z_q := hR.get 0 rfl
                have z_c := fun j => cell_of_row V8 _ j _ _ _ z_q
                have z_f := fun j => frozen_of_row V8 _ j _ _ z_q
                clear z_q
                go_simp
                clear z_c z_f
                refine hK.out _ _ trivial (fun hHeld => ?_)
                clear hK K hHeld
                (try simp only [Act.put, List.setIfInBounds_toArray, List.set_cons_zero, List.set_cons_succ])
                refine wpAnyH_ready (rs := [5]) (by kernel_rfl) (by simp) ?_
                refine AllReadyH.cons (o := { dst := some 35, op := Go.Op.call { callee := Go.Callee.value (Go.Operand.func 158), args := #[Go.Operand.tmp 34, Go.Operand.const (Go.Value.int Go.IntKind.i64 6)], argTypes := #[135, 3] }, type := 3, pos := "l5_spread.go:157", after := #[{ on := 4, ground := Go.Ground.data }, { on := 3, ground := Go.Ground.chain }], guard := none }) rfl (fun K hK => ?_) AllReadyH.nil
                go_simp
                have hcu := hR.1.1
                (go_at_call 158; (with_reducible refine (pick_any 6 B g A len cap zs (m + 90 + 100 + 4 + 4 * (4 - ((d + 1 : Nat) : Int)) + 2) _ hcu (by omega) (by omega) (by omega)).mono ?_); rintro e V9 ⟨y, rfl, hy0, hy1, hc⟩; go_wp2_with fail)
                clear hcu
                have hy : 0 ≤ y ∧ y ≤ 5 := by omega
                have hR := hR.step hc
                clear hc
                refine hK.out _ _ trivial (fun hHeld => ?_)
                clear hK K hHeld
                (try simp only [Act.put, List.setIfInBounds_toArray, List.set_cons_zero, List.set_cons_succ])
                refine wpAnyH_ready (rs := [6]) (by kernel_rfl) (by simp) ?_
                refine AllReadyH.cons (o := { dst := some 36, op := Go.Op.call { callee := Go.Callee.value (Go.Operand.func 231), args := #[Go.Operand.tmp 31, Go.Operand.tmp 33, Go.Operand.tmp 35], argTypes := #[28, 3, 3] }, type := 28, pos := "l5_spread.go:157", after := #[{ on := 1, ground := Go.Ground.data }, { on := 3, ground := Go.Ground.data }, { on := 5, ground := Go.Ground.data }, { on := 5, ground := Go.Ground.chain }], guard := none }) rfl (fun K hK => ?_) AllReadyH.nil
                go_simp
                obtain ⟨u0, u1, u2, u3, u4, u5, ou, hu⟩ := flip_ok 0 0 0 0 0 0 ⟨by decide, by decide, by decide, by decide, by decide, by decide⟩ x y hx hy
                (go_at_call 231; (with_reducible refine (hu _).mono ?_); rintro e V10 ⟨rfl, hb⟩; go_wp2_with fail)
                have hR := hR.below hb rfl
                clear hb hu
                refine hK.out _ _ trivial (fun hHeld => ?_)
                clear hK K hHeld
                (try simp only [Act.put, List.setIfInBounds_toArray, List.set_cons_zero, List.set_cons_succ])
                refine wpAnyH_ready (rs := [7]) (by kernel_rfl) (by simp) ?_
                refine AllReadyH.cons (o := { dst := some 37, op := Go.Op.call { callee := Go.Callee.value (Go.Operand.func 137), args := #[Go.Operand.tmp 30, Go.Operand.tmp 36], argTypes := #[28, 28] }, type := 28, pos := "l5_spread.go:157", after := #[{ on := 0, ground := Go.Ground.data }, { on := 6, ground := Go.Ground.data }, { on := 6, ground := Go.Ground.chain }], guard := none }) rfl (fun K hK => ?_) AllReadyH.nil
                go_simp
                obtain ⟨v0, v1, v2, v3, v4, v5, ov, hv⟩ := or_ok f0 f1 f2 f3 f4 f5 u0 u1 u2 u3 u4 u5 OF.out ou
                (go_at_call 137; (with_reducible refine (hv _).mono ?_); rintro e V11 ⟨rfl, hb⟩; go_wp2_with fail)
                have hR := hR.below hb rfl
                have OV := Lib.hid ov
                clear hb hv ov ou
                refine hK.out _ _ trivial (fun hHeld => ?_)
                clear hK K hHeld
                (try simp only [Act.put, List.setIfInBounds_toArray, List.set_cons_zero, List.set_cons_succ])
                have z_q := hR.get 0 rfl
                have z_c := fun j => cell_of_row V11 _ j _ _ _ z_q
                have z_f := fun j => frozen_of_row V11 _ j _ _ z_q
                clear z_q
                refine wpAnyH_ready (rs := [8]) (by kernel_rfl) (by simp) ?_
                refine AllReadyH.cons (o := { dst := none, op := Go.Op.store 28 (Go.Operand.tmp 6) (Go.Operand.tmp 37), type := 0, pos := "l5_spread.go:157", after := #[{ on := 7, ground := Go.Ground.data }, { on := 7, ground := Go.Ground.chain }, { on := 0, ground := Go.Ground.phase }, { on := 1, ground := Go.Ground.phase }, { on := 2, ground := Go.Ground.phase }, { on := 3, ground := Go.Ground.phase }, { on := 4, ground := Go.Ground.phase }, { on := 5, ground := Go.Ground.phase }, { on := 6, ground := Go.Ground.phase }, { on := 7, ground := Go.Ground.phase }], guard := none }) rfl (fun K hK => ?_) AllReadyH.nil
                go_simp
                clear z_c z_f
                have hR := Rk5.set (.int .i64 v0) (.int .i64 v1) (.int .i64 v2) (.int .i64 v3) (.int .i64 v4) (.int .i64 v5) hR hgl (by omega) (by intro p hp; simp only [List.mem_cons, List.mem_nil_iff, or_false] at hp; rcases hp with rfl | rfl | rfl | rfl <;> (show _ ≠ _; omega))
                generalize (World.setCell _ _ _ : World) = V12 at hR ⊢
                refine hK.out _ _ trivial (fun hHeld => ?_)
                clear hK K hHeld
                (try simp only [Act.put, List.setIfInBounds_toArray, List.set_cons_zero, List.set_cons_succ])
                refine wpAnyH_done (by kernel_rfl) ?_ _
                have HQ := Lib.hid hR
                clear hR
                go_wp2_with fail
                go_roundw
                case rel => exact ⟨d, by omega, by go_num, Lib.hid ⟨v0, v1, v2, v3, v4, v5, OV.out, HQ.out.mono (by omega)⟩⟩
                case measure => first | (simp [intOf]; done) | (simp [intOf]; omega)
              · skip
                refine AllReadyH.cons (o := { dst := some 35, op := Go.Op.call { callee := Go.Callee.value (Go.Operand.func 158), args := #[Go.Operand.tmp 34, Go.Operand.const (Go.Value.int Go.IntKind.i64 6)], argTypes := #[135, 3] }, type := 3, pos := "l5_spread.go:157", after := #[{ on := 4, ground := Go.Ground.data }, { on := 3, ground := Go.Ground.chain }], guard := none }) rfl (fun K hK => ?_) AllReadyH.nil
                go_simp
                have hcu := hR.1.1
                (go_at_call 158; (with_reducible refine (pick_any 6 B g A len cap zs (m + 90 + 100 + 4 + 4 * (4 - ((d + 1 : Nat) : Int)) + 2) _ hcu (by omega) (by omega) (by omega)).mono ?_); rintro e V9 ⟨y, rfl, hy0, hy1, hc⟩; go_wp2_with fail)
                clear hcu
                have hy : 0 ≤ y ∧ y ≤ 5 := by omega
                have hR := hR.step hc
                clear hc
                refine hK.out _ _ trivial (fun hHeld => ?_)
                clear hK K hHeld
                (try simp only [Act.put, List.setIfInBounds_toArray, List.set_cons_zero, List.set_cons_succ])
                refine wpAnyH_ready (rs := [0, 6]) (by kernel_rfl) (by simp) ?_
                refine AllReadyH.cons (o := { dst := some 30, op := Go.Op.load 28 (Go.Operand.tmp 6), type := 28, pos := "l5_spread.go:157", after := #[], guard := none }) rfl (fun K hK => ?_) ?_
                · skip
                  have z_q := hR.get 0 rfl
                  have z_c := fun j => cell_of_row V9 _ j _ _ _ z_q
                  have z_f := fun j => frozen_of_row V9 _ j _ _ z_q
                  clear z_q
                  go_simp
                  clear z_c z_f
                  refine hK.out _ _ trivial (fun hHeld => ?_)
                  clear hK K hHeld
                  (try simp only [Act.put, List.setIfInBounds_toArray, List.set_cons_zero, List.set_cons_succ])
                  refine wpAnyH_ready (rs := [6]) (by kernel_rfl) (by simp) ?_
                  refine AllReadyH.cons (o := { dst := some 36, op := Go.Op.call { callee := Go.Callee.value (Go.Operand.func 231), args := #[Go.Operand.tmp 31, Go.Operand.tmp 33, Go.Operand.tmp 35], argTypes := #[28, 3, 3] }, type := 28, pos := "l5_spread.go:157", after := #[{ on := 1, ground := Go.Ground.data }, { on := 3, ground := Go.Ground.data }, { on := 5, ground := Go.Ground.data }, { on := 5, ground := Go.Ground.chain }], guard := none }) rfl (fun K hK => ?_) AllReadyH.nil
                  go_simp
                  obtain ⟨u0, u1, u2, u3, u4, u5, ou, hu⟩ := flip_ok 0 0 0 0 0 0 ⟨by decide, by decide, by decide, by decide, by decide, by decide⟩ x y hx hy
                  (go_at_call 231; (with_reducible refine (hu _).mono ?_); rintro e V10 ⟨rfl, hb⟩; go_wp2_with fail)
                  have hR := hR.below hb rfl
                  clear hb hu
                  refine hK.out _ _ trivial (fun hHeld => ?_)
                  clear hK K hHeld
                  (try simp only [Act.put, List.setIfInBounds_toArray, List.set_cons_zero, List.set_cons_succ])
                  refine wpAnyH_ready (rs := [7]) (by kernel_rfl) (by simp) ?_
                  refine AllReadyH.cons (o := { dst := some 37, op := Go.Op.call { callee := Go.Callee.value (Go.Operand.func 137), args := #[Go.Operand.tmp 30, Go.Operand.tmp 36], argTypes := #[28, 28] }, type := 28, pos := "l5_spread.go:157", after := #[{ on := 0, ground := Go.Ground.data }, { on := 6, ground := Go.Ground.data }, { on := 6, ground := Go.Ground.chain }], guard := none }) rfl (fun K hK => ?_) AllReadyH.nil
                  go_simp
                  obtain ⟨v0, v1, v2, v3, v4, v5, ov, hv⟩ := or_ok f0 f1 f2 f3 f4 f5 u0 u1 u2 u3 u4 u5 OF.out ou
                  (go_at_call 137; (with_reducible refine (hv _).mono ?_); rintro e V11 ⟨rfl, hb⟩; go_wp2_with fail)
                  have hR := hR.below hb rfl
                  have OV := Lib.hid ov
                  clear hb hv ov ou
                  refine hK.out _ _ trivial (fun hHeld => ?_)
                  clear hK K hHeld
                  (try simp only [Act.put, List.setIfInBounds_toArray, List.set_cons_zero, List.set_cons_succ])
                  have z_q := hR.get 0 rfl
                  have z_c := fun j => cell_of_row V11 _ j _ _ _ z_q
                  have z_f := fun j => frozen_of_row V11 _ j _ _ z_q
                  clear z_q
                  refine wpAnyH_ready (rs := [8]) (by kernel_rfl) (by simp) ?_
                  refine AllReadyH.cons (o := { dst := none, op := Go.Op.store 28 (Go.Operand.tmp 6) (Go.Operand.tmp 37), type := 0, pos := "l5_spread.go:157", after := #[{ on := 7, ground := Go.Ground.data }, { on := 7, ground := Go.Ground.chain }, { on := 0, ground := Go.Ground.phase }, { on := 1, ground := Go.Ground.phase }, { on := 2, ground := Go.Ground.phase }, { on := 3, ground := Go.Ground.phase }, { on := 4, ground := Go.Ground.phase }, { on := 5, ground := Go.Ground.phase }, { on := 6, ground := Go.Ground.phase }, { on := 7, ground := Go.Ground.phase }], guard := none }) rfl (fun K hK => ?_) AllReadyH.nil
                  go_simp
                  clear z_c z_f
                  have hR := Rk5.set (.int .i64 v0) (.int .i64 v1) (.int .i64 v2) (.int .i64 v3) (.int .i64 v4) (.int .i64 v5) hR hgl (by omega) (by intro p hp; simp only [List.mem_cons, List.mem_nil_iff, or_false] at hp; rcases hp with rfl | rfl | rfl | rfl <;> (show _ ≠ _; omega))
                  generalize (World.setCell _ _ _ : World) = V12 at hR ⊢
                  refine hK.out _ _ trivial (fun hHeld => ?_)
                  clear hK K hHeld
                  (try simp only [Act.put, List.setIfInBounds_toArray, List.set_cons_zero, List.set_cons_succ])
                  refine wpAnyH_done (by kernel_rfl) ?_ _
                  have HQ := Lib.hid hR
                  clear hR
                  go_wp2_with fail
                  go_roundw
                  case rel => exact ⟨d, by omega, by go_num, Lib.hid ⟨v0, v1, v2, v3, v4, v5, OV.out, HQ.out.mono (by omega)⟩⟩
                  case measure => first | (simp [intOf]; done) | (simp [intOf]; omega)
                · skip
                  refine AllReadyH.cons (o := { dst := some 36, op := Go.Op.call { callee := Go.Callee.value (Go.Operand.func 231), args := #[Go.Operand.tmp 31, Go.Operand.tmp 33, Go.Operand.tmp 35], argTypes := #[28, 3, 3] }, type := 28, pos := "l5_spread.go:157", after := #[{ on := 1, ground := Go.Ground.data }, { on := 3, ground := Go.Ground.data }, { on := 5, ground := Go.Ground.data }, { on := 5, ground := Go.Ground.chain }], guard := none }) rfl (fun K hK => ?_) AllReadyH.nil
                  go_simp
                  obtain ⟨u0, u1, u2, u3, u4, u5, ou, hu⟩ := flip_ok 0 0 0 0 0 0 ⟨by decide, by decide, by decide, by decide, by decide, by decide⟩ x y hx hy
                  (go_at_call 231; (with_reducible refine (hu _).mono ?_); rintro e V10 ⟨rfl, hb⟩; go_wp2_with fail)
                  have hR := hR.below hb rfl
                  clear hb hu
                  refine hK.out _ _ trivial (fun hHeld => ?_)
                  clear hK K hHeld
                  (try simp only [Act.put, List.setIfInBounds_toArray, List.set_cons_zero, List.set_cons_succ])
                  refine wpAnyH_ready (rs := [0]) (by kernel_rfl) (by simp) ?_
                  refine AllReadyH.cons (o := { dst := some 30, op := Go.Op.load 28 (Go.Operand.tmp 6), type := 28, pos := "l5_spread.go:157", after := #[], guard := none }) rfl (fun K hK => ?_) AllReadyH.nil
                  have z_q := hR.get 0 rfl
                  have z_c := fun j => cell_of_row V10 _ j _ _ _ z_q
                  have z_f := fun j => frozen_of_row V10 _ j _ _ z_q
                  clear z_q
                  go_simp
                  clear z_c z_f
                  refine hK.out _ _ trivial (fun hHeld => ?_)
                  clear hK K hHeld
                  (try simp only [Act.put, List.setIfInBounds_toArray, List.set_cons_zero, List.set_cons_succ])
                  refine wpAnyH_ready (rs := [7]) (by kernel_rfl) (by simp) ?_
                  refine AllReadyH.cons (o := { dst := some 37, op := Go.Op.call { callee := Go.Callee.value (Go.Operand.func 137), args := #[Go.Operand.tmp 30, Go.Operand.tmp 36], argTypes := #[28, 28] }, type := 28, pos := "l5_spread.go:157", after := #[{ on := 0, ground := Go.Ground.data }, { on := 6, ground := Go.Ground.data }, { on := 6, ground := Go.Ground.chain }], guard := none }) rfl (fun K hK => ?_) AllReadyH.nil
                  go_simp
                  obtain ⟨v0, v1, v2, v3, v4, v5, ov, hv⟩ := or_ok f0 f1 f2 f3 f4 f5 u0 u1 u2 u3 u4 u5 OF.out ou
                  (go_at_call 137; (with_reducible refine (hv _).mono ?_); rintro e V11 ⟨rfl, hb⟩; go_wp2_with fail)
                  have hR := hR.below hb rfl
                  have OV := Lib.hid ov
                  clear hb hv ov ou
                  refine hK.out _ _ trivial (fun hHeld => ?_)
                  clear hK K hHeld
                  (try simp only [Act.put, List.setIfInBounds_toArray, List.set_cons_zero, List.set_cons_succ])
                  have z_q := hR.get 0 rfl
                  have z_c := fun j => cell_of_row V11 _ j _ _ _ z_q
                  have z_f := fun j => frozen_of_row V11 _ j _ _ z_q
                  clear z_q
                  refine wpAnyH_ready (rs := [8]) (by kernel_rfl) (by simp) ?_
                  refine AllReadyH.cons (o := { dst := none, op := Go.Op.store 28 (Go.Operand.tmp 6) (Go.Operand.tmp 37), type := 0, pos := "l5_spread.go:157", after := #[{ on := 7, ground := Go.Ground.data }, { on := 7, ground := Go.Ground.chain }, { on := 0, ground := Go.Ground.phase }, { on := 1, ground := Go.Ground.phase }, { on := 2, ground := Go.Ground.phase }, { on := 3, ground := Go.Ground.phase }, { on := 4, ground := Go.Ground.phase }, { on := 5, ground := Go.Ground.phase }, { on := 6, ground := Go.Ground.phase }, { on := 7, ground := Go.Ground.phase }], guard := none }) rfl (fun K hK => ?_) AllReadyH.nil
                  go_simp
                  clear z_c z_f
                  have hR := Rk5.set (.int .i64 v0) (.int .i64 v1) (.int .i64 v2) (.int .i64 v3) (.int .i64 v4) (.int .i64 v5) hR hgl (by omega) (by intro p hp; simp only [List.mem_cons, List.mem_nil_iff, or_false] at hp; rcases hp with rfl | rfl | rfl | rfl <;> (show _ ≠ _; omega))
                  generalize (World.setCell _ _ _ : World) = V12 at hR ⊢
                  refine hK.out _ _ trivial (fun hHeld => ?_)
                  clear hK K hHeld
                  (try simp only [Act.put, List.setIfInBounds_toArray, List.set_cons_zero, List.set_cons_succ])
                  refine wpAnyH_done (by kernel_rfl) ?_ _
                  have HQ := Lib.hid hR
                  clear hR
                  go_wp2_with fail
                  go_roundw
                  case rel => exact ⟨d, by omega, by go_num, Lib.hid ⟨v0, v1, v2, v3, v4, v5, OV.out, HQ.out.mono (by omega)⟩⟩
                  case measure => first | (simp [intOf]; done) | (simp [intOf]; omega)
          · skip
            obtain rfl : c = 0 := by omega
            obtain ⟨a0, a1, a2, a3, a4, a5, oa, ha⟩ := spread_ok f0 f1 f2 f3 f4 f5 p0 p1 p2 p3 p4 p5 OF.out OP.out
            have HA := Lib.hid ha
            have OA := Lib.hid oa
            clear ha oa
            have hR := hR.mono (m' := m + 210) (by omega)
            have z_q := hR.get 0 rfl
            have z_c := fun j => cell_of_row wr _ j _ _ _ z_q
            have z_f := fun j => frozen_of_row wr _ j _ _ z_q
            clear z_q
            have y_q := hR.get 2 rfl
            have y_c := fun j => cell_of_row wr _ j _ _ _ y_q
            have y_f := fun j => frozen_of_row wr _ j _ _ y_q
            clear y_q
            have HQ := Lib.hid hR
            clear hR
            go_wp2_with fail
            refine (HA.out wr).mono ?_
            rintro e X1 ⟨rfl, hb⟩
            have hR := HQ.out.below hb rfl
            clear hb HQ z_c z_f y_c y_f HA
            have c_q := hR.get 1 rfl
            have c_c := fun j => cell_of_row X1 _ j _ _ _ c_q
            have c_f := fun j => frozen_of_row X1 _ j _ _ c_q
            clear c_q
            have HQ := Lib.hid hR
            clear hR
            go_wp2_with fail
            have hQ : Rk5 w B g A len cap zs _ [(k4, (.cells #[.int .i64 s0, .int .i64 s1, .int .i64 s2, .int .i64 s3, .int .i64 s4, .int .i64 s5] 28 (0, 0))), (k5, (.cells #[.int .i64 p0, .int .i64 p1, .int .i64 p2, .int .i64 p3, .int .i64 p4, .int .i64 p5] 28 (0, 0))), (w.heap.size, (.cells #[.int .i64 0, .int .i64 0, .int .i64 0, .int .i64 0, .int .i64 0, .int .i64 0] 28 (0, 0))), (w.heap.size + 1, (.cells #[.int .i64 0, .int .i64 0, .int .i64 0, .int .i64 0, .int .i64 0, .int .i64 0] 28 (0, 0)))] X1 := HQ.out.idx [1, 2, 3, 4] rfl
            have hR := Rk5.set (.int .i64 a0) (.int .i64 a1) (.int .i64 a2) (.int .i64 a3) (.int .i64 a4) (.int .i64 a5) hQ hgl (by omega) (by intro p hp; simp only [List.mem_cons, List.mem_nil_iff, or_false] at hp; rcases hp with rfl | rfl | rfl <;> (show _ ≠ _; omega))
            clear hQ HQ c_c c_f
            generalize (World.setCell _ _ _ : World) = X2 at hR ⊢
            have HQ := Lib.hid hR
            clear hR
            refine (one_any 3 B g A len cap zs (m + 210) X2 HQ.out.1.1 (by omega) (by omega) (by omega)).mono ?_
            rintro e X3 ⟨b3, rfl, hc⟩
            have hR := HQ.out.step hc
            clear hc HQ
            cases b3
            case false =>
              have HQ := Lib.hid hR
              clear hR
              go_wp2_with fail
              have hR := HQ.out
              clear HQ
              have HQ := Lib.hid hR
              clear hR
              refine (one_any 3 B g A len cap zs (m + 210 + 2) X3 HQ.out.1.1 (by omega) (by omega) (by omega)).mono ?_
              rintro e Y1 ⟨b4, rfl, hc⟩
              have HR := Lib.hid (HQ.out.step hc)
              clear hc HQ
              cases b4
              case false =>
                go_wp2_with fail
                have hR := HR.out
                clear HR
                refine wp_region_held_drew (S := (fun U => U.cell? ⟨k4, 0, none⟩ = some (.int .i64 a0) ∧ U.cell? ⟨k4, 1, none⟩ = some (.int .i64 a1) ∧ U.cell? ⟨k4, 2, none⟩ = some (.int .i64 a2) ∧ U.cell? ⟨k4, 3, none⟩ = some (.int .i64 a3) ∧ U.cell? ⟨k4, 4, none⟩ = some (.int .i64 a4) ∧ U.cell? ⟨k4, 5, none⟩ = some (.int .i64 a5) ∧ U.cell? ⟨k5, 0, none⟩ = some (.int .i64 p0) ∧ U.cell? ⟨k5, 1, none⟩ = some (.int .i64 p1) ∧ U.cell? ⟨k5, 2, none⟩ = some (.int .i64 p2) ∧ U.cell? ⟨k5, 3, none⟩ = some (.int .i64 p3) ∧ U.cell? ⟨k5, 4, none⟩ = some (.int .i64 p4) ∧ U.cell? ⟨k5, 5, none⟩ = some (.int .i64 p5))) (by kernel_rfl) ?_ (fun hHeld => ?_)
                · (try dsimp only)
                  exact cells2 (hR.drew.get 0 rfl) (hR.drew.get 1 rfl)
                have hR := hR.drew
                generalize Y1.drew = V13 at hR hHeld ⊢
                refine wpAnyH_take (i := 0) (oi := { dst := some 54, op := Go.Op.load 28 (Go.Operand.tmp 4), type := 28, pos := "l5_spread.go:167", after := #[], guard := none }) (v := ?_) rfl (by kernel_rfl) (by kernel_rfl) (by kernel_rfl) (fun _ _ _ h => h) (Or.inl ⟨by rfl, ?_⟩) (by assumption) ?_
                rotate_left
                · intro w hSw; (try dsimp only at hSw); go_simp; (try with_reducible rfl)
                simp only [Act.put, List.setIfInBounds_toArray, List.set_cons_zero, List.set_cons_succ]
                refine wpAnyH_take (i := 1) (oi := { dst := some 55, op := Go.Op.load 28 (Go.Operand.tmp 5), type := 28, pos := "l5_spread.go:167", after := #[{ on := 2, ground := Go.Ground.gcOnly Go.Departure.lateStores }], guard := none }) (v := ?_) rfl (by kernel_rfl) (by kernel_rfl) (by kernel_rfl) (fun _ _ _ h => h) (Or.inl ⟨by rfl, ?_⟩) (by assumption) ?_
                rotate_left
                · intro w hSw; (try dsimp only at hSw); go_simp; (try with_reducible rfl)
                simp only [Act.put, List.setIfInBounds_toArray, List.set_cons_zero, List.set_cons_succ]
                have z_q := hR.get 2 rfl
                have z_c := fun j => cell_of_row V13 _ j _ _ _ z_q
                have z_f := fun j => frozen_of_row V13 _ j _ _ z_q
                clear z_q
                refine wpAnyH_ready (rs := [2]) (by kernel_rfl) (by simp) ?_
                refine AllReadyH.cons (o := { dst := none, op := Go.Op.store 28 (Go.Operand.tmp 2) (Go.Operand.tmp 54), type := 0, pos := "l5_spread.go:167", after := #[{ on := 0, ground := Go.Ground.data }, { on := 0, ground := Go.Ground.phase }, { on := 1, ground := Go.Ground.textOnly Go.Departure.lateStores }], guard := none }) rfl (fun K hK => ?_) AllReadyH.nil
                go_simp
                clear z_c z_f
                have hR : Rk5 w B g A len cap zs _ [(w.heap.size, (.cells #[.int .i64 0, .int .i64 0, .int .i64 0, .int .i64 0, .int .i64 0, .int .i64 0] 28 (0, 0))), (k4, (.cells #[.int .i64 a0, .int .i64 a1, .int .i64 a2, .int .i64 a3, .int .i64 a4, .int .i64 a5] 28 (0, 0))), (k5, (.cells #[.int .i64 p0, .int .i64 p1, .int .i64 p2, .int .i64 p3, .int .i64 p4, .int .i64 p5] 28 (0, 0))), (w.heap.size + 1, (.cells #[.int .i64 0, .int .i64 0, .int .i64 0, .int .i64 0, .int .i64 0, .int .i64 0] 28 (0, 0)))] V13 := hR.idx [2, 0, 1, 3] rfl
                have hR := (Rk5.set (.int .i64 a0) (.int .i64 a1) (.int .i64 a2) (.int .i64 a3) (.int .i64 a4) (.int .i64 a5) hR hgl (Nat.le_refl _) (by intro p hp; simp only [List.mem_cons, List.mem_nil_iff, or_false] at hp; rcases hp with rfl | rfl | rfl <;> (show _ ≠ _; omega)))
                have hR := hR.idx [1, 2, 0, 3] rfl
                refine hK.out _ _ ?_ (fun hHeld => ?_)
                · (try dsimp only)
                  exact cells2 (hR.get 0 rfl) (hR.get 1 rfl)
                clear hK K
                (try simp only [Act.put, List.setIfInBounds_toArray, List.set_cons_zero, List.set_cons_succ])
                generalize (World.setCell _ _ _ : World) = V14 at hR hHeld ⊢
                have y_q := hR.get 3 rfl
                have y_c := fun j => cell_of_row V14 _ j _ _ _ y_q
                have y_f := fun j => frozen_of_row V14 _ j _ _ y_q
                clear y_q
                refine wpAnyH_ready (rs := [3]) (by kernel_rfl) (by simp) ?_
                refine AllReadyH.cons (o := { dst := none, op := Go.Op.store 28 (Go.Operand.tmp 3) (Go.Operand.tmp 55), type := 0, pos := "l5_spread.go:167", after := #[{ on := 1, ground := Go.Ground.data }, { on := 2, ground := Go.Ground.chain }, { on := 0, ground := Go.Ground.phase }, { on := 1, ground := Go.Ground.phase }, { on := 2, ground := Go.Ground.phase }], guard := none }) rfl (fun K hK => ?_) AllReadyH.nil
                go_simp
                clear y_c y_f
                have hR : Rk5 w B g A len cap zs _ [(w.heap.size + 1, (.cells #[.int .i64 0, .int .i64 0, .int .i64 0, .int .i64 0, .int .i64 0, .int .i64 0] 28 (0, 0))), (k4, (.cells #[.int .i64 a0, .int .i64 a1, .int .i64 a2, .int .i64 a3, .int .i64 a4, .int .i64 a5] 28 (0, 0))), (k5, (.cells #[.int .i64 p0, .int .i64 p1, .int .i64 p2, .int .i64 p3, .int .i64 p4, .int .i64 p5] 28 (0, 0))), (w.heap.size, (.cells #[.int .i64 a0, .int .i64 a1, .int .i64 a2, .int .i64 a3, .int .i64 a4, .int .i64 a5] 28 (0, 0)))] V14 := hR.idx [3, 0, 1, 2] rfl
                have hR := (Rk5.set (.int .i64 p0) (.int .i64 p1) (.int .i64 p2) (.int .i64 p3) (.int .i64 p4) (.int .i64 p5) hR hgl (Nat.le_succ _) (by intro p hp; simp only [List.mem_cons, List.mem_nil_iff, or_false] at hp; rcases hp with rfl | rfl | rfl <;> (show _ ≠ _; omega)))
                have hR := hR.idx [1, 2, 3, 0] rfl
                refine hK.out _ _ ?_ (fun hHeld => ?_)
                · (try dsimp only)
                  exact cells2 (hR.get 0 rfl) (hR.get 1 rfl)
                clear hK K
                (try simp only [Act.put, List.setIfInBounds_toArray, List.set_cons_zero, List.set_cons_succ])
                generalize (World.setCell _ _ _ : World) = V15 at hR hHeld ⊢
                refine wpAnyH_done (by kernel_rfl) ?_ _
                clear hHeld
                have z_q := hR.get 2 rfl
                have y_q := hR.get 3 rfl
                have z_c := fun j => cell_of_row V15 _ j _ _ _ z_q
                have y_c := fun j => cell_of_row V15 _ j _ _ _ y_q
                clear z_q y_q
                go_wp2_with fail
                exact bodyPost_ret (v := .tuple #[.agg #[.int .i64 a0, .int .i64 a1, .int .i64 a2, .int .i64 a3, .int .i64 a4, .int .i64 a5], .agg #[.int .i64 p0, .int .i64 p1, .int .i64 p2, .int .i64 p3, .int .i64 p4, .int .i64 p5]]) (by simp [results, Try.results173, go_sem, z_c, y_c]) rfl ⟨a0, a1, a2, a3, a4, a5, p0, p1, p2, p3, p4, p5, Ok6.wf a0 a1 a2 a3 a4 a5 OA.out, HP.out, rfl, hR.1.mono (by omega)⟩
              case true =>
                go_wp2_with fail
                have hR := HR.out
                clear HR
                refine wp_region_held_drew (S := (fun _ => True)) (by kernel_rfl) trivial (fun hHeld => ?_)
                clear hHeld
                have hR := hR.drew
                generalize Y1.drew = V7 at hR ⊢
                refine wpAnyH_take (i := 1) (oi := { dst := some 49, op := Go.Op.move (Go.Operand.tmp 0), type := 135, pos := "l5_spread.go:164", after := #[], guard := none }) (v := ?_) rfl (by kernel_rfl) (by kernel_rfl) (by kernel_rfl) (fun _ _ _ h => h) (Or.inl ⟨by rfl, ?_⟩) trivial ?_
                rotate_left
                · intro w hSw; clear hSw; go_simp; (try with_reducible rfl)
                simp only [Act.put, List.setIfInBounds_toArray, List.set_cons_zero, List.set_cons_succ]
                refine wpAnyH_take (i := 3) (oi := { dst := some 51, op := Go.Op.move (Go.Operand.tmp 0), type := 135, pos := "l5_spread.go:164", after := #[], guard := none }) (v := ?_) rfl (by kernel_rfl) (by kernel_rfl) (by kernel_rfl) (fun _ _ _ h => h) (Or.inl ⟨by rfl, ?_⟩) trivial ?_
                rotate_left
                · intro w hSw; clear hSw; go_simp; (try with_reducible rfl)
                simp only [Act.put, List.setIfInBounds_toArray, List.set_cons_zero, List.set_cons_succ]
                refine wpAnyH_ready (rs := [0, 2]) (by kernel_rfl) (by simp) ?_
                refine AllReadyH.cons (o := { dst := some 48, op := Go.Op.load 28 (Go.Operand.tmp 4), type := 28, pos := "l5_spread.go:164", after := #[], guard := none }) rfl (fun K hK => ?_) ?_
                · skip
                  have z_q := hR.get 0 rfl
                  have z_c := fun j => cell_of_row V7 _ j _ _ _ z_q
                  have z_f := fun j => frozen_of_row V7 _ j _ _ z_q
                  clear z_q
                  go_simp
                  clear z_c z_f
                  refine hK.out _ _ trivial (fun hHeld => ?_)
                  clear hK K hHeld
                  (try simp only [Act.put, List.setIfInBounds_toArray, List.set_cons_zero, List.set_cons_succ])
                  refine wpAnyH_ready (rs := [2]) (by kernel_rfl) (by simp) ?_
                  refine AllReadyH.cons (o := { dst := some 50, op := Go.Op.call { callee := Go.Callee.value (Go.Operand.func 158), args := #[Go.Operand.tmp 49, Go.Operand.const (Go.Value.int Go.IntKind.i64 6)], argTypes := #[135, 3] }, type := 3, pos := "l5_spread.go:164", after := #[{ on := 1, ground := Go.Ground.data }], guard := none }) rfl (fun K hK => ?_) AllReadyH.nil
                  go_simp
                  have hcu := hR.1.1
                  (go_at_call 158; (with_reducible refine (pick_any 6 B g A len cap zs (m + 210 + 2 + 2) _ hcu (by omega) (by omega) (by omega)).mono ?_); rintro e V8 ⟨x, rfl, hx0, hx1, hc⟩; go_wp2_with fail)
                  clear hcu
                  have hx : 0 ≤ x ∧ x ≤ 5 := by omega
                  have hR := hR.step hc
                  clear hc
                  refine hK.out _ _ trivial (fun hHeld => ?_)
                  clear hK K hHeld
                  (try simp only [Act.put, List.setIfInBounds_toArray, List.set_cons_zero, List.set_cons_succ])
                  refine wpAnyH_ready (rs := [4]) (by kernel_rfl) (by simp) ?_
                  refine AllReadyH.cons (o := { dst := some 52, op := Go.Op.call { callee := Go.Callee.value (Go.Operand.func 158), args := #[Go.Operand.tmp 51, Go.Operand.const (Go.Value.int Go.IntKind.i64 6)], argTypes := #[135, 3] }, type := 3, pos := "l5_spread.go:164", after := #[{ on := 3, ground := Go.Ground.data }, { on := 2, ground := Go.Ground.chain }], guard := none }) rfl (fun K hK => ?_) AllReadyH.nil
                  go_simp
                  have hcu := hR.1.1
                  (go_at_call 158; (with_reducible refine (pick_any 6 B g A len cap zs (m + 210 + 2 + 2 + 2) _ hcu (by omega) (by omega) (by omega)).mono ?_); rintro e V9 ⟨y, rfl, hy0, hy1, hc⟩; go_wp2_with fail)
                  clear hcu
                  have hy : 0 ≤ y ∧ y ≤ 5 := by omega
                  have hR := hR.step hc
                  clear hc
                  refine hK.out _ _ trivial (fun hHeld => ?_)
                  clear hK K hHeld
                  (try simp only [Act.put, List.setIfInBounds_toArray, List.set_cons_zero, List.set_cons_succ])
                  refine wpAnyH_ready (rs := [5]) (by kernel_rfl) (by simp) ?_
                  refine AllReadyH.cons (o := { dst := some 53, op := Go.Op.call { callee := Go.Callee.value (Go.Operand.func 231), args := #[Go.Operand.tmp 48, Go.Operand.tmp 50, Go.Operand.tmp 52], argTypes := #[28, 3, 3] }, type := 28, pos := "l5_spread.go:164", after := #[{ on := 0, ground := Go.Ground.data }, { on := 2, ground := Go.Ground.data }, { on := 4, ground := Go.Ground.data }, { on := 4, ground := Go.Ground.chain }], guard := none }) rfl (fun K hK => ?_) AllReadyH.nil
                  go_simp
                  obtain ⟨v0, v1, v2, v3, v4, v5, ov, hv⟩ := flip_ok a0 a1 a2 a3 a4 a5 OA.out x y hx hy
                  (go_at_call 231; (with_reducible refine (hv _).mono ?_); rintro e V10 ⟨rfl, hb⟩; go_wp2_with fail)
                  have hR := hR.below hb rfl
                  have OV := Lib.hid ov
                  clear hb hv ov
                  refine hK.out _ _ trivial (fun hHeld => ?_)
                  clear hK K hHeld
                  (try simp only [Act.put, List.setIfInBounds_toArray, List.set_cons_zero, List.set_cons_succ])
                  have z_q := hR.get 0 rfl
                  have z_c := fun j => cell_of_row V10 _ j _ _ _ z_q
                  have z_f := fun j => frozen_of_row V10 _ j _ _ z_q
                  clear z_q
                  refine wpAnyH_ready (rs := [6]) (by kernel_rfl) (by simp) ?_
                  refine AllReadyH.cons (o := { dst := none, op := Go.Op.store 28 (Go.Operand.tmp 4) (Go.Operand.tmp 53), type := 0, pos := "l5_spread.go:164", after := #[{ on := 5, ground := Go.Ground.data }, { on := 5, ground := Go.Ground.chain }, { on := 0, ground := Go.Ground.phase }, { on := 1, ground := Go.Ground.phase }, { on := 2, ground := Go.Ground.phase }, { on := 3, ground := Go.Ground.phase }, { on := 4, ground := Go.Ground.phase }, { on := 5, ground := Go.Ground.phase }], guard := none }) rfl (fun K hK => ?_) AllReadyH.nil
                  go_simp
                  clear z_c z_f
                  have hR := Rk5.set (.int .i64 v0) (.int .i64 v1) (.int .i64 v2) (.int .i64 v3) (.int .i64 v4) (.int .i64 v5) hR hgl (by omega) (by intro p hp; simp only [List.mem_cons, List.mem_nil_iff, or_false] at hp; rcases hp with rfl | rfl | rfl <;> (show _ ≠ _; omega))
                  generalize (World.setCell _ _ _ : World) = V12 at hR ⊢
                  refine hK.out _ _ trivial (fun hHeld => ?_)
                  clear hK K hHeld
                  (try simp only [Act.put, List.setIfInBounds_toArray, List.set_cons_zero, List.set_cons_succ])
                  refine wpAnyH_done (by kernel_rfl) ?_ _
                  have HQ := Lib.hid hR
                  clear hR
                  go_wp2_with fail
                  have hR := HQ.out
                  clear HQ
                  refine wp_region_held_drew (S := (fun U => U.cell? ⟨k4, 0, none⟩ = some (.int .i64 v0) ∧ U.cell? ⟨k4, 1, none⟩ = some (.int .i64 v1) ∧ U.cell? ⟨k4, 2, none⟩ = some (.int .i64 v2) ∧ U.cell? ⟨k4, 3, none⟩ = some (.int .i64 v3) ∧ U.cell? ⟨k4, 4, none⟩ = some (.int .i64 v4) ∧ U.cell? ⟨k4, 5, none⟩ = some (.int .i64 v5) ∧ U.cell? ⟨k5, 0, none⟩ = some (.int .i64 p0) ∧ U.cell? ⟨k5, 1, none⟩ = some (.int .i64 p1) ∧ U.cell? ⟨k5, 2, none⟩ = some (.int .i64 p2) ∧ U.cell? ⟨k5, 3, none⟩ = some (.int .i64 p3) ∧ U.cell? ⟨k5, 4, none⟩ = some (.int .i64 p4) ∧ U.cell? ⟨k5, 5, none⟩ = some (.int .i64 p5))) (by kernel_rfl) ?_ (fun hHeld => ?_)
                  · (try dsimp only)
                    exact cells2 (hR.drew.get 0 rfl) (hR.drew.get 1 rfl)
                  have hR := hR.drew
                  generalize V12.drew = V13 at hR hHeld ⊢
                  refine wpAnyH_take (i := 0) (oi := { dst := some 54, op := Go.Op.load 28 (Go.Operand.tmp 4), type := 28, pos := "l5_spread.go:167", after := #[], guard := none }) (v := ?_) rfl (by kernel_rfl) (by kernel_rfl) (by kernel_rfl) (fun _ _ _ h => h) (Or.inl ⟨by rfl, ?_⟩) (by assumption) ?_
                  rotate_left
                  · intro w hSw; (try dsimp only at hSw); go_simp; (try with_reducible rfl)
                  simp only [Act.put, List.setIfInBounds_toArray, List.set_cons_zero, List.set_cons_succ]
                  refine wpAnyH_take (i := 1) (oi := { dst := some 55, op := Go.Op.load 28 (Go.Operand.tmp 5), type := 28, pos := "l5_spread.go:167", after := #[{ on := 2, ground := Go.Ground.gcOnly Go.Departure.lateStores }], guard := none }) (v := ?_) rfl (by kernel_rfl) (by kernel_rfl) (by kernel_rfl) (fun _ _ _ h => h) (Or.inl ⟨by rfl, ?_⟩) (by assumption) ?_
                  rotate_left
                  · intro w hSw; (try dsimp only at hSw); go_simp; (try with_reducible rfl)
                  simp only [Act.put, List.setIfInBounds_toArray, List.set_cons_zero, List.set_cons_succ]
                  have z_q := hR.get 2 rfl
                  have z_c := fun j => cell_of_row V13 _ j _ _ _ z_q
                  have z_f := fun j => frozen_of_row V13 _ j _ _ z_q
                  clear z_q
                  refine wpAnyH_ready (rs := [2]) (by kernel_rfl) (by simp) ?_
                  refine AllReadyH.cons (o := { dst := none, op := Go.Op.store 28 (Go.Operand.tmp 2) (Go.Operand.tmp 54), type := 0, pos := "l5_spread.go:167", after := #[{ on := 0, ground := Go.Ground.data }, { on := 0, ground := Go.Ground.phase }, { on := 1, ground := Go.Ground.textOnly Go.Departure.lateStores }], guard := none }) rfl (fun K hK => ?_) AllReadyH.nil
                  go_simp
                  clear z_c z_f
                  have hR : Rk5 w B g A len cap zs _ [(w.heap.size, (.cells #[.int .i64 0, .int .i64 0, .int .i64 0, .int .i64 0, .int .i64 0, .int .i64 0] 28 (0, 0))), (k4, (.cells #[.int .i64 v0, .int .i64 v1, .int .i64 v2, .int .i64 v3, .int .i64 v4, .int .i64 v5] 28 (0, 0))), (k5, (.cells #[.int .i64 p0, .int .i64 p1, .int .i64 p2, .int .i64 p3, .int .i64 p4, .int .i64 p5] 28 (0, 0))), (w.heap.size + 1, (.cells #[.int .i64 0, .int .i64 0, .int .i64 0, .int .i64 0, .int .i64 0, .int .i64 0] 28 (0, 0)))] V13 := hR.idx [2, 0, 1, 3] rfl
                  have hR := (Rk5.set (.int .i64 v0) (.int .i64 v1) (.int .i64 v2) (.int .i64 v3) (.int .i64 v4) (.int .i64 v5) hR hgl (Nat.le_refl _) (by intro p hp; simp only [List.mem_cons, List.mem_nil_iff, or_false] at hp; rcases hp with rfl | rfl | rfl <;> (show _ ≠ _; omega)))
                  have hR := hR.idx [1, 2, 0, 3] rfl
                  refine hK.out _ _ ?_ (fun hHeld => ?_)
                  · (try dsimp only)
                    exact cells2 (hR.get 0 rfl) (hR.get 1 rfl)
                  clear hK K
                  (try simp only [Act.put, List.setIfInBounds_toArray, List.set_cons_zero, List.set_cons_succ])
                  generalize (World.setCell _ _ _ : World) = V14 at hR hHeld ⊢
                  have y_q := hR.get 3 rfl
                  have y_c := fun j => cell_of_row V14 _ j _ _ _ y_q
                  have y_f := fun j => frozen_of_row V14 _ j _ _ y_q
                  clear y_q
                  refine wpAnyH_ready (rs := [3]) (by kernel_rfl) (by simp) ?_
                  refine AllReadyH.cons (o := { dst := none, op := Go.Op.store 28 (Go.Operand.tmp 3) (Go.Operand.tmp 55), type := 0, pos := "l5_spread.go:167", after := #[{ on := 1, ground := Go.Ground.data }, { on := 2, ground := Go.Ground.chain }, { on := 0, ground := Go.Ground.phase }, { on := 1, ground := Go.Ground.phase }, { on := 2, ground := Go.Ground.phase }], guard := none }) rfl (fun K hK => ?_) AllReadyH.nil
                  go_simp
                  clear y_c y_f
                  have hR : Rk5 w B g A len cap zs _ [(w.heap.size + 1, (.cells #[.int .i64 0, .int .i64 0, .int .i64 0, .int .i64 0, .int .i64 0, .int .i64 0] 28 (0, 0))), (k4, (.cells #[.int .i64 v0, .int .i64 v1, .int .i64 v2, .int .i64 v3, .int .i64 v4, .int .i64 v5] 28 (0, 0))), (k5, (.cells #[.int .i64 p0, .int .i64 p1, .int .i64 p2, .int .i64 p3, .int .i64 p4, .int .i64 p5] 28 (0, 0))), (w.heap.size, (.cells #[.int .i64 v0, .int .i64 v1, .int .i64 v2, .int .i64 v3, .int .i64 v4, .int .i64 v5] 28 (0, 0)))] V14 := hR.idx [3, 0, 1, 2] rfl
                  have hR := (Rk5.set (.int .i64 p0) (.int .i64 p1) (.int .i64 p2) (.int .i64 p3) (.int .i64 p4) (.int .i64 p5) hR hgl (Nat.le_succ _) (by intro p hp; simp only [List.mem_cons, List.mem_nil_iff, or_false] at hp; rcases hp with rfl | rfl | rfl <;> (show _ ≠ _; omega)))
                  have hR := hR.idx [1, 2, 3, 0] rfl
                  refine hK.out _ _ ?_ (fun hHeld => ?_)
                  · (try dsimp only)
                    exact cells2 (hR.get 0 rfl) (hR.get 1 rfl)
                  clear hK K
                  (try simp only [Act.put, List.setIfInBounds_toArray, List.set_cons_zero, List.set_cons_succ])
                  generalize (World.setCell _ _ _ : World) = V15 at hR hHeld ⊢
                  refine wpAnyH_done (by kernel_rfl) ?_ _
                  clear hHeld
                  have z_q := hR.get 2 rfl
                  have y_q := hR.get 3 rfl
                  have z_c := fun j => cell_of_row V15 _ j _ _ _ z_q
                  have y_c := fun j => cell_of_row V15 _ j _ _ _ y_q
                  clear z_q y_q
                  go_wp2_with fail
                  exact bodyPost_ret (v := .tuple #[.agg #[.int .i64 v0, .int .i64 v1, .int .i64 v2, .int .i64 v3, .int .i64 v4, .int .i64 v5], .agg #[.int .i64 p0, .int .i64 p1, .int .i64 p2, .int .i64 p3, .int .i64 p4, .int .i64 p5]]) (by simp [results, Try.results173, go_sem, z_c, y_c]) rfl ⟨v0, v1, v2, v3, v4, v5, p0, p1, p2, p3, p4, p5, Ok6.wf v0 v1 v2 v3 v4 v5 OV.out, HP.out, rfl, hR.1.mono (by omega)⟩
                · skip
                  refine AllReadyH.cons (o := { dst := some 50, op := Go.Op.call { callee := Go.Callee.value (Go.Operand.func 158), args := #[Go.Operand.tmp 49, Go.Operand.const (Go.Value.int Go.IntKind.i64 6)], argTypes := #[135, 3] }, type := 3, pos := "l5_spread.go:164", after := #[{ on := 1, ground := Go.Ground.data }], guard := none }) rfl (fun K hK => ?_) AllReadyH.nil
                  go_simp
                  have hcu := hR.1.1
                  (go_at_call 158; (with_reducible refine (pick_any 6 B g A len cap zs (m + 210 + 2 + 2) _ hcu (by omega) (by omega) (by omega)).mono ?_); rintro e V8 ⟨x, rfl, hx0, hx1, hc⟩; go_wp2_with fail)
                  clear hcu
                  have hx : 0 ≤ x ∧ x ≤ 5 := by omega
                  have hR := hR.step hc
                  clear hc
                  refine hK.out _ _ trivial (fun hHeld => ?_)
                  clear hK K hHeld
                  (try simp only [Act.put, List.setIfInBounds_toArray, List.set_cons_zero, List.set_cons_succ])
                  refine wpAnyH_ready (rs := [0, 4]) (by kernel_rfl) (by simp) ?_
                  refine AllReadyH.cons (o := { dst := some 48, op := Go.Op.load 28 (Go.Operand.tmp 4), type := 28, pos := "l5_spread.go:164", after := #[], guard := none }) rfl (fun K hK => ?_) ?_
                  · skip
                    have z_q := hR.get 0 rfl
                    have z_c := fun j => cell_of_row V8 _ j _ _ _ z_q
                    have z_f := fun j => frozen_of_row V8 _ j _ _ z_q
                    clear z_q
                    go_simp
                    clear z_c z_f
                    refine hK.out _ _ trivial (fun hHeld => ?_)
                    clear hK K hHeld
                    (try simp only [Act.put, List.setIfInBounds_toArray, List.set_cons_zero, List.set_cons_succ])
                    refine wpAnyH_ready (rs := [4]) (by kernel_rfl) (by simp) ?_
                    refine AllReadyH.cons (o := { dst := some 52, op := Go.Op.call { callee := Go.Callee.value (Go.Operand.func 158), args := #[Go.Operand.tmp 51, Go.Operand.const (Go.Value.int Go.IntKind.i64 6)], argTypes := #[135, 3] }, type := 3, pos := "l5_spread.go:164", after := #[{ on := 3, ground := Go.Ground.data }, { on := 2, ground := Go.Ground.chain }], guard := none }) rfl (fun K hK => ?_) AllReadyH.nil
                    go_simp
                    have hcu := hR.1.1
                    (go_at_call 158; (with_reducible refine (pick_any 6 B g A len cap zs (m + 210 + 2 + 2 + 2) _ hcu (by omega) (by omega) (by omega)).mono ?_); rintro e V9 ⟨y, rfl, hy0, hy1, hc⟩; go_wp2_with fail)
                    clear hcu
                    have hy : 0 ≤ y ∧ y ≤ 5 := by omega
                    have hR := hR.step hc
                    clear hc
                    refine hK.out _ _ trivial (fun hHeld => ?_)
                    clear hK K hHeld
                    (try simp only [Act.put, List.setIfInBounds_toArray, List.set_cons_zero, List.set_cons_succ])
                    refine wpAnyH_ready (rs := [5]) (by kernel_rfl) (by simp) ?_
                    refine AllReadyH.cons (o := { dst := some 53, op := Go.Op.call { callee := Go.Callee.value (Go.Operand.func 231), args := #[Go.Operand.tmp 48, Go.Operand.tmp 50, Go.Operand.tmp 52], argTypes := #[28, 3, 3] }, type := 28, pos := "l5_spread.go:164", after := #[{ on := 0, ground := Go.Ground.data }, { on := 2, ground := Go.Ground.data }, { on := 4, ground := Go.Ground.data }, { on := 4, ground := Go.Ground.chain }], guard := none }) rfl (fun K hK => ?_) AllReadyH.nil
                    go_simp
                    obtain ⟨v0, v1, v2, v3, v4, v5, ov, hv⟩ := flip_ok a0 a1 a2 a3 a4 a5 OA.out x y hx hy
                    (go_at_call 231; (with_reducible refine (hv _).mono ?_); rintro e V10 ⟨rfl, hb⟩; go_wp2_with fail)
                    have hR := hR.below hb rfl
                    have OV := Lib.hid ov
                    clear hb hv ov
                    refine hK.out _ _ trivial (fun hHeld => ?_)
                    clear hK K hHeld
                    (try simp only [Act.put, List.setIfInBounds_toArray, List.set_cons_zero, List.set_cons_succ])
                    have z_q := hR.get 0 rfl
                    have z_c := fun j => cell_of_row V10 _ j _ _ _ z_q
                    have z_f := fun j => frozen_of_row V10 _ j _ _ z_q
                    clear z_q
                    refine wpAnyH_ready (rs := [6]) (by kernel_rfl) (by simp) ?_
                    refine AllReadyH.cons (o := { dst := none, op := Go.Op.store 28 (Go.Operand.tmp 4) (Go.Operand.tmp 53), type := 0, pos := "l5_spread.go:164", after := #[{ on := 5, ground := Go.Ground.data }, { on := 5, ground := Go.Ground.chain }, { on := 0, ground := Go.Ground.phase }, { on := 1, ground := Go.Ground.phase }, { on := 2, ground := Go.Ground.phase }, { on := 3, ground := Go.Ground.phase }, { on := 4, ground := Go.Ground.phase }, { on := 5, ground := Go.Ground.phase }], guard := none }) rfl (fun K hK => ?_) AllReadyH.nil
                    go_simp
                    clear z_c z_f
                    have hR := Rk5.set (.int .i64 v0) (.int .i64 v1) (.int .i64 v2) (.int .i64 v3) (.int .i64 v4) (.int .i64 v5) hR hgl (by omega) (by intro p hp; simp only [List.mem_cons, List.mem_nil_iff, or_false] at hp; rcases hp with rfl | rfl | rfl <;> (show _ ≠ _; omega))
                    generalize (World.setCell _ _ _ : World) = V12 at hR ⊢
                    refine hK.out _ _ trivial (fun hHeld => ?_)
                    clear hK K hHeld
                    (try simp only [Act.put, List.setIfInBounds_toArray, List.set_cons_zero, List.set_cons_succ])
                    refine wpAnyH_done (by kernel_rfl) ?_ _
                    have HQ := Lib.hid hR
                    clear hR
                    go_wp2_with fail
                    have hR := HQ.out
                    clear HQ
                    refine wp_region_held_drew (S := (fun U => U.cell? ⟨k4, 0, none⟩ = some (.int .i64 v0) ∧ U.cell? ⟨k4, 1, none⟩ = some (.int .i64 v1) ∧ U.cell? ⟨k4, 2, none⟩ = some (.int .i64 v2) ∧ U.cell? ⟨k4, 3, none⟩ = some (.int .i64 v3) ∧ U.cell? ⟨k4, 4, none⟩ = some (.int .i64 v4) ∧ U.cell? ⟨k4, 5, none⟩ = some (.int .i64 v5) ∧ U.cell? ⟨k5, 0, none⟩ = some (.int .i64 p0) ∧ U.cell? ⟨k5, 1, none⟩ = some (.int .i64 p1) ∧ U.cell? ⟨k5, 2, none⟩ = some (.int .i64 p2) ∧ U.cell? ⟨k5, 3, none⟩ = some (.int .i64 p3) ∧ U.cell? ⟨k5, 4, none⟩ = some (.int .i64 p4) ∧ U.cell? ⟨k5, 5, none⟩ = some (.int .i64 p5))) (by kernel_rfl) ?_ (fun hHeld => ?_)
                    · (try dsimp only)
                      exact cells2 (hR.drew.get 0 rfl) (hR.drew.get 1 rfl)
                    have hR := hR.drew
                    generalize V12.drew = V13 at hR hHeld ⊢
                    refine wpAnyH_take (i := 0) (oi := { dst := some 54, op := Go.Op.load 28 (Go.Operand.tmp 4), type := 28, pos := "l5_spread.go:167", after := #[], guard := none }) (v := ?_) rfl (by kernel_rfl) (by kernel_rfl) (by kernel_rfl) (fun _ _ _ h => h) (Or.inl ⟨by rfl, ?_⟩) (by assumption) ?_
                    rotate_left
                    · intro w hSw; (try dsimp only at hSw); go_simp; (try with_reducible rfl)
                    simp only [Act.put, List.setIfInBounds_toArray, List.set_cons_zero, List.set_cons_succ]
                    refine wpAnyH_take (i := 1) (oi := { dst := some 55, op := Go.Op.load 28 (Go.Operand.tmp 5), type := 28, pos := "l5_spread.go:167", after := #[{ on := 2, ground := Go.Ground.gcOnly Go.Departure.lateStores }], guard := none }) (v := ?_) rfl (by kernel_rfl) (by kernel_rfl) (by kernel_rfl) (fun _ _ _ h => h) (Or.inl ⟨by rfl, ?_⟩) (by assumption) ?_
                    rotate_left
                    · intro w hSw; (try dsimp only at hSw); go_simp; (try with_reducible rfl)
                    simp only [Act.put, List.setIfInBounds_toArray, List.set_cons_zero, List.set_cons_succ]
                    have z_q := hR.get 2 rfl
                    have z_c := fun j => cell_of_row V13 _ j _ _ _ z_q
                    have z_f := fun j => frozen_of_row V13 _ j _ _ z_q
                    clear z_q
                    refine wpAnyH_ready (rs := [2]) (by kernel_rfl) (by simp) ?_
                    refine AllReadyH.cons (o := { dst := none, op := Go.Op.store 28 (Go.Operand.tmp 2) (Go.Operand.tmp 54), type := 0, pos := "l5_spread.go:167", after := #[{ on := 0, ground := Go.Ground.data }, { on := 0, ground := Go.Ground.phase }, { on := 1, ground := Go.Ground.textOnly Go.Departure.lateStores }], guard := none }) rfl (fun K hK => ?_) AllReadyH.nil
                    go_simp
                    clear z_c z_f
                    have hR : Rk5 w B g A len cap zs _ [(w.heap.size, (.cells #[.int .i64 0, .int .i64 0, .int .i64 0, .int .i64 0, .int .i64 0, .int .i64 0] 28 (0, 0))), (k4, (.cells #[.int .i64 v0, .int .i64 v1, .int .i64 v2, .int .i64 v3, .int .i64 v4, .int .i64 v5] 28 (0, 0))), (k5, (.cells #[.int .i64 p0, .int .i64 p1, .int .i64 p2, .int .i64 p3, .int .i64 p4, .int .i64 p5] 28 (0, 0))), (w.heap.size + 1, (.cells #[.int .i64 0, .int .i64 0, .int .i64 0, .int .i64 0, .int .i64 0, .int .i64 0] 28 (0, 0)))] V13 := hR.idx [2, 0, 1, 3] rfl
                    have hR := (Rk5.set (.int .i64 v0) (.int .i64 v1) (.int .i64 v2) (.int .i64 v3) (.int .i64 v4) (.int .i64 v5) hR hgl (Nat.le_refl _) (by intro p hp; simp only [List.mem_cons, List.mem_nil_iff, or_false] at hp; rcases hp with rfl | rfl | rfl <;> (show _ ≠ _; omega)))
                    have hR := hR.idx [1, 2, 0, 3] rfl
                    refine hK.out _ _ ?_ (fun hHeld => ?_)
                    · (try dsimp only)
                      exact cells2 (hR.get 0 rfl) (hR.get 1 rfl)
                    clear hK K
                    (try simp only [Act.put, List.setIfInBounds_toArray, List.set_cons_zero, List.set_cons_succ])
                    generalize (World.setCell _ _ _ : World) = V14 at hR hHeld ⊢
                    have y_q := hR.get 3 rfl
                    have y_c := fun j => cell_of_row V14 _ j _ _ _ y_q
                    have y_f := fun j => frozen_of_row V14 _ j _ _ y_q
                    clear y_q
                    refine wpAnyH_ready (rs := [3]) (by kernel_rfl) (by simp) ?_
                    refine AllReadyH.cons (o := { dst := none, op := Go.Op.store 28 (Go.Operand.tmp 3) (Go.Operand.tmp 55), type := 0, pos := "l5_spread.go:167", after := #[{ on := 1, ground := Go.Ground.data }, { on := 2, ground := Go.Ground.chain }, { on := 0, ground := Go.Ground.phase }, { on := 1, ground := Go.Ground.phase }, { on := 2, ground := Go.Ground.phase }], guard := none }) rfl (fun K hK => ?_) AllReadyH.nil
                    go_simp
                    clear y_c y_f
                    have hR : Rk5 w B g A len cap zs _ [(w.heap.size + 1, (.cells #[.int .i64 0, .int .i64 0, .int .i64 0, .int .i64 0, .int .i64 0, .int .i64 0] 28 (0, 0))), (k4, (.cells #[.int .i64 v0, .int .i64 v1, .int .i64 v2, .int .i64 v3, .int .i64 v4, .int .i64 v5] 28 (0, 0))), (k5, (.cells #[.int .i64 p0, .int .i64 p1, .int .i64 p2, .int .i64 p3, .int .i64 p4, .int .i64 p5] 28 (0, 0))), (w.heap.size, (.cells #[.int .i64 v0, .int .i64 v1, .int .i64 v2, .int .i64 v3, .int .i64 v4, .int .i64 v5] 28 (0, 0)))] V14 := hR.idx [3, 0, 1, 2] rfl
                    have hR := (Rk5.set (.int .i64 p0) (.int .i64 p1) (.int .i64 p2) (.int .i64 p3) (.int .i64 p4) (.int .i64 p5) hR hgl (Nat.le_succ _) (by intro p hp; simp only [List.mem_cons, List.mem_nil_iff, or_false] at hp; rcases hp with rfl | rfl | rfl <;> (show _ ≠ _; omega)))
                    have hR := hR.idx [1, 2, 3, 0] rfl
                    refine hK.out _ _ ?_ (fun hHeld => ?_)
                    · (try dsimp only)
                      exact cells2 (hR.get 0 rfl) (hR.get 1 rfl)
                    clear hK K
                    (try simp only [Act.put, List.setIfInBounds_toArray, List.set_cons_zero, List.set_cons_succ])
                    generalize (World.setCell _ _ _ : World) = V15 at hR hHeld ⊢
                    refine wpAnyH_done (by kernel_rfl) ?_ _
                    clear hHeld
                    have z_q := hR.get 2 rfl
                    have y_q := hR.get 3 rfl
                    have z_c := fun j => cell_of_row V15 _ j _ _ _ z_q
                    have y_c := fun j => cell_of_row V15 _ j _ _ _ y_q
                    clear z_q y_q
                    go_wp2_with fail
                    exact bodyPost_ret (v := .tuple #[.agg #[.int .i64 v0, .int .i64 v1, .int .i64 v2, .int .i64 v3, .int .i64 v4, .int .i64 v5], .agg #[.int .i64 p0, .int .i64 p1, .int .i64 p2, .int .i64 p3, .int .i64 p4, .int .i64 p5]]) (by simp [results, Try.results173, go_sem, z_c, y_c]) rfl ⟨v0, v1, v2, v3, v4, v5, p0, p1, p2, p3, p4, p5, Ok6.wf v0 v1 v2 v3 v4 v5 OV.out, HP.out, rfl, hR.1.mono (by omega)⟩
                  · skip
                    refine AllReadyH.cons (o := { dst := some 52, op := Go.Op.call { callee := Go.Callee.value (Go.Operand.func 158), args := #[Go.Operand.tmp 51, Go.Operand.const (Go.Value.int Go.IntKind.i64 6)], argTypes := #[135, 3] }, type := 3, pos := "l5_spread.go:164", after := #[{ on := 3, ground := Go.Ground.data }, { on := 2, ground := Go.Ground.chain }], guard := none }) rfl (fun K hK => ?_) AllReadyH.nil
                    go_simp
                    have hcu := hR.1.1
                    (go_at_call 158; (with_reducible refine (pick_any 6 B g A len cap zs (m + 210 + 2 + 2 + 2) _ hcu (by omega) (by omega) (by omega)).mono ?_); rintro e V9 ⟨y, rfl, hy0, hy1, hc⟩; go_wp2_with fail)
                    clear hcu
                    have hy : 0 ≤ y ∧ y ≤ 5 := by omega
                    have hR := hR.step hc
                    clear hc
                    refine hK.out _ _ trivial (fun hHeld => ?_)
                    clear hK K hHeld
                    (try simp only [Act.put, List.setIfInBounds_toArray, List.set_cons_zero, List.set_cons_succ])
                    refine wpAnyH_ready (rs := [0]) (by kernel_rfl) (by simp) ?_
                    refine AllReadyH.cons (o := { dst := some 48, op := Go.Op.load 28 (Go.Operand.tmp 4), type := 28, pos := "l5_spread.go:164", after := #[], guard := none }) rfl (fun K hK => ?_) AllReadyH.nil
                    have z_q := hR.get 0 rfl
                    have z_c := fun j => cell_of_row V9 _ j _ _ _ z_q
                    have z_f := fun j => frozen_of_row V9 _ j _ _ z_q
                    clear z_q
                    go_simp
                    clear z_c z_f
                    refine hK.out _ _ trivial (fun hHeld => ?_)
                    clear hK K hHeld
                    (try simp only [Act.put, List.setIfInBounds_toArray, List.set_cons_zero, List.set_cons_succ])
                    refine wpAnyH_ready (rs := [5]) (by kernel_rfl) (by simp) ?_
                    refine AllReadyH.cons (o := { dst := some 53, op := Go.Op.call { callee := Go.Callee.value (Go.Operand.func 231), args := #[Go.Operand.tmp 48, Go.Operand.tmp 50, Go.Operand.tmp 52], argTypes := #[28, 3, 3] }, type := 28, pos := "l5_spread.go:164", after := #[{ on := 0, ground := Go.Ground.data }, { on := 2, ground := Go.Ground.data }, { on := 4, ground := Go.Ground.data }, { on := 4, ground := Go.Ground.chain }], guard := none }) rfl (fun K hK => ?_) AllReadyH.nil
                    go_simp
                    obtain ⟨v0, v1, v2, v3, v4, v5, ov, hv⟩ := flip_ok a0 a1 a2 a3 a4 a5 OA.out x y hx hy
                    (go_at_call 231; (with_reducible refine (hv _).mono ?_); rintro e V10 ⟨rfl, hb⟩; go_wp2_with fail)
                    have hR := hR.below hb rfl
                    have OV := Lib.hid ov
                    clear hb hv ov
                    refine hK.out _ _ trivial (fun hHeld => ?_)
                    clear hK K hHeld
                    (try simp only [Act.put, List.setIfInBounds_toArray, List.set_cons_zero, List.set_cons_succ])
                    have z_q := hR.get 0 rfl
                    have z_c := fun j => cell_of_row V10 _ j _ _ _ z_q
                    have z_f := fun j => frozen_of_row V10 _ j _ _ z_q
                    clear z_q
                    refine wpAnyH_ready (rs := [6]) (by kernel_rfl) (by simp) ?_
                    refine AllReadyH.cons (o := { dst := none, op := Go.Op.store 28 (Go.Operand.tmp 4) (Go.Operand.tmp 53), type := 0, pos := "l5_spread.go:164", after := #[{ on := 5, ground := Go.Ground.data }, { on := 5, ground := Go.Ground.chain }, { on := 0, ground := Go.Ground.phase }, { on := 1, ground := Go.Ground.phase }, { on := 2, ground := Go.Ground.phase }, { on := 3, ground := Go.Ground.phase }, { on := 4, ground := Go.Ground.phase }, { on := 5, ground := Go.Ground.phase }], guard := none }) rfl (fun K hK => ?_) AllReadyH.nil
                    go_simp
                    clear z_c z_f
                    have hR := Rk5.set (.int .i64 v0) (.int .i64 v1) (.int .i64 v2) (.int .i64 v3) (.int .i64 v4) (.int .i64 v5) hR hgl (by omega) (by intro p hp; simp only [List.mem_cons, List.mem_nil_iff, or_false] at hp; rcases hp with rfl | rfl | rfl <;> (show _ ≠ _; omega))
                    generalize (World.setCell _ _ _ : World) = V12 at hR ⊢
                    refine hK.out _ _ trivial (fun hHeld => ?_)
                    clear hK K hHeld
                    (try simp only [Act.put, List.setIfInBounds_toArray, List.set_cons_zero, List.set_cons_succ])
                    refine wpAnyH_done (by kernel_rfl) ?_ _
                    have HQ := Lib.hid hR
                    clear hR
                    go_wp2_with fail
                    have hR := HQ.out
                    clear HQ
                    refine wp_region_held_drew (S := (fun U => U.cell? ⟨k4, 0, none⟩ = some (.int .i64 v0) ∧ U.cell? ⟨k4, 1, none⟩ = some (.int .i64 v1) ∧ U.cell? ⟨k4, 2, none⟩ = some (.int .i64 v2) ∧ U.cell? ⟨k4, 3, none⟩ = some (.int .i64 v3) ∧ U.cell? ⟨k4, 4, none⟩ = some (.int .i64 v4) ∧ U.cell? ⟨k4, 5, none⟩ = some (.int .i64 v5) ∧ U.cell? ⟨k5, 0, none⟩ = some (.int .i64 p0) ∧ U.cell? ⟨k5, 1, none⟩ = some (.int .i64 p1) ∧ U.cell? ⟨k5, 2, none⟩ = some (.int .i64 p2) ∧ U.cell? ⟨k5, 3, none⟩ = some (.int .i64 p3) ∧ U.cell? ⟨k5, 4, none⟩ = some (.int .i64 p4) ∧ U.cell? ⟨k5, 5, none⟩ = some (.int .i64 p5))) (by kernel_rfl) ?_ (fun hHeld => ?_)
                    · (try dsimp only)
                      exact cells2 (hR.drew.get 0 rfl) (hR.drew.get 1 rfl)
                    have hR := hR.drew
                    generalize V12.drew = V13 at hR hHeld ⊢
                    refine wpAnyH_take (i := 0) (oi := { dst := some 54, op := Go.Op.load 28 (Go.Operand.tmp 4), type := 28, pos := "l5_spread.go:167", after := #[], guard := none }) (v := ?_) rfl (by kernel_rfl) (by kernel_rfl) (by kernel_rfl) (fun _ _ _ h => h) (Or.inl ⟨by rfl, ?_⟩) (by assumption) ?_
                    rotate_left
                    · intro w hSw; (try dsimp only at hSw); go_simp; (try with_reducible rfl)
                    simp only [Act.put, List.setIfInBounds_toArray, List.set_cons_zero, List.set_cons_succ]
                    refine wpAnyH_take (i := 1) (oi := { dst := some 55, op := Go.Op.load 28 (Go.Operand.tmp 5), type := 28, pos := "l5_spread.go:167", after := #[{ on := 2, ground := Go.Ground.gcOnly Go.Departure.lateStores }], guard := none }) (v := ?_) rfl (by kernel_rfl) (by kernel_rfl) (by kernel_rfl) (fun _ _ _ h => h) (Or.inl ⟨by rfl, ?_⟩) (by assumption) ?_
                    rotate_left
                    · intro w hSw; (try dsimp only at hSw); go_simp; (try with_reducible rfl)
                    simp only [Act.put, List.setIfInBounds_toArray, List.set_cons_zero, List.set_cons_succ]
                    have z_q := hR.get 2 rfl
                    have z_c := fun j => cell_of_row V13 _ j _ _ _ z_q
                    have z_f := fun j => frozen_of_row V13 _ j _ _ z_q
                    clear z_q
                    refine wpAnyH_ready (rs := [2]) (by kernel_rfl) (by simp) ?_
                    refine AllReadyH.cons (o := { dst := none, op := Go.Op.store 28 (Go.Operand.tmp 2) (Go.Operand.tmp 54), type := 0, pos := "l5_spread.go:167", after := #[{ on := 0, ground := Go.Ground.data }, { on := 0, ground := Go.Ground.phase }, { on := 1, ground := Go.Ground.textOnly Go.Departure.lateStores }], guard := none }) rfl (fun K hK => ?_) AllReadyH.nil
                    go_simp
                    clear z_c z_f
                    have hR : Rk5 w B g A len cap zs _ [(w.heap.size, (.cells #[.int .i64 0, .int .i64 0, .int .i64 0, .int .i64 0, .int .i64 0, .int .i64 0] 28 (0, 0))), (k4, (.cells #[.int .i64 v0, .int .i64 v1, .int .i64 v2, .int .i64 v3, .int .i64 v4, .int .i64 v5] 28 (0, 0))), (k5, (.cells #[.int .i64 p0, .int .i64 p1, .int .i64 p2, .int .i64 p3, .int .i64 p4, .int .i64 p5] 28 (0, 0))), (w.heap.size + 1, (.cells #[.int .i64 0, .int .i64 0, .int .i64 0, .int .i64 0, .int .i64 0, .int .i64 0] 28 (0, 0)))] V13 := hR.idx [2, 0, 1, 3] rfl
                    have hR := (Rk5.set (.int .i64 v0) (.int .i64 v1) (.int .i64 v2) (.int .i64 v3) (.int .i64 v4) (.int .i64 v5) hR hgl (Nat.le_refl _) (by intro p hp; simp only [List.mem_cons, List.mem_nil_iff, or_false] at hp; rcases hp with rfl | rfl | rfl <;> (show _ ≠ _; omega)))
                    have hR := hR.idx [1, 2, 0, 3] rfl
                    refine hK.out _ _ ?_ (fun hHeld => ?_)
                    · (try dsimp only)
                      exact cells2 (hR.get 0 rfl) (hR.get 1 rfl)
                    clear hK K
                    (try simp only [Act.put, List.setIfInBounds_toArray, List.set_cons_zero, List.set_cons_succ])
                    generalize (World.setCell _ _ _ : World) = V14 at hR hHeld ⊢
                    have y_q := hR.get 3 rfl
                    have y_c := fun j => cell_of_row V14 _ j _ _ _ y_q
                    have y_f := fun j => frozen_of_row V14 _ j _ _ y_q
                    clear y_q
                    refine wpAnyH_ready (rs := [3]) (by kernel_rfl) (by simp) ?_
                    refine AllReadyH.cons (o := { dst := none, op := Go.Op.store 28 (Go.Operand.tmp 3) (Go.Operand.tmp 55), type := 0, pos := "l5_spread.go:167", after := #[{ on := 1, ground := Go.Ground.data }, { on := 2, ground := Go.Ground.chain }, { on := 0, ground := Go.Ground.phase }, { on := 1, ground := Go.Ground.phase }, { on := 2, ground := Go.Ground.phase }], guard := none }) rfl (fun K hK => ?_) AllReadyH.nil
                    go_simp
                    clear y_c y_f
                    have hR : Rk5 w B g A len cap zs _ [(w.heap.size + 1, (.cells #[.int .i64 0, .int .i64 0, .int .i64 0, .int .i64 0, .int .i64 0, .int .i64 0] 28 (0, 0))), (k4, (.cells #[.int .i64 v0, .int .i64 v1, .int .i64 v2, .int .i64 v3, .int .i64 v4, .int .i64 v5] 28 (0, 0))), (k5, (.cells #[.int .i64 p0, .int .i64 p1, .int .i64 p2, .int .i64 p3, .int .i64 p4, .int .i64 p5] 28 (0, 0))), (w.heap.size, (.cells #[.int .i64 v0, .int .i64 v1, .int .i64 v2, .int .i64 v3, .int .i64 v4, .int .i64 v5] 28 (0, 0)))] V14 := hR.idx [3, 0, 1, 2] rfl
                    have hR := (Rk5.set (.int .i64 p0) (.int .i64 p1) (.int .i64 p2) (.int .i64 p3) (.int .i64 p4) (.int .i64 p5) hR hgl (Nat.le_succ _) (by intro p hp; simp only [List.mem_cons, List.mem_nil_iff, or_false] at hp; rcases hp with rfl | rfl | rfl <;> (show _ ≠ _; omega)))
                    have hR := hR.idx [1, 2, 3, 0] rfl
                    refine hK.out _ _ ?_ (fun hHeld => ?_)
                    · (try dsimp only)
                      exact cells2 (hR.get 0 rfl) (hR.get 1 rfl)
                    clear hK K
                    (try simp only [Act.put, List.setIfInBounds_toArray, List.set_cons_zero, List.set_cons_succ])
                    generalize (World.setCell _ _ _ : World) = V15 at hR hHeld ⊢
                    refine wpAnyH_done (by kernel_rfl) ?_ _
                    clear hHeld
                    have z_q := hR.get 2 rfl
                    have y_q := hR.get 3 rfl
                    have z_c := fun j => cell_of_row V15 _ j _ _ _ z_q
                    have y_c := fun j => cell_of_row V15 _ j _ _ _ y_q
                    clear z_q y_q
                    go_wp2_with fail
                    exact bodyPost_ret (v := .tuple #[.agg #[.int .i64 v0, .int .i64 v1, .int .i64 v2, .int .i64 v3, .int .i64 v4, .int .i64 v5], .agg #[.int .i64 p0, .int .i64 p1, .int .i64 p2, .int .i64 p3, .int .i64 p4, .int .i64 p5]]) (by simp [results, Try.results173, go_sem, z_c, y_c]) rfl ⟨v0, v1, v2, v3, v4, v5, p0, p1, p2, p3, p4, p5, Ok6.wf v0 v1 v2 v3 v4 v5 OV.out, HP.out, rfl, hR.1.mono (by omega)⟩
            case true =>
              obtain ⟨b0, b1, b2, b3, b4, b5, ob, hb0⟩ := spread_ok a0 a1 a2 a3 a4 a5 p0 p1 p2 p3 p4 p5 OA.out OP.out
              have HA := Lib.hid hb0
              have OBB := Lib.hid ob
              clear hb0 ob
              have z_q := hR.get 0 rfl
              have z_c := fun j => cell_of_row X3 _ j _ _ _ z_q
              have z_f := fun j => frozen_of_row X3 _ j _ _ z_q
              clear z_q
              have y_q := hR.get 1 rfl
              have y_c := fun j => cell_of_row X3 _ j _ _ _ y_q
              have y_f := fun j => frozen_of_row X3 _ j _ _ y_q
              clear y_q
              have HQ := Lib.hid hR
              clear hR
              go_wp2_with fail
              refine (HA.out X3).mono ?_
              rintro e X4 ⟨rfl, hb⟩
              have hR := HQ.out.below hb rfl
              clear hb HQ z_c z_f y_c y_f HA
              have c_q := hR.get 0 rfl
              have c_c := fun j => cell_of_row X4 _ j _ _ _ c_q
              have c_f := fun j => frozen_of_row X4 _ j _ _ c_q
              clear c_q
              have HQ := Lib.hid hR
              clear hR
              go_wp2_with fail
              have hQ : Rk5 w B g A len cap zs _ [(k4, (.cells #[.int .i64 a0, .int .i64 a1, .int .i64 a2, .int .i64 a3, .int .i64 a4, .int .i64 a5] 28 (0, 0))), (k5, (.cells #[.int .i64 p0, .int .i64 p1, .int .i64 p2, .int .i64 p3, .int .i64 p4, .int .i64 p5] 28 (0, 0))), (w.heap.size, (.cells #[.int .i64 0, .int .i64 0, .int .i64 0, .int .i64 0, .int .i64 0, .int .i64 0] 28 (0, 0))), (w.heap.size + 1, (.cells #[.int .i64 0, .int .i64 0, .int .i64 0, .int .i64 0, .int .i64 0, .int .i64 0] 28 (0, 0)))] X4 := HQ.out.idx [0, 1, 2, 3] rfl
              have hR := Rk5.set (.int .i64 b0) (.int .i64 b1) (.int .i64 b2) (.int .i64 b3) (.int .i64 b4) (.int .i64 b5) hQ hgl (by omega) (by intro p hp; simp only [List.mem_cons, List.mem_nil_iff, or_false] at hp; rcases hp with rfl | rfl | rfl <;> (show _ ≠ _; omega))
              clear hQ HQ c_c c_f
              generalize (World.setCell _ _ _ : World) = X5 at hR ⊢
              have HQ := Lib.hid hR
              clear hR
              refine (one_any 3 B g A len cap zs (m + 210 + 2) X5 HQ.out.1.1 (by omega) (by omega) (by omega)).mono ?_
              rintro e Y1 ⟨b4, rfl, hc⟩
              have HR := Lib.hid (HQ.out.step hc)
              clear hc HQ
              cases b4
              case false =>
                go_wp2_with fail
                have hR := HR.out
                clear HR
                refine wp_region_held_drew (S := (fun U => U.cell? ⟨k4, 0, none⟩ = some (.int .i64 b0) ∧ U.cell? ⟨k4, 1, none⟩ = some (.int .i64 b1) ∧ U.cell? ⟨k4, 2, none⟩ = some (.int .i64 b2) ∧ U.cell? ⟨k4, 3, none⟩ = some (.int .i64 b3) ∧ U.cell? ⟨k4, 4, none⟩ = some (.int .i64 b4) ∧ U.cell? ⟨k4, 5, none⟩ = some (.int .i64 b5) ∧ U.cell? ⟨k5, 0, none⟩ = some (.int .i64 p0) ∧ U.cell? ⟨k5, 1, none⟩ = some (.int .i64 p1) ∧ U.cell? ⟨k5, 2, none⟩ = some (.int .i64 p2) ∧ U.cell? ⟨k5, 3, none⟩ = some (.int .i64 p3) ∧ U.cell? ⟨k5, 4, none⟩ = some (.int .i64 p4) ∧ U.cell? ⟨k5, 5, none⟩ = some (.int .i64 p5))) (by kernel_rfl) ?_ (fun hHeld => ?_)
                · (try dsimp only)
                  exact cells2 (hR.drew.get 0 rfl) (hR.drew.get 1 rfl)
                have hR := hR.drew
                generalize Y1.drew = V13 at hR hHeld ⊢
                refine wpAnyH_take (i := 0) (oi := { dst := some 54, op := Go.Op.load 28 (Go.Operand.tmp 4), type := 28, pos := "l5_spread.go:167", after := #[], guard := none }) (v := ?_) rfl (by kernel_rfl) (by kernel_rfl) (by kernel_rfl) (fun _ _ _ h => h) (Or.inl ⟨by rfl, ?_⟩) (by assumption) ?_
                rotate_left
                · intro w hSw; (try dsimp only at hSw); go_simp; (try with_reducible rfl)
                simp only [Act.put, List.setIfInBounds_toArray, List.set_cons_zero, List.set_cons_succ]
                refine wpAnyH_take (i := 1) (oi := { dst := some 55, op := Go.Op.load 28 (Go.Operand.tmp 5), type := 28, pos := "l5_spread.go:167", after := #[{ on := 2, ground := Go.Ground.gcOnly Go.Departure.lateStores }], guard := none }) (v := ?_) rfl (by kernel_rfl) (by kernel_rfl) (by kernel_rfl) (fun _ _ _ h => h) (Or.inl ⟨by rfl, ?_⟩) (by assumption) ?_
                rotate_left
                · intro w hSw; (try dsimp only at hSw); go_simp; (try with_reducible rfl)
                simp only [Act.put, List.setIfInBounds_toArray, List.set_cons_zero, List.set_cons_succ]
                have z_q := hR.get 2 rfl
                have z_c := fun j => cell_of_row V13 _ j _ _ _ z_q
                have z_f := fun j => frozen_of_row V13 _ j _ _ z_q
                clear z_q
                refine wpAnyH_ready (rs := [2]) (by kernel_rfl) (by simp) ?_
                refine AllReadyH.cons (o := { dst := none, op := Go.Op.store 28 (Go.Operand.tmp 2) (Go.Operand.tmp 54), type := 0, pos := "l5_spread.go:167", after := #[{ on := 0, ground := Go.Ground.data }, { on := 0, ground := Go.Ground.phase }, { on := 1, ground := Go.Ground.textOnly Go.Departure.lateStores }], guard := none }) rfl (fun K hK => ?_) AllReadyH.nil
                go_simp
                clear z_c z_f
                have hR : Rk5 w B g A len cap zs _ [(w.heap.size, (.cells #[.int .i64 0, .int .i64 0, .int .i64 0, .int .i64 0, .int .i64 0, .int .i64 0] 28 (0, 0))), (k4, (.cells #[.int .i64 b0, .int .i64 b1, .int .i64 b2, .int .i64 b3, .int .i64 b4, .int .i64 b5] 28 (0, 0))), (k5, (.cells #[.int .i64 p0, .int .i64 p1, .int .i64 p2, .int .i64 p3, .int .i64 p4, .int .i64 p5] 28 (0, 0))), (w.heap.size + 1, (.cells #[.int .i64 0, .int .i64 0, .int .i64 0, .int .i64 0, .int .i64 0, .int .i64 0] 28 (0, 0)))] V13 := hR.idx [2, 0, 1, 3] rfl
                have hR := (Rk5.set (.int .i64 b0) (.int .i64 b1) (.int .i64 b2) (.int .i64 b3) (.int .i64 b4) (.int .i64 b5) hR hgl (Nat.le_refl _) (by intro p hp; simp only [List.mem_cons, List.mem_nil_iff, or_false] at hp; rcases hp with rfl | rfl | rfl <;> (show _ ≠ _; omega)))
                have hR := hR.idx [1, 2, 0, 3] rfl
                refine hK.out _ _ ?_ (fun hHeld => ?_)
                · (try dsimp only)
                  exact cells2 (hR.get 0 rfl) (hR.get 1 rfl)
                clear hK K
                (try simp only [Act.put, List.setIfInBounds_toArray, List.set_cons_zero, List.set_cons_succ])
                generalize (World.setCell _ _ _ : World) = V14 at hR hHeld ⊢
                have y_q := hR.get 3 rfl
                have y_c := fun j => cell_of_row V14 _ j _ _ _ y_q
                have y_f := fun j => frozen_of_row V14 _ j _ _ y_q
                clear y_q
                refine wpAnyH_ready (rs := [3]) (by kernel_rfl) (by simp) ?_
                refine AllReadyH.cons (o := { dst := none, op := Go.Op.store 28 (Go.Operand.tmp 3) (Go.Operand.tmp 55), type := 0, pos := "l5_spread.go:167", after := #[{ on := 1, ground := Go.Ground.data }, { on := 2, ground := Go.Ground.chain }, { on := 0, ground := Go.Ground.phase }, { on := 1, ground := Go.Ground.phase }, { on := 2, ground := Go.Ground.phase }], guard := none }) rfl (fun K hK => ?_) AllReadyH.nil
                go_simp
                clear y_c y_f
                have hR : Rk5 w B g A len cap zs _ [(w.heap.size + 1, (.cells #[.int .i64 0, .int .i64 0, .int .i64 0, .int .i64 0, .int .i64 0, .int .i64 0] 28 (0, 0))), (k4, (.cells #[.int .i64 b0, .int .i64 b1, .int .i64 b2, .int .i64 b3, .int .i64 b4, .int .i64 b5] 28 (0, 0))), (k5, (.cells #[.int .i64 p0, .int .i64 p1, .int .i64 p2, .int .i64 p3, .int .i64 p4, .int .i64 p5] 28 (0, 0))), (w.heap.size, (.cells #[.int .i64 b0, .int .i64 b1, .int .i64 b2, .int .i64 b3, .int .i64 b4, .int .i64 b5] 28 (0, 0)))] V14 := hR.idx [3, 0, 1, 2] rfl
                have hR := (Rk5.set (.int .i64 p0) (.int .i64 p1) (.int .i64 p2) (.int .i64 p3) (.int .i64 p4) (.int .i64 p5) hR hgl (Nat.le_succ _) (by intro p hp; simp only [List.mem_cons, List.mem_nil_iff, or_false] at hp; rcases hp with rfl | rfl | rfl <;> (show _ ≠ _; omega)))
                have hR := hR.idx [1, 2, 3, 0] rfl
                refine hK.out _ _ ?_ (fun hHeld => ?_)
                · (try dsimp only)
                  exact cells2 (hR.get 0 rfl) (hR.get 1 rfl)
                clear hK K
                (try simp only [Act.put, List.setIfInBounds_toArray, List.set_cons_zero, List.set_cons_succ])
                generalize (World.setCell _ _ _ : World) = V15 at hR hHeld ⊢
                refine wpAnyH_done (by kernel_rfl) ?_ _
                clear hHeld
                have z_q := hR.get 2 rfl
                have y_q := hR.get 3 rfl
                have z_c := fun j => cell_of_row V15 _ j _ _ _ z_q
                have y_c := fun j => cell_of_row V15 _ j _ _ _ y_q
                clear z_q y_q
                go_wp2_with fail
                exact bodyPost_ret (v := .tuple #[.agg #[.int .i64 b0, .int .i64 b1, .int .i64 b2, .int .i64 b3, .int .i64 b4, .int .i64 b5], .agg #[.int .i64 p0, .int .i64 p1, .int .i64 p2, .int .i64 p3, .int .i64 p4, .int .i64 p5]]) (by simp [results, Try.results173, go_sem, z_c, y_c]) rfl ⟨b0, b1, b2, b3, b4, b5, p0, p1, p2, p3, p4, p5, Ok6.wf b0 b1 b2 b3 b4 b5 OBB.out, HP.out, rfl, hR.1.mono (by omega)⟩
              case true =>
                go_wp2_with fail
                have hR := HR.out
                clear HR
                refine wp_region_held_drew (S := (fun _ => True)) (by kernel_rfl) trivial (fun hHeld => ?_)
                clear hHeld
                have hR := hR.drew
                generalize Y1.drew = V7 at hR ⊢
                refine wpAnyH_take (i := 1) (oi := { dst := some 49, op := Go.Op.move (Go.Operand.tmp 0), type := 135, pos := "l5_spread.go:164", after := #[], guard := none }) (v := ?_) rfl (by kernel_rfl) (by kernel_rfl) (by kernel_rfl) (fun _ _ _ h => h) (Or.inl ⟨by rfl, ?_⟩) trivial ?_
                rotate_left
                · intro w hSw; clear hSw; go_simp; (try with_reducible rfl)
                simp only [Act.put, List.setIfInBounds_toArray, List.set_cons_zero, List.set_cons_succ]
                refine wpAnyH_take (i := 3) (oi := { dst := some 51, op := Go.Op.move (Go.Operand.tmp 0), type := 135, pos := "l5_spread.go:164", after := #[], guard := none }) (v := ?_) rfl (by kernel_rfl) (by kernel_rfl) (by kernel_rfl) (fun _ _ _ h => h) (Or.inl ⟨by rfl, ?_⟩) trivial ?_
                rotate_left
                · intro w hSw; clear hSw; go_simp; (try with_reducible rfl)
                simp only [Act.put, List.setIfInBounds_toArray, List.set_cons_zero, List.set_cons_succ]
                refine wpAnyH_ready (rs := [0, 2]) (by kernel_rfl) (by simp) ?_
                refine AllReadyH.cons (o := { dst := some 48, op := Go.Op.load 28 (Go.Operand.tmp 4), type := 28, pos := "l5_spread.go:164", after := #[], guard := none }) rfl (fun K hK => ?_) ?_
                · skip
                  have z_q := hR.get 0 rfl
                  have z_c := fun j => cell_of_row V7 _ j _ _ _ z_q
                  have z_f := fun j => frozen_of_row V7 _ j _ _ z_q
                  clear z_q
                  go_simp
                  clear z_c z_f
                  refine hK.out _ _ trivial (fun hHeld => ?_)
                  clear hK K hHeld
                  (try simp only [Act.put, List.setIfInBounds_toArray, List.set_cons_zero, List.set_cons_succ])
                  refine wpAnyH_ready (rs := [2]) (by kernel_rfl) (by simp) ?_
                  refine AllReadyH.cons (o := { dst := some 50, op := Go.Op.call { callee := Go.Callee.value (Go.Operand.func 158), args := #[Go.Operand.tmp 49, Go.Operand.const (Go.Value.int Go.IntKind.i64 6)], argTypes := #[135, 3] }, type := 3, pos := "l5_spread.go:164", after := #[{ on := 1, ground := Go.Ground.data }], guard := none }) rfl (fun K hK => ?_) AllReadyH.nil
                  go_simp
                  have hcu := hR.1.1
                  (go_at_call 158; (with_reducible refine (pick_any 6 B g A len cap zs (m + 210 + 2 + 2) _ hcu (by omega) (by omega) (by omega)).mono ?_); rintro e V8 ⟨x, rfl, hx0, hx1, hc⟩; go_wp2_with fail)
                  clear hcu
                  have hx : 0 ≤ x ∧ x ≤ 5 := by omega
                  have hR := hR.step hc
                  clear hc
                  refine hK.out _ _ trivial (fun hHeld => ?_)
                  clear hK K hHeld
                  (try simp only [Act.put, List.setIfInBounds_toArray, List.set_cons_zero, List.set_cons_succ])
                  refine wpAnyH_ready (rs := [4]) (by kernel_rfl) (by simp) ?_
                  refine AllReadyH.cons (o := { dst := some 52, op := Go.Op.call { callee := Go.Callee.value (Go.Operand.func 158), args := #[Go.Operand.tmp 51, Go.Operand.const (Go.Value.int Go.IntKind.i64 6)], argTypes := #[135, 3] }, type := 3, pos := "l5_spread.go:164", after := #[{ on := 3, ground := Go.Ground.data }, { on := 2, ground := Go.Ground.chain }], guard := none }) rfl (fun K hK => ?_) AllReadyH.nil
                  go_simp
                  have hcu := hR.1.1
                  (go_at_call 158; (with_reducible refine (pick_any 6 B g A len cap zs (m + 210 + 2 + 2 + 2) _ hcu (by omega) (by omega) (by omega)).mono ?_); rintro e V9 ⟨y, rfl, hy0, hy1, hc⟩; go_wp2_with fail)
                  clear hcu
                  have hy : 0 ≤ y ∧ y ≤ 5 := by omega
                  have hR := hR.step hc
                  clear hc
                  refine hK.out _ _ trivial (fun hHeld => ?_)
                  clear hK K hHeld
                  (try simp only [Act.put, List.setIfInBounds_toArray, List.set_cons_zero, List.set_cons_succ])
                  refine wpAnyH_ready (rs := [5]) (by kernel_rfl) (by simp) ?_
                  refine AllReadyH.cons (o := { dst := some 53, op := Go.Op.call { callee := Go.Callee.value (Go.Operand.func 231), args := #[Go.Operand.tmp 48, Go.Operand.tmp 50, Go.Operand.tmp 52], argTypes := #[28, 3, 3] }, type := 28, pos := "l5_spread.go:164", after := #[{ on := 0, ground := Go.Ground.data }, { on := 2, ground := Go.Ground.data }, { on := 4, ground := Go.Ground.data }, { on := 4, ground := Go.Ground.chain }], guard := none }) rfl (fun K hK => ?_) AllReadyH.nil
                  go_simp
                  obtain ⟨v0, v1, v2, v3, v4, v5, ov, hv⟩ := flip_ok b0 b1 b2 b3 b4 b5 OBB.out x y hx hy
                  (go_at_call 231; (with_reducible refine (hv _).mono ?_); rintro e V10 ⟨rfl, hb⟩; go_wp2_with fail)
                  have hR := hR.below hb rfl
                  have OV := Lib.hid ov
                  clear hb hv ov
                  refine hK.out _ _ trivial (fun hHeld => ?_)
                  clear hK K hHeld
                  (try simp only [Act.put, List.setIfInBounds_toArray, List.set_cons_zero, List.set_cons_succ])
                  have z_q := hR.get 0 rfl
                  have z_c := fun j => cell_of_row V10 _ j _ _ _ z_q
                  have z_f := fun j => frozen_of_row V10 _ j _ _ z_q
                  clear z_q
                  refine wpAnyH_ready (rs := [6]) (by kernel_rfl) (by simp) ?_
                  refine AllReadyH.cons (o := { dst := none, op := Go.Op.store 28 (Go.Operand.tmp 4) (Go.Operand.tmp 53), type := 0, pos := "l5_spread.go:164", after := #[{ on := 5, ground := Go.Ground.data }, { on := 5, ground := Go.Ground.chain }, { on := 0, ground := Go.Ground.phase }, { on := 1, ground := Go.Ground.phase }, { on := 2, ground := Go.Ground.phase }, { on := 3, ground := Go.Ground.phase }, { on := 4, ground := Go.Ground.phase }, { on := 5, ground := Go.Ground.phase }], guard := none }) rfl (fun K hK => ?_) AllReadyH.nil
                  go_simp
                  clear z_c z_f
                  have hR := Rk5.set (.int .i64 v0) (.int .i64 v1) (.int .i64 v2) (.int .i64 v3) (.int .i64 v4) (.int .i64 v5) hR hgl (by omega) (by intro p hp; simp only [List.mem_cons, List.mem_nil_iff, or_false] at hp; rcases hp with rfl | rfl | rfl <;> (show _ ≠ _; omega))
                  generalize (World.setCell _ _ _ : World) = V12 at hR ⊢
                  refine hK.out _ _ trivial (fun hHeld => ?_)
                  clear hK K hHeld
                  (try simp only [Act.put, List.setIfInBounds_toArray, List.set_cons_zero, List.set_cons_succ])
                  refine wpAnyH_done (by kernel_rfl) ?_ _
                  have HQ := Lib.hid hR
                  clear hR
                  go_wp2_with fail
                  have hR := HQ.out
                  clear HQ
                  refine wp_region_held_drew (S := (fun U => U.cell? ⟨k4, 0, none⟩ = some (.int .i64 v0) ∧ U.cell? ⟨k4, 1, none⟩ = some (.int .i64 v1) ∧ U.cell? ⟨k4, 2, none⟩ = some (.int .i64 v2) ∧ U.cell? ⟨k4, 3, none⟩ = some (.int .i64 v3) ∧ U.cell? ⟨k4, 4, none⟩ = some (.int .i64 v4) ∧ U.cell? ⟨k4, 5, none⟩ = some (.int .i64 v5) ∧ U.cell? ⟨k5, 0, none⟩ = some (.int .i64 p0) ∧ U.cell? ⟨k5, 1, none⟩ = some (.int .i64 p1) ∧ U.cell? ⟨k5, 2, none⟩ = some (.int .i64 p2) ∧ U.cell? ⟨k5, 3, none⟩ = some (.int .i64 p3) ∧ U.cell? ⟨k5, 4, none⟩ = some (.int .i64 p4) ∧ U.cell? ⟨k5, 5, none⟩ = some (.int .i64 p5))) (by kernel_rfl) ?_ (fun hHeld => ?_)
                  · (try dsimp only)
                    exact cells2 (hR.drew.get 0 rfl) (hR.drew.get 1 rfl)
                  have hR := hR.drew
                  generalize V12.drew = V13 at hR hHeld ⊢
                  refine wpAnyH_take (i := 0) (oi := { dst := some 54, op := Go.Op.load 28 (Go.Operand.tmp 4), type := 28, pos := "l5_spread.go:167", after := #[], guard := none }) (v := ?_) rfl (by kernel_rfl) (by kernel_rfl) (by kernel_rfl) (fun _ _ _ h => h) (Or.inl ⟨by rfl, ?_⟩) (by assumption) ?_
                  rotate_left
                  · intro w hSw; (try dsimp only at hSw); go_simp; (try with_reducible rfl)
                  simp only [Act.put, List.setIfInBounds_toArray, List.set_cons_zero, List.set_cons_succ]
                  refine wpAnyH_take (i := 1) (oi := { dst := some 55, op := Go.Op.load 28 (Go.Operand.tmp 5), type := 28, pos := "l5_spread.go:167", after := #[{ on := 2, ground := Go.Ground.gcOnly Go.Departure.lateStores }], guard := none }) (v := ?_) rfl (by kernel_rfl) (by kernel_rfl) (by kernel_rfl) (fun _ _ _ h => h) (Or.inl ⟨by rfl, ?_⟩) (by assumption) ?_
                  rotate_left
                  · intro w hSw; (try dsimp only at hSw); go_simp; (try with_reducible rfl)
                  simp only [Act.put, List.setIfInBounds_toArray, List.set_cons_zero, List.set_cons_succ]
                  have z_q := hR.get 2 rfl
                  have z_c := fun j => cell_of_row V13 _ j _ _ _ z_q
                  have z_f := fun j => frozen_of_row V13 _ j _ _ z_q
                  clear z_q
                  refine wpAnyH_ready (rs := [2]) (by kernel_rfl) (by simp) ?_
                  refine AllReadyH.cons (o := { dst := none, op := Go.Op.store 28 (Go.Operand.tmp 2) (Go.Operand.tmp 54), type := 0, pos := "l5_spread.go:167", after := #[{ on := 0, ground := Go.Ground.data }, { on := 0, ground := Go.Ground.phase }, { on := 1, ground := Go.Ground.textOnly Go.Departure.lateStores }], guard := none }) rfl (fun K hK => ?_) AllReadyH.nil
                  go_simp
                  clear z_c z_f
                  have hR : Rk5 w B g A len cap zs _ [(w.heap.size, (.cells #[.int .i64 0, .int .i64 0, .int .i64 0, .int .i64 0, .int .i64 0, .int .i64 0] 28 (0, 0))), (k4, (.cells #[.int .i64 v0, .int .i64 v1, .int .i64 v2, .int .i64 v3, .int .i64 v4, .int .i64 v5] 28 (0, 0))), (k5, (.cells #[.int .i64 p0, .int .i64 p1, .int .i64 p2, .int .i64 p3, .int .i64 p4, .int .i64 p5] 28 (0, 0))), (w.heap.size + 1, (.cells #[.int .i64 0, .int .i64 0, .int .i64 0, .int .i64 0, .int .i64 0, .int .i64 0] 28 (0, 0)))] V13 := hR.idx [2, 0, 1, 3] rfl
                  have hR := (Rk5.set (.int .i64 v0) (.int .i64 v1) (.int .i64 v2) (.int .i64 v3) (.int .i64 v4) (.int .i64 v5) hR hgl (Nat.le_refl _) (by intro p hp; simp only [List.mem_cons, List.mem_nil_iff, or_false] at hp; rcases hp with rfl | rfl | rfl <;> (show _ ≠ _; omega)))
                  have hR := hR.idx [1, 2, 0, 3] rfl
                  refine hK.out _ _ ?_ (fun hHeld => ?_)
                  · (try dsimp only)
                    exact cells2 (hR.get 0 rfl) (hR.get 1 rfl)
                  clear hK K
                  (try simp only [Act.put, List.setIfInBounds_toArray, List.set_cons_zero, List.set_cons_succ])
                  generalize (World.setCell _ _ _ : World) = V14 at hR hHeld ⊢
                  have y_q := hR.get 3 rfl
                  have y_c := fun j => cell_of_row V14 _ j _ _ _ y_q
                  have y_f := fun j => frozen_of_row V14 _ j _ _ y_q
                  clear y_q
                  refine wpAnyH_ready (rs := [3]) (by kernel_rfl) (by simp) ?_
                  refine AllReadyH.cons (o := { dst := none, op := Go.Op.store 28 (Go.Operand.tmp 3) (Go.Operand.tmp 55), type := 0, pos := "l5_spread.go:167", after := #[{ on := 1, ground := Go.Ground.data }, { on := 2, ground := Go.Ground.chain }, { on := 0, ground := Go.Ground.phase }, { on := 1, ground := Go.Ground.phase }, { on := 2, ground := Go.Ground.phase }], guard := none }) rfl (fun K hK => ?_) AllReadyH.nil
                  go_simp
                  clear y_c y_f
                  have hR : Rk5 w B g A len cap zs _ [(w.heap.size + 1, (.cells #[.int .i64 0, .int .i64 0, .int .i64 0, .int .i64 0, .int .i64 0, .int .i64 0] 28 (0, 0))), (k4, (.cells #[.int .i64 v0, .int .i64 v1, .int .i64 v2, .int .i64 v3, .int .i64 v4, .int .i64 v5] 28 (0, 0))), (k5, (.cells #[.int .i64 p0, .int .i64 p1, .int .i64 p2, .int .i64 p3, .int .i64 p4, .int .i64 p5] 28 (0, 0))), (w.heap.size, (.cells #[.int .i64 v0, .int .i64 v1, .int .i64 v2, .int .i64 v3, .int .i64 v4, .int .i64 v5] 28 (0, 0)))] V14 := hR.idx [3, 0, 1, 2] rfl
                  have hR := (Rk5.set (.int .i64 p0) (.int .i64 p1) (.int .i64 p2) (.int .i64 p3) (.int .i64 p4) (.int .i64 p5) hR hgl (Nat.le_succ _) (by intro p hp; simp only [List.mem_cons, List.mem_nil_iff, or_false] at hp; rcases hp with rfl | rfl | rfl <;> (show _ ≠ _; omega)))
                  have hR := hR.idx [1, 2, 3, 0] rfl
                  refine hK.out _ _ ?_ (fun hHeld => ?_)
                  · (try dsimp only)
                    exact cells2 (hR.get 0 rfl) (hR.get 1 rfl)
                  clear hK K
                  (try simp only [Act.put, List.setIfInBounds_toArray, List.set_cons_zero, List.set_cons_succ])
                  generalize (World.setCell _ _ _ : World) = V15 at hR hHeld ⊢
                  refine wpAnyH_done (by kernel_rfl) ?_ _
                  clear hHeld
                  have z_q := hR.get 2 rfl
                  have y_q := hR.get 3 rfl
                  have z_c := fun j => cell_of_row V15 _ j _ _ _ z_q
                  have y_c := fun j => cell_of_row V15 _ j _ _ _ y_q
                  clear z_q y_q
                  go_wp2_with fail
                  exact bodyPost_ret (v := .tuple #[.agg #[.int .i64 v0, .int .i64 v1, .int .i64 v2, .int .i64 v3, .int .i64 v4, .int .i64 v5], .agg #[.int .i64 p0, .int .i64 p1, .int .i64 p2, .int .i64 p3, .int .i64 p4, .int .i64 p5]]) (by simp [results, Try.results173, go_sem, z_c, y_c]) rfl ⟨v0, v1, v2, v3, v4, v5, p0, p1, p2, p3, p4, p5, Ok6.wf v0 v1 v2 v3 v4 v5 OV.out, HP.out, rfl, hR.1.mono (by omega)⟩
                · skip
                  refine AllReadyH.cons (o := { dst := some 50, op := Go.Op.call { callee := Go.Callee.value (Go.Operand.func 158), args := #[Go.Operand.tmp 49, Go.Operand.const (Go.Value.int Go.IntKind.i64 6)], argTypes := #[135, 3] }, type := 3, pos := "l5_spread.go:164", after := #[{ on := 1, ground := Go.Ground.data }], guard := none }) rfl (fun K hK => ?_) AllReadyH.nil
                  go_simp
                  have hcu := hR.1.1
                  (go_at_call 158; (with_reducible refine (pick_any 6 B g A len cap zs (m + 210 + 2 + 2) _ hcu (by omega) (by omega) (by omega)).mono ?_); rintro e V8 ⟨x, rfl, hx0, hx1, hc⟩; go_wp2_with fail)
                  clear hcu
                  have hx : 0 ≤ x ∧ x ≤ 5 := by omega
                  have hR := hR.step hc
                  clear hc
                  refine hK.out _ _ trivial (fun hHeld => ?_)
                  clear hK K hHeld
                  (try simp only [Act.put, List.setIfInBounds_toArray, List.set_cons_zero, List.set_cons_succ])
                  refine wpAnyH_ready (rs := [0, 4]) (by kernel_rfl) (by simp) ?_
                  refine AllReadyH.cons (o := { dst := some 48, op := Go.Op.load 28 (Go.Operand.tmp 4), type := 28, pos := "l5_spread.go:164", after := #[], guard := none }) rfl (fun K hK => ?_) ?_
                  · skip
                    have z_q := hR.get 0 rfl
                    have z_c := fun j => cell_of_row V8 _ j _ _ _ z_q
                    have z_f := fun j => frozen_of_row V8 _ j _ _ z_q
                    clear z_q
                    go_simp
                    clear z_c z_f
                    refine hK.out _ _ trivial (fun hHeld => ?_)
                    clear hK K hHeld
                    (try simp only [Act.put, List.setIfInBounds_toArray, List.set_cons_zero, List.set_cons_succ])
                    refine wpAnyH_ready (rs := [4]) (by kernel_rfl) (by simp) ?_
                    refine AllReadyH.cons (o := { dst := some 52, op := Go.Op.call { callee := Go.Callee.value (Go.Operand.func 158), args := #[Go.Operand.tmp 51, Go.Operand.const (Go.Value.int Go.IntKind.i64 6)], argTypes := #[135, 3] }, type := 3, pos := "l5_spread.go:164", after := #[{ on := 3, ground := Go.Ground.data }, { on := 2, ground := Go.Ground.chain }], guard := none }) rfl (fun K hK => ?_) AllReadyH.nil
                    go_simp
                    have hcu := hR.1.1
                    (go_at_call 158; (with_reducible refine (pick_any 6 B g A len cap zs (m + 210 + 2 + 2 + 2) _ hcu (by omega) (by omega) (by omega)).mono ?_); rintro e V9 ⟨y, rfl, hy0, hy1, hc⟩; go_wp2_with fail)
                    clear hcu
                    have hy : 0 ≤ y ∧ y ≤ 5 := by omega
                    have hR := hR.step hc
                    clear hc
                    refine hK.out _ _ trivial (fun hHeld => ?_)
                    clear hK K hHeld
                    (try simp only [Act.put, List.setIfInBounds_toArray, List.set_cons_zero, List.set_cons_succ])
                    refine wpAnyH_ready (rs := [5]) (by kernel_rfl) (by simp) ?_
                    refine AllReadyH.cons (o := { dst := some 53, op := Go.Op.call { callee := Go.Callee.value (Go.Operand.func 231), args := #[Go.Operand.tmp 48, Go.Operand.tmp 50, Go.Operand.tmp 52], argTypes := #[28, 3, 3] }, type := 28, pos := "l5_spread.go:164", after := #[{ on := 0, ground := Go.Ground.data }, { on := 2, ground := Go.Ground.data }, { on := 4, ground := Go.Ground.data }, { on := 4, ground := Go.Ground.chain }], guard := none }) rfl (fun K hK => ?_) AllReadyH.nil
                    go_simp
                    obtain ⟨v0, v1, v2, v3, v4, v5, ov, hv⟩ := flip_ok b0 b1 b2 b3 b4 b5 OBB.out x y hx hy
                    (go_at_call 231; (with_reducible refine (hv _).mono ?_); rintro e V10 ⟨rfl, hb⟩; go_wp2_with fail)
                    have hR := hR.below hb rfl
                    have OV := Lib.hid ov
                    clear hb hv ov
                    refine hK.out _ _ trivial (fun hHeld => ?_)
                    clear hK K hHeld
                    (try simp only [Act.put, List.setIfInBounds_toArray, List.set_cons_zero, List.set_cons_succ])
                    have z_q := hR.get 0 rfl
                    have z_c := fun j => cell_of_row V10 _ j _ _ _ z_q
                    have z_f := fun j => frozen_of_row V10 _ j _ _ z_q
                    clear z_q
                    refine wpAnyH_ready (rs := [6]) (by kernel_rfl) (by simp) ?_
                    refine AllReadyH.cons (o := { dst := none, op := Go.Op.store 28 (Go.Operand.tmp 4) (Go.Operand.tmp 53), type := 0, pos := "l5_spread.go:164", after := #[{ on := 5, ground := Go.Ground.data }, { on := 5, ground := Go.Ground.chain }, { on := 0, ground := Go.Ground.phase }, { on := 1, ground := Go.Ground.phase }, { on := 2, ground := Go.Ground.phase }, { on := 3, ground := Go.Ground.phase }, { on := 4, ground := Go.Ground.phase }, { on := 5, ground := Go.Ground.phase }], guard := none }) rfl (fun K hK => ?_) AllReadyH.nil
                    go_simp
                    clear z_c z_f
                    have hR := Rk5.set (.int .i64 v0) (.int .i64 v1) (.int .i64 v2) (.int .i64 v3) (.int .i64 v4) (.int .i64 v5) hR hgl (by omega) (by intro p hp; simp only [List.mem_cons, List.mem_nil_iff, or_false] at hp; rcases hp with rfl | rfl | rfl <;> (show _ ≠ _; omega))
                    generalize (World.setCell _ _ _ : World) = V12 at hR ⊢
                    refine hK.out _ _ trivial (fun hHeld => ?_)
                    clear hK K hHeld
                    (try simp only [Act.put, List.setIfInBounds_toArray, List.set_cons_zero, List.set_cons_succ])
                    refine wpAnyH_done (by kernel_rfl) ?_ _
                    have HQ := Lib.hid hR
                    clear hR
                    go_wp2_with fail
                    have hR := HQ.out
                    clear HQ
                    refine wp_region_held_drew (S := (fun U => U.cell? ⟨k4, 0, none⟩ = some (.int .i64 v0) ∧ U.cell? ⟨k4, 1, none⟩ = some (.int .i64 v1) ∧ U.cell? ⟨k4, 2, none⟩ = some (.int .i64 v2) ∧ U.cell? ⟨k4, 3, none⟩ = some (.int .i64 v3) ∧ U.cell? ⟨k4, 4, none⟩ = some (.int .i64 v4) ∧ U.cell? ⟨k4, 5, none⟩ = some (.int .i64 v5) ∧ U.cell? ⟨k5, 0, none⟩ = some (.int .i64 p0) ∧ U.cell? ⟨k5, 1, none⟩ = some (.int .i64 p1) ∧ U.cell? ⟨k5, 2, none⟩ = some (.int .i64 p2) ∧ U.cell? ⟨k5, 3, none⟩ = some (.int .i64 p3) ∧ U.cell? ⟨k5, 4, none⟩ = some (.int .i64 p4) ∧ U.cell? ⟨k5, 5, none⟩ = some (.int .i64 p5))) (by kernel_rfl) ?_ (fun hHeld => ?_)
                    · (try dsimp only)
                      exact cells2 (hR.drew.get 0 rfl) (hR.drew.get 1 rfl)
                    have hR := hR.drew
                    generalize V12.drew = V13 at hR hHeld ⊢
                    refine wpAnyH_take (i := 0) (oi := { dst := some 54, op := Go.Op.load 28 (Go.Operand.tmp 4), type := 28, pos := "l5_spread.go:167", after := #[], guard := none }) (v := ?_) rfl (by kernel_rfl) (by kernel_rfl) (by kernel_rfl) (fun _ _ _ h => h) (Or.inl ⟨by rfl, ?_⟩) (by assumption) ?_
                    rotate_left
                    · intro w hSw; (try dsimp only at hSw); go_simp; (try with_reducible rfl)
                    simp only [Act.put, List.setIfInBounds_toArray, List.set_cons_zero, List.set_cons_succ]
                    refine wpAnyH_take (i := 1) (oi := { dst := some 55, op := Go.Op.load 28 (Go.Operand.tmp 5), type := 28, pos := "l5_spread.go:167", after := #[{ on := 2, ground := Go.Ground.gcOnly Go.Departure.lateStores }], guard := none }) (v := ?_) rfl (by kernel_rfl) (by kernel_rfl) (by kernel_rfl) (fun _ _ _ h => h) (Or.inl ⟨by rfl, ?_⟩) (by assumption) ?_
                    rotate_left
                    · intro w hSw; (try dsimp only at hSw); go_simp; (try with_reducible rfl)
                    simp only [Act.put, List.setIfInBounds_toArray, List.set_cons_zero, List.set_cons_succ]
                    have z_q := hR.get 2 rfl
                    have z_c := fun j => cell_of_row V13 _ j _ _ _ z_q
                    have z_f := fun j => frozen_of_row V13 _ j _ _ z_q
                    clear z_q
                    refine wpAnyH_ready (rs := [2]) (by kernel_rfl) (by simp) ?_
                    refine AllReadyH.cons (o := { dst := none, op := Go.Op.store 28 (Go.Operand.tmp 2) (Go.Operand.tmp 54), type := 0, pos := "l5_spread.go:167", after := #[{ on := 0, ground := Go.Ground.data }, { on := 0, ground := Go.Ground.phase }, { on := 1, ground := Go.Ground.textOnly Go.Departure.lateStores }], guard := none }) rfl (fun K hK => ?_) AllReadyH.nil
                    go_simp
                    clear z_c z_f
                    have hR : Rk5 w B g A len cap zs _ [(w.heap.size, (.cells #[.int .i64 0, .int .i64 0, .int .i64 0, .int .i64 0, .int .i64 0, .int .i64 0] 28 (0, 0))), (k4, (.cells #[.int .i64 v0, .int .i64 v1, .int .i64 v2, .int .i64 v3, .int .i64 v4, .int .i64 v5] 28 (0, 0))), (k5, (.cells #[.int .i64 p0, .int .i64 p1, .int .i64 p2, .int .i64 p3, .int .i64 p4, .int .i64 p5] 28 (0, 0))), (w.heap.size + 1, (.cells #[.int .i64 0, .int .i64 0, .int .i64 0, .int .i64 0, .int .i64 0, .int .i64 0] 28 (0, 0)))] V13 := hR.idx [2, 0, 1, 3] rfl
                    have hR := (Rk5.set (.int .i64 v0) (.int .i64 v1) (.int .i64 v2) (.int .i64 v3) (.int .i64 v4) (.int .i64 v5) hR hgl (Nat.le_refl _) (by intro p hp; simp only [List.mem_cons, List.mem_nil_iff, or_false] at hp; rcases hp with rfl | rfl | rfl <;> (show _ ≠ _; omega)))
                    have hR := hR.idx [1, 2, 0, 3] rfl
                    refine hK.out _ _ ?_ (fun hHeld => ?_)
                    · (try dsimp only)
                      exact cells2 (hR.get 0 rfl) (hR.get 1 rfl)
                    clear hK K
                    (try simp only [Act.put, List.setIfInBounds_toArray, List.set_cons_zero, List.set_cons_succ])
                    generalize (World.setCell _ _ _ : World) = V14 at hR hHeld ⊢
                    have y_q := hR.get 3 rfl
                    have y_c := fun j => cell_of_row V14 _ j _ _ _ y_q
                    have y_f := fun j => frozen_of_row V14 _ j _ _ y_q
                    clear y_q
                    refine wpAnyH_ready (rs := [3]) (by kernel_rfl) (by simp) ?_
                    refine AllReadyH.cons (o := { dst := none, op := Go.Op.store 28 (Go.Operand.tmp 3) (Go.Operand.tmp 55), type := 0, pos := "l5_spread.go:167", after := #[{ on := 1, ground := Go.Ground.data }, { on := 2, ground := Go.Ground.chain }, { on := 0, ground := Go.Ground.phase }, { on := 1, ground := Go.Ground.phase }, { on := 2, ground := Go.Ground.phase }], guard := none }) rfl (fun K hK => ?_) AllReadyH.nil
                    go_simp
                    clear y_c y_f
                    have hR : Rk5 w B g A len cap zs _ [(w.heap.size + 1, (.cells #[.int .i64 0, .int .i64 0, .int .i64 0, .int .i64 0, .int .i64 0, .int .i64 0] 28 (0, 0))), (k4, (.cells #[.int .i64 v0, .int .i64 v1, .int .i64 v2, .int .i64 v3, .int .i64 v4, .int .i64 v5] 28 (0, 0))), (k5, (.cells #[.int .i64 p0, .int .i64 p1, .int .i64 p2, .int .i64 p3, .int .i64 p4, .int .i64 p5] 28 (0, 0))), (w.heap.size, (.cells #[.int .i64 v0, .int .i64 v1, .int .i64 v2, .int .i64 v3, .int .i64 v4, .int .i64 v5] 28 (0, 0)))] V14 := hR.idx [3, 0, 1, 2] rfl
                    have hR := (Rk5.set (.int .i64 p0) (.int .i64 p1) (.int .i64 p2) (.int .i64 p3) (.int .i64 p4) (.int .i64 p5) hR hgl (Nat.le_succ _) (by intro p hp; simp only [List.mem_cons, List.mem_nil_iff, or_false] at hp; rcases hp with rfl | rfl | rfl <;> (show _ ≠ _; omega)))
                    have hR := hR.idx [1, 2, 3, 0] rfl
                    refine hK.out _ _ ?_ (fun hHeld => ?_)
                    · (try dsimp only)
                      exact cells2 (hR.get 0 rfl) (hR.get 1 rfl)
                    clear hK K
                    (try simp only [Act.put, List.setIfInBounds_toArray, List.set_cons_zero, List.set_cons_succ])
                    generalize (World.setCell _ _ _ : World) = V15 at hR hHeld ⊢
                    refine wpAnyH_done (by kernel_rfl) ?_ _
                    clear hHeld
                    have z_q := hR.get 2 rfl
                    have y_q := hR.get 3 rfl
                    have z_c := fun j => cell_of_row V15 _ j _ _ _ z_q
                    have y_c := fun j => cell_of_row V15 _ j _ _ _ y_q
                    clear z_q y_q
                    go_wp2_with fail
                    exact bodyPost_ret (v := .tuple #[.agg #[.int .i64 v0, .int .i64 v1, .int .i64 v2, .int .i64 v3, .int .i64 v4, .int .i64 v5], .agg #[.int .i64 p0, .int .i64 p1, .int .i64 p2, .int .i64 p3, .int .i64 p4, .int .i64 p5]]) (by simp [results, Try.results173, go_sem, z_c, y_c]) rfl ⟨v0, v1, v2, v3, v4, v5, p0, p1, p2, p3, p4, p5, Ok6.wf v0 v1 v2 v3 v4 v5 OV.out, HP.out, rfl, hR.1.mono (by omega)⟩
                  · skip
                    refine AllReadyH.cons (o := { dst := some 52, op := Go.Op.call { callee := Go.Callee.value (Go.Operand.func 158), args := #[Go.Operand.tmp 51, Go.Operand.const (Go.Value.int Go.IntKind.i64 6)], argTypes := #[135, 3] }, type := 3, pos := "l5_spread.go:164", after := #[{ on := 3, ground := Go.Ground.data }, { on := 2, ground := Go.Ground.chain }], guard := none }) rfl (fun K hK => ?_) AllReadyH.nil
                    go_simp
                    have hcu := hR.1.1
                    (go_at_call 158; (with_reducible refine (pick_any 6 B g A len cap zs (m + 210 + 2 + 2 + 2) _ hcu (by omega) (by omega) (by omega)).mono ?_); rintro e V9 ⟨y, rfl, hy0, hy1, hc⟩; go_wp2_with fail)
                    clear hcu
                    have hy : 0 ≤ y ∧ y ≤ 5 := by omega
                    have hR := hR.step hc
                    clear hc
                    refine hK.out _ _ trivial (fun hHeld => ?_)
                    clear hK K hHeld
                    (try simp only [Act.put, List.setIfInBounds_toArray, List.set_cons_zero, List.set_cons_succ])
                    refine wpAnyH_ready (rs := [0]) (by kernel_rfl) (by simp) ?_
                    refine AllReadyH.cons (o := { dst := some 48, op := Go.Op.load 28 (Go.Operand.tmp 4), type := 28, pos := "l5_spread.go:164", after := #[], guard := none }) rfl (fun K hK => ?_) AllReadyH.nil
                    have z_q := hR.get 0 rfl
                    have z_c := fun j => cell_of_row V9 _ j _ _ _ z_q
                    have z_f := fun j => frozen_of_row V9 _ j _ _ z_q
                    clear z_q
                    go_simp
                    clear z_c z_f
                    refine hK.out _ _ trivial (fun hHeld => ?_)
                    clear hK K hHeld
                    (try simp only [Act.put, List.setIfInBounds_toArray, List.set_cons_zero, List.set_cons_succ])
                    refine wpAnyH_ready (rs := [5]) (by kernel_rfl) (by simp) ?_
                    refine AllReadyH.cons (o := { dst := some 53, op := Go.Op.call { callee := Go.Callee.value (Go.Operand.func 231), args := #[Go.Operand.tmp 48, Go.Operand.tmp 50, Go.Operand.tmp 52], argTypes := #[28, 3, 3] }, type := 28, pos := "l5_spread.go:164", after := #[{ on := 0, ground := Go.Ground.data }, { on := 2, ground := Go.Ground.data }, { on := 4, ground := Go.Ground.data }, { on := 4, ground := Go.Ground.chain }], guard := none }) rfl (fun K hK => ?_) AllReadyH.nil
                    go_simp
                    obtain ⟨v0, v1, v2, v3, v4, v5, ov, hv⟩ := flip_ok b0 b1 b2 b3 b4 b5 OBB.out x y hx hy
                    (go_at_call 231; (with_reducible refine (hv _).mono ?_); rintro e V10 ⟨rfl, hb⟩; go_wp2_with fail)
                    have hR := hR.below hb rfl
                    have OV := Lib.hid ov
                    clear hb hv ov
                    refine hK.out _ _ trivial (fun hHeld => ?_)
                    clear hK K hHeld
                    (try simp only [Act.put, List.setIfInBounds_toArray, List.set_cons_zero, List.set_cons_succ])
                    have z_q := hR.get 0 rfl
                    have z_c := fun j => cell_of_row V10 _ j _ _ _ z_q
                    have z_f := fun j => frozen_of_row V10 _ j _ _ z_q
                    clear z_q
                    refine wpAnyH_ready (rs := [6]) (by kernel_rfl) (by simp) ?_
                    refine AllReadyH.cons (o := { dst := none, op := Go.Op.store 28 (Go.Operand.tmp 4) (Go.Operand.tmp 53), type := 0, pos := "l5_spread.go:164", after := #[{ on := 5, ground := Go.Ground.data }, { on := 5, ground := Go.Ground.chain }, { on := 0, ground := Go.Ground.phase }, { on := 1, ground := Go.Ground.phase }, { on := 2, ground := Go.Ground.phase }, { on := 3, ground := Go.Ground.phase }, { on := 4, ground := Go.Ground.phase }, { on := 5, ground := Go.Ground.phase }], guard := none }) rfl (fun K hK => ?_) AllReadyH.nil
                    go_simp
                    clear z_c z_f
                    have hR := Rk5.set (.int .i64 v0) (.int .i64 v1) (.int .i64 v2) (.int .i64 v3) (.int .i64 v4) (.int .i64 v5) hR hgl (by omega) (by intro p hp; simp only [List.mem_cons, List.mem_nil_iff, or_false] at hp; rcases hp with rfl | rfl | rfl <;> (show _ ≠ _; omega))
                    generalize (World.setCell _ _ _ : World) = V12 at hR ⊢
                    refine hK.out _ _ trivial (fun hHeld => ?_)
                    clear hK K hHeld
                    (try simp only [Act.put, List.setIfInBounds_toArray, List.set_cons_zero, List.set_cons_succ])
                    refine wpAnyH_done (by kernel_rfl) ?_ _
                    have HQ := Lib.hid hR
                    clear hR
                    go_wp2_with fail
                    have hR := HQ.out
                    clear HQ
                    refine wp_region_held_drew (S := (fun U => U.cell? ⟨k4, 0, none⟩ = some (.int .i64 v0) ∧ U.cell? ⟨k4, 1, none⟩ = some (.int .i64 v1) ∧ U.cell? ⟨k4, 2, none⟩ = some (.int .i64 v2) ∧ U.cell? ⟨k4, 3, none⟩ = some (.int .i64 v3) ∧ U.cell? ⟨k4, 4, none⟩ = some (.int .i64 v4) ∧ U.cell? ⟨k4, 5, none⟩ = some (.int .i64 v5) ∧ U.cell? ⟨k5, 0, none⟩ = some (.int .i64 p0) ∧ U.cell? ⟨k5, 1, none⟩ = some (.int .i64 p1) ∧ U.cell? ⟨k5, 2, none⟩ = some (.int .i64 p2) ∧ U.cell? ⟨k5, 3, none⟩ = some (.int .i64 p3) ∧ U.cell? ⟨k5, 4, none⟩ = some (.int .i64 p4) ∧ U.cell? ⟨k5, 5, none⟩ = some (.int .i64 p5))) (by kernel_rfl) ?_ (fun hHeld => ?_)
                    · (try dsimp only)
                      exact cells2 (hR.drew.get 0 rfl) (hR.drew.get 1 rfl)
                    have hR := hR.drew
                    generalize V12.drew = V13 at hR hHeld ⊢
                    refine wpAnyH_take (i := 0) (oi := { dst := some 54, op := Go.Op.load 28 (Go.Operand.tmp 4), type := 28, pos := "l5_spread.go:167", after := #[], guard := none }) (v := ?_) rfl (by kernel_rfl) (by kernel_rfl) (by kernel_rfl) (fun _ _ _ h => h) (Or.inl ⟨by rfl, ?_⟩) (by assumption) ?_
                    rotate_left
                    · intro w hSw; (try dsimp only at hSw); go_simp; (try with_reducible rfl)
                    simp only [Act.put, List.setIfInBounds_toArray, List.set_cons_zero, List.set_cons_succ]
                    refine wpAnyH_take (i := 1) (oi := { dst := some 55, op := Go.Op.load 28 (Go.Operand.tmp 5), type := 28, pos := "l5_spread.go:167", after := #[{ on := 2, ground := Go.Ground.gcOnly Go.Departure.lateStores }], guard := none }) (v := ?_) rfl (by kernel_rfl) (by kernel_rfl) (by kernel_rfl) (fun _ _ _ h => h) (Or.inl ⟨by rfl, ?_⟩) (by assumption) ?_
                    rotate_left
                    · intro w hSw; (try dsimp only at hSw); go_simp; (try with_reducible rfl)
                    simp only [Act.put, List.setIfInBounds_toArray, List.set_cons_zero, List.set_cons_succ]
                    have z_q := hR.get 2 rfl
                    have z_c := fun j => cell_of_row V13 _ j _ _ _ z_q
                    have z_f := fun j => frozen_of_row V13 _ j _ _ z_q
                    clear z_q
                    refine wpAnyH_ready (rs := [2]) (by kernel_rfl) (by simp) ?_
                    refine AllReadyH.cons (o := { dst := none, op := Go.Op.store 28 (Go.Operand.tmp 2) (Go.Operand.tmp 54), type := 0, pos := "l5_spread.go:167", after := #[{ on := 0, ground := Go.Ground.data }, { on := 0, ground := Go.Ground.phase }, { on := 1, ground := Go.Ground.textOnly Go.Departure.lateStores }], guard := none }) rfl (fun K hK => ?_) AllReadyH.nil
                    go_simp
                    clear z_c z_f
                    have hR : Rk5 w B g A len cap zs _ [(w.heap.size, (.cells #[.int .i64 0, .int .i64 0, .int .i64 0, .int .i64 0, .int .i64 0, .int .i64 0] 28 (0, 0))), (k4, (.cells #[.int .i64 v0, .int .i64 v1, .int .i64 v2, .int .i64 v3, .int .i64 v4, .int .i64 v5] 28 (0, 0))), (k5, (.cells #[.int .i64 p0, .int .i64 p1, .int .i64 p2, .int .i64 p3, .int .i64 p4, .int .i64 p5] 28 (0, 0))), (w.heap.size + 1, (.cells #[.int .i64 0, .int .i64 0, .int .i64 0, .int .i64 0, .int .i64 0, .int .i64 0] 28 (0, 0)))] V13 := hR.idx [2, 0, 1, 3] rfl
                    have hR := (Rk5.set (.int .i64 v0) (.int .i64 v1) (.int .i64 v2) (.int .i64 v3) (.int .i64 v4) (.int .i64 v5) hR hgl (Nat.le_refl _) (by intro p hp; simp only [List.mem_cons, List.mem_nil_iff, or_false] at hp; rcases hp with rfl | rfl | rfl <;> (show _ ≠ _; omega)))
                    have hR := hR.idx [1, 2, 0, 3] rfl
                    refine hK.out _ _ ?_ (fun hHeld => ?_)
                    · (try dsimp only)
                      exact cells2 (hR.get 0 rfl) (hR.get 1 rfl)
                    clear hK K
                    (try simp only [Act.put, List.setIfInBounds_toArray, List.set_cons_zero, List.set_cons_succ])
                    generalize (World.setCell _ _ _ : World) = V14 at hR hHeld ⊢
                    have y_q := hR.get 3 rfl
                    have y_c := fun j => cell_of_row V14 _ j _ _ _ y_q
                    have y_f := fun j => frozen_of_row V14 _ j _ _ y_q
                    clear y_q
                    refine wpAnyH_ready (rs := [3]) (by kernel_rfl) (by simp) ?_
                    refine AllReadyH.cons (o := { dst := none, op := Go.Op.store 28 (Go.Operand.tmp 3) (Go.Operand.tmp 55), type := 0, pos := "l5_spread.go:167", after := #[{ on := 1, ground := Go.Ground.data }, { on := 2, ground := Go.Ground.chain }, { on := 0, ground := Go.Ground.phase }, { on := 1, ground := Go.Ground.phase }, { on := 2, ground := Go.Ground.phase }], guard := none }) rfl (fun K hK => ?_) AllReadyH.nil
                    go_simp
                    clear y_c y_f
                    have hR : Rk5 w B g A len cap zs _ [(w.heap.size + 1, (.cells #[.int .i64 0, .int .i64 0, .int .i64 0, .int .i64 0, .int .i64 0, .int .i64 0] 28 (0, 0))), (k4, (.cells #[.int .i64 v0, .int .i64 v1, .int .i64 v2, .int .i64 v3, .int .i64 v4, .int .i64 v5] 28 (0, 0))), (k5, (.cells #[.int .i64 p0, .int .i64 p1, .int .i64 p2, .int .i64 p3, .int .i64 p4, .int .i64 p5] 28 (0, 0))), (w.heap.size, (.cells #[.int .i64 v0, .int .i64 v1, .int .i64 v2, .int .i64 v3, .int .i64 v4, .int .i64 v5] 28 (0, 0)))] V14 := hR.idx [3, 0, 1, 2] rfl
                    have hR := (Rk5.set (.int .i64 p0) (.int .i64 p1) (.int .i64 p2) (.int .i64 p3) (.int .i64 p4) (.int .i64 p5) hR hgl (Nat.le_succ _) (by intro p hp; simp only [List.mem_cons, List.mem_nil_iff, or_false] at hp; rcases hp with rfl | rfl | rfl <;> (show _ ≠ _; omega)))
                    have hR := hR.idx [1, 2, 3, 0] rfl
                    refine hK.out _ _ ?_ (fun hHeld => ?_)
                    · (try dsimp only)
                      exact cells2 (hR.get 0 rfl) (hR.get 1 rfl)
                    clear hK K
                    (try simp only [Act.put, List.setIfInBounds_toArray, List.set_cons_zero, List.set_cons_succ])
                    generalize (World.setCell _ _ _ : World) = V15 at hR hHeld ⊢
                    refine wpAnyH_done (by kernel_rfl) ?_ _
                    clear hHeld
                    have z_q := hR.get 2 rfl
                    have y_q := hR.get 3 rfl
                    have z_c := fun j => cell_of_row V15 _ j _ _ _ z_q
                    have y_c := fun j => cell_of_row V15 _ j _ _ _ y_q
                    clear z_q y_q
                    go_wp2_with fail
                    exact bodyPost_ret (v := .tuple #[.agg #[.int .i64 v0, .int .i64 v1, .int .i64 v2, .int .i64 v3, .int .i64 v4, .int .i64 v5], .agg #[.int .i64 p0, .int .i64 p1, .int .i64 p2, .int .i64 p3, .int .i64 p4, .int .i64 p5]]) (by simp [results, Try.results173, go_sem, z_c, y_c]) rfl ⟨v0, v1, v2, v3, v4, v5, p0, p1, p2, p3, p4, p5, Ok6.wf v0 v1 v2 v3 v4 v5 OV.out, HP.out, rfl, hR.1.mono (by omega)⟩
/- Do5 -/
set_option maxHeartbeats 2000000 in
theorem draw_spread5 (B : Nat) (A : Option Addr) (len cap : Nat) (zs : List Int) (w : World) (h : CodeIn w B A len zs) (hB : B ≤ w.heap.size) (hl : len ≤ 65536) :
    Calls Try.prog 167 #[.slice A len cap] w (DtPost w) := by
  have H := Lib.hid h
  clear h
  go_enter Try.func167, Try.ntmps167
  go_wp2_with fail
  generalize hW : (World.alloc _ _ : World) = W0
  have HB := Lib.hid (show Below w.heap.size w W0 by rw [← hW]; (repeat (first | exact Below.refl _ _ | assumption | refine Below.setCell ?_ (by first | (simp; done) | (simp; omega)) _ | refine Below.alloc ?_ (by first | (simp; done) | (simp; omega)) _ | refine Below.drew ?_)))
  have Q0 := Lib.hid (show W0.heap[w.heap.size]? = some (.cells #[.int .i64 0, .int .i64 0, .int .i64 0, .int .i64 0, .int .i64 0, .int .i64 0] 28 (0, 0)) by rw [← hW]; exact alloc_past (alloc_past (alloc_at rfl)))
  have P0 := Lib.hid (show W0.heap[w.heap.size + 1]? = some (.cells #[.int .i64 0, .int .i64 0, .int .i64 0, .int .i64 0, .int .i64 0, .int .i64 0] 28 (0, 0)) by rw [← hW]; exact alloc_past (alloc_at (by simp)))
  have H0 := Lib.hid (show CuTo B (w.heap.size + 1 + 1) A len cap zs 0 W0 W0 by
    refine ⟨?_, g_refl _ _⟩
    rw [← hW]
    have e := cu_new (W := (w.alloc (.cells #[.int .i64 0, .int .i64 0, .int .i64 0, .int .i64 0, .int .i64 0, .int .i64 0] 28)).alloc (.cells #[.int .i64 0, .int .i64 0, .int .i64 0, .int .i64 0, .int .i64 0, .int .i64 0] 28)) (cap := cap) (H.out.below (((Below.refl _ _).alloc (Nat.le_refl _) _).alloc (by simp) _) hB) (by simp; omega) hl
    simpa using e)
  clear hW H
  generalize hg : w.heap.size + 1 + 1 = g at H0 ⊢
  refine (spread5_dr B g A len cap zs 0 W0 H0.out.1 (by omega)).mono ?_
  rintro e W1 ⟨r0, r1, r2, r3, r4, r5, s0, s1, s2, s3, s4, s5, hr, hs, rfl, hc⟩
  have H2 := Lib.hid (H0.out.step hc)
  have HR := Lib.hid hr
  have HS := Lib.hid hs
  have q := rowg Q0.out hc.2 (by omega)
  have p := rowg P0.out hc.2 (by omega)
  clear hc hr hs H0 Q0 P0
  have z_c := fun j => cell_of_row W1 _ j _ _ _ q
  have z_f := fun j => frozen_of_row W1 _ j _ _ q
  have y_c := fun j => cell_of_row W1 _ j _ _ _ p
  have y_f := fun j => frozen_of_row W1 _ j _ _ p
  have HB2 := Lib.hid (below_to HB.out H2.out.2 (by omega))
  clear q p
  go_wp2_with fail
  refine bodyPost_ret (v := .tuple #[.agg #[.int .i64 r0, .int .i64 r1, .int .i64 r2, .int .i64 r3, .int .i64 r4, .int .i64 r5], .agg #[.int .i64 s0, .int .i64 s1, .int .i64 s2, .int .i64 s3, .int .i64 s4, .int .i64 s5]]) (by simp [results, Try.results167, go_sem, z_c, y_c]) rfl ⟨r0, r1, r2, r3, r4, r5, s0, s1, s2, s3, s4, s5, HR.out, HS.out, rfl, ?_⟩
  exact below6 (below6 HB2.out (Nat.le_refl _)) (by omega)
set_option maxHeartbeats 1000000 in
theorem draw_isopened (B : Nat) (A : Option Addr) (len cap : Nat) (zs : List Int) (w : World) (h : CodeIn w B A len zs) (hB : B ≤ w.heap.size) (hl : len ≤ 65536) :
    Calls Try.prog 61 #[.slice A len cap] w (DtPost w) := by
  have H := Lib.hid h
  clear h
  go_enter Try.func61, Try.ntmps61
  go_wp2_with fail
  generalize hW : (World.alloc _ _ : World) = W0
  have HB := Lib.hid (show Below w.heap.size w W0 by rw [← hW]; (repeat (first | exact Below.refl _ _ | assumption | refine Below.setCell ?_ (by first | (simp; done) | (simp; omega)) _ | refine Below.alloc ?_ (by first | (simp; done) | (simp; omega)) _ | refine Below.drew ?_)))
  have Q0 := Lib.hid (show W0.heap[w.heap.size]? = some (.cells #[.int .i64 0, .int .i64 0, .int .i64 0, .int .i64 0, .int .i64 0, .int .i64 0] 28 (0, 0)) by rw [← hW]; exact alloc_past (alloc_at rfl))
  have P0 := Lib.hid (show W0.heap[w.heap.size + 1]? = some (.cells #[.int .i64 0, .int .i64 0, .int .i64 0, .int .i64 0, .int .i64 0, .int .i64 0] 28 (0, 0)) by rw [← hW]; exact alloc_at (by simp))
  clear hW
  refine (draw_spread5 B A len cap zs W0 (H.out.below HB.out hB) (Nat.le_trans hB HB.out.size) hl).mono ?_
  rintro e W1 ⟨r0, r1, r2, r3, r4, r5, s0, s1, s2, s3, s4, s5, hr, hs, rfl, hb⟩
  have HR := Lib.hid hr
  have HS := Lib.hid hs
  have q := rowk Q0.out hb rfl
  have p := rowk P0.out hb rfl
  have HB2 := Lib.hid (below_of HB.out hb HB.out.size)
  clear hb hr hs
  have z_c := fun j => cell_of_row W1 _ j _ _ _ q
  have z_f := fun j => frozen_of_row W1 _ j _ _ q
  have y_c := fun j => cell_of_row W1 _ j _ _ _ p
  have y_f := fun j => frozen_of_row W1 _ j _ _ p
  clear q p
  go_wp2_with fail
  refine bodyPost_ret (v := .tuple #[.agg #[.int .i64 r0, .int .i64 r1, .int .i64 r2, .int .i64 r3, .int .i64 r4, .int .i64 r5], .agg #[.int .i64 s0, .int .i64 s1, .int .i64 s2, .int .i64 s3, .int .i64 s4, .int .i64 s5]]) (by simp [results, Try.results61, go_sem, z_c, y_c]) rfl ⟨r0, r1, r2, r3, r4, r5, s0, s1, s2, s3, s4, s5, HR.out, HS.out, rfl, ?_⟩
  exact below6 (below6 HB2.out (Nat.le_refl _)) (by omega)
theorem Rk5.new {w : World} {B : Nat} {A : Option Addr} {len cap : Nat} {zs : List Int} (h : CodeIn w B A len zs) (hB : B ≤ w.heap.size) (hl : len ≤ 65536) : Rk5 (((w.alloc (.cells #[.int .i64 0, .int .i64 0, .int .i64 0, .int .i64 0, .int .i64 0, .int .i64 0] 28)).alloc (.cells #[.int .i64 0, .int .i64 0, .int .i64 0, .int .i64 0, .int .i64 0, .int .i64 0] 28)).alloc (.cells #[.slice A len cap, .int .i64 0, .int .u64 0] 137)) B (w.heap.size + 1 + 1) A len cap zs 0 [(w.heap.size, (.cells #[.int .i64 0, .int .i64 0, .int .i64 0, .int .i64 0, .int .i64 0, .int .i64 0] 28 (0, 0))), (w.heap.size + 1, (.cells #[.int .i64 0, .int .i64 0, .int .i64 0, .int .i64 0, .int .i64 0, .int .i64 0] 28 (0, 0)))] (((w.alloc (.cells #[.int .i64 0, .int .i64 0, .int .i64 0, .int .i64 0, .int .i64 0, .int .i64 0] 28)).alloc (.cells #[.int .i64 0, .int .i64 0, .int .i64 0, .int .i64 0, .int .i64 0, .int .i64 0] 28)).alloc (.cells #[.slice A len cap, .int .i64 0, .int .u64 0] 137)) := by
  have e := cu_new (W := ((w.alloc (.cells #[.int .i64 0, .int .i64 0, .int .i64 0, .int .i64 0, .int .i64 0, .int .i64 0] 28)).alloc (.cells #[.int .i64 0, .int .i64 0, .int .i64 0, .int .i64 0, .int .i64 0, .int .i64 0] 28))) (cap := cap) (h.below (((Below.refl _ _).alloc (Nat.le_refl _) _).alloc (by simp) _) hB) (by simp; omega) hl
  refine ⟨⟨by simpa using e, g_refl _ _⟩, ?_⟩
  intro p hp
  simp only [List.mem_cons, List.mem_nil_iff, or_false] at hp
  rcases hp with rfl | rfl
  · exact ⟨alloc_past (alloc_past (alloc_at rfl)), by show w.heap.size ≠ _; omega⟩
  · exact ⟨alloc_past (alloc_at (by simp)), by show w.heap.size + 1 ≠ _; omega⟩
set_option maxRecDepth 8000 in
set_option maxHeartbeats 4000000 in
theorem draw_isclosed (B : Nat) (A : Option Addr) (len cap : Nat) (zs : List Int) (w : World) (h : CodeIn w B A len zs) (hB : B ≤ w.heap.size) (hl : len ≤ 65536) :
    Calls Try.prog 68 #[.slice A len cap] w (DtPost w) := by
  have H := Lib.hid h
  clear h
  go_enter Try.func68, Try.ntmps68
  go_wp2_with fail
  have hR := Rk5.new (cap := cap) H.out hB hl
  have hB0 : Below w.heap.size w (((w.alloc (.cells #[.int .i64 0, .int .i64 0, .int .i64 0, .int .i64 0, .int .i64 0, .int .i64 0] 28)).alloc (.cells #[.int .i64 0, .int .i64 0, .int .i64 0, .int .i64 0, .int .i64 0, .int .i64 0] 28)).alloc (.cells #[.slice A len cap, .int .i64 0, .int .u64 0] 137)) := by (repeat (first | exact Below.refl _ _ | assumption | refine Below.setCell ?_ (by first | (simp; done) | (simp; omega)) _ | refine Below.alloc ?_ (by first | (simp; done) | (simp; omega)) _ | refine Below.drew ?_))
  clear H
  generalize hg : w.heap.size + 1 + 1 = g at hR ⊢
  generalize (World.alloc (World.alloc (World.alloc w _) _) _ : World) = W0 at hR hB0 ⊢
  have HB := Lib.hid hB0
  have HR := Lib.hid hR
  have hg0 : g < W0.heap.size := hR.1.1.glt
  clear hR hB0
  refine (spread5_dr B g A len cap zs 0 W0 HR.out.1.1 (by omega)).mono ?_
  rintro e W1 ⟨r0, r1, r2, r3, r4, r5, s0, s1, s2, s3, s4, s5, hr, hs, rfl, hc⟩
  have HRw := Lib.hid hr
  have HS := Lib.hid hs
  have HQ := Lib.hid (HR.out.step hc)
  clear hr hs hc HR
  have hgl : g < W1.heap.size := HQ.out.1.1.glt
  have HQW := Lib.hid (show W0.heap.size ≤ W1.heap.size from HQ.out.1.2.size)
  go_wp2_with fail
  have hR : Rk5 W0 B g A len cap zs (0 + 250) [(W1.heap.size, (.cells #[.int .i64 r0, .int .i64 r1, .int .i64 r2, .int .i64 r3, .int .i64 r4, .int .i64 r5] 28 (0, 0))), (W1.heap.size + 1, (.cells #[.int .i64 s0, .int .i64 s1, .int .i64 s2, .int .i64 s3, .int .i64 s4, .int .i64 s5] 28 (0, 0))), (w.heap.size, (.cells #[.int .i64 0, .int .i64 0, .int .i64 0, .int .i64 0, .int .i64 0, .int .i64 0] 28 (0, 0))), (w.heap.size + 1, (.cells #[.int .i64 0, .int .i64 0, .int .i64 0, .int .i64 0, .int .i64 0, .int .i64 0] 28 (0, 0)))] ((W1.alloc (.cells #[.int .i64 r0, .int .i64 r1, .int .i64 r2, .int .i64 r3, .int .i64 r4, .int .i64 r5] 28)).alloc (.cells #[.int .i64 s0, .int .i64 s1, .int .i64 s2, .int .i64 s3, .int .i64 s4, .int .i64 s5] 28)) := by
    have h0 := Rk5.put (Rk5.put HQ.out (.cells #[.int .i64 r0, .int .i64 r1, .int .i64 r2, .int .i64 r3, .int .i64 r4, .int .i64 r5] 28) W1.heap.size rfl) (.cells #[.int .i64 s0, .int .i64 s1, .int .i64 s2, .int .i64 s3, .int .i64 s4, .int .i64 s5] 28) (W1.heap.size + 1) (by simp)
    exact h0.idx [1, 0, 2, 3] rfl
  clear HQ
  generalize hk7 : W1.heap.size + 1 = k7 at hR ⊢
  generalize hk6 : W1.heap.size = k6 at hR hgl hk7 HQW ⊢
  generalize (World.alloc _ _ : World) = W3 at hR ⊢
  obtain ⟨bs, hbs⟩ : ∃ b, (ok r0 && ok r1 && ok r2 && ok r3 && ok r4 && ok r5) = b := ⟨_, rfl⟩
  obtain ⟨bp, hbp⟩ : ∃ b, (ok s0 && ok s1 && ok s2 && ok s3 && ok s4 && ok s5) = b := ⟨_, rfl⟩
  have HBs := sh_as r0 r1 r2 r3 r4 r5 hbs
  have HBp := sh_as s0 s1 s2 s3 s4 s5 hbp
  have HbS := Lib.hid hbs
  have HbP := Lib.hid hbp
  clear hbs hbp
  refine (HBs.out W3).mono ?_
  rintro e W4 ⟨rfl, hb⟩
  have hR := hR.below hb rfl
  clear hb HBs
  cases bs
  case false =>
    have HQ := Lib.hid hR
    clear hR
    go_wp2_with fail
    have hR := HQ.out
    clear HQ
    have hq := hR.get 2 rfl
    have hp := hR.get 3 rfl
    have hD : Dd w k6 k7 r0 r1 r2 r3 r4 r5 s0 s1 s2 s3 s4 s5 W4 := ⟨hR.get 0 rfl, hR.get 1 rfl, below_to HB.out hR.1.2 (by omega)⟩
    clear hR
    refine wp_region_held_drew (S := (fun U => U.cell? ⟨k6, 0, none⟩ = some (.int .i64 r0) ∧ U.cell? ⟨k6, 1, none⟩ = some (.int .i64 r1) ∧ U.cell? ⟨k6, 2, none⟩ = some (.int .i64 r2) ∧ U.cell? ⟨k6, 3, none⟩ = some (.int .i64 r3) ∧ U.cell? ⟨k6, 4, none⟩ = some (.int .i64 r4) ∧ U.cell? ⟨k6, 5, none⟩ = some (.int .i64 r5) ∧ U.cell? ⟨k7, 0, none⟩ = some (.int .i64 s0) ∧ U.cell? ⟨k7, 1, none⟩ = some (.int .i64 s1) ∧ U.cell? ⟨k7, 2, none⟩ = some (.int .i64 s2) ∧ U.cell? ⟨k7, 3, none⟩ = some (.int .i64 s3) ∧ U.cell? ⟨k7, 4, none⟩ = some (.int .i64 s4) ∧ U.cell? ⟨k7, 5, none⟩ = some (.int .i64 s5) ∧ Dd w k6 k7 r0 r1 r2 r3 r4 r5 s0 s1 s2 s3 s4 s5 U)) (by kernel_rfl) ?_ (fun hHeld => ?_)
    · (try dsimp only)
      exact SKd hD.drew
    have hD := hD.drew
    have hq := drew_row hq
    have hp := drew_row hp
    generalize W4.drew = V13 at hD hq hp hHeld ⊢
    refine wpAnyH_take (i := 0) (oi := { dst := some 28, op := Go.Op.load 28 (Go.Operand.tmp 5), type := 28, pos := "l5_spread.go:217", after := #[], guard := none }) (v := ?_) rfl (by kernel_rfl) (by kernel_rfl) (by kernel_rfl) (fun _ _ _ h => h) (Or.inl ⟨by rfl, ?_⟩) (by assumption) ?_
    rotate_left
    · intro w hSw; (try dsimp only at hSw); go_simp; (try with_reducible rfl)
    simp only [Act.put, List.setIfInBounds_toArray, List.set_cons_zero, List.set_cons_succ]
    refine wpAnyH_take (i := 1) (oi := { dst := some 29, op := Go.Op.load 28 (Go.Operand.tmp 6), type := 28, pos := "l5_spread.go:217", after := #[{ on := 2, ground := Go.Ground.gcOnly Go.Departure.lateStores }], guard := none }) (v := ?_) rfl (by kernel_rfl) (by kernel_rfl) (by kernel_rfl) (fun _ _ _ h => h) (Or.inl ⟨by rfl, ?_⟩) (by assumption) ?_
    rotate_left
    · intro w hSw; (try dsimp only at hSw); go_simp; (try with_reducible rfl)
    simp only [Act.put, List.setIfInBounds_toArray, List.set_cons_zero, List.set_cons_succ]
    have z_c := fun j => cell_of_row V13 _ j _ _ _ hq
    have z_f := fun j => frozen_of_row V13 _ j _ _ hq
    have y_c := fun j => cell_of_row V13 _ j _ _ _ hp
    have y_f := fun j => frozen_of_row V13 _ j _ _ hp
    refine wpAnyH_ready (rs := [2]) (by kernel_rfl) (by simp) ?_
    refine AllReadyH.cons (o := { dst := none, op := Go.Op.store 28 (Go.Operand.tmp 2) (Go.Operand.tmp 28), type := 0, pos := "l5_spread.go:217", after := #[{ on := 0, ground := Go.Ground.data }, { on := 0, ground := Go.Ground.phase }, { on := 1, ground := Go.Ground.textOnly Go.Departure.lateStores }], guard := none }) rfl (fun K hK => ?_) AllReadyH.nil
    go_simp
    have hD := (((((hD.set (g := w.heap.size) (i := 0) (v := .int .i64 r0) (by omega) (by omega) (Nat.le_refl _)).set (g := w.heap.size) (i := 1) (v := .int .i64 r1) (by omega) (by omega) (Nat.le_refl _)).set (g := w.heap.size) (i := 2) (v := .int .i64 r2) (by omega) (by omega) (Nat.le_refl _)).set (g := w.heap.size) (i := 3) (v := .int .i64 r3) (by omega) (by omega) (Nat.le_refl _)).set (g := w.heap.size) (i := 4) (v := .int .i64 r4) (by omega) (by omega) (Nat.le_refl _)).set (g := w.heap.size) (i := 5) (v := .int .i64 r5) (by omega) (by omega) (Nat.le_refl _)
    refine hK.out _ _ ?_ (fun hHeld => ?_)
    · (try dsimp only)
      exact SKd hD
    clear hK K
    (try simp only [Act.put, List.setIfInBounds_toArray, List.set_cons_zero, List.set_cons_succ])
    refine wpAnyH_ready (rs := [3]) (by kernel_rfl) (by simp) ?_
    refine AllReadyH.cons (o := { dst := none, op := Go.Op.store 28 (Go.Operand.tmp 3) (Go.Operand.tmp 29), type := 0, pos := "l5_spread.go:217", after := #[{ on := 1, ground := Go.Ground.data }, { on := 2, ground := Go.Ground.chain }, { on := 0, ground := Go.Ground.phase }, { on := 1, ground := Go.Ground.phase }, { on := 2, ground := Go.Ground.phase }], guard := none }) rfl (fun K hK => ?_) AllReadyH.nil
    go_simp
    have hD := (((((hD.set (g := w.heap.size + 1) (i := 0) (v := .int .i64 s0) (by omega) (by omega) (Nat.le_succ _)).set (g := w.heap.size + 1) (i := 1) (v := .int .i64 s1) (by omega) (by omega) (Nat.le_succ _)).set (g := w.heap.size + 1) (i := 2) (v := .int .i64 s2) (by omega) (by omega) (Nat.le_succ _)).set (g := w.heap.size + 1) (i := 3) (v := .int .i64 s3) (by omega) (by omega) (Nat.le_succ _)).set (g := w.heap.size + 1) (i := 4) (v := .int .i64 s4) (by omega) (by omega) (Nat.le_succ _)).set (g := w.heap.size + 1) (i := 5) (v := .int .i64 s5) (by omega) (by omega) (Nat.le_succ _)
    refine hK.out _ _ ?_ (fun hHeld => ?_)
    · (try dsimp only)
      exact SKd hD
    clear hK K
    (try simp only [Act.put, List.setIfInBounds_toArray, List.set_cons_zero, List.set_cons_succ])
    refine wpAnyH_done (by kernel_rfl) ?_ _
    have h12 := set12 (r0 := r0) (r1 := r1) (r2 := r2) (r3 := r3) (r4 := r4) (r5 := r5) (s0 := s0) (s1 := s1) (s2 := s2) (s3 := s3) (s4 := s4) (s5 := s5) (show w.heap.size ≠ w.heap.size + 1 by omega) hq hp
    have hB := hD.2.2
    clear hHeld hD z_c z_f y_c y_f hq hp
    generalize (World.setCell _ _ _ : World) = X at h12 hB ⊢
    have z_c := fun j => cell_of_row X _ j _ _ _ h12.1
    have y_c := fun j => cell_of_row X _ j _ _ _ h12.2
    clear h12
    go_wp2_with fail
    exact bodyPost_ret (v := .tuple #[.agg #[.int .i64 r0, .int .i64 r1, .int .i64 r2, .int .i64 r3, .int .i64 r4, .int .i64 r5], .agg #[.int .i64 s0, .int .i64 s1, .int .i64 s2, .int .i64 s3, .int .i64 s4, .int .i64 s5]]) (by simp [results, Try.results68, go_sem, z_c, y_c]) rfl ⟨r0, r1, r2, r3, r4, r5, s0, s1, s2, s3, s4, s5, HRw.out, HS.out, rfl, hB⟩
  case true =>
    have c_q := hR.get 1 rfl
    have c_c := fun j => cell_of_row W4 _ j _ _ _ c_q
    have c_f := fun j => frozen_of_row W4 _ j _ _ c_q
    clear c_q
    have HQ := Lib.hid hR
    clear hR
    go_wp2_with fail
    refine (HBp.out W4).mono ?_
    rintro e W5 ⟨rfl, hb⟩
    have hR := HQ.out.below hb rfl
    clear hb HBp HQ c_c c_f
    cases bp
    case false =>
      have HQ := Lib.hid hR
      clear hR
      go_wp2_with fail
      have hR := HQ.out
      clear HQ
      have hq := hR.get 2 rfl
      have hp := hR.get 3 rfl
      have hD : Dd w k6 k7 r0 r1 r2 r3 r4 r5 s0 s1 s2 s3 s4 s5 W5 := ⟨hR.get 0 rfl, hR.get 1 rfl, below_to HB.out hR.1.2 (by omega)⟩
      clear hR
      refine wp_region_held_drew (S := (fun U => U.cell? ⟨k6, 0, none⟩ = some (.int .i64 r0) ∧ U.cell? ⟨k6, 1, none⟩ = some (.int .i64 r1) ∧ U.cell? ⟨k6, 2, none⟩ = some (.int .i64 r2) ∧ U.cell? ⟨k6, 3, none⟩ = some (.int .i64 r3) ∧ U.cell? ⟨k6, 4, none⟩ = some (.int .i64 r4) ∧ U.cell? ⟨k6, 5, none⟩ = some (.int .i64 r5) ∧ U.cell? ⟨k7, 0, none⟩ = some (.int .i64 s0) ∧ U.cell? ⟨k7, 1, none⟩ = some (.int .i64 s1) ∧ U.cell? ⟨k7, 2, none⟩ = some (.int .i64 s2) ∧ U.cell? ⟨k7, 3, none⟩ = some (.int .i64 s3) ∧ U.cell? ⟨k7, 4, none⟩ = some (.int .i64 s4) ∧ U.cell? ⟨k7, 5, none⟩ = some (.int .i64 s5) ∧ Dd w k6 k7 r0 r1 r2 r3 r4 r5 s0 s1 s2 s3 s4 s5 U)) (by kernel_rfl) ?_ (fun hHeld => ?_)
      · (try dsimp only)
        exact SKd hD.drew
      have hD := hD.drew
      have hq := drew_row hq
      have hp := drew_row hp
      generalize W5.drew = V13 at hD hq hp hHeld ⊢
      refine wpAnyH_take (i := 0) (oi := { dst := some 28, op := Go.Op.load 28 (Go.Operand.tmp 5), type := 28, pos := "l5_spread.go:217", after := #[], guard := none }) (v := ?_) rfl (by kernel_rfl) (by kernel_rfl) (by kernel_rfl) (fun _ _ _ h => h) (Or.inl ⟨by rfl, ?_⟩) (by assumption) ?_
      rotate_left
      · intro w hSw; (try dsimp only at hSw); go_simp; (try with_reducible rfl)
      simp only [Act.put, List.setIfInBounds_toArray, List.set_cons_zero, List.set_cons_succ]
      refine wpAnyH_take (i := 1) (oi := { dst := some 29, op := Go.Op.load 28 (Go.Operand.tmp 6), type := 28, pos := "l5_spread.go:217", after := #[{ on := 2, ground := Go.Ground.gcOnly Go.Departure.lateStores }], guard := none }) (v := ?_) rfl (by kernel_rfl) (by kernel_rfl) (by kernel_rfl) (fun _ _ _ h => h) (Or.inl ⟨by rfl, ?_⟩) (by assumption) ?_
      rotate_left
      · intro w hSw; (try dsimp only at hSw); go_simp; (try with_reducible rfl)
      simp only [Act.put, List.setIfInBounds_toArray, List.set_cons_zero, List.set_cons_succ]
      have z_c := fun j => cell_of_row V13 _ j _ _ _ hq
      have z_f := fun j => frozen_of_row V13 _ j _ _ hq
      have y_c := fun j => cell_of_row V13 _ j _ _ _ hp
      have y_f := fun j => frozen_of_row V13 _ j _ _ hp
      refine wpAnyH_ready (rs := [2]) (by kernel_rfl) (by simp) ?_
      refine AllReadyH.cons (o := { dst := none, op := Go.Op.store 28 (Go.Operand.tmp 2) (Go.Operand.tmp 28), type := 0, pos := "l5_spread.go:217", after := #[{ on := 0, ground := Go.Ground.data }, { on := 0, ground := Go.Ground.phase }, { on := 1, ground := Go.Ground.textOnly Go.Departure.lateStores }], guard := none }) rfl (fun K hK => ?_) AllReadyH.nil
      go_simp
      have hD := (((((hD.set (g := w.heap.size) (i := 0) (v := .int .i64 r0) (by omega) (by omega) (Nat.le_refl _)).set (g := w.heap.size) (i := 1) (v := .int .i64 r1) (by omega) (by omega) (Nat.le_refl _)).set (g := w.heap.size) (i := 2) (v := .int .i64 r2) (by omega) (by omega) (Nat.le_refl _)).set (g := w.heap.size) (i := 3) (v := .int .i64 r3) (by omega) (by omega) (Nat.le_refl _)).set (g := w.heap.size) (i := 4) (v := .int .i64 r4) (by omega) (by omega) (Nat.le_refl _)).set (g := w.heap.size) (i := 5) (v := .int .i64 r5) (by omega) (by omega) (Nat.le_refl _)
      refine hK.out _ _ ?_ (fun hHeld => ?_)
      · (try dsimp only)
        exact SKd hD
      clear hK K
      (try simp only [Act.put, List.setIfInBounds_toArray, List.set_cons_zero, List.set_cons_succ])
      refine wpAnyH_ready (rs := [3]) (by kernel_rfl) (by simp) ?_
      refine AllReadyH.cons (o := { dst := none, op := Go.Op.store 28 (Go.Operand.tmp 3) (Go.Operand.tmp 29), type := 0, pos := "l5_spread.go:217", after := #[{ on := 1, ground := Go.Ground.data }, { on := 2, ground := Go.Ground.chain }, { on := 0, ground := Go.Ground.phase }, { on := 1, ground := Go.Ground.phase }, { on := 2, ground := Go.Ground.phase }], guard := none }) rfl (fun K hK => ?_) AllReadyH.nil
      go_simp
      have hD := (((((hD.set (g := w.heap.size + 1) (i := 0) (v := .int .i64 s0) (by omega) (by omega) (Nat.le_succ _)).set (g := w.heap.size + 1) (i := 1) (v := .int .i64 s1) (by omega) (by omega) (Nat.le_succ _)).set (g := w.heap.size + 1) (i := 2) (v := .int .i64 s2) (by omega) (by omega) (Nat.le_succ _)).set (g := w.heap.size + 1) (i := 3) (v := .int .i64 s3) (by omega) (by omega) (Nat.le_succ _)).set (g := w.heap.size + 1) (i := 4) (v := .int .i64 s4) (by omega) (by omega) (Nat.le_succ _)).set (g := w.heap.size + 1) (i := 5) (v := .int .i64 s5) (by omega) (by omega) (Nat.le_succ _)
      refine hK.out _ _ ?_ (fun hHeld => ?_)
      · (try dsimp only)
        exact SKd hD
      clear hK K
      (try simp only [Act.put, List.setIfInBounds_toArray, List.set_cons_zero, List.set_cons_succ])
      refine wpAnyH_done (by kernel_rfl) ?_ _
      have h12 := set12 (r0 := r0) (r1 := r1) (r2 := r2) (r3 := r3) (r4 := r4) (r5 := r5) (s0 := s0) (s1 := s1) (s2 := s2) (s3 := s3) (s4 := s4) (s5 := s5) (show w.heap.size ≠ w.heap.size + 1 by omega) hq hp
      have hB := hD.2.2
      clear hHeld hD z_c z_f y_c y_f hq hp
      generalize (World.setCell _ _ _ : World) = X at h12 hB ⊢
      have z_c := fun j => cell_of_row X _ j _ _ _ h12.1
      have y_c := fun j => cell_of_row X _ j _ _ _ h12.2
      clear h12
      go_wp2_with fail
      exact bodyPost_ret (v := .tuple #[.agg #[.int .i64 r0, .int .i64 r1, .int .i64 r2, .int .i64 r3, .int .i64 r4, .int .i64 r5], .agg #[.int .i64 s0, .int .i64 s1, .int .i64 s2, .int .i64 s3, .int .i64 s4, .int .i64 s5]]) (by simp [results, Try.results68, go_sem, z_c, y_c]) rfl ⟨r0, r1, r2, r3, r4, r5, s0, s1, s2, s3, s4, s5, HRw.out, HS.out, rfl, hB⟩
    case true =>
      have HQ := Lib.hid hR
      clear hR
      go_wp2_with fail
      refine (one_any 2 B g A len cap zs (0 + 250) W5 HQ.out.1.1 (by omega) (by omega) (by omega)).mono ?_
      rintro e W6 ⟨bo, rfl, hc⟩
      have hR := HQ.out.step hc
      clear hc HQ
      cases bo
      case false =>
        have HQ := Lib.hid hR
        clear hR
        go_wp2_with fail
        have hR := HQ.out
        clear HQ
        have hq := hR.get 2 rfl
        have hp := hR.get 3 rfl
        have hD : Dd w k6 k7 r0 r1 r2 r3 r4 r5 s0 s1 s2 s3 s4 s5 W6 := ⟨hR.get 0 rfl, hR.get 1 rfl, below_to HB.out hR.1.2 (by omega)⟩
        clear hR
        refine wp_region_held_drew (S := (fun U => U.cell? ⟨k6, 0, none⟩ = some (.int .i64 r0) ∧ U.cell? ⟨k6, 1, none⟩ = some (.int .i64 r1) ∧ U.cell? ⟨k6, 2, none⟩ = some (.int .i64 r2) ∧ U.cell? ⟨k6, 3, none⟩ = some (.int .i64 r3) ∧ U.cell? ⟨k6, 4, none⟩ = some (.int .i64 r4) ∧ U.cell? ⟨k6, 5, none⟩ = some (.int .i64 r5) ∧ U.cell? ⟨k7, 0, none⟩ = some (.int .i64 s0) ∧ U.cell? ⟨k7, 1, none⟩ = some (.int .i64 s1) ∧ U.cell? ⟨k7, 2, none⟩ = some (.int .i64 s2) ∧ U.cell? ⟨k7, 3, none⟩ = some (.int .i64 s3) ∧ U.cell? ⟨k7, 4, none⟩ = some (.int .i64 s4) ∧ U.cell? ⟨k7, 5, none⟩ = some (.int .i64 s5) ∧ Dd w k6 k7 r0 r1 r2 r3 r4 r5 s0 s1 s2 s3 s4 s5 U)) (by kernel_rfl) ?_ (fun hHeld => ?_)
        · (try dsimp only)
          exact SKd hD.drew
        have hD := hD.drew
        have hq := drew_row hq
        have hp := drew_row hp
        generalize W6.drew = V13 at hD hq hp hHeld ⊢
        refine wpAnyH_take (i := 0) (oi := { dst := some 28, op := Go.Op.load 28 (Go.Operand.tmp 5), type := 28, pos := "l5_spread.go:217", after := #[], guard := none }) (v := ?_) rfl (by kernel_rfl) (by kernel_rfl) (by kernel_rfl) (fun _ _ _ h => h) (Or.inl ⟨by rfl, ?_⟩) (by assumption) ?_
        rotate_left
        · intro w hSw; (try dsimp only at hSw); go_simp; (try with_reducible rfl)
        simp only [Act.put, List.setIfInBounds_toArray, List.set_cons_zero, List.set_cons_succ]
        refine wpAnyH_take (i := 1) (oi := { dst := some 29, op := Go.Op.load 28 (Go.Operand.tmp 6), type := 28, pos := "l5_spread.go:217", after := #[{ on := 2, ground := Go.Ground.gcOnly Go.Departure.lateStores }], guard := none }) (v := ?_) rfl (by kernel_rfl) (by kernel_rfl) (by kernel_rfl) (fun _ _ _ h => h) (Or.inl ⟨by rfl, ?_⟩) (by assumption) ?_
        rotate_left
        · intro w hSw; (try dsimp only at hSw); go_simp; (try with_reducible rfl)
        simp only [Act.put, List.setIfInBounds_toArray, List.set_cons_zero, List.set_cons_succ]
        have z_c := fun j => cell_of_row V13 _ j _ _ _ hq
        have z_f := fun j => frozen_of_row V13 _ j _ _ hq
        have y_c := fun j => cell_of_row V13 _ j _ _ _ hp
        have y_f := fun j => frozen_of_row V13 _ j _ _ hp
        refine wpAnyH_ready (rs := [2]) (by kernel_rfl) (by simp) ?_
        refine AllReadyH.cons (o := { dst := none, op := Go.Op.store 28 (Go.Operand.tmp 2) (Go.Operand.tmp 28), type := 0, pos := "l5_spread.go:217", after := #[{ on := 0, ground := Go.Ground.data }, { on := 0, ground := Go.Ground.phase }, { on := 1, ground := Go.Ground.textOnly Go.Departure.lateStores }], guard := none }) rfl (fun K hK => ?_) AllReadyH.nil
        go_simp
        have hD := (((((hD.set (g := w.heap.size) (i := 0) (v := .int .i64 r0) (by omega) (by omega) (Nat.le_refl _)).set (g := w.heap.size) (i := 1) (v := .int .i64 r1) (by omega) (by omega) (Nat.le_refl _)).set (g := w.heap.size) (i := 2) (v := .int .i64 r2) (by omega) (by omega) (Nat.le_refl _)).set (g := w.heap.size) (i := 3) (v := .int .i64 r3) (by omega) (by omega) (Nat.le_refl _)).set (g := w.heap.size) (i := 4) (v := .int .i64 r4) (by omega) (by omega) (Nat.le_refl _)).set (g := w.heap.size) (i := 5) (v := .int .i64 r5) (by omega) (by omega) (Nat.le_refl _)
        refine hK.out _ _ ?_ (fun hHeld => ?_)
        · (try dsimp only)
          exact SKd hD
        clear hK K
        (try simp only [Act.put, List.setIfInBounds_toArray, List.set_cons_zero, List.set_cons_succ])
        refine wpAnyH_ready (rs := [3]) (by kernel_rfl) (by simp) ?_
        refine AllReadyH.cons (o := { dst := none, op := Go.Op.store 28 (Go.Operand.tmp 3) (Go.Operand.tmp 29), type := 0, pos := "l5_spread.go:217", after := #[{ on := 1, ground := Go.Ground.data }, { on := 2, ground := Go.Ground.chain }, { on := 0, ground := Go.Ground.phase }, { on := 1, ground := Go.Ground.phase }, { on := 2, ground := Go.Ground.phase }], guard := none }) rfl (fun K hK => ?_) AllReadyH.nil
        go_simp
        have hD := (((((hD.set (g := w.heap.size + 1) (i := 0) (v := .int .i64 s0) (by omega) (by omega) (Nat.le_succ _)).set (g := w.heap.size + 1) (i := 1) (v := .int .i64 s1) (by omega) (by omega) (Nat.le_succ _)).set (g := w.heap.size + 1) (i := 2) (v := .int .i64 s2) (by omega) (by omega) (Nat.le_succ _)).set (g := w.heap.size + 1) (i := 3) (v := .int .i64 s3) (by omega) (by omega) (Nat.le_succ _)).set (g := w.heap.size + 1) (i := 4) (v := .int .i64 s4) (by omega) (by omega) (Nat.le_succ _)).set (g := w.heap.size + 1) (i := 5) (v := .int .i64 s5) (by omega) (by omega) (Nat.le_succ _)
        refine hK.out _ _ ?_ (fun hHeld => ?_)
        · (try dsimp only)
          exact SKd hD
        clear hK K
        (try simp only [Act.put, List.setIfInBounds_toArray, List.set_cons_zero, List.set_cons_succ])
        refine wpAnyH_done (by kernel_rfl) ?_ _
        have h12 := set12 (r0 := r0) (r1 := r1) (r2 := r2) (r3 := r3) (r4 := r4) (r5 := r5) (s0 := s0) (s1 := s1) (s2 := s2) (s3 := s3) (s4 := s4) (s5 := s5) (show w.heap.size ≠ w.heap.size + 1 by omega) hq hp
        have hB := hD.2.2
        clear hHeld hD z_c z_f y_c y_f hq hp
        generalize (World.setCell _ _ _ : World) = X at h12 hB ⊢
        have z_c := fun j => cell_of_row X _ j _ _ _ h12.1
        have y_c := fun j => cell_of_row X _ j _ _ _ h12.2
        clear h12
        go_wp2_with fail
        exact bodyPost_ret (v := .tuple #[.agg #[.int .i64 r0, .int .i64 r1, .int .i64 r2, .int .i64 r3, .int .i64 r4, .int .i64 r5], .agg #[.int .i64 s0, .int .i64 s1, .int .i64 s2, .int .i64 s3, .int .i64 s4, .int .i64 s5]]) (by simp [results, Try.results68, go_sem, z_c, y_c]) rfl ⟨r0, r1, r2, r3, r4, r5, s0, s1, s2, s3, s4, s5, HRw.out, HS.out, rfl, hB⟩
      case true =>
        obtain ⟨c0, c1, c2, c3, c4, c5, oc, hc0⟩ := close_ok r0 r1 r2 r3 r4 r5 s0 s1 s2 s3 s4 s5 (Ok6.of r0 r1 r2 r3 r4 r5 HbS.out) (Ok6.of s0 s1 s2 s3 s4 s5 HbP.out)
        have HA := Lib.hid hc0
        have OC := Lib.hid oc
        clear hc0 oc
        have z_q := hR.get 0 rfl
        have z_c := fun j => cell_of_row W6 _ j _ _ _ z_q
        have z_f := fun j => frozen_of_row W6 _ j _ _ z_q
        clear z_q
        have y_q := hR.get 1 rfl
        have y_c := fun j => cell_of_row W6 _ j _ _ _ y_q
        have y_f := fun j => frozen_of_row W6 _ j _ _ y_q
        clear y_q
        have HQ := Lib.hid hR
        clear hR
        go_wp2_with fail
        refine (HA.out W6).mono ?_
        rintro e W7 ⟨rfl, hb⟩
        have hR := HQ.out.below hb rfl
        clear hb HQ z_c z_f y_c y_f HA
        have c_q := hR.get 0 rfl
        have c_c := fun j => cell_of_row W7 _ j _ _ _ c_q
        have c_f := fun j => frozen_of_row W7 _ j _ _ c_q
        clear c_q
        have HQ := Lib.hid hR
        clear hR
        go_wp2_with fail
        have hkw : W0.heap.size ≤ k6 := by have := HQW.out; omega
        have hR := Rk5.set (.int .i64 c0) (.int .i64 c1) (.int .i64 c2) (.int .i64 c3) (.int .i64 c4) (.int .i64 c5) HQ.out hg0 hkw (by intro p hp; simp only [List.mem_cons, List.mem_nil_iff, or_false] at hp; rcases hp with rfl | rfl | rfl <;> (show _ ≠ _; omega))
        clear HQ c_c c_f
        generalize (World.setCell _ _ _ : World) = W8 at hR ⊢
        have hq := hR.get 2 rfl
        have hp := hR.get 3 rfl
        have hD : Dd w k6 k7 c0 c1 c2 c3 c4 c5 s0 s1 s2 s3 s4 s5 W8 := ⟨hR.get 0 rfl, hR.get 1 rfl, below_to HB.out hR.1.2 (by omega)⟩
        clear hR
        refine wp_region_held_drew (S := (fun U => U.cell? ⟨k6, 0, none⟩ = some (.int .i64 c0) ∧ U.cell? ⟨k6, 1, none⟩ = some (.int .i64 c1) ∧ U.cell? ⟨k6, 2, none⟩ = some (.int .i64 c2) ∧ U.cell? ⟨k6, 3, none⟩ = some (.int .i64 c3) ∧ U.cell? ⟨k6, 4, none⟩ = some (.int .i64 c4) ∧ U.cell? ⟨k6, 5, none⟩ = some (.int .i64 c5) ∧ U.cell? ⟨k7, 0, none⟩ = some (.int .i64 s0) ∧ U.cell? ⟨k7, 1, none⟩ = some (.int .i64 s1) ∧ U.cell? ⟨k7, 2, none⟩ = some (.int .i64 s2) ∧ U.cell? ⟨k7, 3, none⟩ = some (.int .i64 s3) ∧ U.cell? ⟨k7, 4, none⟩ = some (.int .i64 s4) ∧ U.cell? ⟨k7, 5, none⟩ = some (.int .i64 s5) ∧ Dd w k6 k7 c0 c1 c2 c3 c4 c5 s0 s1 s2 s3 s4 s5 U)) (by kernel_rfl) ?_ (fun hHeld => ?_)
        · (try dsimp only)
          exact SKd hD.drew
        have hD := hD.drew
        have hq := drew_row hq
        have hp := drew_row hp
        generalize W8.drew = V13 at hD hq hp hHeld ⊢
        refine wpAnyH_take (i := 0) (oi := { dst := some 28, op := Go.Op.load 28 (Go.Operand.tmp 5), type := 28, pos := "l5_spread.go:217", after := #[], guard := none }) (v := ?_) rfl (by kernel_rfl) (by kernel_rfl) (by kernel_rfl) (fun _ _ _ h => h) (Or.inl ⟨by rfl, ?_⟩) (by assumption) ?_
        rotate_left
        · intro w hSw; (try dsimp only at hSw); go_simp; (try with_reducible rfl)
        simp only [Act.put, List.setIfInBounds_toArray, List.set_cons_zero, List.set_cons_succ]
        refine wpAnyH_take (i := 1) (oi := { dst := some 29, op := Go.Op.load 28 (Go.Operand.tmp 6), type := 28, pos := "l5_spread.go:217", after := #[{ on := 2, ground := Go.Ground.gcOnly Go.Departure.lateStores }], guard := none }) (v := ?_) rfl (by kernel_rfl) (by kernel_rfl) (by kernel_rfl) (fun _ _ _ h => h) (Or.inl ⟨by rfl, ?_⟩) (by assumption) ?_
        rotate_left
        · intro w hSw; (try dsimp only at hSw); go_simp; (try with_reducible rfl)
        simp only [Act.put, List.setIfInBounds_toArray, List.set_cons_zero, List.set_cons_succ]
        have z_c := fun j => cell_of_row V13 _ j _ _ _ hq
        have z_f := fun j => frozen_of_row V13 _ j _ _ hq
        have y_c := fun j => cell_of_row V13 _ j _ _ _ hp
        have y_f := fun j => frozen_of_row V13 _ j _ _ hp
        refine wpAnyH_ready (rs := [2]) (by kernel_rfl) (by simp) ?_
        refine AllReadyH.cons (o := { dst := none, op := Go.Op.store 28 (Go.Operand.tmp 2) (Go.Operand.tmp 28), type := 0, pos := "l5_spread.go:217", after := #[{ on := 0, ground := Go.Ground.data }, { on := 0, ground := Go.Ground.phase }, { on := 1, ground := Go.Ground.textOnly Go.Departure.lateStores }], guard := none }) rfl (fun K hK => ?_) AllReadyH.nil
        go_simp
        have hD := (((((hD.set (g := w.heap.size) (i := 0) (v := .int .i64 c0) (by omega) (by omega) (Nat.le_refl _)).set (g := w.heap.size) (i := 1) (v := .int .i64 c1) (by omega) (by omega) (Nat.le_refl _)).set (g := w.heap.size) (i := 2) (v := .int .i64 c2) (by omega) (by omega) (Nat.le_refl _)).set (g := w.heap.size) (i := 3) (v := .int .i64 c3) (by omega) (by omega) (Nat.le_refl _)).set (g := w.heap.size) (i := 4) (v := .int .i64 c4) (by omega) (by omega) (Nat.le_refl _)).set (g := w.heap.size) (i := 5) (v := .int .i64 c5) (by omega) (by omega) (Nat.le_refl _)
        refine hK.out _ _ ?_ (fun hHeld => ?_)
        · (try dsimp only)
          exact SKd hD
        clear hK K
        (try simp only [Act.put, List.setIfInBounds_toArray, List.set_cons_zero, List.set_cons_succ])
        refine wpAnyH_ready (rs := [3]) (by kernel_rfl) (by simp) ?_
        refine AllReadyH.cons (o := { dst := none, op := Go.Op.store 28 (Go.Operand.tmp 3) (Go.Operand.tmp 29), type := 0, pos := "l5_spread.go:217", after := #[{ on := 1, ground := Go.Ground.data }, { on := 2, ground := Go.Ground.chain }, { on := 0, ground := Go.Ground.phase }, { on := 1, ground := Go.Ground.phase }, { on := 2, ground := Go.Ground.phase }], guard := none }) rfl (fun K hK => ?_) AllReadyH.nil
        go_simp
        have hD := (((((hD.set (g := w.heap.size + 1) (i := 0) (v := .int .i64 s0) (by omega) (by omega) (Nat.le_succ _)).set (g := w.heap.size + 1) (i := 1) (v := .int .i64 s1) (by omega) (by omega) (Nat.le_succ _)).set (g := w.heap.size + 1) (i := 2) (v := .int .i64 s2) (by omega) (by omega) (Nat.le_succ _)).set (g := w.heap.size + 1) (i := 3) (v := .int .i64 s3) (by omega) (by omega) (Nat.le_succ _)).set (g := w.heap.size + 1) (i := 4) (v := .int .i64 s4) (by omega) (by omega) (Nat.le_succ _)).set (g := w.heap.size + 1) (i := 5) (v := .int .i64 s5) (by omega) (by omega) (Nat.le_succ _)
        refine hK.out _ _ ?_ (fun hHeld => ?_)
        · (try dsimp only)
          exact SKd hD
        clear hK K
        (try simp only [Act.put, List.setIfInBounds_toArray, List.set_cons_zero, List.set_cons_succ])
        refine wpAnyH_done (by kernel_rfl) ?_ _
        have h12 := set12 (r0 := c0) (r1 := c1) (r2 := c2) (r3 := c3) (r4 := c4) (r5 := c5) (s0 := s0) (s1 := s1) (s2 := s2) (s3 := s3) (s4 := s4) (s5 := s5) (show w.heap.size ≠ w.heap.size + 1 by omega) hq hp
        have hB := hD.2.2
        clear hHeld hD z_c z_f y_c y_f hq hp
        generalize (World.setCell _ _ _ : World) = X at h12 hB ⊢
        have z_c := fun j => cell_of_row X _ j _ _ _ h12.1
        have y_c := fun j => cell_of_row X _ j _ _ _ h12.2
        clear h12
        go_wp2_with fail
        exact bodyPost_ret (v := .tuple #[.agg #[.int .i64 c0, .int .i64 c1, .int .i64 c2, .int .i64 c3, .int .i64 c4, .int .i64 c5], .agg #[.int .i64 s0, .int .i64 s1, .int .i64 s2, .int .i64 s3, .int .i64 s4, .int .i64 s5]]) (by simp [results, Try.results68, go_sem, z_c, y_c]) rfl ⟨c0, c1, c2, c3, c4, c5, s0, s1, s2, s3, s4, s5, Ok6.wf c0 c1 c2 c3 c4 c5 OC.out, HS.out, rfl, hB⟩
end Go.Proofs.Ytbmfjcmlgndofaa
