/- PLAIN LEMMAS: slices of numbers under construction. -/
import Derived.Test.YtcjomhjgjdjigaaRk
import Derived.Test.YtcjomhjgjdjigaaCm
import Derived.Test.YtcjomhjgjdjigaaPi
import Derived.WalkKit
import Derived.ProofKit
import Derived.OpenShut
import Derived.Lib.Hide
import Derived.WalkSpells
import Derived.Below
import Derived.BigQuiet
import Derived.LoopN
namespace Go.Proofs.Ytcjomhjgjdjigaa
open Go.ChangeShapes Go.WideShapes Go.ChangeAt Go.RowKit
set_option linter.unusedVariables false
theorem KR.grown {n : Nat} {L : List (Nat × Obj)} {w W w1 : World} {o : Option Nat} (h : KR n L w W) (hg : W.grownBy w1 o) (ho : ∀ k, o = some k → w.heap.size + n ≤ k) : KR n L w w1 := by
  refine ⟨fun p hp => ⟨(h.1 p hp).1, ?_⟩, Nat.le_trans h.2.1 hg.size, h.2.2.grown hg (by have := h.2.1; omega) (fun k hk => by have := ho k hk; omega)⟩
  have h1 := (h.1 p hp).1
  have h2 := h.2.1
  rw [hg.block _ (by omega) (fun e2 => by have := ho _ e2.symm; omega)]
  exact (h.1 p hp).2
/-- The numbers below k that a test takes. -/
def nl7 (g : Nat → Bool) : Nat → List Nat
  | 0 => []
  | k + 1 => nl7 g k ++ (if g k then [k] else [])
theorem nl7_no {g : Nat → Bool} {k : Nat} (h : g k = false) : nl7 g (k + 1) = nl7 g k := by
  show nl7 g k ++ _ = _
  rw [h]; simp
theorem nl7_yes {g : Nat → Bool} {k : Nat} (h : g k = true) : nl7 g (k + 1) = nl7 g k ++ [k] := by
  show nl7 g k ++ _ = _
  rw [h]; simp
theorem nl7_len (g : Nat → Bool) : ∀ k, (nl7 g k).length ≤ k
  | 0 => Nat.le_refl _
  | k + 1 => by
    have := nl7_len g k
    show (nl7 g k ++ _).length ≤ _
    split <;> simp <;> omega
def nvs (l : List Nat) : List Value := l.map fun (x : Nat) => .int .i64 (x : Int)
theorem nvs_len (l : List Nat) : (nvs l).length = l.length := by simp [nvs]
theorem nvs_snoc (l : List Nat) (x : Nat) : nvs (l ++ [x]) = nvs l ++ [.int .i64 (x : Int)] := by simp [nvs]
theorem nvs_at (l : List Nat) (k : Nat) (h : k < l.length) : (nvs l)[k]? = some (.int .i64 (l[k] : Int)) := by simp [nvs, h]
theorem info3 : (Try.prog.info? 3).map (fun i => (i.zero, i.size, i.bytes)) = some (some (.int .i64 0), 1, 8) := by kernel_rfl
theorem one_new (W : World) (u0 : Value) (t : TypeId) (j : Nat) (u : Value) (h : ([u0] : List Value)[j]? = some u) : (W.alloc (.cells #[u0] t)).cell? ((⟨W.heap.size, 0, none⟩ : Addr).add j) = some u := by
  rcases j with _ | j
  · simp only [List.getElem?_cons_zero, Option.some.injEq] at h; subst h; go_simp
  · simp at h
theorem int_one (a : Int) : ∀ u ∈ ([.int .i64 a] : List Value), u.oneCell' = true := by intro u hu; simp at hu; subst hu; rfl
/-- Midway: rows known, and a slice of numbers of its own beside them. -/
def Ri (n : Nat) (L : List (Nat × Obj)) (w : World) (xs : List Nat) (v : Value) (W : World) : Prop :=
  KR n L w W ∧ ∃ g cap, v = .slice (some ⟨g, 0, none⟩) xs.length cap ∧ W.ownsRow (w.heap.size + n) 3 1 v xs.length (nvs xs)
theorem Ri.below {n : Nat} {L : List (Nat × Obj)} {w W W' : World} {xs : List Nat} {v : Value} {M : Nat} (h : Ri n L w xs v W) (hb : Below M W W') (hM : M = W.heap.size) : Ri n L w xs v W' := by
  obtain ⟨h1, g, cap, h2, h3⟩ := h
  exact ⟨h1.far hb hM, g, cap, h2, h3.kept (grown_below hb hM) (.inr (by rw [h2]; simp [Value.ownBlock]))⟩
theorem Ri.alloc {n : Nat} {L : List (Nat × Obj)} {w W : World} {xs : List Nat} {v : Value} (h : Ri n L w xs v W) (o : Obj) : Ri n L w xs v (W.alloc o) := h.below (M := W.heap.size) ((Below.refl _ _).alloc (Nat.le_refl _) o) rfl
theorem Ri.drew {n : Nat} {L : List (Nat × Obj)} {w W : World} {xs : List Nat} {v : Value} (h : Ri n L w xs v W) : Ri n L w xs v W.drew := h.below (M := W.heap.size) (Below.refl _ _).drew rfl
theorem Ri.snoc {n : Nat} {L : List (Nat × Obj)} {w W w1 : World} {xs : List Nat} {x : Nat} {v v' : Value} (h : Ri n L w xs v W) (hown : w1.ownsRow (w.heap.size + n) 3 1 v' (xs.length + 1) (nvs xs ++ [.int .i64 (x : Int)])) (hg : W.grownBy w1 v.ownBlock) (hn : v' = .slice none 0 0 ↔ v = .slice none 0 0 ∧ 1 = 0) : Ri n L w (xs ++ [x]) v' w1 := by
  obtain ⟨h1, g, cap, h2, h3⟩ := h
  have hlt := h3.lt
  rcases hown.2 with ⟨e, _⟩ | ⟨g2, cap2, cur, e, hr⟩
  · exact absurd (hn.mp e).2 (by decide)
  · refine ⟨h1.grown hg (fun k hk => (hlt k hk).1), g2, cap2, ?_, ?_⟩
    · rw [e]; simp
    · rw [nvs_snoc, List.length_append]
      exact hown
theorem Ri.start {n : Nat} {L : List (Nat × Obj)} {w W : World} (h : KR n L w W) : Ri n L w [] (.slice (some ⟨W.heap.size, 0, none⟩) 0 0) (W.alloc (.cells #[] 3)) :=
  ⟨h.al, W.heap.size, 0, rfl, World.ownsRow_lit (base := w.heap.size + n) (e := 3) (size := 1) W #[] 0 h.2.1 (by unfold maxLen; omega) rfl⟩
theorem Ri.post {n : Nat} {L : List (Nat × Obj)} {w W : World} {xs : List Nat} {v : Value} (h : Ri n L w xs v W) : ∃ g cap, v = .slice (some ⟨g, 0, none⟩) xs.length cap ∧ W.ownsRow w.heap.size 3 1 (.slice (some ⟨g, 0, none⟩) xs.length cap) xs.length (nvs xs) ∧ Below w.heap.size w W := by
  obtain ⟨h1, g, cap, rfl, h3⟩ := h
  exact ⟨g, cap, rfl, own_mono h3 (by omega), h1.2.2⟩
/-- An answer: a slice of numbers of its own, and a flag. -/
def IPb (xs : List Nat) (t : Bool) (w : World) (e : Ending) (w' : World) : Prop := ∃ g cap, e = .returned (.tuple #[.slice (some ⟨g, 0, none⟩) xs.length cap, .bool t]) ∧ w'.ownsRow w.heap.size 3 1 (.slice (some ⟨g, 0, none⟩) xs.length cap) xs.length (nvs xs) ∧ Below w.heap.size w w'
theorem IPb.out {xs : List Nat} {t : Bool} {w w' : World} {e : Ending} (h : IPb xs t w e w') : ∃ g cap, e = .returned (.tuple #[.slice (some ⟨g, 0, none⟩) xs.length cap, .bool t]) ∧ w'.ownsRow w.heap.size 3 1 (.slice (some ⟨g, 0, none⟩) xs.length cap) xs.length (nvs xs) ∧ Below w.heap.size w w' := h
theorem kr1_8 (w : World) (o : Obj) : KR 1 [(w.heap.size, o)] w (w.alloc o) := ⟨by intro p hp; simp only [List.mem_cons, List.mem_nil_iff, or_false] at hp; subst hp; exact ⟨by simp, alloc_at rfl⟩, by simp, by (repeat (first | exact Below.refl _ _ | assumption | refine Below.setCell ?_ (by first | (simp; done) | (simp; omega)) _ | refine Below.alloc ?_ (by first | (simp; done) | (simp; omega)) _ | refine Below.drew ?_))⟩
theorem kr0_8 (w : World) : KR 0 [] w w := ⟨by intro p hp; simp at hp, by simp, Below.refl _ _⟩
/-- An answer: a slice of numbers of its own. -/
def NP (xs : List Nat) (w : World) (e : Ending) (w' : World) : Prop := ∃ g cap, e = .returned (.slice (some ⟨g, 0, none⟩) xs.length cap) ∧ w'.ownsRow w.heap.size 3 1 (.slice (some ⟨g, 0, none⟩) xs.length cap) xs.length (nvs xs) ∧ Below w.heap.size w w'
theorem NP.out {xs : List Nat} {w w' : World} {e : Ending} (h : NP xs w e w') : ∃ g cap, e = .returned (.slice (some ⟨g, 0, none⟩) xs.length cap) ∧ w'.ownsRow w.heap.size 3 1 (.slice (some ⟨g, 0, none⟩) xs.length cap) xs.length (nvs xs) ∧ Below w.heap.size w w' := h
set_option maxHeartbeats 1000000 in
theorem splain_f (n : Nat) (hn : n ≤ 100) (w : World) : Calls Try.prog 73 #[.int .i64 (n : Int)] w (NP (List.range n) w) := by
  obtain ⟨i0, hi, hz0, hz1, hz2⟩ := info_parts info3
  go_enter Try.func73, Try.ntmps73
  go_wp2_with fail
  have S0 := Lib.hid (Ri.start (kr0_8 w))
  generalize (World.alloc _ _ : World) = W1 at S0 ⊢
  generalize hv0 : (Value.slice (some ⟨_, 0, none⟩) 0 0) = v0 at S0 ⊢
  clear hv0
  go_loopw [3, 4] (fun v c wr => ∃ x : Nat, x ≤ n ∧ c = .int .i64 x ∧ Hid (Ri 0 [] w (List.range x) v wr)) (fun _ c _ => n - (intOf c).toNat)
  case atStart => exact ⟨0, by omega, rfl, S0⟩
  case round =>
    obtain ⟨x, hx, rfl, HS⟩ := hrel
    by_cases hlx : x < n
    · have hlx' : (x : Int) < n := by omega
      have HL : (List.range x).length ≤ 100 := by simp; omega
      have HR := Lib.hid (List.range_succ (n := x))
      obtain ⟨xs, hxs⟩ : ∃ xs, xs = List.range x := ⟨_, rfl⟩
      rw [← hxs] at HS HR HL
      clear hxs
      obtain ⟨hK, g, cap, rfl, ho⟩ := HS.out
      have HO := ho.kept (grown_below ((Below.refl _ _).alloc (Nat.le_refl _) (.cells #[.int .i64 (x : Int)] 3)) rfl) (.inr (by simp [Value.ownBlock]))
      have HY := Lib.hid (HS.out.alloc (.cells #[.int .i64 (x : Int)] 3))
      have hks := hK.2.1
      clear ho HS hK
      go_wp2_with (at_builtin; refine wpList_append_own _ rfl _ _ 54 rfl (w.heap.size + 0) 3 i0 (.int .i64 0) 1 8 Try.underlying54 hi hz0 hz1 hz2 rfl (by decide) _ _ _ rfl HO ⟨wr.heap.size, 0, none⟩ 1 1 [.int .i64 (x : Int)] rfl rfl (one_new _ _ _) (int_one _) (by have := HL; unfold maxLen; omega) (by have := HL; omega) (by have := hks; simp; omega) ?_; intro v' w1 hown' hgrow hnn; have R := Lib.hid (HY.out.snoc hown' hgrow hnn); clear hown' hgrow hnn HY HO HL hks)
      go_roundw
      case rel => exact ⟨x + 1, by omega, by go_num, by rw [HR.out]; exact R⟩
      case measure => simp [intOf]; omega
    · obtain rfl : x = n := by omega
      obtain ⟨g, cap, rfl, h2, h3⟩ := HS.out.post
      have H2 := Lib.hid h2
      have H3 := Lib.hid h3
      clear h2 h3 HS hi hz0 hz1 hz2
      go_wp2_with fail
      go_ret
      exact ⟨g, cap, rfl, H2.out, H3.out⟩
theorem bit_fin : ∀ (c : Fin 64) (i : Fin 6), (bits .and .i64 (((c.val : Nat) : Int) / 2 ^ i.val) 1 == 1) = c.val.testBit i.val := by decide +kernel
/-- The places that a number below 64 chooses. -/
def bp8 (c : Nat) : List Nat := nl7 (fun i => c.testBit i) 6
theorem bp8_all : ∀ n : Fin 7, bp8 (2 ^ n.val - 1) = List.range n.val := by decide +kernel
set_option maxHeartbeats 1000000 in
theorem iplaces_f (c : Nat) (hc : c < 64) (w : World) : Calls Try.prog 99 #[.int .i64 (c : Int)] w (NP (bp8 c) w) := by
  obtain ⟨i0, hi, hz0, hz1, hz2⟩ := info_parts info3
  have HB := Lib.hid (fun (i : Nat) (hi : i < 6) => bit_fin ⟨c, hc⟩ ⟨i, hi⟩)
  have hc0 : (0 : Int) ≤ c := by omega
  unfold bp8
  obtain ⟨sg, hsg⟩ : ∃ sg : Nat → Bool, sg = fun i => c.testBit i := ⟨_, rfl⟩
  have HB2 : Hid (∀ i, i < 6 → (bits .and .i64 ((c : Int) / 2 ^ i) 1 == 1) = sg i) := Lib.hid fun i hi => by rw [hsg]; exact HB.out i hi
  rw [← hsg]
  clear hsg HB
  go_enter Try.func99, Try.ntmps99
  go_wp2_with fail
  have S0 := Lib.hid (Ri.start (kr0_8 w))
  generalize (World.alloc _ _ : World) = W1 at S0 ⊢
  generalize hv0 : (Value.slice (some ⟨_, 0, none⟩) 0 0) = v0 at S0 ⊢
  clear hv0
  go_loopw [3, 6] (fun v n wr => ∃ x : Nat, x ≤ 6 ∧ n = .int .i64 x ∧ Hid (Ri 0 [] w (nl7 sg x) v wr)) (fun _ n _ => 6 - (intOf n).toNat)
  case atStart => exact ⟨0, by omega, rfl, S0⟩
  case round =>
    obtain ⟨x, hx, rfl, HS⟩ := hrel
    by_cases hlx : x < 6
    · have hlx' : (x : Int) < 6 := by omega
      have hx0 : (0 : Int) ≤ x := by omega
      have H0 := Lib.hid (@nl7_no sg x)
      have H1 := Lib.hid (@nl7_yes sg x)
      have HL := nl7_len sg x
      have HL := Lib.hid (show (nl7 sg x).length ≤ 36 by omega)
      obtain ⟨xs, hxs⟩ : ∃ xs, xs = nl7 sg x := ⟨_, rfl⟩
      rw [← hxs] at HS H0 H1 HL
      clear hxs
      have hq := HB2.out x hlx
      cases hu : sg x
      · rw [hu] at hq
        have E0 := Lib.hid (H0.out hu)
        clear hu H0 H1
        go_wp2_with fail
        go_roundw
        case rel => exact ⟨x + 1, by omega, by go_num, by rw [E0.out]; exact HS⟩
        case measure => simp [intOf]; omega
      · rw [hu] at hq
        have E1 := Lib.hid (H1.out hu)
        clear hu H0 H1
        obtain ⟨hK, g, cap, rfl, ho⟩ := HS.out
        have HO := ho.kept (grown_below ((Below.refl _ _).alloc (Nat.le_refl _) (.cells #[.int .i64 (x : Int)] 3)) rfl) (.inr (by simp [Value.ownBlock]))
        have HY := Lib.hid (HS.out.alloc (.cells #[.int .i64 (x : Int)] 3))
        have HL := HL.out
        have hks := hK.2.1
        clear ho HS hK
        go_wp2_with (at_builtin; refine wpList_append_own _ rfl _ _ 54 rfl (w.heap.size + 0) 3 i0 (.int .i64 0) 1 8 Try.underlying54 hi hz0 hz1 hz2 rfl (by decide) _ _ _ rfl HO ⟨wr.heap.size, 0, none⟩ 1 1 [.int .i64 (x : Int)] rfl rfl (one_new _ _ _) (int_one _) (by have := HL; unfold maxLen; omega) (by have := HL; omega) (by have := hks; simp; omega) ?_; intro v' w1 hown' hgrow hnn; have R := Lib.hid (HY.out.snoc hown' hgrow hnn); clear hown' hgrow hnn HY HO HL hks)
        go_roundw
        case rel => exact ⟨x + 1, by omega, by go_num, by rw [E1.out]; exact R⟩
        case measure => simp [intOf]; omega
    · obtain rfl : x = 6 := by omega
      obtain ⟨g, cap, rfl, h2, h3⟩ := HS.out.post
      have H2 := Lib.hid h2
      have H3 := Lib.hid h3
      clear h2 h3 HS hi hz0 hz1 hz2
      go_wp2_with fail
      go_ret
      exact ⟨g, cap, rfl, H2.out, H3.out⟩
theorem shl_fin : ∀ n : Fin 7, wrap64 (2 ^ n.val) = ((2 ^ n.val : Nat) : Int) := by decide +kernel
set_option maxHeartbeats 1000000 in
theorem ichoices_f (n : Nat) (hn : n ≤ 6) (v : Option Addr) (cap : Nat) (w : World) : Calls Try.prog 98 #[.slice v n cap] w fun e w' => e = .returned (.int .i64 ((2 ^ n : Nat) : Int)) ∧ w' = w := by
  have hs := shl_fin ⟨n, by omega⟩
  dsimp only at hs
  have hn0 : (0 : Int) ≤ n := by omega
  have hn6 : (n : Int) < 64 := by omega
  go_enter Try.func98, Try.ntmps98
  go_wp2_with fail
  go_ret
  exact ⟨by first | rfl | simp [hs], rfl⟩
set_option maxHeartbeats 1000000 in
theorem iall_f (n : Nat) (hn : n ≤ 6) (v : Option Addr) (cap : Nat) (w : World) : Calls Try.prog 76 #[.slice v n cap] w (NP (List.range n) w) := by
  have HC := Lib.hid (ichoices_f n hn v cap)
  have hp : 1 ≤ 2 ^ n ∧ 2 ^ n ≤ 64 := by
    have : n = 0 ∨ n = 1 ∨ n = 2 ∨ n = 3 ∨ n = 4 ∨ n = 5 ∨ n = 6 := by omega
    rcases this with rfl | rfl | rfl | rfl | rfl | rfl | rfl <;> decide
  have HP : Hid (∀ w, Calls Try.prog 99 #[.int .i64 (((2 ^ n : Nat) : Int) - 1)] w (NP (List.range n) w)) := Lib.hid fun w => by
    have h := iplaces_f (2 ^ n - 1) (by omega) w
    rw [bp8_all ⟨n, by omega⟩, show (((2 ^ n - 1 : Nat)) : Int) = ((2 ^ n : Nat) : Int) - 1 by omega] at h
    exact h
  generalize 2 ^ n = M at HC HP hp
  have hw : wrap64 ((M : Int) - 1) = (M : Int) - 1 := by unfold wrap64; omega
  go_enter Try.func76, Try.ntmps76
  go_wp2_with fail
  refine (HC.out _).mono ?_
  rintro e w' ⟨rfl, hw'⟩
  obtain rfl := hw'.symm
  go_wp2_with fail
  refine (HP.out _).mono ?_
  intro e W2 hp2
  obtain ⟨g, cap2, rfl, ho, hb⟩ := hp2.out
  have HO := Lib.hid ho
  have HB := Lib.hid hb
  clear ho hb hp2
  go_wp2_with fail
  go_ret
  exact ⟨g, cap2, by rw [List.length_range]; rfl, HO.out, HB.out⟩
end Go.Proofs.Ytcjomhjgjdjigaa
