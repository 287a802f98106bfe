/- CONTRACTS: SlantsOf, the model's and the code's. -/
import Derived.Test.YtpmhnikilianoaaQ7
import Derived.Test.YtpmhnikilianoaaI7
import Derived.Deep.RegionHeld3
import Derived.WalkKit
import Derived.ProofKit
import Derived.OpenShut
import Derived.Lib.Hide
import Derived.WalkSpells
import Derived.Below
import Derived.BigQuiet
import Derived.LoopN
namespace Go.Proofs.Ytpmhnikilianoaa
open Go.ChangeShapes Go.WideShapes Go.ChangeAt Go.RowKit
set_option linter.unusedVariables false
/-- The numbers below k that a test takes. -/
def nl7 (g : Nat → Bool) : Nat → List Nat
  | 0 => []
  | k + 1 => nl7 g k ++ (if g k then [k] else [])
theorem nl7_no {g : Nat → Bool} {k : Nat} (h : g k = false) : nl7 g (k + 1) = nl7 g k := by
  show nl7 g k ++ _ = _
  rw [h]; simp
theorem nl7_yes {g : Nat → Bool} {k : Nat} (h : g k = true) : nl7 g (k + 1) = nl7 g k ++ [k] := by
  show nl7 g k ++ _ = _
  rw [h]; simp
theorem nl7_len (g : Nat → Bool) : ∀ k, (nl7 g k).length ≤ k
  | 0 => Nat.le_refl _
  | k + 1 => by
    have := nl7_len g k
    show (nl7 g k ++ _).length ≤ _
    split <;> simp <;> omega
def nvs (l : List Nat) : List Value := l.map fun (x : Nat) => .int .i64 (x : Int)
theorem nvs_len (l : List Nat) : (nvs l).length = l.length := by simp [nvs]
theorem nvs_snoc (l : List Nat) (x : Nat) : nvs (l ++ [x]) = nvs l ++ [.int .i64 (x : Int)] := by simp [nvs]
theorem nvs_at (l : List Nat) (k : Nat) (h : k < l.length) : (nvs l)[k]? = some (.int .i64 (l[k] : Int)) := by simp [nvs, h]
theorem info3 : (Try.prog.info? 3).map (fun i => (i.zero, i.size, i.bytes)) = some (some (.int .i64 0), 1, 8) := by kernel_rfl
theorem one_new (W : World) (u0 : Value) (t : TypeId) (j : Nat) (u : Value) (h : ([u0] : List Value)[j]? = some u) : (W.alloc (.cells #[u0] t)).cell? ((⟨W.heap.size, 0, none⟩ : Addr).add j) = some u := by
  rcases j with _ | j
  · simp only [List.getElem?_cons_zero, Option.some.injEq] at h; subst h; go_simp
  · simp at h
theorem int_one (a : Int) : ∀ u ∈ ([.int .i64 a] : List Value), u.oneCell' = true := by intro u hu; simp at hu; subst hu; rfl
/-- Midway: rows known, and a slice of numbers of its own beside them. -/
def Ri (n : Nat) (L : List (Nat × Obj)) (w : World) (xs : List Nat) (v : Value) (W : World) : Prop :=
  KR n L w W ∧ ∃ g cap, v = .slice (some ⟨g, 0, none⟩) xs.length cap ∧ W.ownsRow (w.heap.size + n) 3 1 v xs.length (nvs xs)
theorem Ri.below {n : Nat} {L : List (Nat × Obj)} {w W W' : World} {xs : List Nat} {v : Value} {M : Nat} (h : Ri n L w xs v W) (hb : Below M W W') (hM : M = W.heap.size) : Ri n L w xs v W' := by
  obtain ⟨h1, g, cap, h2, h3⟩ := h
  exact ⟨h1.far hb hM, g, cap, h2, h3.kept (grown_below hb hM) (.inr (by rw [h2]; simp [Value.ownBlock]))⟩
theorem Ri.alloc {n : Nat} {L : List (Nat × Obj)} {w W : World} {xs : List Nat} {v : Value} (h : Ri n L w xs v W) (o : Obj) : Ri n L w xs v (W.alloc o) := h.below (M := W.heap.size) ((Below.refl _ _).alloc (Nat.le_refl _) o) rfl
theorem Ri.drew {n : Nat} {L : List (Nat × Obj)} {w W : World} {xs : List Nat} {v : Value} (h : Ri n L w xs v W) : Ri n L w xs v W.drew := h.below (M := W.heap.size) (Below.refl _ _).drew rfl
theorem Ri.snoc {n : Nat} {L : List (Nat × Obj)} {w W w1 : World} {xs : List Nat} {x : Nat} {v v' : Value} (h : Ri n L w xs v W) (hown : w1.ownsRow (w.heap.size + n) 3 1 v' (xs.length + 1) (nvs xs ++ [.int .i64 (x : Int)])) (hg : W.grownBy w1 v.ownBlock) (hn : v' = .slice none 0 0 ↔ v = .slice none 0 0 ∧ 1 = 0) : Ri n L w (xs ++ [x]) v' w1 := by
  obtain ⟨h1, g, cap, h2, h3⟩ := h
  have hlt := h3.lt
  rcases hown.2 with ⟨e, _⟩ | ⟨g2, cap2, cur, e, hr⟩
  · exact absurd (hn.mp e).2 (by decide)
  · refine ⟨h1.grown hg (fun k hk => (hlt k hk).1), g2, cap2, ?_, ?_⟩
    · rw [e]; simp
    · rw [nvs_snoc, List.length_append]
      exact hown
theorem Ri.start {n : Nat} {L : List (Nat × Obj)} {w W : World} (h : KR n L w W) : Ri n L w [] (.slice (some ⟨W.heap.size, 0, none⟩) 0 0) (W.alloc (.cells #[] 3)) :=
  ⟨h.al, W.heap.size, 0, rfl, World.ownsRow_lit (base := w.heap.size + n) (e := 3) (size := 1) W #[] 0 h.2.1 (by unfold maxLen; omega) rfl⟩
theorem Ri.post {n : Nat} {L : List (Nat × Obj)} {w W : World} {xs : List Nat} {v : Value} (h : Ri n L w xs v W) : ∃ g cap, v = .slice (some ⟨g, 0, none⟩) xs.length cap ∧ W.ownsRow w.heap.size 3 1 (.slice (some ⟨g, 0, none⟩) xs.length cap) xs.length (nvs xs) ∧ Below w.heap.size w W := by
  obtain ⟨h1, g, cap, rfl, h3⟩ := h
  exact ⟨g, cap, rfl, own_mono h3 (by omega), h1.2.2⟩
/-- An answer: a slice of numbers of its own, and a flag. -/
def IPb (xs : List Nat) (t : Bool) (w : World) (e : Ending) (w' : World) : Prop := ∃ g cap, e = .returned (.tuple #[.slice (some ⟨g, 0, none⟩) xs.length cap, .bool t]) ∧ w'.ownsRow w.heap.size 3 1 (.slice (some ⟨g, 0, none⟩) xs.length cap) xs.length (nvs xs) ∧ Below w.heap.size w w'
theorem IPb.out {xs : List Nat} {t : Bool} {w w' : World} {e : Ending} (h : IPb xs t w e w') : ∃ g cap, e = .returned (.tuple #[.slice (some ⟨g, 0, none⟩) xs.length cap, .bool t]) ∧ w'.ownsRow w.heap.size 3 1 (.slice (some ⟨g, 0, none⟩) xs.length cap) xs.length (nvs xs) ∧ Below w.heap.size w w' := h
theorem SKi {w U : World} {a : Fn6} {xs : List Nat} {v : Value} (h : Ri 1 [(w.heap.size, o6 a)] w xs v U) : U.cell? ⟨w.heap.size, 0, none⟩ = some (.int .i64 (rowv (a 0))) ∧ U.cell? ⟨w.heap.size, 1, none⟩ = some (.int .i64 (rowv (a 1))) ∧ U.cell? ⟨w.heap.size, 2, none⟩ = some (.int .i64 (rowv (a 2))) ∧ U.cell? ⟨w.heap.size, 3, none⟩ = some (.int .i64 (rowv (a 3))) ∧ U.cell? ⟨w.heap.size, 4, none⟩ = some (.int .i64 (rowv (a 4))) ∧ U.cell? ⟨w.heap.size, 5, none⟩ = some (.int .i64 (rowv (a 5))) ∧ Ri 1 [(w.heap.size, o6 a)] w xs v U :=
  have h0 := fun j => cell_of_row U _ j _ _ _ (h.1.row (g := w.heap.size) (o := o6 a) (List.mem_cons_self ..))
  ⟨h0 0, h0 1, h0 2, h0 3, h0 4, h0 5, h⟩
set_option maxHeartbeats 1000000 in
theorem slanted_f (a : Fn6) {x : Nat} (hx : x < 6) (w : World) : Calls Try.prog 133 #[.agg #[.int .i64 (rowv (a 0)), .int .i64 (rowv (a 1)), .int .i64 (rowv (a 2)), .int .i64 (rowv (a 3)), .int .i64 (rowv (a 4)), .int .i64 (rowv (a 5))], .int .i64 (x : Int)] w fun e w' => e = .returned (.bool (sg7 a a x 1)) ∧ Below w.heap.size w w' := by
  have HF := Lib.hid (l2shift_m a (x : Int) 1 (by omega) (by omega) x 1 (by omega) (by omega))
  have he := eq_sg7 a a x 1
  go_enter Try.func133, Try.ntmps133
  go_wp2_with fail
  generalize hW : (World.alloc _ _ : World) = W0
  have K0 : KR 1 [(w.heap.size, o6 a)] w W0 := hW ▸ kr1 w _
  clear hW
  have hk := K0
  set_option maxRecDepth 8000 in
  go_region_held3 (fun U => U.cell? ⟨w.heap.size, 0, none⟩ = some (.int .i64 (rowv (a 0))) ∧ U.cell? ⟨w.heap.size, 1, none⟩ = some (.int .i64 (rowv (a 1))) ∧ U.cell? ⟨w.heap.size, 2, none⟩ = some (.int .i64 (rowv (a 2))) ∧ U.cell? ⟨w.heap.size, 3, none⟩ = some (.int .i64 (rowv (a 3))) ∧ U.cell? ⟨w.heap.size, 4, none⟩ = some (.int .i64 (rowv (a 4))) ∧ U.cell? ⟨w.heap.size, 5, none⟩ = some (.int .i64 (rowv (a 5))) ∧ KR 1 [(w.heap.size, o6 a)] w U) (with_reducible refine SKt ?_; (first | with_reducible assumption | (with_reducible refine KR.drew ?_; with_reducible assumption))) ((go_at_call 127; with_reducible refine (HF.out _).mono ?_; rintro e w' ⟨rfl, hb'⟩; have hk : KR 1 [(w.heap.size, o6 a)] w w' := KR.far (by (first | with_reducible assumption | (with_reducible refine KR.drew ?_; with_reducible assumption))) hb' rfl))
  all_goals
    clear K0 HF he
    go_wp2_with fail
    go_ret
    exact ⟨rfl, hk.2.2⟩
set_option maxHeartbeats 4000000 in
theorem sslant_yes (a : Fn6) (K0 : Hid (∀ w, Calls Try.prog 119 #[.agg #[.int .i64 (rowv (a 0)), .int .i64 (rowv (a 1)), .int .i64 (rowv (a 2)), .int .i64 (rowv (a 3)), .int .i64 (rowv (a 4)), .int .i64 (rowv (a 5))]] w fun e w' => e = .returned (.bool true) ∧ Below w.heap.size w w')) (w : World) : Calls Try.prog 43 #[.agg #[.int .i64 (rowv (a 0)), .int .i64 (rowv (a 1)), .int .i64 (rowv (a 2)), .int .i64 (rowv (a 3)), .int .i64 (rowv (a 4)), .int .i64 (rowv (a 5))]] w (IPb (nl7 (fun x => sg7 a a x 1) 6) true w) := by
  obtain ⟨i0, hi, hz0, hz1, hz2⟩ := info_parts info3
  obtain ⟨sg, hsg⟩ : ∃ sg : Nat → Bool, sg = fun x => sg7 a a x 1 := ⟨_, rfl⟩
  have hsx : ∀ x, sg x = sg7 a a x 1 := fun x => by rw [hsg]
  have HSG := Lib.hid hsx
  rw [← hsg]
  clear hsg hsx
  go_enter Try.func43, Try.ntmps43
  go_wp2_with fail
  generalize hW : (World.alloc w _ : World) = W0
  have hsz : W0.heap.size = w.heap.size + 1 := by rw [← hW]; simp
  have K : KR 1 [(w.heap.size, o6 a)] w W0 := hW ▸ kr1 w _
  have S0 := Ri.start K
  rw [hsz] at S0
  clear hsz hW K
  generalize (World.alloc _ _ : World) = W1 at S0 ⊢
  generalize hv0 : (Value.slice (some ⟨_, 0, none⟩) 0 0) = v0 at S0 ⊢
  clear hv0
  have a_c := fun j => cell_of_row W1 _ j _ _ _ (S0.1.row (g := w.heap.size) (o := o6 a) (by simp))
  go_wp2_with fail
  refine (K0.out _).mono ?_
  rintro e W2 ⟨rfl, hb⟩
  have S1 := Lib.hid (S0.below hb rfl)
  clear hb S0 a_c K0
  go_wp2_with fail
  go_loopw [4, 5] (fun v n wr => ∃ x : Nat, x ≤ 6 ∧ n = .int .i64 x ∧ Hid (Ri 1 [(w.heap.size, o6 a)] w (nl7 sg x) v wr)) (fun _ n _ => 6 - (intOf n).toNat)
  case atStart => exact ⟨0, by omega, rfl, S1⟩
  case round =>
    obtain ⟨x, hx, rfl, HS⟩ := hrel
    by_cases hlx : x < 6
    · have hlx' : (x : Int) < 6 := by omega
      have H0 := Lib.hid (@nl7_no sg x)
      have H1 := Lib.hid (@nl7_yes sg x)
      have HL := nl7_len sg x
      have HL := Lib.hid (show (nl7 sg x).length ≤ 36 by omega)
      obtain ⟨xs, hxs⟩ : ∃ xs, xs = nl7 sg x := ⟨_, rfl⟩
      rw [← hxs] at HS H0 H1 HL
      clear hxs
      obtain ⟨g, cap, rfl, ho⟩ := HS.out.2
      clear ho
      have HU := HSG.out x
      obtain ⟨u, hu⟩ : ∃ u, u = sg x := ⟨_, rfl⟩
      rw [← hu] at H0 H1 HU
      clear hu
      have HF := Lib.hid (slanted_f a hlx)
      rw [← HU] at HF
      clear HU
      have a_c := fun j => cell_of_row wr _ j _ _ _ (HS.out.1.row (g := w.heap.size) (o := o6 a) (by simp))
      go_wp2_with fail
      refine (HF.out _).mono ?_
      rintro e w' ⟨rfl, hb⟩
      have hk := HS.out.below hb rfl
      clear hb a_c HS HF
      all_goals
        have HJ := Lib.hid hk
        clear hk
        cases u
        · go_wp2_with fail
          go_roundw
          case rel => exact ⟨x + 1, by omega, by go_num, by rw [H0.out (by first | rfl | trivial)]; exact HJ⟩
          case measure => simp [intOf]; omega
        · obtain ⟨hK, _, _, hv, ho⟩ := HJ.out
          have HO := ho.kept (grown_below ((Below.refl _ _).alloc (Nat.le_refl _) (.cells #[.int .i64 (x : Int)] 3)) rfl) (.inr (by simp [Value.ownBlock]))
          have HY := Lib.hid (HJ.out.alloc (.cells #[.int .i64 (x : Int)] 3))
          have HL := HL.out
          have hks := hK.2.1
          clear ho HJ hv hK
          go_wp2_with (at_builtin; refine wpList_append_own _ rfl _ _ 44 rfl (w.heap.size + 1) 3 i0 (.int .i64 0) 1 8 Try.underlying44 hi hz0 hz1 hz2 rfl (by decide) _ _ _ rfl HO ⟨w'.heap.size, 0, none⟩ 1 1 [.int .i64 (x : Int)] rfl rfl (one_new _ _ _) (int_one _) (by have := HL; unfold maxLen; omega) (by have := HL; omega) (by have := hks; simp; omega) ?_; intro v' w1 hown' hgrow hnn; have R := Lib.hid (HY.out.snoc hown' hgrow hnn); clear hown' hgrow hnn HY HO HL hks)
          go_roundw
          case rel => exact ⟨x + 1, by omega, by go_num, by rw [H1.out (by first | rfl | trivial)]; exact R⟩
          case measure => simp [intOf]; omega
    · obtain rfl : x = 6 := by omega
      obtain ⟨g, cap, rfl, h2, h3⟩ := HS.out.post
      have H2 := Lib.hid h2
      have H3 := Lib.hid h3
      clear h2 h3 HS hi hz0 hz1 hz2
      go_wp2_with fail
      go_ret2
      exact ⟨g, cap, rfl, H2.out, H3.out⟩
set_option maxHeartbeats 4000000 in
theorem islant_yes (a : Fn6) (K0 : Hid (∀ w, Calls Try.prog 122 #[.agg #[.int .i64 (rowv (a 0)), .int .i64 (rowv (a 1)), .int .i64 (rowv (a 2)), .int .i64 (rowv (a 3)), .int .i64 (rowv (a 4)), .int .i64 (rowv (a 5))]] w fun e w' => e = .returned (.bool true) ∧ Below w.heap.size w w')) (w : World) : Calls Try.prog 44 #[.agg #[.int .i64 (rowv (a 0)), .int .i64 (rowv (a 1)), .int .i64 (rowv (a 2)), .int .i64 (rowv (a 3)), .int .i64 (rowv (a 4)), .int .i64 (rowv (a 5))]] w (IPb (nl7 (fun x => sg7 a a x 1) 6) true w) := by
  obtain ⟨i0, hi, hz0, hz1, hz2⟩ := info_parts info3
  obtain ⟨sg, hsg⟩ : ∃ sg : Nat → Bool, sg = fun x => sg7 a a x 1 := ⟨_, rfl⟩
  have hsx : ∀ x, sg x = sg7 a a x 1 := fun x => by rw [hsg]
  have HSG := Lib.hid hsx
  rw [← hsg]
  clear hsg hsx
  go_enter Try.func44, Try.ntmps44
  go_wp2_with fail
  generalize hW : (World.alloc w _ : World) = W0
  have hsz : W0.heap.size = w.heap.size + 1 := by rw [← hW]; simp
  have K : KR 1 [(w.heap.size, o6 a)] w W0 := hW ▸ kr1 w _
  have S0 := Ri.start K
  rw [hsz] at S0
  clear hsz hW K
  generalize (World.alloc _ _ : World) = W1 at S0 ⊢
  generalize hv0 : (Value.slice (some ⟨_, 0, none⟩) 0 0) = v0 at S0 ⊢
  clear hv0
  have a_c := fun j => cell_of_row W1 _ j _ _ _ (S0.1.row (g := w.heap.size) (o := o6 a) (by simp))
  go_wp2_with fail
  refine (K0.out _).mono ?_
  rintro e W2 ⟨rfl, hb⟩
  have S1 := Lib.hid (S0.below hb rfl)
  clear hb S0 a_c K0
  go_wp2_with fail
  go_loopw [4, 11] (fun v n wr => ∃ x : Nat, x ≤ 6 ∧ n = .int .i64 x ∧ Hid (Ri 1 [(w.heap.size, o6 a)] w (nl7 sg x) v wr)) (fun _ n _ => 6 - (intOf n).toNat)
  case atStart => exact ⟨0, by omega, rfl, S1⟩
  case round =>
    obtain ⟨x, hx, rfl, HS⟩ := hrel
    by_cases hlx : x < 6
    · have hlx' : (x : Int) < 6 := by omega
      have H0 := Lib.hid (@nl7_no sg x)
      have H1 := Lib.hid (@nl7_yes sg x)
      have HL := nl7_len sg x
      have HL := Lib.hid (show (nl7 sg x).length ≤ 36 by omega)
      obtain ⟨xs, hxs⟩ : ∃ xs, xs = nl7 sg x := ⟨_, rfl⟩
      rw [← hxs] at HS H0 H1 HL
      clear hxs
      obtain ⟨g, cap, rfl, ho⟩ := HS.out.2
      clear ho
      have HU := HSG.out x
      obtain ⟨u, hu⟩ : ∃ u, u = sg x := ⟨_, rfl⟩
      rw [← hu] at H0 H1 HU
      clear hu
      have HF := Lib.hid (shifted_m a (x : Int) 1 (by omega) (by omega) x 1 (by omega) (by omega))
      have he := eq_sg7 a a x 1
      rw [← HU] at he
      clear HU
      have hk := HS.out
      go_wp2_with fail
      clear HS
      set_option maxRecDepth 8000 in
      go_region_held3 (fun U => U.cell? ⟨w.heap.size, 0, none⟩ = some (.int .i64 (rowv (a 0))) ∧ U.cell? ⟨w.heap.size, 1, none⟩ = some (.int .i64 (rowv (a 1))) ∧ U.cell? ⟨w.heap.size, 2, none⟩ = some (.int .i64 (rowv (a 2))) ∧ U.cell? ⟨w.heap.size, 3, none⟩ = some (.int .i64 (rowv (a 3))) ∧ U.cell? ⟨w.heap.size, 4, none⟩ = some (.int .i64 (rowv (a 4))) ∧ U.cell? ⟨w.heap.size, 5, none⟩ = some (.int .i64 (rowv (a 5))) ∧ Ri 1 [(w.heap.size, o6 a)] w xs (.slice (some ⟨g, 0, none⟩) xs.length cap) U) (with_reducible refine SKi ?_; (first | with_reducible assumption | (with_reducible refine Ri.drew ?_; with_reducible assumption))) ((go_at_call 130; with_reducible refine (HF.out _).mono ?_; rintro e w' ⟨rfl, hb'⟩; have hk : Ri 1 [(w.heap.size, o6 a)] w xs (.slice (some ⟨g, 0, none⟩) xs.length cap) w' := Ri.below (by (first | with_reducible assumption | (with_reducible refine Ri.drew ?_; with_reducible assumption))) hb' rfl))
      all_goals
        have HJ := Lib.hid hk
        clear hk
        cases u
        · go_wp2_with fail
          go_roundw
          case rel => exact ⟨x + 1, by omega, by go_num, by rw [H0.out (by first | rfl | trivial)]; exact HJ⟩
          case measure => simp [intOf]; omega
        · obtain ⟨hK, _, _, hv, ho⟩ := HJ.out
          have HO := ho.kept (grown_below ((Below.refl _ _).alloc (Nat.le_refl _) (.cells #[.int .i64 (x : Int)] 3)) rfl) (.inr (by simp [Value.ownBlock]))
          have HY := Lib.hid (HJ.out.alloc (.cells #[.int .i64 (x : Int)] 3))
          have HL := HL.out
          have hks := hK.2.1
          clear ho HJ hv hK
          go_wp2_with (at_builtin; refine wpList_append_own _ rfl _ _ 44 rfl (w.heap.size + 1) 3 i0 (.int .i64 0) 1 8 Try.underlying44 hi hz0 hz1 hz2 rfl (by decide) _ _ _ rfl HO ⟨w'.heap.size, 0, none⟩ 1 1 [.int .i64 (x : Int)] rfl rfl (one_new _ _ _) (int_one _) (by have := HL; unfold maxLen; omega) (by have := HL; omega) (by have := hks; simp; omega) ?_; intro v' w1 hown' hgrow hnn; have R := Lib.hid (HY.out.snoc hown' hgrow hnn); clear hown' hgrow hnn HY HO HL hks)
          go_roundw
          case rel => exact ⟨x + 1, by omega, by go_num, by rw [H1.out (by first | rfl | trivial)]; exact R⟩
          case measure => simp [intOf]; omega
    · obtain rfl : x = 6 := by omega
      obtain ⟨g, cap, rfl, h2, h3⟩ := HS.out.post
      have H2 := Lib.hid h2
      have H3 := Lib.hid h3
      clear h2 h3 HS hi hz0 hz1 hz2
      go_wp2_with fail
      go_ret2
      exact ⟨g, cap, rfl, H2.out, H3.out⟩
set_option maxHeartbeats 1000000 in
theorem sslant_no (a0 a1 a2 a3 a4 a5 : Int) (K0 : Hid (∀ w, Calls Try.prog 119 #[.agg #[.int .i64 a0, .int .i64 a1, .int .i64 a2, .int .i64 a3, .int .i64 a4, .int .i64 a5]] w fun e w' => e = .returned (.bool false) ∧ Below w.heap.size w w')) (w : World) : Calls Try.prog 43 #[.agg #[.int .i64 a0, .int .i64 a1, .int .i64 a2, .int .i64 a3, .int .i64 a4, .int .i64 a5]] w (IPb [] false w) := by
  go_enter Try.func43, Try.ntmps43
  go_wp2_with fail
  generalize hW : (World.alloc w _ : World) = W0
  have hsz : W0.heap.size = w.heap.size + 1 := by rw [← hW]; simp
  have K : KR 1 [(w.heap.size, o7s a0 a1 a2 a3 a4 a5)] w W0 := hW ▸ kr1 w _
  have S0 := Ri.start K
  rw [hsz] at S0
  clear hsz hW K
  generalize (World.alloc _ _ : World) = W1 at S0 ⊢
  generalize hv0 : (Value.slice (some ⟨_, 0, none⟩) 0 0) = v0 at S0 ⊢
  clear hv0
  have a_c := fun j => cell_of_row W1 _ j _ _ _ (S0.1.row (g := w.heap.size) (o := o7s a0 a1 a2 a3 a4 a5) (by simp))
  go_wp2_with fail
  refine (K0.out _).mono ?_
  rintro e W2 ⟨rfl, hb⟩
  have S1 := S0.below hb rfl
  clear hb S0 a_c K0
  obtain ⟨g, cap, rfl, h2, h3⟩ := S1.post
  have H2 := Lib.hid h2
  have H3 := Lib.hid h3
  clear h2 h3 S1
  go_wp2_with fail
  go_ret2
  exact ⟨g, cap, rfl, H2.out, H3.out⟩
set_option maxHeartbeats 1000000 in
theorem islant_no (a0 a1 a2 a3 a4 a5 : Int) (K0 : Hid (∀ w, Calls Try.prog 122 #[.agg #[.int .i64 a0, .int .i64 a1, .int .i64 a2, .int .i64 a3, .int .i64 a4, .int .i64 a5]] w fun e w' => e = .returned (.bool false) ∧ Below w.heap.size w w')) (w : World) : Calls Try.prog 44 #[.agg #[.int .i64 a0, .int .i64 a1, .int .i64 a2, .int .i64 a3, .int .i64 a4, .int .i64 a5]] w (IPb [] false w) := by
  go_enter Try.func44, Try.ntmps44
  go_wp2_with fail
  generalize hW : (World.alloc w _ : World) = W0
  have hsz : W0.heap.size = w.heap.size + 1 := by rw [← hW]; simp
  have K : KR 1 [(w.heap.size, o7s a0 a1 a2 a3 a4 a5)] w W0 := hW ▸ kr1 w _
  have S0 := Ri.start K
  rw [hsz] at S0
  clear hsz hW K
  generalize (World.alloc _ _ : World) = W1 at S0 ⊢
  generalize hv0 : (Value.slice (some ⟨_, 0, none⟩) 0 0) = v0 at S0 ⊢
  clear hv0
  have a_c := fun j => cell_of_row W1 _ j _ _ _ (S0.1.row (g := w.heap.size) (o := o7s a0 a1 a2 a3 a4 a5) (by simp))
  go_wp2_with fail
  refine (K0.out _).mono ?_
  rintro e W2 ⟨rfl, hb⟩
  have S1 := S0.below hb rfl
  clear hb S0 a_c K0
  obtain ⟨g, cap, rfl, h2, h3⟩ := S1.post
  have H2 := Lib.hid h2
  have H3 := Lib.hid h3
  clear h2 h3 S1
  go_wp2_with fail
  go_ret2
  exact ⟨g, cap, rfl, H2.out, H3.out⟩
theorem slants_pair (a0 a1 a2 a3 a4 a5 : Int) : ∃ (l : List Nat) (t : Bool), l.length ≤ 36 ∧ (∀ w, Calls Try.prog 43 #[.agg #[.int .i64 a0, .int .i64 a1, .int .i64 a2, .int .i64 a3, .int .i64 a4, .int .i64 a5]] w (IPb l t w)) ∧ (∀ w, Calls Try.prog 44 #[.agg #[.int .i64 a0, .int .i64 a1, .int .i64 a2, .int .i64 a3, .int .i64 a4, .int .i64 a5]] w (IPb l t w)) := by
  cases hv : (ok a0 && ok a1 && ok a2 && ok a3 && ok a4 && ok a5)
  · exact ⟨[], false, by simp, sslant_no a0 a1 a2 a3 a4 a5 (Lib.hid (fun w => hv ▸ l2sheet_any a0 a1 a2 a3 a4 a5 w)), islant_no a0 a1 a2 a3 a4 a5 (Lib.hid (fun w => hv ▸ sheet_any a0 a1 a2 a3 a4 a5 w))⟩
  · have HS := Lib.hid (fun w => hv ▸ l2sheet_any a0 a1 a2 a3 a4 a5 w)
    have HI := Lib.hid (fun w => hv ▸ sheet_any a0 a1 a2 a3 a4 a5 w)
    obtain ⟨f, rfl, rfl, rfl, rfl, rfl, rfl⟩ := sheet_bits a0 a1 a2 a3 a4 a5 hv
    exact ⟨_, true, Nat.le_trans (nl7_len _ 6) (by decide), sslant_yes f HS, islant_yes f HI⟩
end Go.Proofs.Ytpmhnikilianoaa
