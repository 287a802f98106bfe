/- CONTRACTS of the laws' own functions over slices of numbers, and the rows of numbers as facts on an interval. -/
import Derived.Test.YtkbpfdmmjpmbmaaPv11
import Derived.Test.YtkbpfdmmjpmbmaaCn
import Derived.WalkKit
import Derived.ProofKit
import Derived.OpenShut
import Derived.Lib.Hide
import Derived.WalkSpells
import Derived.Below
import Derived.BigQuiet
import Derived.LoopN
namespace Go.Proofs.Ytkbpfdmmjpmbmaa
open Go.ChangeShapes Go.WideShapes Go.ChangeAt Go.RowKit
set_option linter.unusedVariables false
theorem gtr {W W' W2 : World} {g : Nat} (h : W.grownBy W' (some g)) (h' : W'.grownBy W2 (some g)) : W.grownBy W2 (some g) := ⟨h'.os.trans h.os, h'.tape.trans h.tape, h'.output.trans h.output, Nat.le_trans h.size h'.size, fun k hk hne => (h'.block k (Nat.lt_of_lt_of_le hk h.size) hne).trans (h.block k hk hne)⟩
/-- A row of cells whose first i have been marked by 1, 2 and so on. -/
def mks (xs : List Value) (i : Nat) : List Value := (List.range i).map (fun j : Nat => Value.int .i64 ((j : Int) + 1)) ++ xs.drop i
theorem mks_zero (xs : List Value) : mks xs 0 = xs := by simp [mks]
theorem mks_set {xs : List Value} {i : Nat} (h : i < xs.length) : (mks xs i).set i (.int .i64 ((i : Int) + 1)) = mks xs (i + 1) := by
  unfold mks
  rw [List.set_append_right _ _ (by simp), List.length_map, List.length_range, Nat.sub_self, List.drop_eq_getElem_cons h, List.set_cons_zero, List.range_succ, List.map_append, List.append_assoc]
  rfl
theorem mks_at (xs : List Value) {i j : Nat} (h : j < i) : (mks xs i)[j]? = some (.int .i64 ((j : Int) + 1)) := by
  unfold mks
  rw [List.getElem?_append_left (by simpa using h)]
  simp [h]
theorem mks_len (xs : List Value) {i : Nat} (h : i ≤ xs.length) : (mks xs i).length = xs.length := by simp [mks]; omega
theorem iv11_at (l : List Nat) (k : Nat) (h : k < l.length) : (iv11 l)[k]? = some (.int .i64 (l[k] : Int)) := by simp [iv11, h]
set_option maxHeartbeats 1000000 in
theorem eqints_same (l : List Nat) (hl : l.length ≤ 100) (B C g1 c1 g2 c2 : Nat) (w : World) (h1 : w.ownsRow B 3 1 (.slice (some ⟨g1, 0, none⟩) l.length c1) l.length (iv11 l)) (h2 : w.ownsRow C 3 1 (.slice (some ⟨g2, 0, none⟩) l.length c2) l.length (iv11 l)) : Calls Try.prog 37 #[.slice (some ⟨g1, 0, none⟩) l.length c1, .slice (some ⟨g2, 0, none⟩) l.length c2] w fun e w' => e = .returned (.bool true) ∧ Below w.heap.size w w' := by
  have H1 := Lib.hid h1
  have H2 := Lib.hid h2
  clear h1 h2
  go_enter Try.func37, Try.ntmps37
  go_wp2_with fail
  go_loopw [5] (fun i wr => ∃ k : Nat, k ≤ l.length ∧ i = .int .i64 k ∧ Hid (Below w.heap.size w wr)) (fun i _ => l.length - (intOf i).toNat)
  case atStart => exact ⟨0, by omega, rfl, Lib.hid (Below.refl _ _)⟩
  case round =>
    obtain ⟨k, hk, rfl, HB⟩ := hrel
    by_cases hlt : k < l.length
    · have hlt' : (k : Int) < l.length := by omega
      have hk0 : (0 : Int) ≤ k := by omega
      have hk2 : k ≤ 100 := by omega
      have O1 := H1.out.kept (grown_below HB.out rfl) (.inr (by simp [Value.ownBlock]))
      have O2 := H2.out.kept (grown_below HB.out rfl) (.inr (by simp [Value.ownBlock]))
      have p1 := iv11_at l k hlt
      have a1 := own_at O1 p1
      have b1 := own_at O2 p1
      clear O1 O2 p1
      generalize (l[k] : Int) = X at a1 b1
      have d1 : wr.drew.cell? ⟨g1, k, none⟩ = some (.int .i64 X) := a1
      have d2 : wr.drew.cell? ⟨g2, k, none⟩ = some (.int .i64 X) := b1
      go_wp2_with fail
      go_region
      all_goals
        clear a1 b1 d1 d2
        go_wp2_with fail
        go_roundw
        case rel => exact ⟨k + 1, by omega, by go_num, Lib.hid HB.out.drew⟩
        case measure => simp [intOf]; omega
    · obtain rfl : k = l.length := by omega
      go_wp2_with fail
      go_ret
      exact ⟨rfl, HB.out⟩
theorem own_store1 {W : World} {B g n cap i : Nat} {xs : List Value} (h : W.ownsRow B 3 1 (.slice (some ⟨g, 0, none⟩) n cap) n (mks xs i)) (hx : xs.length = n) (hi : i < n) : (∃ u, W.cell? ⟨g, i, none⟩ = some u) ∧ W.frozen? ⟨g, i, none⟩ = false ∧ (W.setCell ⟨g, i, none⟩ (.int .i64 ((i : Int) + 1))).ownsRow B 3 1 (.slice (some ⟨g, 0, none⟩) n cap) n (mks xs (i + 1)) ∧ W.grownBy (W.setCell ⟨g, i, none⟩ (.int .i64 ((i : Int) + 1))) (some g) := by
  have hs := h.stored i (.int .i64 ((i : Int) + 1))
  rw [mks_set (by omega)] at hs
  refine ⟨⟨(mks xs i)[i]'(by rw [mks_len xs (by omega)]; omega), ?_⟩, h.frozenAt i, hs.1, hs.2⟩
  rw [h.cellAt i (by omega)]
  exact List.getElem?_eq_getElem _
set_option maxHeartbeats 1000000 in
theorem mark_ints (g cap B n : Nat) (xs : List Value) (hn : n ≤ 100) (w : World) (hown : w.ownsRow B 3 1 (.slice (some ⟨g, 0, none⟩) n cap) n xs) : Calls Try.prog 38 #[.slice (some ⟨g, 0, none⟩) n cap, .int .i64 1] w fun e w' => e = .returned (.int .i64 ((n : Int) + 1)) ∧ w'.ownsRow B 3 1 (.slice (some ⟨g, 0, none⟩) n cap) n (mks xs n) ∧ w.grownBy w' (some g) := by
  have HO := Lib.hid hown
  have hx : xs.length = n := by have := hown.1; omega
  clear hown
  go_enter Try.func38, Try.ntmps38
  go_wp2_with fail
  go_loopw [1, 5] (fun a b wr => ∃ i : Nat, i ≤ n ∧ a = .int .i64 ((i : Int) + 1) ∧ b = .int .i64 i ∧ Hid (wr.ownsRow B 3 1 (.slice (some ⟨g, 0, none⟩) n cap) n (mks xs i) ∧ w.grownBy wr (some g))) (fun _ b _ => n - (intOf b).toNat)
  case atStart => exact ⟨0, Nat.zero_le _, rfl, rfl, Lib.hid ⟨by rw [mks_zero]; exact HO.out, ⟨rfl, rfl, rfl, Nat.le_refl _, fun _ _ _ => rfl⟩⟩⟩
  case round =>
    obtain ⟨i, hi, rfl, rfl, HS⟩ := hrel
    by_cases hlt : i < n
    · have hlt' : (i : Int) < n := by omega
      have hi0 : (0 : Int) ≤ i := by omega
      obtain ⟨⟨u, hu⟩, hf, hs⟩ := own_store1 HS.out.1 hx hlt
      have H1 := Lib.hid (show _ ∧ w.grownBy _ (some g) from ⟨hs.1, gtr HS.out.2 hs.2⟩)
      clear hs HO HS
      obtain ⟨M, hM⟩ : ∃ M : Int, M = (i : Int) + 1 := ⟨_, rfl⟩
      have hM1 : 1 ≤ M := by omega
      have hM2 : M ≤ 101 := by omega
      have HM := Lib.hid hM
      rw [← hM] at H1 ⊢
      clear hM
      have e1 : wrap64 (M + 1) = M + 1 := by unfold wrap64; omega
      go_wp2_with fail
      generalize hW1 : (World.setCell _ _ _ : World) = W1 at H1 ⊢
      clear hW1 hu hf
      go_roundw
      case rel => exact ⟨i + 1, by omega, by have := HM.out; simp; omega, by go_num, H1⟩
      case measure => simp [intOf]; omega
    · obtain rfl : i = n := by omega
      go_wp2_with fail
      go_ret
      exact ⟨rfl, HS.out.1, HS.out.2⟩
set_option maxHeartbeats 1000000 in
theorem held_ints (g cap B n : Nat) (xs : List Value) (hn : n ≤ 100) (w : World) (hx : xs.length = n) (hown : w.ownsRow B 3 1 (.slice (some ⟨g, 0, none⟩) n cap) n (mks xs n)) : Calls Try.prog 39 #[.slice (some ⟨g, 0, none⟩) n cap, .int .i64 1] w fun e w' => e = .returned (.int .i64 ((n : Int) + 1)) ∧ w' = w := by
  have HO := Lib.hid hown
  clear hown
  go_enter Try.func39, Try.ntmps39
  go_wp2_with fail
  go_loopw [1, 5] (fun a b wr => ∃ i : Nat, i ≤ n ∧ a = .int .i64 ((i : Int) + 1) ∧ b = .int .i64 i ∧ wr = w) (fun _ b _ => n - (intOf b).toNat)
  case atStart => exact ⟨0, Nat.zero_le _, rfl, rfl, rfl⟩
  case round =>
    obtain ⟨i, hi, rfl, rfl, rfl⟩ := hrel
    by_cases hlt : i < n
    · have hlt' : (i : Int) < n := by omega
      have hi0 : (0 : Int) ≤ i := by omega
      have c0 := own_at HO.out (mks_at xs hlt)
      obtain ⟨M, hM⟩ : ∃ M : Int, M = (i : Int) + 1 := ⟨_, rfl⟩
      have hM1 : 1 ≤ M := by omega
      have hM2 : M ≤ 101 := by omega
      have HM := Lib.hid hM
      rw [← hM] at c0 ⊢
      clear hM HO
      have e1 : wrap64 (M + 1) = M + 1 := by unfold wrap64; omega
      go_wp2_with fail
      go_roundw
      case rel => exact ⟨i + 1, by omega, by have := HM.out; simp; omega, by go_num, by first | rfl | trivial⟩
      case measure => simp [intOf]; omega
    · obtain rfl : i = n := by omega
      go_wp2_with fail
      go_ret
      exact ⟨rfl, rfl⟩
/-- A row of numbers in an own block of an interval. -/
def Ir11 (lo hi g c n : Nat) (xs : List Value) (U : World) : Prop := U.ownsRow lo 3 1 (.slice (some ⟨g, 0, none⟩) n c) n xs ∧ g < hi
theorem Ir11.st {lo hi g c n : Nat} {xs : List Value} (U V : World) (hs : SameIn lo hi U V) (h : Ir11 lo hi g c n xs U) : Ir11 lo hi g c n xs V :=
  ⟨own_same h.1 hs (fun k hk => by cases hk; exact ⟨(h.1.lt g rfl).1, h.2⟩), h.2⟩
def ir (lo hi g c n : Nat) (xs : List Value) : It := ⟨lo, hi, Ir11 lo hi g c n xs, Ir11.st⟩
theorem VP11.parts {z : List Nat} {t : Bool} {w w' : World} {E : Ending} (h : VP11 z t w E w') : ∃ g cap, E = .returned (.tuple #[.slice (some ⟨g, 0, none⟩) z.length cap, .bool t]) ∧ Ir11 w.heap.size w'.heap.size g cap z.length (iv11 z) w' ∧ Below w.heap.size w w' := by
  obtain ⟨g, cap, h1, h2, h3⟩ := h
  exact ⟨g, cap, h1, ⟨h2, (h2.lt g rfl).2⟩, h3⟩
theorem mark_ir (lo hi g c : Nat) (z : List Nat) (hz : z.length ≤ 40) (w : World) (h : Ir11 lo hi g c z.length (iv11 z) w) : Calls Try.prog 38 #[.slice (some ⟨g, 0, none⟩) z.length c, .int .i64 1] w fun e w' => e = .returned (.int .i64 ((z.length : Int) + 1)) ∧ Ir11 lo hi g c z.length (mks (iv11 z) z.length) w' ∧ Onl11 lo hi w w' := by
  refine (mark_ints g c lo z.length (iv11 z) (by omega) w h.1).mono ?_
  rintro e w' ⟨h1, h2, h3⟩
  exact ⟨h1, ⟨h2, h.2⟩, Onl11.of_grown h3 (fun k hk => by cases hk; exact ⟨(h.1.lt g rfl).1, h.2⟩)⟩
theorem held_ir (lo hi g c : Nat) (z : List Nat) (hz : z.length ≤ 40) (w : World) (h : Ir11 lo hi g c z.length (mks (iv11 z) z.length) w) : Calls Try.prog 39 #[.slice (some ⟨g, 0, none⟩) z.length c, .int .i64 1] w fun e w' => e = .returned (.int .i64 ((z.length : Int) + 1)) ∧ Below w.heap.size w w' := by
  refine (held_ints g c lo z.length (iv11 z) (by omega) w (iv11_len z) h.1).mono ?_
  rintro e w' ⟨h1, rfl⟩
  exact ⟨h1, Below.refl _ _⟩
theorem eq_ir (z : List Nat) (hz : z.length ≤ 40) (lo hi g c lo' hi' g' c' : Nat) (w : World) (h : Ir11 lo hi g c z.length (iv11 z) w) (h' : Ir11 lo' hi' g' c' z.length (iv11 z) w) : Calls Try.prog 37 #[.slice (some ⟨g, 0, none⟩) z.length c, .slice (some ⟨g', 0, none⟩) z.length c'] w fun e w' => e = .returned (.bool true) ∧ Below w.heap.size w w' :=
  eqints_same z (by omega) lo lo' g c g' c' w h.1 h'.1
end Go.Proofs.Ytkbpfdmmjpmbmaa
