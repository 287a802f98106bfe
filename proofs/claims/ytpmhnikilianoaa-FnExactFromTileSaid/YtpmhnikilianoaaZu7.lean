/- CONTRACTS: a slice of numbers that came in, copied; slices of numbers compared. -/
import Derived.Test.YtpmhnikilianoaaEn7
import Derived.Laws.MakeOwn
import Derived.WalkKit
import Derived.ProofKit
import Derived.OpenShut
import Derived.Lib.Hide
import Derived.WalkSpells
import Derived.Below
import Derived.BigQuiet
import Derived.LoopN
namespace Go.Proofs.Ytpmhnikilianoaa
open Go.ChangeShapes Go.WideShapes Go.ChangeAt Go.RowKit
set_option linter.unusedVariables false
def iw (z : List Int) : List Value := z.map (Value.int .i64)
theorem iw_len (z : List Int) : (iw z).length = z.length := by simp [iw]
theorem iw_at (z : List Int) (k : Nat) (h : k < z.length) : (iw z)[k]? = some (.int .i64 z[k]) := by simp [iw, h]
theorem iw_set (c : Int) (L : List Int) (i : Nat) : (iw L).set i (.int .i64 c) = iw (L.set i c) := by simp [iw, List.map_set]
/-- The first i numbers, the rest 0. -/
def zn (z : List Int) (i : Nat) : List Int := z.take i ++ List.replicate (z.length - i) 0
theorem zn_len (z : List Int) {i : Nat} (h : i ≤ z.length) : (zn z i).length = z.length := by simp [zn]; omega
theorem zn_end (z : List Int) : zn z z.length = z := by simp [zn]
theorem zn_set (z : List Int) {i : Nat} (h : i < z.length) : (zn z i).set i z[i] = zn z (i + 1) := by
  unfold zn
  have e1 : (z.take i).length = i := by simp; omega
  have e2 : z.length - i = (z.length - (i + 1)) + 1 := by omega
  rw [List.set_append_right _ _ (by omega), e1, Nat.sub_self, e2, List.replicate_succ, List.set_cons_zero, List.take_add_one, List.getElem?_eq_getElem h, List.append_assoc]
  rfl
def IsNums (w : World) (a : Option Addr) (z : List Int) : Prop := (a = none ∧ z = []) ∨ ∃ x : Addr, a = some x ∧ ∀ i (h : i < z.length), x.block < w.heap.size ∧ w.cell? (x.add i) = some (.int .i64 z[i])
theorem IsNums.below {w W : World} {a : Option Addr} {z : List Int} (h : IsNums w a z) (hb : Below w.heap.size w W) : IsNums W a z := by
  rcases h with h | ⟨x, h1, h3⟩
  · exact .inl h
  · have hbl : ∀ j, (x.add j).block = x.block := fun j => by unfold Addr.add; split <;> rfl
    exact .inr ⟨x, h1, fun i hi => ⟨Nat.lt_of_lt_of_le (h3 i hi).1 hb.size, (hb.cell (p := x.add i) (by rw [hbl]; exact (h3 i hi).1)).trans (h3 i hi).2⟩⟩
theorem made_zero1 (v : Value) (m : Nat) : (madeCells #[v] m).toList = List.replicate m v := by
  rw [List.eq_replicate_iff]
  refine ⟨by simp [madeCells], fun b hb => ?_⟩
  simp only [madeCells, Array.toList_map, List.mem_map] at hb
  obtain ⟨a, _, rfl⟩ := hb
  show (#[v] : Array Value)[a % 1]! = v
  rw [Nat.mod_one]; rfl
/-- Midway: i numbers are copied. -/
def Ru (w : World) (z : List Int) (gs i : Nat) (W : World) : Prop := W.ownsRow w.heap.size 3 1 (.slice (some ⟨gs, 0, none⟩) z.length z.length) z.length (iw (zn z i)) ∧ Below w.heap.size w W ∧ w.heap.size ≤ gs ∧ i ≤ z.length
theorem Ru.put {w W : World} {z : List Int} {gs i : Nat} (h : Ru w z gs i W) (hi : i < z.length) : Ru w z gs (i + 1) (W.setCell ⟨gs, i, none⟩ (.int .i64 z[i])) := by
  obtain ⟨h1, h2, h3, h4⟩ := h
  have e := iw_set z[i] (zn z i) i
  rw [zn_set z hi] at e
  refine ⟨?_, h2.setCell (by simpa using h3) _, h3, hi⟩
  rw [← e]
  exact (h1.stored _ _).1
theorem Ru.cells {w W : World} {z : List Int} {gs i : Nat} (h : Ru w z gs i W) (hi : i < z.length) : (∃ c : Int, W.cell? ⟨gs, i, none⟩ = some (.int .i64 c)) ∧ ∀ j, W.frozen? ⟨gs, j, none⟩ = false := by
  obtain ⟨h1, h2, h3, h4⟩ := h
  have hl : i < (zn z i).length := by rw [zn_len z h4]; exact hi
  exact ⟨⟨(zn z i)[i], own_at h1 (iw_at (zn z i) i hl)⟩, fun j => h1.frozenAt j⟩
/-- What is answered: the numbers in a row of their own. -/
def UPost (z : List Int) (w : World) (e : Ending) (w' : World) : Prop := ∃ g, e = .returned (.slice (some ⟨g, 0, none⟩) z.length z.length) ∧ w'.ownsRow w.heap.size 3 1 (.slice (some ⟨g, 0, none⟩) z.length z.length) z.length (iw z) ∧ Below w.heap.size w w'
set_option maxRecDepth 8000 in
set_option maxHeartbeats 1000000 in
theorem toints_f (z : List Int) (hz : z.length ≤ 1048576) (x : Addr) (cap : Nat) (w : World) (hP : IsNums w (some x) z) : Calls Try.prog 39 #[.slice (some x) z.length cap] w (UPost z w) := by
  have HP := Lib.hid hP
  clear hP
  obtain ⟨i0, hi, hz0, hz1, hz2⟩ := info_parts info3
  go_enter Try.func39, Try.ntmps39
  go_wp2_with (refine wpList_make_full _ rfl _ _ 44 rfl w.heap.size 3 i0 (.int .i64 0) 1 Try.underlying44 hi hz0 hz1 .i64 .i64 _ _ z.length rfl rfl rfl rfl (by rw [hz2]; omega) (by unfold maxLen; omega) (by omega) ?_)
  intro W2 hown hgr
  have S0 : Hid (Ru w z w.heap.size 0 W2) := Lib.hid ⟨by
    have e : (madeCells #[.int .i64 0] z.length).toList = iw (zn z 0) := by
      rw [made_zero1]
      simp [iw, zn]
    rw [← e]
    exact hown, (Below.refl w.heap.size w).grown hgr (Nat.le_refl _) (by simp), Nat.le_refl _, Nat.zero_le _⟩
  clear hown hgr hi hz0 hz1 hz2
  go_wp2_with fail
  go_loopw [4] (fun c wr => ∃ i : Nat, i ≤ z.length ∧ c = .int .i64 i ∧ Hid (Ru w z w.heap.size i wr)) (fun c _ => z.length - (intOf c).toNat)
  case atStart => exact ⟨0, by omega, rfl, S0⟩
  case round =>
    obtain ⟨i, hi, rfl, HS⟩ := hrel
    by_cases hlt : i < z.length
    · have hlt' : (i : Int) < z.length := by omega
      have hi0 : (0 : Int) ≤ i := by omega
      have hi2 : i ≤ 1048576 := by omega
      have hPw := HP.out.below HS.out.2.1
      rcases hPw with ⟨h, _⟩ | ⟨x', hx', hc'⟩
      · cases h
      · obtain rfl : x = x' := by injection hx'
        obtain ⟨_, c1⟩ := hc' i hlt
        have HQ := Lib.hid (HS.out.put hlt)
        obtain ⟨⟨f, d0⟩, c_f⟩ := HS.out.cells hlt
        clear hc' hx' HS
        generalize z[i] = c at c1 HQ
        go_wp2_with fail
        clear d0 c_f c1
        go_roundw
        case rel => exact ⟨i + 1, by omega, by go_num, HQ⟩
        case measure => simp [intOf]; omega
    · obtain rfl : i = z.length := by omega
      obtain ⟨h1, h2, h3, h4⟩ := HS.out
      rw [zn_end] at h1
      have HO := Lib.hid h1
      have HB := Lib.hid h2
      clear h1 h2 h3 h4 HS
      go_wp2_with fail
      go_ret
      exact ⟨_, rfl, HO.out, HB.out⟩
set_option maxRecDepth 8000 in
theorem toints_none (cap : Nat) (w : World) : Calls Try.prog 39 #[.slice none 0 cap] w (UPost [] w) := by
  obtain ⟨i0, hi, hz0, hz1, hz2⟩ := info_parts info3
  go_enter Try.func39, Try.ntmps39
  go_wp2_with (refine wpList_make_full _ rfl _ _ 44 rfl w.heap.size 3 i0 (.int .i64 0) 1 Try.underlying44 hi hz0 hz1 .i64 .i64 _ _ 0 rfl rfl rfl rfl (by rw [hz2]; omega) (by unfold maxLen; omega) (by omega) ?_)
  intro W2 hown hgr
  have HO : Hid (W2.ownsRow w.heap.size 3 1 (.slice (some ⟨w.heap.size, 0, none⟩) 0 0) 0 (iw [])) := Lib.hid (by
    have e : (madeCells #[.int .i64 0] 0).toList = iw [] := by
      rw [made_zero1]
      rfl
    rw [← e]
    exact hown)
  have HB : Hid (Below w.heap.size w W2) := Lib.hid ((Below.refl w.heap.size w).grown hgr (Nat.le_refl _) (by simp))
  clear hown hgr hi hz0 hz1 hz2
  go_wp2_with fail
  refine wp_loop_rounds 1 ?_
  rw [rounds_succ]
  go_wp2_with fail
  go_ret
  exact ⟨_, rfl, HO.out, HB.out⟩
theorem toints_any (z : List Int) (hz : z.length ≤ 1048576) (a : Option Addr) (cap : Nat) (w : World) (hP : IsNums w a z) : Calls Try.prog 39 #[.slice a z.length cap] w (UPost z w) := by
  rcases a with _ | x
  · rcases hP with ⟨_, rfl⟩ | ⟨x, h, _⟩
    · exact toints_none cap w
    · cases h
  · exact toints_f z hz x cap w hP
set_option maxHeartbeats 1000000 in
theorem eqnums_same (l : List Int) (hl : l.length ≤ 1048576) (B C g1 c1 g2 c2 : Nat) (w : World) (h1 : w.ownsRow B 3 1 (.slice (some ⟨g1, 0, none⟩) l.length c1) l.length (iw l)) (h2 : w.ownsRow C 3 1 (.slice (some ⟨g2, 0, none⟩) l.length c2) l.length (iw l)) : Calls Try.prog 42 #[.slice (some ⟨g1, 0, none⟩) l.length c1, .slice (some ⟨g2, 0, none⟩) l.length c2] w fun e w' => e = .returned (.bool true) ∧ Below w.heap.size w w' := by
  have H1 := Lib.hid h1
  have H2 := Lib.hid h2
  clear h1 h2
  go_enter Try.func42, Try.ntmps42
  go_wp2_with fail
  go_loopw [5] (fun i wr => ∃ k : Nat, k ≤ l.length ∧ i = .int .i64 k ∧ Hid (Below w.heap.size w wr)) (fun i _ => l.length - (intOf i).toNat)
  case atStart => exact ⟨0, by omega, rfl, Lib.hid (Below.refl _ _)⟩
  case round =>
    obtain ⟨k, hk, rfl, HB⟩ := hrel
    by_cases hlt : k < l.length
    · have hlt' : (k : Int) < l.length := by omega
      have hk0 : (0 : Int) ≤ k := by omega
      have hk2 : k ≤ 1048576 := by omega
      have O1 := H1.out.kept (grown_below HB.out rfl) (.inr (by simp [Value.ownBlock]))
      have O2 := H2.out.kept (grown_below HB.out rfl) (.inr (by simp [Value.ownBlock]))
      have p1 := iw_at l k hlt
      have a1 := own_at O1 p1
      have b1 := own_at O2 p1
      clear O1 O2 p1
      generalize l[k] = X at a1 b1
      have d1 : wr.drew.cell? ⟨g1, k, none⟩ = some (.int .i64 X) := a1
      have d2 : wr.drew.cell? ⟨g2, k, none⟩ = some (.int .i64 X) := b1
      go_wp2_with fail
      go_region
      all_goals
        clear a1 b1 d1 d2
        go_wp2_with fail
        go_roundw
        case rel => exact ⟨k + 1, by omega, by go_num, Lib.hid HB.out.drew⟩
        case measure => simp [intOf]; omega
    · obtain rfl : k = l.length := by omega
      go_wp2_with fail
      go_ret
      exact ⟨rfl, HB.out⟩
end Go.Proofs.Ytpmhnikilianoaa
