/- PLAIN LEMMAS: a list of pairs of ints as a parameter; CONTRACT: its copy. -/
import Derived.Test.YtbmfjcmlgndofaaCn
import Derived.Deep.Slices
import Derived.OwnWalk
import Derived.WalkKit
import Derived.ProofKit
import Derived.OpenShut
import Derived.Lib.Hide
import Derived.WalkSpells
import Derived.Below
import Derived.BigQuiet
import Derived.LoopN
namespace Go.Proofs.Ytbmfjcmlgndofaa
open Go.ChangeShapes Go.WideShapes Go.ChangeAt Go.RowKit
set_option linter.unusedVariables false
/-- The cells of a slice of pairs of ints. -/
def cw (z : List (Int × Int)) : List Value := z.flatMap fun c => [.int .i64 c.1, .int .i64 c.2]
theorem cw_len (z : List (Int × Int)) : (cw z).length = z.length * 2 := by
  induction z with
  | nil => rfl
  | cons a z ih =>
    have e : cw (a :: z) = [.int .i64 a.1, .int .i64 a.2] ++ cw z := rfl
    rw [e, List.length_append, ih]
    simp
    omega
theorem cw_at (z : List (Int × Int)) : ∀ (k : Nat) (h : k < z.length), (cw z)[k * 2]? = some (.int .i64 z[k].1) ∧ (cw z)[k * 2 + 1]? = some (.int .i64 z[k].2) := by
  induction z with
  | nil => intro k h; simp at h
  | cons a z ih =>
    intro k h
    have e : cw (a :: z) = .int .i64 a.1 :: .int .i64 a.2 :: cw z := rfl
    rcases k with _ | k
    · rw [e]; exact ⟨rfl, rfl⟩
    · have := ih k (by simpa using h)
      rw [e, show (k + 1) * 2 = k * 2 + 1 + 1 by omega]
      simp only [List.getElem?_cons_succ, List.getElem_cons_succ]
      exact this
theorem cw_set (c : Int × Int) : ∀ (L : List (Int × Int)) (i : Nat), i < L.length → ((cw L).set (i * 2) (.int .i64 c.1)).set (i * 2 + 1) (.int .i64 c.2) = cw (L.set i c)
  | [], _, h => by simp at h
  | a :: L, 0, _ => rfl
  | a :: L, i + 1, h => by
    have ih := cw_set c L i (by simpa using h)
    rw [show (i + 1) * 2 + 1 = (i * 2 + 1) + 2 by omega, show (i + 1) * 2 = i * 2 + 2 by omega]
    show Value.int .i64 a.1 :: Value.int .i64 a.2 :: _ = Value.int .i64 a.1 :: .int .i64 a.2 :: cw (L.set i c)
    rw [← ih]
    rfl
/-- The first i pairs copied; the others are 0 yet. -/
def zc (z : List (Int × Int)) (i : Nat) : List (Int × Int) := z.take i ++ List.replicate (z.length - i) (0, 0)
theorem zc_len (z : List (Int × Int)) {i : Nat} (h : i ≤ z.length) : (zc z i).length = z.length := by simp [zc]; omega
theorem zc_end (z : List (Int × Int)) : zc z z.length = z := by simp [zc]
theorem zc_set (z : List (Int × Int)) {i : Nat} (h : i < z.length) : (zc z i).set i z[i] = zc z (i + 1) := by
  unfold zc
  have e1 : (z.take i).length = i := by simp; omega
  have e2 : z.length - i = (z.length - (i + 1)) + 1 := by omega
  rw [List.set_append_right _ _ (by omega), e1, Nat.sub_self, e2, List.replicate_succ, List.set_cons_zero, List.take_add_one, List.getElem?_eq_getElem h, List.append_assoc]
  rfl
theorem cw_white : ∀ n : Nat, cw (List.replicate n (0, 0)) = List.replicate (n * 2) (Value.int .i64 0)
  | 0 => rfl
  | n + 1 => by
    have ih := cw_white n
    rw [List.replicate_succ, show (n + 1) * 2 = n * 2 + 1 + 1 by omega]
    simp only [List.replicate_succ]
    rw [← ih]
    rfl
theorem add_one2 (x : Addr) (j : Nat) : x.add (j + 1) = ⟨(x.add j).block, (x.add j).off + 1, none⟩ := by
  unfold Addr.add
  by_cases h : j = 0
  · subst h; simp
  · simp [h]; omega
theorem add_one3 (x : Addr) (j : Nat) : (x.add j).add 1 = x.add (j + 1) := by
  rw [add_one2 x j]
  rfl
/-- What a parameter that is a slice of pairs of ints holds. -/
def IsPairs (w : World) (a : Option Addr) (z : List (Int × Int)) : Prop := (a = none ∧ z = []) ∨ ∃ x : Addr, a = some x ∧ ∀ i (h : i < z.length), x.block < w.heap.size ∧ w.cell? (x.add (i * 2)) = some (.int .i64 z[i].1) ∧ w.cell? (x.add (i * 2 + 1)) = some (.int .i64 z[i].2)
theorem IsPairs.below {w W : World} {a : Option Addr} {z : List (Int × Int)} (h : IsPairs w a z) (hb : Below w.heap.size w W) : IsPairs W a z := by
  rcases h with h | ⟨x, h1, h3⟩
  · exact .inl h
  · have hbl : ∀ j, (x.add j).block = x.block := fun j => by unfold Addr.add; split <;> rfl
    exact .inr ⟨x, h1, fun i hi => ⟨Nat.lt_of_lt_of_le (h3 i hi).1 hb.size, (hb.cell (p := x.add (i * 2)) (by rw [hbl]; exact (h3 i hi).1)).trans (h3 i hi).2.1, (hb.cell (p := x.add (i * 2 + 1)) (by rw [hbl]; exact (h3 i hi).1)).trans (h3 i hi).2.2⟩⟩
theorem made_zero2 (v : Value) (m : Nat) : (madeCells #[v, v] m).toList = List.replicate m v := by
  rw [List.eq_replicate_iff]
  refine ⟨by simp [madeCells], fun b hb => ?_⟩
  simp only [madeCells, Array.toList_map, List.mem_map] at hb
  obtain ⟨a, _, rfl⟩ := hb
  have h2 : a % 2 < 2 := Nat.mod_lt _ (by decide)
  show (#[v, v] : Array Value)[a % 2]! = v
  have : a % 2 = 0 ∨ a % 2 = 1 := by omega
  rcases this with h | h <;> (rw [h]; rfl)
theorem a2z_any (x y : Int) (w : World) : Calls Try.prog 130 #[.agg #[.int .i64 x, .int .i64 y]] w fun e w' => e = .returned (.agg #[.int .i64 x, .int .i64 y]) ∧ Below w.heap.size w w' := a2_any x y w
/-- Midway: i pairs are copied. -/
def Rz (w : World) (z : List (Int × Int)) (gs i : Nat) (W : World) : Prop := W.ownsRow w.heap.size 53 2 (.slice (some ⟨gs, 0, none⟩) z.length z.length) z.length (cw (zc z i)) ∧ Below w.heap.size w W ∧ w.heap.size ≤ gs ∧ i ≤ z.length
theorem Rz.below {w W W' : World} {z : List (Int × Int)} {gs i M : Nat} (h : Rz w z gs i W) (hb : Below M W W') (hM : M = W.heap.size) : Rz w z gs i W' :=
  ⟨h.1.kept (grown_below hb hM) (.inr (by simp [Value.ownBlock])), below_of h.2.1 hb (by have := h.2.1.size; omega), h.2.2.1, h.2.2.2⟩
theorem Rz.put {w W : World} {z : List (Int × Int)} {gs i : Nat} (h : Rz w z gs i W) (hi : i < z.length) : Rz w z gs (i + 1) ((W.setCell ⟨gs, i * 2, none⟩ (.int .i64 z[i].1)).setCell ⟨gs, i * 2 + 1, none⟩ (.int .i64 z[i].2)) := by
  obtain ⟨h1, h2, h3, h4⟩ := h
  have e := cw_set z[i] (zc z i) i (by rw [zc_len z h4]; exact hi)
  rw [zc_set z hi] at e
  refine ⟨?_, (h2.setCell (by simpa using h3) _).setCell (by simpa using h3) _, h3, hi⟩
  rw [← e]
  exact ((h1.stored _ _).1.stored _ _).1
theorem Rz.cells {w W : World} {z : List (Int × Int)} {gs i : Nat} (h : Rz w z gs i W) (hi : i < z.length) : (∃ c : Int × Int, W.cell? ⟨gs, i * 2, none⟩ = some (.int .i64 c.1) ∧ W.cell? ⟨gs, i * 2 + 1, none⟩ = some (.int .i64 c.2)) ∧ ∀ j, W.frozen? ⟨gs, j, none⟩ = false := by
  obtain ⟨h1, h2, h3, h4⟩ := h
  have hl : i < (zc z i).length := by rw [zc_len z h4]; exact hi
  obtain ⟨p0, p1⟩ := cw_at (zc z i) i hl
  exact ⟨⟨(zc z i)[i], own_at h1 p0, own_at h1 p1⟩, fun j => h1.frozenAt j⟩
/-- What is answered: the pairs in a row of their own. -/
def ZPost (z : List (Int × Int)) (w : World) (e : Ending) (w' : World) : Prop := ∃ g, e = .returned (.slice (some ⟨g, 0, none⟩) z.length z.length) ∧ w'.ownsRow w.heap.size 53 2 (.slice (some ⟨g, 0, none⟩) z.length z.length) z.length (cw z) ∧ Below w.heap.size w w'
set_option maxRecDepth 8000 in
set_option maxHeartbeats 1000000 in
theorem topairs_f (z : List (Int × Int)) (hz : z.length ≤ 1048576) (x : Addr) (cap : Nat) (w : World) (hP : IsPairs w (some x) z) : Calls Try.prog 30 #[.slice (some x) z.length cap] w (ZPost z w) := by
  have HP := Lib.hid hP
  clear hP
  obtain ⟨i0, hi, hz'⟩ : ∃ i0, Try.prog.info? 53 = some i0 ∧ (i0.zero, i0.size, i0.bytes) = (some (.agg #[.int .i64 0, .int .i64 0]), 2, 16) := by
    have h := info44
    cases hh : Try.prog.info? 53 with
    | none => rw [hh] at h; simp at h
    | some i0 => rw [hh] at h; exact ⟨i0, rfl, by simpa using h⟩
  simp only [Prod.mk.injEq] at hz'
  obtain ⟨hz0, hz1, hz2⟩ := hz'
  go_enter Try.func30, Try.ntmps30
  go_wp2_with (refine wpList_make_full _ rfl _ _ 25 rfl w.heap.size 53 i0 (.agg #[.int .i64 0, .int .i64 0]) 2 Try.underlying25 hi hz0 hz1 .i64 .i64 _ _ z.length rfl rfl rfl rfl (by rw [hz2]; omega) (by unfold maxLen; omega) (by omega) ?_)
  intro W2 hown hgr
  have S0 : Hid (Rz w z w.heap.size 0 W2) := Lib.hid ⟨by
    have e : (madeCells #[.int .i64 0, .int .i64 0] (z.length * 2)).toList = cw (zc z 0) := by
      rw [made_zero2]
      exact (cw_white z.length).symm
    rw [← e]
    exact hown, (Below.refl w.heap.size w).grown hgr (Nat.le_refl _) (by simp), Nat.le_refl _, Nat.zero_le _⟩
  clear hown hgr hi hz0 hz1 hz2
  go_wp2_with fail
  go_loopw [4] (fun c wr => ∃ i : Nat, i ≤ z.length ∧ c = .int .i64 i ∧ Hid (Rz w z w.heap.size i wr)) (fun c _ => z.length - (intOf c).toNat)
  case atStart => exact ⟨0, by omega, rfl, S0⟩
  case round =>
    obtain ⟨i, hi, rfl, HS⟩ := hrel
    by_cases hlt : i < z.length
    · have hlt' : (i : Int) < z.length := by omega
      have hi0 : (0 : Int) ≤ i := by omega
      have hi2 : i ≤ 1048576 := by omega
      have hPw := HP.out.below HS.out.2.1
      rcases hPw with ⟨h, _⟩ | ⟨x', hx', hc'⟩
      · cases h
      · obtain rfl : x = x' := by injection hx'
        obtain ⟨_, c1, c2⟩ := hc' i hlt
        have HQ := Lib.hid (fun (W : World) (h : Rz w z w.heap.size i W) => h.put hlt)
        have HC := Lib.hid (fun (W : World) (h : Rz w z w.heap.size i W) => h.cells hlt)
        clear hc' hx'
        generalize z[i] = c at c1 c2 HQ
        obtain ⟨c3, c4⟩ := c
        dsimp only at c1 c2 HQ
        have c5 : wr.cell? ⟨(x.add (i * 2)).block, (x.add (i * 2)).off + 1, none⟩ = some (.int .i64 c4) := by rw [← add_one2]; exact c2
        have c6 : wr.cell? ((x.add (i * 2)).add 1) = some (.int .i64 c4) := by rw [add_one3]; exact c2
        have HF := Lib.hid (a2z_any c3 c4)
        go_wp2_with fail
        refine (HF.out _).mono ?_
        rintro e W3 ⟨rfl, hb⟩
        have HE := Lib.hid (HS.out.below hb rfl)
        clear hb c1 c2 HS
        obtain ⟨⟨f, d0, d1⟩, c_f⟩ := HC.out _ HE.out
        go_wp2_with fail
        have HI2 := Lib.hid (HQ.out _ HE.out)
        clear d0 d1 c_f HE
        go_roundw
        case rel => exact ⟨i + 1, by omega, by go_num, HI2⟩
        case measure => simp [intOf]; omega
    · obtain rfl : i = z.length := by omega
      obtain ⟨h1, h2, h3, h4⟩ := HS.out
      rw [zc_end] at h1
      have HO := Lib.hid h1
      have HB := Lib.hid h2
      clear h1 h2 h3 h4 HS
      go_wp2_with fail
      go_ret
      exact ⟨_, rfl, HO.out, HB.out⟩
set_option maxRecDepth 8000 in
theorem topairs_none (cap : Nat) (w : World) : Calls Try.prog 30 #[.slice none 0 cap] w (ZPost [] w) := by
  obtain ⟨i0, hi, hz'⟩ : ∃ i0, Try.prog.info? 53 = some i0 ∧ (i0.zero, i0.size, i0.bytes) = (some (.agg #[.int .i64 0, .int .i64 0]), 2, 16) := by
    have h := info44
    cases hh : Try.prog.info? 53 with
    | none => rw [hh] at h; simp at h
    | some i0 => rw [hh] at h; exact ⟨i0, rfl, by simpa using h⟩
  simp only [Prod.mk.injEq] at hz'
  obtain ⟨hz0, hz1, hz2⟩ := hz'
  go_enter Try.func30, Try.ntmps30
  go_wp2_with (refine wpList_make_full _ rfl _ _ 25 rfl w.heap.size 53 i0 (.agg #[.int .i64 0, .int .i64 0]) 2 Try.underlying25 hi hz0 hz1 .i64 .i64 _ _ 0 rfl rfl rfl rfl (by rw [hz2]; omega) (by unfold maxLen; omega) (by omega) ?_)
  intro W2 hown hgr
  have HO : Hid (W2.ownsRow w.heap.size 53 2 (.slice (some ⟨w.heap.size, 0, none⟩) 0 0) 0 (cw [])) := Lib.hid (by
    have e : (madeCells #[.int .i64 0, .int .i64 0] (0 * 2)).toList = cw [] := by
      rw [made_zero2]
      rfl
    rw [← e]
    exact hown)
  have HB : Hid (Below w.heap.size w W2) := Lib.hid ((Below.refl w.heap.size w).grown hgr (Nat.le_refl _) (by simp))
  clear hown hgr hi hz0 hz1 hz2
  go_wp2_with fail
  refine wp_loop_rounds 1 ?_
  rw [rounds_succ]
  go_wp2_with fail
  go_ret
  exact ⟨_, rfl, HO.out, HB.out⟩
theorem topairs_any (z : List (Int × Int)) (hz : z.length ≤ 1048576) (a : Option Addr) (cap : Nat) (w : World) (hP : IsPairs w a z) : Calls Try.prog 30 #[.slice a z.length cap] w (ZPost z w) := by
  rcases a with _ | x
  · rcases hP with ⟨_, rfl⟩ | ⟨x, h, _⟩
    · exact topairs_none cap w
    · cases h
  · exact topairs_f z hz x cap w hP
end Go.Proofs.Ytbmfjcmlgndofaa
