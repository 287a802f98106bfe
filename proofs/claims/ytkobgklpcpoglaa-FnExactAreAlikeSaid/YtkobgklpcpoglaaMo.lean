/- CONTRACTS: the lists of motions in the code. -/
import Derived.Test.YtkobgklpcpoglaaCn
import Derived.Laws.OwnMore
import Derived.WalkKit
import Derived.ProofKit
import Derived.OpenShut
import Derived.Lib.Hide
import Derived.WalkSpells
import Derived.Below
import Derived.BigQuiet
import Derived.LoopN
namespace Go.Proofs.Ytkobgklpcpoglaa
open Go.ChangeShapes Go.WideShapes Go.ChangeAt Go.RowKit
set_option linter.unusedVariables false
def L3 (k x n : Nat) : List (Nat × Nat × Nat) := (List.range n).map fun y => (k, x, y)
def L2 (s k n : Nat) : List (Nat × Nat × Nat) := (List.range n).flatMap fun x => L3 k x s
def L1 (s n : Nat) : List (Nat × Nat × Nat) := (List.range n).flatMap fun k => L2 s k s
def tv (l : List (Nat × Nat × Nat)) : List Value := l.flatMap fun c => [.int .i64 (c.1 : Int), .int .i64 (c.2.1 : Int), .int .i64 (c.2.2 : Int)]
theorem L3_succ (k x n : Nat) : L3 k x (n + 1) = L3 k x n ++ [(k, x, n)] := by simp [L3, List.range_succ]
theorem L2_succ (s k n : Nat) : L2 s k (n + 1) = L2 s k n ++ L3 k n s := by simp [L2, List.range_succ]
theorem L1_succ (s n : Nat) : L1 s (n + 1) = L1 s n ++ L2 s n s := by simp [L1, List.range_succ]
theorem L3_len (k x n : Nat) : (L3 k x n).length = n := by simp [L3]
theorem L2_len (s k : Nat) : ∀ n, (L2 s k n).length = n * s
  | 0 => by simp [L2]
  | n + 1 => by rw [L2_succ, List.length_append, L2_len s k n, L3_len, Nat.succ_mul]
theorem L1_len (s : Nat) : ∀ n, (L1 s n).length = n * (s * s)
  | 0 => by simp [L1]
  | n + 1 => by rw [L1_succ, List.length_append, L1_len s n, L2_len, Nat.succ_mul]
theorem tv_len (l : List (Nat × Nat × Nat)) : (tv l).length = l.length * 3 := by
  induction l with
  | nil => rfl
  | cons a l ih =>
    have e : tv (a :: l) = [.int .i64 (a.1 : Int), .int .i64 (a.2.1 : Int), .int .i64 (a.2.2 : Int)] ++ tv l := rfl
    rw [e, List.length_append, ih]
    simp; omega
theorem tv_snoc (l : List (Nat × Nat × Nat)) (k x y : Nat) : tv (l ++ [(k, x, y)]) = tv l ++ [.int .i64 (k : Int), .int .i64 (x : Int), .int .i64 (y : Int)] := by simp [tv]
theorem tv_at (l : List (Nat × Nat × Nat)) : ∀ (i : Nat) (h : i < l.length), (tv l)[i * 3]? = some (.int .i64 (l[i].1 : Int)) ∧ (tv l)[i * 3 + 1]? = some (.int .i64 (l[i].2.1 : Int)) ∧ (tv l)[i * 3 + 2]? = some (.int .i64 (l[i].2.2 : Int)) := by
  induction l with
  | nil => intro k h; simp at h
  | cons a l ih =>
    intro k h
    have e : tv (a :: l) = .int .i64 (a.1 : Int) :: .int .i64 (a.2.1 : Int) :: .int .i64 (a.2.2 : Int) :: tv l := rfl
    rcases k with _ | k
    · rw [e]; exact ⟨rfl, rfl, rfl⟩
    · have := ih k (by simpa using h)
      rw [e, show (k + 1) * 3 = k * 3 + 1 + 1 + 1 by omega]
      simp only [List.getElem?_cons_succ, List.getElem_cons_succ]
      exact this
theorem info67 : (Try.prog.info? 62).map (fun i => (i.zero, i.size, i.bytes)) = some (some (.agg #[.int .i64 0, .int .i64 0, .int .i64 0]), 3, 24) := by kernel_rfl
/-- A list of motions that the call owns. -/
def Rm (w : World) (l : List (Nat × Nat × Nat)) (v : Value) (W : World) : Prop := W.ownsRow w.heap.size 62 3 v l.length (tv l) ∧ Below w.heap.size w W
theorem Rm.app {w W w1 : World} {l : List (Nat × Nat × Nat)} {k x y : Nat} {v v' : Value} (o : Obj) (h : Rm w l v W) (hown : w1.ownsRow w.heap.size 62 3 v' (l.length + 1) (tv l ++ [.int .i64 (k : Int), .int .i64 (x : Int), .int .i64 (y : Int)])) (hg : (W.alloc o).grownBy w1 v.ownBlock) : Rm w (l ++ [(k, x, y)]) v' w1 := by
  refine ⟨?_, (h.2.alloc h.2.size _).grown hg (by have := h.2.size; simp; omega) (fun k hk => (h.1.lt k hk).1)⟩
  rw [tv_snoc, List.length_append]
  exact hown
theorem three_new (W : World) (u0 u1 u2 : Value) (t : TypeId) (j : Nat) (u : Value) (h : ([u0, u1, u2] : List Value)[j]? = some u) : (W.alloc (.cells #[u0, u1, u2] t)).cell? ((⟨W.heap.size, 0, none⟩ : Addr).add j) = some u := by
  rcases j with _ | _ | _ | j
  · simp only [List.getElem?_cons_zero, Option.some.injEq] at h; subst h; go_simp
  · simp at h; subst h; go_simp
  · simp at h; subst h; go_simp
  · simp at h
theorem ints_one3 (a b c : Int) : ∀ u ∈ ([.int .i64 a, .int .i64 b, .int .i64 c] : List Value), u.oneCell' = true := by intro u hu; simp at hu; rcases hu with rfl | rfl | rfl <;> rfl
theorem kept_alloc {W : World} {B n : Nat} {e : TypeId} {size : Nat} {v : Value} {xs : List Value} (h : W.ownsRow B e size v n xs) (o : Obj) : (W.alloc o).ownsRow B e size v n xs := h.alloc o
def MsPost (s T : Nat) (w : World) (e : Ending) (w' : World) : Prop := ∃ g cap, e = .returned (.slice (some ⟨g, 0, none⟩) (L1 s T).length cap) ∧ w'.ownsRow w.heap.size 62 3 (.slice (some ⟨g, 0, none⟩) (L1 s T).length cap) (L1 s T).length (tv (L1 s T)) ∧ w.heap.size ≤ g ∧ Below w.heap.size w w'
set_option maxHeartbeats 4000000 in
theorem motions_f {s T : Nat} (hs : s ≤ 6) (hT : T ≤ 8) (hs1 : 1 ≤ s) (hT1 : 1 ≤ T) (w : World) : Calls Try.prog 156 #[.int .i64 (T : Int), .int .i64 (s : Int)] w (MsPost s T w) := by
  obtain ⟨i0, hi, hz0, hz1, hz2⟩ := info_parts info67
  have hss : s * s ≤ 36 := Nat.mul_le_mul hs hs
  have HSS := Lib.hid hss
  have HT1 := Lib.hid (Nat.mul_pos hT1 (Nat.mul_pos hs1 hs1))
  clear hss
  go_enter Try.func156, Try.ntmps156
  go_wp2_with fail
  go_loopw [5, 10] (fun v c wr => ∃ k : Nat, k ≤ T ∧ c = .int .i64 k ∧ Hid (Rm w (L1 s k) v wr)) (fun _ c _ => T - (intOf c).toNat)
  case atStart => exact ⟨0, by omega, rfl, Lib.hid ⟨World.ownsRow_nil _ _ _ _, Below.refl _ _⟩⟩
  case round =>
    obtain ⟨k, hk, rfl, HS⟩ := hrel
    by_cases hlt : k < T
    · have hlt' : (k : Int) < T := by omega
      have hlt2 : decide ((k : Int) < (T : Int)) = true := decide_eq_true hlt'
      go_wp2_with fail
      try rw [hlt2]
      clear hlt2
      go_loopw [5, 14] (fun v c wr => ∃ x : Nat, x ≤ s ∧ c = .int .i64 x ∧ Hid (Rm w (L1 s k ++ L2 s k x) v wr)) (fun _ c _ => s - (intOf c).toNat)
      case atStart => exact ⟨0, by omega, rfl, Lib.hid (by rw [show L2 s k 0 = [] from rfl, List.append_nil]; exact HS.out)⟩
      case round =>
        obtain ⟨x, hx, rfl, HX⟩ := hrel
        by_cases hlx : x < s
        · have hlx' : (x : Int) < s := by omega
          have hlx2 : decide ((x : Int) < (s : Int)) = true := decide_eq_true hlx'
          go_wp2_with fail
          try rw [hlx2]
          clear hlx2
          go_loopw [5, 18] (fun v c wr => ∃ y : Nat, y ≤ s ∧ c = .int .i64 y ∧ Hid (Rm w (L1 s k ++ L2 s k x ++ L3 k x y) v wr)) (fun _ c _ => s - (intOf c).toNat)
          case atStart => exact ⟨0, by omega, rfl, Lib.hid (by rw [show L3 k x 0 = [] from rfl, List.append_nil]; exact HX.out)⟩
          case round =>
            obtain ⟨y, hy, rfl, HY⟩ := hrel
            by_cases hly : y < s
            · have hly' : (y : Int) < s := by omega
              have HO := kept_alloc HY.out.1 (.cells #[.int .i64 (k : Int), .int .i64 (x : Int), .int .i64 (y : Int)] 62)
              have HB := HY.out.2.size
              have HL : (L1 s k ++ L2 s k x ++ L3 k x y).length ≤ 600 := by
                rw [List.length_append, List.length_append, L1_len, L2_len, L3_len]
                have h1 := Nat.mul_le_mul (show k ≤ 8 by omega) HSS.out
                have h2 := Nat.mul_le_mul (show x ≤ 6 by omega) hs
                omega
              go_wp2_with (at_builtin; refine wpList_append_own _ rfl _ _ 84 rfl w.heap.size 62 i0 (.agg #[.int .i64 0, .int .i64 0, .int .i64 0]) 3 24 Try.underlying84 hi hz0 hz1 hz2 rfl (by decide) _ _ _ rfl HO ⟨wr.heap.size, 0, none⟩ 1 1 [.int .i64 (k : Int), .int .i64 (x : Int), .int .i64 (y : Int)] rfl rfl (three_new _ _ _ _ _) (ints_one3 _ _ _) (by have := HL; unfold maxLen; omega) (by have := HL; omega) (by have := HB; simp; omega) ?_; intro v' w1 hown' hgrow hnn; have R := Lib.hid (HY.out.app _ hown' hgrow); clear hown' hgrow hnn HY HO HL HB)
              go_roundw
              case rel => exact ⟨y + 1, by omega, by go_num, Lib.hid (by rw [L3_succ, ← List.append_assoc]; exact R.out)⟩
              case measure => simp [intOf]; omega
            · obtain rfl : y = s := by omega
              clear hi hz0 hz1 hz2
              go_wp2_with fail
              go_roundw
              case rel => exact ⟨x + 1, by omega, by go_num, Lib.hid (by rw [L2_succ, ← List.append_assoc]; exact HY.out)⟩
              case measure => simp [intOf]; omega
        · obtain rfl : x = s := by omega
          clear hi hz0 hz1 hz2
          go_wp2_with fail
          go_roundw
          case rel => exact ⟨k + 1, by omega, by go_num, Lib.hid (by rw [L1_succ]; exact HX.out)⟩
          case measure => simp [intOf]; omega
    · obtain rfl : k = T := by omega
      have hn : 0 < (L1 s k).length := by rw [L1_len]; exact HT1.out
      have h1 := HS.out.1
      rcases h1.2 with ⟨_, h0⟩ | ⟨g, cap, cur, rfl, hb, hr⟩
      · omega
      · have H1 := Lib.hid h1
        have HG := Lib.hid hb
        have HB := Lib.hid HS.out.2
        clear h1 hb hr HS hn
        go_wp2_with fail
        go_ret
        exact ⟨g, cap, rfl, H1.out, HG.out, HB.out⟩
theorem allmotions_f (w : World) : Calls Try.prog 159 #[] w (MsPost 6 8 w) := by
  have H := Lib.hid (motions_f (s := 6) (T := 8) (by decide) (by decide) (by decide) (by decide))
  go_enter Try.func159, Try.ntmps159
  go_wp2_with fail
  refine (H.out _).mono ?_
  rintro e w' ⟨g, cap, rfl, h1, h2, h3⟩
  have H1 := Lib.hid h1
  have H2 := Lib.hid h2
  have H3 := Lib.hid h3
  clear h1 h2 h3
  go_wp2_with fail
  go_ret
  exact ⟨g, cap, rfl, H1.out, H2.out, H3.out⟩
end Go.Proofs.Ytkobgklpcpoglaa
