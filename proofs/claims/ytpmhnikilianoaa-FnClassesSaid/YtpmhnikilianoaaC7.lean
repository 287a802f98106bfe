/- CONTRACTS: the number of choices, kept sheets counted. -/
import Derived.Test.YtpmhnikilianoaaO7
import Derived.WalkKit
import Derived.ProofKit
import Derived.OpenShut
import Derived.Lib.Hide
import Derived.WalkSpells
import Derived.Below
import Derived.BigQuiet
import Derived.LoopN
namespace Go.Proofs.Ytpmhnikilianoaa
open Go.ChangeShapes Go.WideShapes Go.ChangeAt Go.RowKit
set_option linter.unusedVariables false
/-- The ways to choose k of n things, as both count them. -/
def cz (n : Nat) : Nat → Nat
  | 0 => 1
  | k + 1 => cz n k * (n - k) / (k + 1)
theorem drewN_below {B : Nat} {a w : World} (h : Below B a w) (n : Nat) : Below B a (w.drewN n) := h.trans ⟨rfl, rfl, rfl, Nat.le_refl _, fun _ _ => rfl⟩
theorem cz_fin : ∀ d : Fin 7, 1 ≤ d.val → 6 % d.val = 0 → ∀ i : Fin 37, cz (36 / d.val) i.val * (36 / d.val - i.val) < 2 ^ 62 ∧ cz (36 / d.val) i.val < 2 ^ 62 := by decide +kernel
theorem vo_div : ∀ x y : Fin 6, 6 % vo x.val y.val = 0 := by decide
theorem cz_lt {d i : Nat} (h1 : 1 ≤ d) (h6 : d ≤ 6) (hd : 6 % d = 0) (hi : i ≤ 36) : cz (36 / d) i * (36 / d - i) < 4611686018427387904 ∧ cz (36 / d) i < 4611686018427387904 := cz_fin ⟨d, by omega⟩ h1 hd ⟨i, by omega⟩
/-- The sheets of a size that a vector keeps. -/
def kz (x y s : Nat) : Nat := if s % vo x y = 0 then cz (36 / vo x y) (s / vo x y) else 0
theorem cz_step (n k : Nat) (hk : k < n) (hn : n ≤ 36) (h : cz n k * (n - k) < 4611686018427387904) : (wrap64 ((cz n k : Int) * ((n : Int) - (k : Int)))).tdiv ((k : Int) + 1) = ((cz n (k + 1) : Nat) : Int) := by
  have e : (cz n k : Int) * ((n : Int) - (k : Int)) = ((cz n k * (n - k) : Nat) : Int) := by rw [Int.natCast_mul, Int.natCast_sub (by omega)]
  rw [e]
  have e2 : cz n (k + 1) = cz n k * (n - k) / (k + 1) := rfl
  rw [e2]
  generalize cz n k * (n - k) = m at *
  have e3 : wrap64 (m : Int) = (m : Int) := by unfold wrap64; omega
  rw [e3, Int.tdiv_eq_ediv_of_nonneg (by omega)]
  simp
set_option maxHeartbeats 1000000 in
theorem lchoose_f (n k : Nat) (hk : k ≤ n) (hn : n ≤ 36) (hc : ∀ i, i < k → cz n i * (n - i) < 4611686018427387904) (w : World) : Calls Try.prog 207 #[.int .i64 (n : Int), .int .i64 (k : Int)] w fun e w' => e = .returned (.int .i64 (cz n k : Int)) ∧ w' = w := by
  have HC := Lib.hid hc
  clear hc
  go_enter Try.func207, Try.ntmps207
  go_wp2_with fail
  go_loopw [5, 6] (fun v c wr => ∃ i : Nat, i ≤ k ∧ c = .int .i64 i ∧ v = .int .i64 ((cz n i : Nat) : Int) ∧ wr = w) (fun _ c _ => k - (intOf c).toNat)
  case atStart => exact ⟨0, by omega, rfl, rfl, rfl⟩
  case round =>
    obtain ⟨i, hi, rfl, rfl, rfl⟩ := hrel
    by_cases hlt : i < k
    · have hlt' : (i : Int) < k := by omega
      have hs := cz_step n i (by omega) hn (HC.out i hlt)
      obtain ⟨c, hcc⟩ : ∃ c : Int, c = ((cz n i : Nat) : Int) := ⟨_, rfl⟩
      obtain ⟨c2, hcc2⟩ : ∃ c : Int, c = ((cz n (i + 1) : Nat) : Int) := ⟨_, rfl⟩
      rw [← hcc, ← hcc2] at hs
      rw [← hcc]
      have hb2 : 0 ≤ c2 ∧ c2 < 4611686018427387904 := by
        have h1 : cz n (i + 1) ≤ cz n i * (n - i) := Nat.div_le_self _ _
        have h2 := HC.out i hlt
        omega
      have HE := Lib.hid hcc2
      clear hcc hcc2
      go_wp2_with fail
      go_roundw
      case rel => exact ⟨i + 1, by omega, by go_num, by rw [HE.out], trivial⟩
      case measure => simp [intOf]; omega
    · obtain rfl : i = k := by omega
      go_wp2_with fail
      go_ret
      exact ⟨rfl, rfl⟩
set_option maxHeartbeats 1000000 in
theorem ichoose_f (n k : Nat) (hk : k ≤ n) (hn : n ≤ 36) (hc : ∀ i, i < k → cz n i * (n - i) < 4611686018427387904) (w : World) : Calls Try.prog 208 #[.int .i64 (n : Int), .int .i64 (k : Int)] w fun e w' => e = .returned (.int .i64 (cz n k : Int)) ∧ w' = w := by
  have HC := Lib.hid hc
  clear hc
  go_enter Try.func208, Try.ntmps208
  go_wp2_with fail
  go_loopw [5, 8] (fun v c wr => ∃ i : Nat, i ≤ k ∧ c = .int .i64 i ∧ v = .int .i64 ((cz n i : Nat) : Int) ∧ wr = w) (fun _ c _ => k - (intOf c).toNat)
  case atStart => exact ⟨0, by omega, rfl, rfl, rfl⟩
  case round =>
    obtain ⟨i, hi, rfl, rfl, rfl⟩ := hrel
    by_cases hlt : i < k
    · have hlt' : (i : Int) < k := by omega
      have hs := cz_step n i (by omega) hn (HC.out i hlt)
      obtain ⟨c, hcc⟩ : ∃ c : Int, c = ((cz n i : Nat) : Int) := ⟨_, rfl⟩
      obtain ⟨c2, hcc2⟩ : ∃ c : Int, c = ((cz n (i + 1) : Nat) : Int) := ⟨_, rfl⟩
      rw [← hcc, ← hcc2] at hs
      rw [← hcc]
      have hb2 : 0 ≤ c2 ∧ c2 < 4611686018427387904 := by
        have h1 : cz n (i + 1) ≤ cz n i * (n - i) := Nat.div_le_self _ _
        have h2 := HC.out i hlt
        omega
      have HE := Lib.hid hcc2
      clear hcc hcc2
      go_wp2_with fail
      go_roundw
      case rel => exact ⟨i + 1, by omega, by go_num, by rw [HE.out], trivial⟩
      case measure => simp [intOf]; omega
    · obtain rfl : i = k := by omega
      go_wp2_with fail
      go_ret
      exact ⟨rfl, rfl⟩
set_option maxHeartbeats 1000000 in
theorem lkept_f (x y s : Nat) (hx : x < 6) (hy : y < 6) (hs : s ≤ 36) (w : World) : Calls Try.prog 142 #[.agg #[.int .i64 (x : Int), .int .i64 (y : Int)], .int .i64 (s : Int)] w fun e w' => e = .returned (.int .i64 (kz x y s : Int)) ∧ Below w.heap.size w w' := by
  have HO := Lib.hid (lorder_f x y hx hy)
  have hg := vo_ge hx hy
  have hd := vo_div ⟨x, hx⟩ ⟨y, hy⟩
  dsimp only at hd
  unfold kz
  generalize vo x y = N at *
  have hm : (s : Int).tmod (N : Int) = ((s % N : Nat) : Int) := by rw [Int.tmod_eq_emod_of_nonneg (by omega)]; rfl
  have hq : (s : Int).tdiv (N : Int) = ((s / N : Nat) : Int) := by rw [Int.tdiv_eq_ediv_of_nonneg (by omega)]; rfl
  have hq2 : (36 : Int).tdiv (N : Int) = ((36 / N : Nat) : Int) := by rw [Int.tdiv_eq_ediv_of_nonneg (by omega)]; rfl
  have hN0 : ¬ ((N : Int) = 0) := by omega
  have HC := Lib.hid (lchoose_f (36 / N) (s / N) (Nat.div_le_div_right hs) (Nat.div_le_self _ _) (fun i hi => (cz_lt hg.1 hg.2 hd (by have := Nat.div_le_self s N; omega)).1))
  have hle : 36 / N ≤ 36 := Nat.div_le_self _ _
  have hle2 : s / N ≤ 36 := Nat.le_trans (Nat.div_le_self _ _) hs
  generalize 36 / N = n at *
  generalize s / N = k at *
  obtain ⟨r, hr⟩ : ∃ r, s % N = r := ⟨_, rfl⟩
  rw [hr] at hm ⊢
  clear hr hd
  obtain ⟨z, hz⟩ : ∃ z : Nat, z = if r = 0 then cz n k else 0 := ⟨_, rfl⟩
  rw [← hz]
  have HZ := Lib.hid hz
  clear hz
  go_enter Try.func142, Try.ntmps142
  go_wp2_with fail
  generalize hW : (World.alloc _ _ : World) = W0
  have q0 : W0.heap[w.heap.size]? = some (.cells #[.int .i64 (x : Int), .int .i64 (y : Int)] 37 (0, 0)) := by rw [← hW]; exact alloc_at rfl
  have hB : Below w.heap.size w W0 := by rw [← hW]; (repeat (first | exact Below.refl _ _ | assumption | refine Below.setCell ?_ (by first | (simp; done) | (simp; omega)) _ | refine Below.alloc ?_ (by first | (simp; done) | (simp; omega)) _ | refine Below.drew ?_))
  clear hW
  have c_c := fun j => cell_of_row W0 _ j _ _ _ q0
  go_wp2_with fail
  refine (HO.out _).mono ?_
  rintro e W1 ⟨rfl, hb⟩
  have hB1 := below_of hB hb hB.size
  clear hb hB c_c q0 HO
  by_cases h0 : r = 0
  · subst h0
    have hzz : z = cz n k := HZ.out.trans (if_pos rfl)
    rw [← hzz] at HC
    clear hzz HZ
    go_wp2_with fail
    go_quiet (first | (exact Calls.quiet_of_same (HC.out _)))
    go_wp2_with fail
    go_ret
    exact ⟨rfl, drewN_below hB1 _⟩
  · obtain rfl : z = 0 := HZ.out.trans (if_neg h0)
    have h0' : ¬ ((r : Int) = 0) := by omega
    go_wp2_with fail
    go_ret
    exact ⟨rfl, hB1⟩
set_option maxHeartbeats 1000000 in
theorem ikept_f (x y s : Nat) (hx : x < 6) (hy : y < 6) (hs : s ≤ 36) (w : World) : Calls Try.prog 144 #[.agg #[.int .i64 (x : Int), .int .i64 (y : Int)], .int .i64 (s : Int)] w fun e w' => e = .returned (.int .i64 (kz x y s : Int)) ∧ Below w.heap.size w w' := by
  have HO := Lib.hid (iorder_f x y hx hy)
  have hg := vo_ge hx hy
  have hd := vo_div ⟨x, hx⟩ ⟨y, hy⟩
  dsimp only at hd
  unfold kz
  generalize vo x y = N at *
  have hm : (s : Int).tmod (N : Int) = ((s % N : Nat) : Int) := by rw [Int.tmod_eq_emod_of_nonneg (by omega)]; rfl
  have hq : (s : Int).tdiv (N : Int) = ((s / N : Nat) : Int) := by rw [Int.tdiv_eq_ediv_of_nonneg (by omega)]; rfl
  have hq2 : (36 : Int).tdiv (N : Int) = ((36 / N : Nat) : Int) := by rw [Int.tdiv_eq_ediv_of_nonneg (by omega)]; rfl
  have hN0 : ¬ ((N : Int) = 0) := by omega
  have HC := Lib.hid (ichoose_f (36 / N) (s / N) (Nat.div_le_div_right hs) (Nat.div_le_self _ _) (fun i hi => (cz_lt hg.1 hg.2 hd (by have := Nat.div_le_self s N; omega)).1))
  have hle : 36 / N ≤ 36 := Nat.div_le_self _ _
  have hle2 : s / N ≤ 36 := Nat.le_trans (Nat.div_le_self _ _) hs
  generalize 36 / N = n at *
  generalize s / N = k at *
  obtain ⟨r, hr⟩ : ∃ r, s % N = r := ⟨_, rfl⟩
  rw [hr] at hm ⊢
  clear hr hd
  obtain ⟨z, hz⟩ : ∃ z : Nat, z = if r = 0 then cz n k else 0 := ⟨_, rfl⟩
  rw [← hz]
  have HZ := Lib.hid hz
  clear hz
  go_enter Try.func144, Try.ntmps144
  go_wp2_with fail
  generalize hW : (World.alloc _ _ : World) = W0
  have q0 : W0.heap[w.heap.size]? = some (.cells #[.int .i64 (x : Int), .int .i64 (y : Int)] 37 (0, 0)) := by rw [← hW]; exact alloc_at rfl
  have hB : Below w.heap.size w W0 := by rw [← hW]; (repeat (first | exact Below.refl _ _ | assumption | refine Below.setCell ?_ (by first | (simp; done) | (simp; omega)) _ | refine Below.alloc ?_ (by first | (simp; done) | (simp; omega)) _ | refine Below.drew ?_))
  clear hW
  have c_c := fun j => cell_of_row W0 _ j _ _ _ q0
  go_wp2_with fail
  refine (HO.out _).mono ?_
  rintro e W1 ⟨rfl, hb⟩
  have hB1 := below_of hB hb hB.size
  clear hb hB c_c q0 HO
  by_cases h0 : r = 0
  · subst h0
    have hzz : z = cz n k := HZ.out.trans (if_pos rfl)
    rw [← hzz] at HC
    clear hzz HZ
    go_wp2_with fail
    go_quiet (first | (exact Calls.quiet_of_same (HC.out _)))
    go_wp2_with fail
    go_ret
    exact ⟨rfl, drewN_below hB1 _⟩
  · obtain rfl : z = 0 := HZ.out.trans (if_neg h0)
    have h0' : ¬ ((r : Int) = 0) := by omega
    go_wp2_with fail
    go_ret
    exact ⟨rfl, hB1⟩
end Go.Proofs.Ytpmhnikilianoaa
