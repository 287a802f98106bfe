/- MERGED, for one claim's sake: Su9, Sv9, Pj9. -/
import Derived.Test.YthphkhcppljdlaaTd9
import Derived.Test.YthphkhcppljdlaaMx7
import Derived.Test.YthphkhcppljdlaaPx
import Derived.Test.YthphkhcppljdlaaFs
import Derived.Test.YthphkhcppljdlaaPb
import Derived.Test.YthphkhcppljdlaaCs5
import Derived.Test.YthphkhcppljdlaaRl6
import Derived.Laws.Bits64
import Derived.RegionTactic
import Derived.Deep.RegionHeld3
import Derived.WalkKit
import Derived.ProofKit
import Derived.OpenShut
import Derived.Lib.Hide
import Derived.WalkSpells
import Derived.Below
import Derived.BigQuiet
import Derived.LoopN
import Derived.OwnWalk
import Derived.Laws.OwnMore
namespace Go.Proofs.Ythphkhcppljdlaa
open Go.ChangeShapes Go.WideShapes Go.ChangeAt Go.RowKit
set_option linter.unusedVariables false
/- Su9 -/
theorem xor_step6 (x m : Nat) : x ^^^ m = (x % 64 ^^^ m % 64) + 64 * (x / 64 ^^^ m / 64) := by
  have h1 : (x ^^^ m) % 2 ^ 6 = x % 2 ^ 6 ^^^ m % 2 ^ 6 := Nat.xor_mod_two_pow
  have h2 : (x ^^^ m) / 2 ^ 6 = x / 2 ^ 6 ^^^ m / 2 ^ 6 := Nat.xor_div_two_pow
  have h3 := Nat.mod_add_div (x ^^^ m) (2 ^ 6)
  rw [h1, h2] at h3
  exact h3.symm
theorem xor_pair6 (a b c d : Nat) (hb : b < 64) (hd : d < 64) : (a * 64 + b) ^^^ (c * 64 + d) = (a ^^^ c) * 64 + (b ^^^ d) := by
  rw [xor_step6]
  rw [show (a * 64 + b) % 64 = b by omega, show (c * 64 + d) % 64 = d by omega, show (a * 64 + b) / 64 = a by omega, show (c * 64 + d) / 64 = c by omega]
  omega
/-- A sum of the first k. -/
def sm9 (F : Nat → Nat) : Nat → Nat
  | 0 => 0
  | k + 1 => sm9 F k + F k
theorem sm9_le (F : Nat → Nat) (B : Nat) (h : ∀ k, F k ≤ B) : ∀ k, sm9 F k ≤ k * B
  | 0 => by simp [sm9]
  | k + 1 => by
    have := sm9_le F B h k
    have := h k
    show sm9 F k + F k ≤ _
    rw [Nat.add_mul]
    omega
theorem sm9_congr (F G : Nat → Nat) : ∀ k, (∀ i, i < k → F i = G i) → sm9 F k = sm9 G k
  | 0, _ => rfl
  | k + 1, h => by
    show sm9 F k + F k = sm9 G k + G k
    rw [sm9_congr F G k (fun i hi => h i (by omega)), h k (by omega)]
/-- No cell is black. -/
def wh9 (s : Fn6) : Bool := rowv (s 0) == 0 && rowv (s 1) == 0 && rowv (s 2) == 0 && rowv (s 3) == 0 && rowv (s 4) == 0 && rowv (s 5) == 0
/-- How many lists of n presses toggle just the cells of a sheet. -/
def ct9 (g : Fn6) : Nat → Fn6 → Nat
  | 0, s => if wh9 s then 1 else 0
  | n + 1, s => sm9 (fun k => ct9 g n (xf s (sf (k % 6) (k / 6) g))) 36
theorem ct9_le (g : Fn6) : ∀ n s, ct9 g n s ≤ 36 ^ n
  | 0, s => by unfold ct9; split <;> simp
  | n + 1, s => by
    have := sm9_le (fun k => ct9 g n (xf s (sf (k % 6) (k / 6) g))) (36 ^ n) (fun k => ct9_le g n _) 36
    show sm9 _ 36 ≤ _
    rw [Nat.pow_succ, Nat.mul_comm]
    exact this
theorem r6_xn : ∀ (b0 b1 b2 b3 b4 b5 c0 c1 c2 c3 c4 c5 : Bool), ((r6 b0 b1 b2 b3 b4 b5).toNat ^^^ (r6 c0 c1 c2 c3 c4 c5).toNat) = (r6 (Bool.xor b0 c0) (Bool.xor b1 c1) (Bool.xor b2 c2) (Bool.xor b3 c3) (Bool.xor b4 c4) (Bool.xor b5 c5)).toNat := by decide +kernel
theorem row_xn (f g : Fn6) (r : Nat) : (rowv (f r)).toNat ^^^ (rowv (g r)).toNat = (rowv (xf f g r)).toNat := r6_xn _ _ _ _ _ _ _ _ _ _ _ _
theorem fd_lt (f : Fn6) : fd36 f < 68719476736 := by
  have h0 := (row_nat f 0).2; have h1 := (row_nat f 1).2; have h2 := (row_nat f 2).2; have h3 := (row_nat f 3).2; have h4 := (row_nat f 4).2; have h5 := (row_nat f 5).2
  unfold fd36 six7
  omega
theorem fd_xor (f g : Fn6) : fd36 f ^^^ fd36 g = fd36 (xf f g) := by
  unfold fd36 six7
  rw [xor_pair6 _ _ _ _ (row_nat f 5).2 (row_nat g 5).2, xor_pair6 _ _ _ _ (row_nat f 4).2 (row_nat g 4).2, xor_pair6 _ _ _ _ (row_nat f 3).2 (row_nat g 3).2, xor_pair6 _ _ _ _ (row_nat f 2).2 (row_nat g 2).2, xor_pair6 _ _ _ _ (row_nat f 1).2 (row_nat g 1).2]
  rw [row_xn, row_xn, row_xn, row_xn, row_xn, row_xn]
theorem fd_x (f g : Fn6) : bits .xor .u64 ((fd36 f : Nat) : Int) ((fd36 g : Nat) : Int) = ((fd36 (xf f g) : Nat) : Int) := by
  have h1 := fd_lt f
  have h2 := fd_lt g
  rw [bits_xor_u64_nat _ _ (by omega) (by omega), fd_xor]
theorem fd_zero (f : Fn6) : (((fd36 f : Nat) : Int) == 0) = wh9 f := by
  have e0 := row_nat f 0; have e1 := row_nat f 1; have e2 := row_nat f 2; have e3 := row_nat f 3; have e4 := row_nat f 4; have e5 := row_nat f 5
  rw [Bool.eq_iff_iff]
  unfold wh9
  simp only [beq_iff_eq, Bool.and_eq_true]
  unfold fd36 six7
  constructor
  · intro h
    refine ⟨⟨⟨⟨⟨?_, ?_⟩, ?_⟩, ?_⟩, ?_⟩, ?_⟩ <;> omega
  · rintro ⟨⟨⟨⟨⟨h0, h1⟩, h2⟩, h3⟩, h4⟩, h5⟩
    rw [h0, h1, h2, h3, h4, h5]
    rfl
/-- The numbers of all shifted stamps lie in a block. -/
def Pr9 (g : Fn6) (gb : Nat) (w : World) : Prop := ∀ i, i < 36 → w.cell? ⟨gb, i, none⟩ = some (.int .u64 ((fd36 (sf (i % 6) (i / 6) g) : Nat) : Int))
set_option maxHeartbeats 1000000 in
theorem ctog_f (g : Fn6) : ∀ (n : Nat), n ≤ 3 → ∀ (s : Fn6) (gb cap : Nat) (w : World), Pr9 g gb w → Calls Try.prog 112 #[.int .u64 ((fd36 s : Nat) : Int), .slice (some ⟨gb, 0, none⟩) 36 cap, .int .i64 (n : Int)] w fun e w' => e = .returned (.int .i64 ((ct9 g n s : Nat) : Int)) ∧ w' = w
  | 0, _, s, gb, cap, w, hP => by
    have hz := fd_zero s
    have hc : ct9 g 0 s = if wh9 s then 1 else 0 := rfl
    rw [hc]
    clear hP hc
    generalize ((fd36 s : Nat) : Int) = d at *
    cases hw : wh9 s
    · rw [hw] at hz
      have hd : ¬ d = 0 := by simpa using hz
      clear hw
      go_enter Try.func112, Try.ntmps112
      go_wp2_with fail
      go_ret
      exact ⟨rfl, rfl⟩
    · rw [hw] at hz
      obtain rfl : d = 0 := by simpa using hz
      clear hw hz
      go_enter Try.func112, Try.ntmps112
      go_wp2_with fail
      go_ret
      exact ⟨rfl, rfl⟩
  | n + 1, hn, s, gb, cap, w, hP => by
    have HI := Lib.hid (fun (q : Fn6) => ctog_f g n (by omega) q gb cap w hP)
    have HP := Lib.hid hP
    have HB := Lib.hid (fun q => Nat.le_trans (ct9_le g n q) (Nat.pow_le_pow_right (n := 36) (by decide) (show n ≤ 2 by omega)))
    have HC : Hid (ct9 g (n + 1) s = sm9 (fun k => ct9 g n (xf s (sf (k % 6) (k / 6) g))) 36) := Lib.hid rfl
    have HX := Lib.hid (fd_x s)
    obtain ⟨N, hN⟩ : ∃ N : Int, N = ((n + 1 : Nat) : Int) := ⟨_, rfl⟩
    have hN1 : ¬ N = 0 := by omega
    have hNb : (N == 0) = false := by simpa using hN1
    have hNp : wrap64 (N - 1) = (n : Int) := by rw [hN, wr9 (by omega) (by omega)]; omega
    have hNq : IntKind.i64.wrap (N - 1) = (n : Int) := by rw [hN, iw9 (by omega) (by omega)]; omega
    rw [← hN]
    clear hP hN
    obtain ⟨d, hd⟩ : ∃ d : Int, d = ((fd36 s : Nat) : Int) := ⟨_, rfl⟩
    rw [← hd] at HX ⊢
    clear hd
    go_enter Try.func112, Try.ntmps112
    go_wp2_with fail
    go_loop [7, 16] (fun c i => ∃ k : Nat, k ≤ 36 ∧ i = .int .i64 k ∧ c = .int .i64 ((sm9 (fun k => ct9 g n (xf s (sf (k % 6) (k / 6) g))) k : Nat) : Int)) (fun _ i => 36 - (intOf i).toNat)
    case atStart => exact ⟨0, by omega, rfl, rfl⟩
    case round =>
      obtain ⟨k, hk, rfl, rfl⟩ := hrel
      by_cases hlt : k < 36
      · have hlt' : (k : Int) < 36 := by omega
        have hk0 : (0 : Int) ≤ k := by omega
        have hc := HP.out k hlt
        have hx := HX.out (sf (k % 6) (k / 6) g)
        have HIk := Lib.hid (HI.out (xf s (sf (k % 6) (k / 6) g)))
        have hs1 := sm9_le (fun k => ct9 g n (xf s (sf (k % 6) (k / 6) g))) 1296 (fun k => HB.out _) k
        have hs2 := HB.out (xf s (sf (k % 6) (k / 6) g))
        have HS : Hid (sm9 (fun k => ct9 g n (xf s (sf (k % 6) (k / 6) g))) (k + 1) = sm9 (fun k => ct9 g n (xf s (sf (k % 6) (k / 6) g))) k + ct9 g n (xf s (sf (k % 6) (k / 6) g))) := Lib.hid rfl
        generalize sm9 (fun k => ct9 g n (xf s (sf (k % 6) (k / 6) g))) k = a at *
        generalize ct9 g n (xf s (sf (k % 6) (k / 6) g)) = b at *
        generalize ((fd36 (xf s (sf (k % 6) (k / 6) g)) : Nat) : Int) = u at *
        generalize ((fd36 (sf (k % 6) (k / 6) g) : Nat) : Int) = v at *
        go_wp2_with fail
        refine (HIk.out).mono ?_
        rintro e w' ⟨rfl, rfl⟩
        go_wp2_with fail
        go_round
        case rel => exact ⟨k + 1, by omega, by go_num, by rw [HS.out]; go_num⟩
        case measure => simp [intOf]; omega
      · obtain rfl : k = 36 := by omega
        go_wp2_with fail
        go_ret
        exact ⟨by rw [HC.out]; rfl, rfl⟩
theorem SRg {w U : World} {g s : Fn6} (h : KR 2 [(w.heap.size, Obj.cells #[.int .i64 (rowv (g 0)), .int .i64 (rowv (g 1)), .int .i64 (rowv (g 2)), .int .i64 (rowv (g 3)), .int .i64 (rowv (g 4)), .int .i64 (rowv (g 5))] 28 (0, 0)), (w.heap.size + 1, Obj.cells #[.int .i64 (rowv (s 0)), .int .i64 (rowv (s 1)), .int .i64 (rowv (s 2)), .int .i64 (rowv (s 3)), .int .i64 (rowv (s 4)), .int .i64 (rowv (s 5))] 28 (0, 0))] w U) : U.cell? ⟨w.heap.size, 0, none⟩ = some (.int .i64 (rowv (g 0))) ∧ U.cell? ⟨w.heap.size, 1, none⟩ = some (.int .i64 (rowv (g 1))) ∧ U.cell? ⟨w.heap.size, 2, none⟩ = some (.int .i64 (rowv (g 2))) ∧ U.cell? ⟨w.heap.size, 3, none⟩ = some (.int .i64 (rowv (g 3))) ∧ U.cell? ⟨w.heap.size, 4, none⟩ = some (.int .i64 (rowv (g 4))) ∧ U.cell? ⟨w.heap.size, 5, none⟩ = some (.int .i64 (rowv (g 5))) ∧ U.cell? ⟨w.heap.size + 1, 0, none⟩ = some (.int .i64 (rowv (s 0))) ∧ U.cell? ⟨w.heap.size + 1, 1, none⟩ = some (.int .i64 (rowv (s 1))) ∧ U.cell? ⟨w.heap.size + 1, 2, none⟩ = some (.int .i64 (rowv (s 2))) ∧ U.cell? ⟨w.heap.size + 1, 3, none⟩ = some (.int .i64 (rowv (s 3))) ∧ U.cell? ⟨w.heap.size + 1, 4, none⟩ = some (.int .i64 (rowv (s 4))) ∧ U.cell? ⟨w.heap.size + 1, 5, none⟩ = some (.int .i64 (rowv (s 5))) ∧ KR 2 [(w.heap.size, Obj.cells #[.int .i64 (rowv (g 0)), .int .i64 (rowv (g 1)), .int .i64 (rowv (g 2)), .int .i64 (rowv (g 3)), .int .i64 (rowv (g 4)), .int .i64 (rowv (g 5))] 28 (0, 0)), (w.heap.size + 1, Obj.cells #[.int .i64 (rowv (s 0)), .int .i64 (rowv (s 1)), .int .i64 (rowv (s 2)), .int .i64 (rowv (s 3)), .int .i64 (rowv (s 4)), .int .i64 (rowv (s 5))] 28 (0, 0))] w U := SR2 h
theorem lxor_f (s p : Fn6) (w : World) : Calls Try.prog 169 #[.agg #[.int .i64 (rowv (s 0)), .int .i64 (rowv (s 1)), .int .i64 (rowv (s 2)), .int .i64 (rowv (s 3)), .int .i64 (rowv (s 4)), .int .i64 (rowv (s 5))], .agg #[.int .i64 (rowv (p 0)), .int .i64 (rowv (p 1)), .int .i64 (rowv (p 2)), .int .i64 (rowv (p 3)), .int .i64 (rowv (p 4)), .int .i64 (rowv (p 5))]] w fun e w' => e = .returned (.agg #[.int .i64 (rowv (xf s p 0)), .int .i64 (rowv (xf s p 1)), .int .i64 (rowv (xf s p 2)), .int .i64 (rowv (xf s p 3)), .int .i64 (rowv (xf s p 4)), .int .i64 (rowv (xf s p 5))]) ∧ Below w.heap.size w w' := by
  have h := l2xor_any (rowv (s 0)) (rowv (s 1)) (rowv (s 2)) (rowv (s 3)) (rowv (s 4)) (rowv (s 5)) (rowv (p 0)) (rowv (p 1)) (rowv (p 2)) (rowv (p 3)) (rowv (p 4)) (rowv (p 5)) w
  simp only [row_xf] at h
  exact h
set_option maxRecDepth 20000 in
set_option maxHeartbeats 2000000 in
theorem lsame_f (g : Fn6) : ∀ (n : Nat), n ≤ 3 → ∀ (s : Fn6) (w : World), Calls Try.prog 108 #[.agg #[.int .i64 (rowv (g 0)), .int .i64 (rowv (g 1)), .int .i64 (rowv (g 2)), .int .i64 (rowv (g 3)), .int .i64 (rowv (g 4)), .int .i64 (rowv (g 5))], .agg #[.int .i64 (rowv (s 0)), .int .i64 (rowv (s 1)), .int .i64 (rowv (s 2)), .int .i64 (rowv (s 3)), .int .i64 (rowv (s 4)), .int .i64 (rowv (s 5))], .int .i64 (n : Int)] w fun e w' => e = .returned (.int .i64 ((ct9 g n s : Nat) : Int)) ∧ Below w.heap.size w w'
  | 0, _, s, w => by
    have hE : ∀ W, (binOp .eql 28 (.agg #[.int .i64 (rowv (s 0)), .int .i64 (rowv (s 1)), .int .i64 (rowv (s 2)), .int .i64 (rowv (s 3)), .int .i64 (rowv (s 4)), .int .i64 (rowv (s 5))]) (.agg #[.int .i64 0, .int .i64 0, .int .i64 0, .int .i64 0, .int .i64 0, .int .i64 0])).run Try.prog W = .ok (.bool (wh9 s)) W := fun W => eq26 (rowv (s 0)) (rowv (s 1)) (rowv (s 2)) (rowv (s 3)) (rowv (s 4)) (rowv (s 5)) 0 0 0 0 0 0 W
    have hc : ct9 g 0 s = if wh9 s then 1 else 0 := rfl
    rw [hc]
    clear hc
    generalize wh9 s = r at *
    cases r
    all_goals
      go_enter Try.func108, Try.ntmps108
      go_wp2_with fail
      generalize hW : (World.alloc _ _ : World) = W0
      have q0 : W0.heap[(w.heap.size : Nat)]? = some (Obj.cells #[.int .i64 (rowv (g 0)), .int .i64 (rowv (g 1)), .int .i64 (rowv (g 2)), .int .i64 (rowv (g 3)), .int .i64 (rowv (g 4)), .int .i64 (rowv (g 5))] 28 (0, 0)) := by
        rw [← hW]
        repeat (first | (refine alloc_at ?_; first | (simp; done) | (simp; omega)) | refine drew_row ?_ | refine alloc_past ?_ | assumption)
      have q1 : W0.heap[(w.heap.size + 1 : Nat)]? = some (Obj.cells #[.int .i64 (rowv (s 0)), .int .i64 (rowv (s 1)), .int .i64 (rowv (s 2)), .int .i64 (rowv (s 3)), .int .i64 (rowv (s 4)), .int .i64 (rowv (s 5))] 28 (0, 0)) := by
        rw [← hW]
        repeat (first | (refine alloc_at ?_; first | (simp; done) | (simp; omega)) | refine drew_row ?_ | refine alloc_past ?_ | assumption)
      have hk : KR 2 [(w.heap.size, Obj.cells #[.int .i64 (rowv (g 0)), .int .i64 (rowv (g 1)), .int .i64 (rowv (g 2)), .int .i64 (rowv (g 3)), .int .i64 (rowv (g 4)), .int .i64 (rowv (g 5))] 28 (0, 0)), (w.heap.size + 1, Obj.cells #[.int .i64 (rowv (s 0)), .int .i64 (rowv (s 1)), .int .i64 (rowv (s 2)), .int .i64 (rowv (s 3)), .int .i64 (rowv (s 4)), .int .i64 (rowv (s 5))] 28 (0, 0))] w W0 := ⟨by simp [q0, q1], by rw [← hW]; simp, by rw [← hW]; (repeat (first | exact Below.refl _ _ | assumption | refine Below.setCell ?_ (by first | (simp; done) | (simp; omega)) _ | refine Below.alloc ?_ (by first | (simp; done) | (simp; omega)) _ | refine Below.drew ?_))⟩
      clear hW q0 q1
      have r1_c := fun j => cell_of_row W0 _ j _ _ _ (hk.row (g := w.heap.size + 1) (List.mem_cons_of_mem _ (List.mem_cons_self ..)))
      go_wp2_with fail
      go_ret
      exact ⟨rfl, hk.2.2⟩
  | n + 1, hn, s, w => by
    have HI := Lib.hid (fun (q : Fn6) (w : World) => lsame_f g n (by omega) q w)
    have HB := Lib.hid (fun q => Nat.le_trans (ct9_le g n q) (Nat.pow_le_pow_right (n := 36) (by decide) (show n ≤ 2 by omega)))
    have HC : Hid (ct9 g (n + 1) s = sm9 (fun k => ct9 g n (xf s (sf (k % 6) (k / 6) g))) 36) := Lib.hid rfl
    obtain ⟨N, hN⟩ : ∃ N : Int, N = ((n + 1 : Nat) : Int) := ⟨_, rfl⟩
    have hN1 : ¬ N = 0 := by omega
    have hNb : (N == 0) = false := by simpa using hN1
    have hNp : wrap64 (N - 1) = (n : Int) := by rw [hN, wr9 (by omega) (by omega)]; omega
    have hNq : IntKind.i64.wrap (N - 1) = (n : Int) := by rw [hN, iw9 (by omega) (by omega)]; omega
    rw [← hN]
    clear hN
    go_enter Try.func108, Try.ntmps108
    go_wp2_with fail
    generalize hW : (World.alloc _ _ : World) = W0
    have q0 : W0.heap[(w.heap.size : Nat)]? = some (Obj.cells #[.int .i64 (rowv (g 0)), .int .i64 (rowv (g 1)), .int .i64 (rowv (g 2)), .int .i64 (rowv (g 3)), .int .i64 (rowv (g 4)), .int .i64 (rowv (g 5))] 28 (0, 0)) := by
      rw [← hW]
      repeat (first | (refine alloc_at ?_; first | (simp; done) | (simp; omega)) | refine drew_row ?_ | refine alloc_past ?_ | assumption)
    have q1 : W0.heap[(w.heap.size + 1 : Nat)]? = some (Obj.cells #[.int .i64 (rowv (s 0)), .int .i64 (rowv (s 1)), .int .i64 (rowv (s 2)), .int .i64 (rowv (s 3)), .int .i64 (rowv (s 4)), .int .i64 (rowv (s 5))] 28 (0, 0)) := by
      rw [← hW]
      repeat (first | (refine alloc_at ?_; first | (simp; done) | (simp; omega)) | refine drew_row ?_ | refine alloc_past ?_ | assumption)
    have hk : KR 2 [(w.heap.size, Obj.cells #[.int .i64 (rowv (g 0)), .int .i64 (rowv (g 1)), .int .i64 (rowv (g 2)), .int .i64 (rowv (g 3)), .int .i64 (rowv (g 4)), .int .i64 (rowv (g 5))] 28 (0, 0)), (w.heap.size + 1, Obj.cells #[.int .i64 (rowv (s 0)), .int .i64 (rowv (s 1)), .int .i64 (rowv (s 2)), .int .i64 (rowv (s 3)), .int .i64 (rowv (s 4)), .int .i64 (rowv (s 5))] 28 (0, 0))] w W0 := ⟨by simp [q0, q1], by rw [← hW]; simp, by rw [← hW]; (repeat (first | exact Below.refl _ _ | assumption | refine Below.setCell ?_ (by first | (simp; done) | (simp; omega)) _ | refine Below.alloc ?_ (by first | (simp; done) | (simp; omega)) _ | refine Below.drew ?_))⟩
    clear hW q0 q1
    go_wp2_with fail
    have S0 := Lib.hid hk
    clear hk
    go_loopw [7, 8] (fun c i wr => ∃ y : Nat, y ≤ 6 ∧ i = .int .i64 y ∧ c = .int .i64 ((sm9 (fun k => ct9 g n (xf s (sf (k % 6) (k / 6) g))) (6 * y) : Nat) : Int) ∧ Hid (KR 2 [(w.heap.size, Obj.cells #[.int .i64 (rowv (g 0)), .int .i64 (rowv (g 1)), .int .i64 (rowv (g 2)), .int .i64 (rowv (g 3)), .int .i64 (rowv (g 4)), .int .i64 (rowv (g 5))] 28 (0, 0)), (w.heap.size + 1, Obj.cells #[.int .i64 (rowv (s 0)), .int .i64 (rowv (s 1)), .int .i64 (rowv (s 2)), .int .i64 (rowv (s 3)), .int .i64 (rowv (s 4)), .int .i64 (rowv (s 5))] 28 (0, 0))] w wr)) (fun _ i _ => 6 - (intOf i).toNat)
    case atStart => exact ⟨0, by omega, rfl, rfl, S0⟩
    case round =>
      obtain ⟨y, hy, rfl, rfl, HX⟩ := hrel
      clear S0
      by_cases hly : y < 6
      · have hyi : (y : Int) < 6 := by omega
        have hly2 : decide ((y : Int) < (6 : Int)) = true := decide_eq_true hyi
        go_wp2_with fail
        try rw [hly2]
        clear hly2
        go_loopw [7, 9] (fun c i wr => ∃ x : Nat, x ≤ 6 ∧ i = .int .i64 x ∧ c = .int .i64 ((sm9 (fun k => ct9 g n (xf s (sf (k % 6) (k / 6) g))) (6 * y + x) : Nat) : Int) ∧ Hid (KR 2 [(w.heap.size, Obj.cells #[.int .i64 (rowv (g 0)), .int .i64 (rowv (g 1)), .int .i64 (rowv (g 2)), .int .i64 (rowv (g 3)), .int .i64 (rowv (g 4)), .int .i64 (rowv (g 5))] 28 (0, 0)), (w.heap.size + 1, Obj.cells #[.int .i64 (rowv (s 0)), .int .i64 (rowv (s 1)), .int .i64 (rowv (s 2)), .int .i64 (rowv (s 3)), .int .i64 (rowv (s 4)), .int .i64 (rowv (s 5))] 28 (0, 0))] w wr)) (fun _ i _ => 6 - (intOf i).toNat)
        case atStart => exact ⟨0, by omega, rfl, rfl, HX⟩
        case round =>
          obtain ⟨x, hx, rfl, rfl, HS⟩ := hrel
          clear HX
          by_cases hlx : x < 6
          · have hxi : (x : Int) < 6 := by omega
            have hx0 : (0 : Int) ≤ x := by omega
            have hy0 : (0 : Int) ≤ y := by omega
            have H1 := Lib.hid (l2shift_7 g hlx hly)
            have H2 := Lib.hid (lxor_f s (sf x y g))
            have H3 := Lib.hid (HI.out (xf s (sf x y g)))
            have hs1 := sm9_le (fun k => ct9 g n (xf s (sf (k % 6) (k / 6) g))) 1296 (fun k => HB.out _) (6 * y + x)
            have hs2 := HB.out (xf s (sf x y g))
            have HT : Hid (sm9 (fun k => ct9 g n (xf s (sf (k % 6) (k / 6) g))) (6 * y + x + 1) = sm9 (fun k => ct9 g n (xf s (sf (k % 6) (k / 6) g))) (6 * y + x) + ct9 g n (xf s (sf x y g))) := Lib.hid (by
              show _ + ct9 g n (xf s (sf ((6 * y + x) % 6) ((6 * y + x) / 6) g)) = _
              rw [show (6 * y + x) % 6 = x by omega, show (6 * y + x) / 6 = y by omega])
            have hk := HS.out
            clear HS
            generalize sm9 (fun k => ct9 g n (xf s (sf (k % 6) (k / 6) g))) (6 * y + x) = a at *
            generalize ct9 g n (xf s (sf x y g)) = b at *
            generalize xf s (sf x y g) = q at *
            generalize sf x y g = p at *
            have hw1 : IntKind.i64.wrap ((a : Int) + (b : Int)) = ((a + b : Nat) : Int) := by rw [iw9 (by omega) (by omega)]; omega
            have hw2 : wrap64 ((a : Int) + (b : Int)) = ((a + b : Nat) : Int) := by rw [wr9 (by omega) (by omega)]; omega
            have hz0 := KR.le hk
            go_wp2_with fail
            set_option maxRecDepth 8000 in
            go_region_held3 (fun U => U.cell? ⟨w.heap.size, 0, none⟩ = some (.int .i64 (rowv (g 0))) ∧ U.cell? ⟨w.heap.size, 1, none⟩ = some (.int .i64 (rowv (g 1))) ∧ U.cell? ⟨w.heap.size, 2, none⟩ = some (.int .i64 (rowv (g 2))) ∧ U.cell? ⟨w.heap.size, 3, none⟩ = some (.int .i64 (rowv (g 3))) ∧ U.cell? ⟨w.heap.size, 4, none⟩ = some (.int .i64 (rowv (g 4))) ∧ U.cell? ⟨w.heap.size, 5, none⟩ = some (.int .i64 (rowv (g 5))) ∧ U.cell? ⟨w.heap.size + 1, 0, none⟩ = some (.int .i64 (rowv (s 0))) ∧ U.cell? ⟨w.heap.size + 1, 1, none⟩ = some (.int .i64 (rowv (s 1))) ∧ U.cell? ⟨w.heap.size + 1, 2, none⟩ = some (.int .i64 (rowv (s 2))) ∧ U.cell? ⟨w.heap.size + 1, 3, none⟩ = some (.int .i64 (rowv (s 3))) ∧ U.cell? ⟨w.heap.size + 1, 4, none⟩ = some (.int .i64 (rowv (s 4))) ∧ U.cell? ⟨w.heap.size + 1, 5, none⟩ = some (.int .i64 (rowv (s 5))) ∧ KR 2 [(w.heap.size, Obj.cells #[.int .i64 (rowv (g 0)), .int .i64 (rowv (g 1)), .int .i64 (rowv (g 2)), .int .i64 (rowv (g 3)), .int .i64 (rowv (g 4)), .int .i64 (rowv (g 5))] 28 (0, 0)), (w.heap.size + 1, Obj.cells #[.int .i64 (rowv (s 0)), .int .i64 (rowv (s 1)), .int .i64 (rowv (s 2)), .int .i64 (rowv (s 3)), .int .i64 (rowv (s 4)), .int .i64 (rowv (s 5))] 28 (0, 0))] w U) (with_reducible refine SRg ?_; (repeat (first | with_reducible assumption | with_reducible refine KR.al ?_ | with_reducible refine KR.drew ?_ | with_reducible refine KR.set ?_ (by first | omega | (simp; omega))))) (first | (go_at_call 115; with_reducible refine (H1.out _).mono ?_; rintro e w' ⟨rfl, hb'⟩; have hk : KR 2 [(w.heap.size, Obj.cells #[.int .i64 (rowv (g 0)), .int .i64 (rowv (g 1)), .int .i64 (rowv (g 2)), .int .i64 (rowv (g 3)), .int .i64 (rowv (g 4)), .int .i64 (rowv (g 5))] 28 (0, 0)), (w.heap.size + 1, Obj.cells #[.int .i64 (rowv (s 0)), .int .i64 (rowv (s 1)), .int .i64 (rowv (s 2)), .int .i64 (rowv (s 3)), .int .i64 (rowv (s 4)), .int .i64 (rowv (s 5))] 28 (0, 0))] w w' := KR.far (by (repeat (first | with_reducible assumption | with_reducible refine KR.al ?_ | with_reducible refine KR.drew ?_ | with_reducible refine KR.set ?_ (by first | omega | (simp; omega))))) hb' rfl; have hz0 := KR.le hk) | (go_at_call 169; with_reducible refine (H2.out _).mono ?_; rintro e w' ⟨rfl, hb'⟩; have hk : KR 2 [(w.heap.size, Obj.cells #[.int .i64 (rowv (g 0)), .int .i64 (rowv (g 1)), .int .i64 (rowv (g 2)), .int .i64 (rowv (g 3)), .int .i64 (rowv (g 4)), .int .i64 (rowv (g 5))] 28 (0, 0)), (w.heap.size + 1, Obj.cells #[.int .i64 (rowv (s 0)), .int .i64 (rowv (s 1)), .int .i64 (rowv (s 2)), .int .i64 (rowv (s 3)), .int .i64 (rowv (s 4)), .int .i64 (rowv (s 5))] 28 (0, 0))] w w' := KR.far (by (repeat (first | with_reducible assumption | with_reducible refine KR.al ?_ | with_reducible refine KR.drew ?_ | with_reducible refine KR.set ?_ (by first | omega | (simp; omega))))) hb' rfl; have hz0 := KR.le hk) | (go_at_call 108; with_reducible refine (H3.out _).mono ?_; rintro e w' ⟨rfl, hb'⟩; have hk : KR 2 [(w.heap.size, Obj.cells #[.int .i64 (rowv (g 0)), .int .i64 (rowv (g 1)), .int .i64 (rowv (g 2)), .int .i64 (rowv (g 3)), .int .i64 (rowv (g 4)), .int .i64 (rowv (g 5))] 28 (0, 0)), (w.heap.size + 1, Obj.cells #[.int .i64 (rowv (s 0)), .int .i64 (rowv (s 1)), .int .i64 (rowv (s 2)), .int .i64 (rowv (s 3)), .int .i64 (rowv (s 4)), .int .i64 (rowv (s 5))] 28 (0, 0))] w w' := KR.far (by (repeat (first | with_reducible assumption | with_reducible refine KR.al ?_ | with_reducible refine KR.drew ?_ | with_reducible refine KR.set ?_ (by first | omega | (simp; omega))))) hb' rfl; have hz0 := KR.le hk))
            all_goals
              have S6 := Lib.hid hk
              clear H1 H2 H3 hk
              go_wp2_with fail
              go_roundw
              case rel => exact ⟨x + 1, by omega, by go_num, by rw [show 6 * y + (x + 1) = 6 * y + x + 1 by omega, HT.out]; go_num, S6⟩
              case measure => simp [intOf]; omega
          · obtain rfl : x = 6 := by omega
            go_wp2_with fail
            go_roundw
            case rel => exact ⟨y + 1, by omega, by go_num, by rw [show 6 * (y + 1) = 6 * y + 6 by omega], HS⟩
            case measure => simp [intOf]; omega
      · obtain rfl : y = 6 := by omega
        go_wp2_with fail
        go_ret
        exact ⟨by rw [HC.out]; rfl, HX.out.2.2⟩
/- Sv9 -/
theorem SR1 {w U : World} {a0 a1 a2 a3 a4 a5 : Int} (h : KR 1 [(w.heap.size, Obj.cells #[.int .i64 a0, .int .i64 a1, .int .i64 a2, .int .i64 a3, .int .i64 a4, .int .i64 a5] 28 (0, 0))] w U) : U.cell? ⟨w.heap.size, 0, none⟩ = some (.int .i64 a0) ∧ U.cell? ⟨w.heap.size, 1, none⟩ = some (.int .i64 a1) ∧ U.cell? ⟨w.heap.size, 2, none⟩ = some (.int .i64 a2) ∧ U.cell? ⟨w.heap.size, 3, none⟩ = some (.int .i64 a3) ∧ U.cell? ⟨w.heap.size, 4, none⟩ = some (.int .i64 a4) ∧ U.cell? ⟨w.heap.size, 5, none⟩ = some (.int .i64 a5) ∧ KR 1 [(w.heap.size, Obj.cells #[.int .i64 a0, .int .i64 a1, .int .i64 a2, .int .i64 a3, .int .i64 a4, .int .i64 a5] 28 (0, 0))] w U :=
  have h0 := fun j => cell_of_row U _ j _ _ _ (h.row (g := w.heap.size) (List.mem_cons_self ..))
  ⟨h0 0, h0 1, h0 2, h0 3, h0 4, h0 5, h⟩
set_option maxHeartbeats 2000000 in
theorem scs_y (a0 a1 a2 a3 a4 a5 : Int) (n ct al c1 c2 : Int) (HA : Hid (∀ w, Calls Try.prog 98 #[.agg #[.int .i64 a0, .int .i64 a1, .int .i64 a2, .int .i64 a3, .int .i64 a4, .int .i64 a5]] w fun e w' => e = .returned (.bool true) ∧ Below w.heap.size w w'))(HN : Hid (∀ w, Calls Try.prog 107 #[.int .i64 n, .int .i64 0, .int .i64 3] w fun e w' => e = .returned (.bool true) ∧ Below w.heap.size w w'))(HS : Hid (∀ w, Calls Try.prog 108 #[.agg #[.int .i64 a0, .int .i64 a1, .int .i64 a2, .int .i64 a3, .int .i64 a4, .int .i64 a5], .agg #[.int .i64 0, .int .i64 0, .int .i64 0, .int .i64 0, .int .i64 0, .int .i64 0], .int .i64 n] w fun e w' => e = .returned (.int .i64 ct) ∧ Below w.heap.size w w'))(HP : Hid (∀ w, Calls Try.prog 92 #[.int .i64 36, .int .i64 n] w fun e w' => e = .returned (.int .i64 al) ∧ Below w.heap.size w w'))(HX : Hid (∀ w, Calls Try.prog 94 #[.int .i64 ct, .int .i64 al] w fun e w' => e = .returned (.agg #[.int .i64 c1, .int .i64 c2]) ∧ Below w.heap.size w w')) (w : World) : Calls Try.prog 45 #[.agg #[.int .i64 a0, .int .i64 a1, .int .i64 a2, .int .i64 a3, .int .i64 a4, .int .i64 a5], .int .i64 n] w fun e w' => e = .returned (.tuple #[.agg #[.int .i64 c1, .int .i64 c2], .bool true]) ∧ Below w.heap.size w w' := by
  go_enter Try.func45, Try.ntmps45
  go_wp2_with fail
  generalize hW : (World.alloc _ _ : World) = W0
  have q0 : W0.heap[(w.heap.size : Nat)]? = some (Obj.cells #[.int .i64 a0, .int .i64 a1, .int .i64 a2, .int .i64 a3, .int .i64 a4, .int .i64 a5] 28 (0, 0)) := by
    rw [← hW]
    repeat (first | (refine alloc_at ?_; first | (simp; done) | (simp; omega)) | refine drew_row ?_ | refine alloc_past ?_ | assumption)
  have hq : W0.heap[(w.heap.size + 1 : Nat)]? = some (Obj.cells #[.int .i64 0, .int .i64 0] 25 (0, 0)) := by
    rw [← hW]
    repeat (first | (refine alloc_at ?_; first | (simp; done) | (simp; omega)) | refine drew_row ?_ | refine alloc_past ?_ | assumption)
  have hk : KR 1 [(w.heap.size, Obj.cells #[.int .i64 a0, .int .i64 a1, .int .i64 a2, .int .i64 a3, .int .i64 a4, .int .i64 a5] 28 (0, 0))] w W0 := ⟨by simp [q0], by rw [← hW]; simp, by rw [← hW]; (repeat (first | exact Below.refl _ _ | assumption | refine Below.setCell ?_ (by first | (simp; done) | (simp; omega)) _ | refine Below.alloc ?_ (by first | (simp; done) | (simp; omega)) _ | refine Below.drew ?_))⟩
  clear hW q0
  have r0_c := fun j => cell_of_row W0 _ j _ _ _ (hk.row (g := w.heap.size) (List.mem_cons_self ..))
  have z_c := fun j => cell_of_row W0 _ j _ _ _ hq
  have z_f := fun j => frozen_of_row W0 _ j _ _ hq
  go_wp2_with fail
  refine (HA.out _).mono ?_
  rintro e W1 ⟨rfl, hb⟩
  clear r0_c z_c z_f
  have hk := hk.far hb rfl
  have hq := rowk hq hb rfl
  clear hb
  have r0_c := fun j => cell_of_row W1 _ j _ _ _ (hk.row (g := w.heap.size) (List.mem_cons_self ..))
  have z_c := fun j => cell_of_row W1 _ j _ _ _ hq
  have z_f := fun j => frozen_of_row W1 _ j _ _ hq
  go_wp2_with fail
  refine (HN.out _).mono ?_
  rintro e W2 ⟨rfl, hb⟩
  clear r0_c z_c z_f
  have hk := hk.far hb rfl
  have hq := rowk hq hb rfl
  clear hb
  have r0_c := fun j => cell_of_row W2 _ j _ _ _ (hk.row (g := w.heap.size) (List.mem_cons_self ..))
  have z_c := fun j => cell_of_row W2 _ j _ _ _ hq
  have z_f := fun j => frozen_of_row W2 _ j _ _ hq
  go_wp2_with fail
  refine (HS.out _).mono ?_
  rintro e W3 ⟨rfl, hb⟩
  clear r0_c z_c z_f
  have hk := hk.far hb rfl
  have hq := rowk hq hb rfl
  clear hb
  have r0_c := fun j => cell_of_row W3 _ j _ _ _ (hk.row (g := w.heap.size) (List.mem_cons_self ..))
  have z_c := fun j => cell_of_row W3 _ j _ _ _ hq
  have z_f := fun j => frozen_of_row W3 _ j _ _ hq
  go_wp2_with fail
  refine (HP.out _).mono ?_
  rintro e W4 ⟨rfl, hb⟩
  clear r0_c z_c z_f
  have hk := hk.far hb rfl
  have hq := rowk hq hb rfl
  clear hb
  have r0_c := fun j => cell_of_row W4 _ j _ _ _ (hk.row (g := w.heap.size) (List.mem_cons_self ..))
  have z_c := fun j => cell_of_row W4 _ j _ _ _ hq
  have z_f := fun j => frozen_of_row W4 _ j _ _ hq
  go_wp2_with fail
  refine (HX.out _).mono ?_
  rintro e W5 ⟨rfl, hb⟩
  clear r0_c z_c z_f
  have hk := hk.far hb rfl
  have hq := rowk hq hb rfl
  clear hb
  have r0_c := fun j => cell_of_row W5 _ j _ _ _ (hk.row (g := w.heap.size) (List.mem_cons_self ..))
  have z_c := fun j => cell_of_row W5 _ j _ _ _ hq
  have z_f := fun j => frozen_of_row W5 _ j _ _ hq
  go_wp2_with fail
  have hB := hk.2.2
  refine bodyPost_ret (v := .tuple #[.agg #[.int .i64 c1, .int .i64 c2], .bool true]) (by simp [results, Try.results45, go_sem, z_c]) rfl ⟨rfl, ?_⟩
  exact (hB.setCell (by first | (simp; done) | (simp; omega)) _).setCell (by first | (simp; done) | (simp; omega)) _
set_option maxHeartbeats 2000000 in
theorem scs_n0 (a0 a1 a2 a3 a4 a5 : Int) (n : Int) (HA : Hid (∀ w, Calls Try.prog 98 #[.agg #[.int .i64 a0, .int .i64 a1, .int .i64 a2, .int .i64 a3, .int .i64 a4, .int .i64 a5]] w fun e w' => e = .returned (.bool false) ∧ Below w.heap.size w w')) (w : World) : Calls Try.prog 45 #[.agg #[.int .i64 a0, .int .i64 a1, .int .i64 a2, .int .i64 a3, .int .i64 a4, .int .i64 a5], .int .i64 n] w fun e w' => e = .returned (.tuple #[.agg #[.int .i64 0, .int .i64 0], .bool false]) ∧ Below w.heap.size w w' := by
  go_enter Try.func45, Try.ntmps45
  go_wp2_with fail
  generalize hW : (World.alloc _ _ : World) = W0
  have q0 : W0.heap[(w.heap.size : Nat)]? = some (Obj.cells #[.int .i64 a0, .int .i64 a1, .int .i64 a2, .int .i64 a3, .int .i64 a4, .int .i64 a5] 28 (0, 0)) := by
    rw [← hW]
    repeat (first | (refine alloc_at ?_; first | (simp; done) | (simp; omega)) | refine drew_row ?_ | refine alloc_past ?_ | assumption)
  have hq : W0.heap[(w.heap.size + 1 : Nat)]? = some (Obj.cells #[.int .i64 0, .int .i64 0] 25 (0, 0)) := by
    rw [← hW]
    repeat (first | (refine alloc_at ?_; first | (simp; done) | (simp; omega)) | refine drew_row ?_ | refine alloc_past ?_ | assumption)
  have hk : KR 1 [(w.heap.size, Obj.cells #[.int .i64 a0, .int .i64 a1, .int .i64 a2, .int .i64 a3, .int .i64 a4, .int .i64 a5] 28 (0, 0))] w W0 := ⟨by simp [q0], by rw [← hW]; simp, by rw [← hW]; (repeat (first | exact Below.refl _ _ | assumption | refine Below.setCell ?_ (by first | (simp; done) | (simp; omega)) _ | refine Below.alloc ?_ (by first | (simp; done) | (simp; omega)) _ | refine Below.drew ?_))⟩
  clear hW q0
  have r0_c := fun j => cell_of_row W0 _ j _ _ _ (hk.row (g := w.heap.size) (List.mem_cons_self ..))
  have z_c := fun j => cell_of_row W0 _ j _ _ _ hq
  have z_f := fun j => frozen_of_row W0 _ j _ _ hq
  go_wp2_with fail
  refine (HA.out _).mono ?_
  rintro e W1 ⟨rfl, hb⟩
  clear r0_c z_c z_f
  have hk := hk.far hb rfl
  have hq := rowk hq hb rfl
  clear hb
  have r0_c := fun j => cell_of_row W1 _ j _ _ _ (hk.row (g := w.heap.size) (List.mem_cons_self ..))
  have z_c := fun j => cell_of_row W1 _ j _ _ _ hq
  have z_f := fun j => frozen_of_row W1 _ j _ _ hq
  go_wp2_with fail
  have hB := hk.2.2
  refine bodyPost_ret (v := .tuple #[.agg #[.int .i64 0, .int .i64 0], .bool false]) (by simp [results, Try.results45, go_sem, z_c]) rfl ⟨rfl, ?_⟩
  exact (hB.setCell (by first | (simp; done) | (simp; omega)) _).setCell (by first | (simp; done) | (simp; omega)) _
set_option maxHeartbeats 2000000 in
theorem scs_n1 (a0 a1 a2 a3 a4 a5 : Int) (n : Int) (HA : Hid (∀ w, Calls Try.prog 98 #[.agg #[.int .i64 a0, .int .i64 a1, .int .i64 a2, .int .i64 a3, .int .i64 a4, .int .i64 a5]] w fun e w' => e = .returned (.bool true) ∧ Below w.heap.size w w'))(HN : Hid (∀ w, Calls Try.prog 107 #[.int .i64 n, .int .i64 0, .int .i64 3] w fun e w' => e = .returned (.bool false) ∧ Below w.heap.size w w')) (w : World) : Calls Try.prog 45 #[.agg #[.int .i64 a0, .int .i64 a1, .int .i64 a2, .int .i64 a3, .int .i64 a4, .int .i64 a5], .int .i64 n] w fun e w' => e = .returned (.tuple #[.agg #[.int .i64 0, .int .i64 0], .bool false]) ∧ Below w.heap.size w w' := by
  go_enter Try.func45, Try.ntmps45
  go_wp2_with fail
  generalize hW : (World.alloc _ _ : World) = W0
  have q0 : W0.heap[(w.heap.size : Nat)]? = some (Obj.cells #[.int .i64 a0, .int .i64 a1, .int .i64 a2, .int .i64 a3, .int .i64 a4, .int .i64 a5] 28 (0, 0)) := by
    rw [← hW]
    repeat (first | (refine alloc_at ?_; first | (simp; done) | (simp; omega)) | refine drew_row ?_ | refine alloc_past ?_ | assumption)
  have hq : W0.heap[(w.heap.size + 1 : Nat)]? = some (Obj.cells #[.int .i64 0, .int .i64 0] 25 (0, 0)) := by
    rw [← hW]
    repeat (first | (refine alloc_at ?_; first | (simp; done) | (simp; omega)) | refine drew_row ?_ | refine alloc_past ?_ | assumption)
  have hk : KR 1 [(w.heap.size, Obj.cells #[.int .i64 a0, .int .i64 a1, .int .i64 a2, .int .i64 a3, .int .i64 a4, .int .i64 a5] 28 (0, 0))] w W0 := ⟨by simp [q0], by rw [← hW]; simp, by rw [← hW]; (repeat (first | exact Below.refl _ _ | assumption | refine Below.setCell ?_ (by first | (simp; done) | (simp; omega)) _ | refine Below.alloc ?_ (by first | (simp; done) | (simp; omega)) _ | refine Below.drew ?_))⟩
  clear hW q0
  have r0_c := fun j => cell_of_row W0 _ j _ _ _ (hk.row (g := w.heap.size) (List.mem_cons_self ..))
  have z_c := fun j => cell_of_row W0 _ j _ _ _ hq
  have z_f := fun j => frozen_of_row W0 _ j _ _ hq
  go_wp2_with fail
  refine (HA.out _).mono ?_
  rintro e W1 ⟨rfl, hb⟩
  clear r0_c z_c z_f
  have hk := hk.far hb rfl
  have hq := rowk hq hb rfl
  clear hb
  have r0_c := fun j => cell_of_row W1 _ j _ _ _ (hk.row (g := w.heap.size) (List.mem_cons_self ..))
  have z_c := fun j => cell_of_row W1 _ j _ _ _ hq
  have z_f := fun j => frozen_of_row W1 _ j _ _ hq
  go_wp2_with fail
  refine (HN.out _).mono ?_
  rintro e W2 ⟨rfl, hb⟩
  clear r0_c z_c z_f
  have hk := hk.far hb rfl
  have hq := rowk hq hb rfl
  clear hb
  have r0_c := fun j => cell_of_row W2 _ j _ _ _ (hk.row (g := w.heap.size) (List.mem_cons_self ..))
  have z_c := fun j => cell_of_row W2 _ j _ _ _ hq
  have z_f := fun j => frozen_of_row W2 _ j _ _ hq
  go_wp2_with fail
  have hB := hk.2.2
  refine bodyPost_ret (v := .tuple #[.agg #[.int .i64 0, .int .i64 0], .bool false]) (by simp [results, Try.results45, go_sem, z_c]) rfl ⟨rfl, ?_⟩
  exact (hB.setCell (by first | (simp; done) | (simp; omega)) _).setCell (by first | (simp; done) | (simp; omega)) _
set_option maxHeartbeats 2000000 in
theorem ics_n0 (a0 a1 a2 a3 a4 a5 : Int) (n : Int) (HA : Hid (∀ w, Calls Try.prog 102 #[.agg #[.int .i64 a0, .int .i64 a1, .int .i64 a2, .int .i64 a3, .int .i64 a4, .int .i64 a5]] w fun e w' => e = .returned (.bool false) ∧ Below w.heap.size w w')) (w : World) : Calls Try.prog 46 #[.agg #[.int .i64 a0, .int .i64 a1, .int .i64 a2, .int .i64 a3, .int .i64 a4, .int .i64 a5], .int .i64 n] w fun e w' => e = .returned (.tuple #[.agg #[.int .i64 0, .int .i64 0], .bool false]) ∧ Below w.heap.size w w' := by
  go_enter Try.func46, Try.ntmps46
  go_wp2_with fail
  generalize hW : (World.alloc _ _ : World) = W0
  have q0 : W0.heap[(w.heap.size : Nat)]? = some (Obj.cells #[.int .i64 a0, .int .i64 a1, .int .i64 a2, .int .i64 a3, .int .i64 a4, .int .i64 a5] 28 (0, 0)) := by
    rw [← hW]
    repeat (first | (refine alloc_at ?_; first | (simp; done) | (simp; omega)) | refine drew_row ?_ | refine alloc_past ?_ | assumption)
  have hq : W0.heap[(w.heap.size + 1 : Nat)]? = some (Obj.cells #[.int .i64 0, .int .i64 0] 25 (0, 0)) := by
    rw [← hW]
    repeat (first | (refine alloc_at ?_; first | (simp; done) | (simp; omega)) | refine drew_row ?_ | refine alloc_past ?_ | assumption)
  have hk : KR 1 [(w.heap.size, Obj.cells #[.int .i64 a0, .int .i64 a1, .int .i64 a2, .int .i64 a3, .int .i64 a4, .int .i64 a5] 28 (0, 0))] w W0 := ⟨by simp [q0], by rw [← hW]; simp, by rw [← hW]; (repeat (first | exact Below.refl _ _ | assumption | refine Below.setCell ?_ (by first | (simp; done) | (simp; omega)) _ | refine Below.alloc ?_ (by first | (simp; done) | (simp; omega)) _ | refine Below.drew ?_))⟩
  clear hW q0
  have r0_c := fun j => cell_of_row W0 _ j _ _ _ (hk.row (g := w.heap.size) (List.mem_cons_self ..))
  have z_c := fun j => cell_of_row W0 _ j _ _ _ hq
  have z_f := fun j => frozen_of_row W0 _ j _ _ hq
  go_wp2_with fail
  refine (HA.out _).mono ?_
  rintro e W1 ⟨rfl, hb⟩
  clear r0_c z_c z_f
  have hk := hk.far hb rfl
  have hq := rowk hq hb rfl
  clear hb
  have r0_c := fun j => cell_of_row W1 _ j _ _ _ (hk.row (g := w.heap.size) (List.mem_cons_self ..))
  have z_c := fun j => cell_of_row W1 _ j _ _ _ hq
  have z_f := fun j => frozen_of_row W1 _ j _ _ hq
  go_wp2_with fail
  have hB := hk.2.2
  refine bodyPost_ret (v := .tuple #[.agg #[.int .i64 0, .int .i64 0], .bool false]) (by simp [results, Try.results46, go_sem, z_c]) rfl ⟨rfl, ?_⟩
  exact (hB.setCell (by first | (simp; done) | (simp; omega)) _).setCell (by first | (simp; done) | (simp; omega)) _
set_option maxHeartbeats 2000000 in
theorem ics_n1 (a0 a1 a2 a3 a4 a5 : Int) (n : Int) (hn : n < 0) (HA : Hid (∀ w, Calls Try.prog 102 #[.agg #[.int .i64 a0, .int .i64 a1, .int .i64 a2, .int .i64 a3, .int .i64 a4, .int .i64 a5]] w fun e w' => e = .returned (.bool true) ∧ Below w.heap.size w w')) (w : World) : Calls Try.prog 46 #[.agg #[.int .i64 a0, .int .i64 a1, .int .i64 a2, .int .i64 a3, .int .i64 a4, .int .i64 a5], .int .i64 n] w fun e w' => e = .returned (.tuple #[.agg #[.int .i64 0, .int .i64 0], .bool false]) ∧ Below w.heap.size w w' := by
  go_enter Try.func46, Try.ntmps46
  go_wp2_with fail
  generalize hW : (World.alloc _ _ : World) = W0
  have q0 : W0.heap[(w.heap.size : Nat)]? = some (Obj.cells #[.int .i64 a0, .int .i64 a1, .int .i64 a2, .int .i64 a3, .int .i64 a4, .int .i64 a5] 28 (0, 0)) := by
    rw [← hW]
    repeat (first | (refine alloc_at ?_; first | (simp; done) | (simp; omega)) | refine drew_row ?_ | refine alloc_past ?_ | assumption)
  have hq : W0.heap[(w.heap.size + 1 : Nat)]? = some (Obj.cells #[.int .i64 0, .int .i64 0] 25 (0, 0)) := by
    rw [← hW]
    repeat (first | (refine alloc_at ?_; first | (simp; done) | (simp; omega)) | refine drew_row ?_ | refine alloc_past ?_ | assumption)
  have hk : KR 1 [(w.heap.size, Obj.cells #[.int .i64 a0, .int .i64 a1, .int .i64 a2, .int .i64 a3, .int .i64 a4, .int .i64 a5] 28 (0, 0))] w W0 := ⟨by simp [q0], by rw [← hW]; simp, by rw [← hW]; (repeat (first | exact Below.refl _ _ | assumption | refine Below.setCell ?_ (by first | (simp; done) | (simp; omega)) _ | refine Below.alloc ?_ (by first | (simp; done) | (simp; omega)) _ | refine Below.drew ?_))⟩
  clear hW q0
  have r0_c := fun j => cell_of_row W0 _ j _ _ _ (hk.row (g := w.heap.size) (List.mem_cons_self ..))
  have z_c := fun j => cell_of_row W0 _ j _ _ _ hq
  have z_f := fun j => frozen_of_row W0 _ j _ _ hq
  go_wp2_with fail
  refine (HA.out _).mono ?_
  rintro e W1 ⟨rfl, hb⟩
  clear r0_c z_c z_f
  have hk := hk.far hb rfl
  have hq := rowk hq hb rfl
  clear hb
  have r0_c := fun j => cell_of_row W1 _ j _ _ _ (hk.row (g := w.heap.size) (List.mem_cons_self ..))
  have z_c := fun j => cell_of_row W1 _ j _ _ _ hq
  have z_f := fun j => frozen_of_row W1 _ j _ _ hq
  go_wp2_with fail
  have hB := hk.2.2
  refine bodyPost_ret (v := .tuple #[.agg #[.int .i64 0, .int .i64 0], .bool false]) (by simp [results, Try.results46, go_sem, z_c]) rfl ⟨rfl, ?_⟩
  exact (hB.setCell (by first | (simp; done) | (simp; omega)) _).setCell (by first | (simp; done) | (simp; omega)) _
set_option maxHeartbeats 2000000 in
theorem ics_n2 (a0 a1 a2 a3 a4 a5 : Int) (n : Int) (hn : 3 < n) (hn2 : ¬ n < 0) (HA : Hid (∀ w, Calls Try.prog 102 #[.agg #[.int .i64 a0, .int .i64 a1, .int .i64 a2, .int .i64 a3, .int .i64 a4, .int .i64 a5]] w fun e w' => e = .returned (.bool true) ∧ Below w.heap.size w w')) (w : World) : Calls Try.prog 46 #[.agg #[.int .i64 a0, .int .i64 a1, .int .i64 a2, .int .i64 a3, .int .i64 a4, .int .i64 a5], .int .i64 n] w fun e w' => e = .returned (.tuple #[.agg #[.int .i64 0, .int .i64 0], .bool false]) ∧ Below w.heap.size w w' := by
  go_enter Try.func46, Try.ntmps46
  go_wp2_with fail
  generalize hW : (World.alloc _ _ : World) = W0
  have q0 : W0.heap[(w.heap.size : Nat)]? = some (Obj.cells #[.int .i64 a0, .int .i64 a1, .int .i64 a2, .int .i64 a3, .int .i64 a4, .int .i64 a5] 28 (0, 0)) := by
    rw [← hW]
    repeat (first | (refine alloc_at ?_; first | (simp; done) | (simp; omega)) | refine drew_row ?_ | refine alloc_past ?_ | assumption)
  have hq : W0.heap[(w.heap.size + 1 : Nat)]? = some (Obj.cells #[.int .i64 0, .int .i64 0] 25 (0, 0)) := by
    rw [← hW]
    repeat (first | (refine alloc_at ?_; first | (simp; done) | (simp; omega)) | refine drew_row ?_ | refine alloc_past ?_ | assumption)
  have hk : KR 1 [(w.heap.size, Obj.cells #[.int .i64 a0, .int .i64 a1, .int .i64 a2, .int .i64 a3, .int .i64 a4, .int .i64 a5] 28 (0, 0))] w W0 := ⟨by simp [q0], by rw [← hW]; simp, by rw [← hW]; (repeat (first | exact Below.refl _ _ | assumption | refine Below.setCell ?_ (by first | (simp; done) | (simp; omega)) _ | refine Below.alloc ?_ (by first | (simp; done) | (simp; omega)) _ | refine Below.drew ?_))⟩
  clear hW q0
  have r0_c := fun j => cell_of_row W0 _ j _ _ _ (hk.row (g := w.heap.size) (List.mem_cons_self ..))
  have z_c := fun j => cell_of_row W0 _ j _ _ _ hq
  have z_f := fun j => frozen_of_row W0 _ j _ _ hq
  go_wp2_with fail
  refine (HA.out _).mono ?_
  rintro e W1 ⟨rfl, hb⟩
  clear r0_c z_c z_f
  have hk := hk.far hb rfl
  have hq := rowk hq hb rfl
  clear hb
  have r0_c := fun j => cell_of_row W1 _ j _ _ _ (hk.row (g := w.heap.size) (List.mem_cons_self ..))
  have z_c := fun j => cell_of_row W1 _ j _ _ _ hq
  have z_f := fun j => frozen_of_row W1 _ j _ _ hq
  go_wp2_with fail
  have hB := hk.2.2
  refine bodyPost_ret (v := .tuple #[.agg #[.int .i64 0, .int .i64 0], .bool false]) (by simp [results, Try.results46, go_sem, z_c]) rfl ⟨rfl, ?_⟩
  exact (hB.setCell (by first | (simp; done) | (simp; omega)) _).setCell (by first | (simp; done) | (simp; omega)) _
/-- All shifted stamps, in order. -/
def L36 (g : Fn6) : List Fn6 := (List.range 36).map fun k => sf (k % 6) (k / 6) g
theorem bl_on : ∀ k, bl onf k = (List.range k).map fun k => (k % 6, k / 6)
  | 0 => rfl
  | k + 1 => by
    have h : bl onf (k + 1) = bl onf k ++ (if onf (k / 6) (k % 6) then [(k % 6, k / 6)] else []) := rfl
    rw [h, bl_on k, List.range_succ, List.map_append]
    rfl
theorem L36_eq (g : Fn6) : (bl onf 36).map (fun c => sf c.1 c.2 g) = L36 g := by rw [bl_on, List.map_map]; rfl
theorem L36_len (g : Fn6) : (L36 g).length = 36 := by simp [L36]
theorem L36_at (g : Fn6) {i : Nat} (h : i < (L36 g).length) : (L36 g)[i] = sf (i % 6) (i / 6) g := by simp [L36]
/-- The numbers of the first i of them. -/
def fvs (g : Fn6) (i : Nat) : List Value := (List.range i).map fun k => .int .u64 ((fd36 (sf (k % 6) (k / 6) g) : Nat) : Int)
theorem fvs_len (g : Fn6) (i : Nat) : (fvs g i).length = i := by simp [fvs]
theorem fvs_snoc (g : Fn6) (i : Nat) : fvs g (i + 1) = fvs g i ++ [.int .u64 ((fd36 (sf (i % 6) (i / 6) g) : Nat) : Int)] := by simp [fvs, List.range_succ]
theorem fvs_at (g : Fn6) {i k : Nat} (h : k < i) : (fvs g i)[k]? = some (.int .u64 ((fd36 (sf (k % 6) (k / 6) g) : Nat) : Int)) := by simp [fvs, h]
theorem info104 : (Try.prog.info? 104).map (fun i => (i.zero, i.size, i.bytes)) = some (some (.int .u64 0), 1, 8) := by kernel_rfl
theorem one_newF (W : World) (u0 : Value) (t : TypeId) (j : Nat) (u : Value) (h : ([u0] : List Value)[j]? = some u) : (W.alloc (.cells #[u0] t)).cell? ((⟨W.heap.size, 0, none⟩ : Addr).add j) = some u := by
  rcases j with _ | j
  · simp only [List.getElem?_cons_zero, Option.some.injEq] at h; subst h; go_simp
  · simp at h
theorem u_one (a : Int) : ∀ u ∈ ([.int .u64 a] : List Value), u.oneCell' = true := by intro u hu; simp at hu; subst hu; rfl
theorem SlP.out {s p : Nat → Nat → Bool} {w w' : World} {e : Ending} (h : SlPost s p w e w') : ∃ (l : List (Nat × Nat)) (g cap : Nat), l = bl p 36 ∧ e = .returned (.slice (some ⟨g, 0, none⟩) l.length cap) ∧ w'.ownsRow w.heap.size 28 6 (.slice (some ⟨g, 0, none⟩) l.length cap) l.length (sv (l.map (fun c => sf c.1 c.2 s))) ∧ Below w.heap.size w w' := h
theorem SlP.on {g : Fn6} {w w' : World} {e : Ending} (h : SlPost g onf w e w') : ∃ gs cap : Nat, e = .returned (.slice (some ⟨gs, 0, none⟩) 36 cap) ∧ w'.ownsRow 0 28 6 (.slice (some ⟨gs, 0, none⟩) 36 cap) 36 (sv (L36 g)) ∧ gs < w'.heap.size ∧ Below w.heap.size w w' := by
  obtain ⟨l, gs, cap, hl, he, ho, hb⟩ := h
  have h36 : l.length = 36 := by rw [hl, bl_on]; simp
  rw [h36] at he ho
  rw [hl, L36_eq] at ho
  exact ⟨gs, cap, he, own_mono ho (Nat.zero_le _), (ho.lt gs rfl).2, hb⟩
/-- Midway: the stamp's box, the answer's room, all shifted stamps, and the numbers so far. -/
def Q9 (w : World) (g : Fn6) (gs cap Bz i : Nat) (v : Value) (W : World) : Prop := KR 2 [(w.heap.size, Obj.cells #[.int .i64 (rowv (g 0)), .int .i64 (rowv (g 1)), .int .i64 (rowv (g 2)), .int .i64 (rowv (g 3)), .int .i64 (rowv (g 4)), .int .i64 (rowv (g 5))] 28 (0, 0)), (w.heap.size + 1, Obj.cells #[.int .i64 0, .int .i64 0] 25 (0, 0))] w W ∧ W.ownsRow 0 28 6 (.slice (some ⟨gs, 0, none⟩) 36 cap) 36 (sv (L36 g)) ∧ W.ownsRow Bz 104 1 v i (fvs g i) ∧ gs < Bz ∧ w.heap.size + 2 ≤ Bz ∧ Bz ≤ W.heap.size
theorem Q9.below {w W W' : World} {g : Fn6} {gs cap Bz i : Nat} {v : Value} {M : Nat} (h : Q9 w g gs cap Bz i v W) (hb : Below M W W') (hM : M = W.heap.size) : Q9 w g gs cap Bz i v W' := by
  obtain ⟨h1, h2, h3, h4, h5, h6⟩ := h
  refine ⟨h1.far hb hM, h2.kept (grown_below hb hM) (.inr (by simp [Value.ownBlock])), ?_, h4, h5, Nat.le_trans h6 hb.size⟩
  rcases h3.2 with ⟨e, _⟩ | ⟨g2, cap2, cur, e, hr⟩
  · rename_i hi0
    subst e; subst hi0
    exact World.ownsRow_nil _ _ _ _
  · exact h3.kept (grown_below hb hM) (.inr (by rw [e]; simp [Value.ownBlock]))
theorem Q9.snoc {w W w1 : World} {g : Fn6} {gs cap Bz i : Nat} {v v' : Value} (h : Q9 w g gs cap Bz i v W) (hown : w1.ownsRow Bz 104 1 v' (i + 1) (fvs g i ++ [.int .u64 ((fd36 (sf (i % 6) (i / 6) g) : Nat) : Int)])) (hg : W.grownBy w1 v.ownBlock) : Q9 w g gs cap Bz (i + 1) v' w1 := by
  obtain ⟨h1, h2, h3, h4, h5, h6⟩ := h
  have hlt := h3.lt
  refine ⟨h1.grown hg (fun k hk => by have := (hlt k hk).1; omega), h2.kept hg (.inr ?_), by rw [fvs_snoc]; exact hown, h4, h5, Nat.le_trans h6 hg.size⟩
  intro e
  have := (hlt gs (by first | exact e | exact e.symm)).1
  omega
theorem Q9_s {w U : World} {g : Fn6} {gs cap Bz i : Nat} {v : Value} (h : Q9 w g gs cap Bz i v U) {k : Nat} (hk : k < 36) : U.cell? ⟨gs, k * 6, none⟩ = some (.int .i64 (rowv (sf (k % 6) (k / 6) g 0))) ∧ U.cell? ⟨gs, k * 6 + 1, none⟩ = some (.int .i64 (rowv (sf (k % 6) (k / 6) g 1))) ∧ U.cell? ⟨gs, k * 6 + 2, none⟩ = some (.int .i64 (rowv (sf (k % 6) (k / 6) g 2))) ∧ U.cell? ⟨gs, k * 6 + 3, none⟩ = some (.int .i64 (rowv (sf (k % 6) (k / 6) g 3))) ∧ U.cell? ⟨gs, k * 6 + 4, none⟩ = some (.int .i64 (rowv (sf (k % 6) (k / 6) g 4))) ∧ U.cell? ⟨gs, k * 6 + 5, none⟩ = some (.int .i64 (rowv (sf (k % 6) (k / 6) g 5))) := by
  have hl : k < (L36 g).length := by rw [L36_len]; exact hk
  obtain ⟨p0, p1, p2, p3, p4, p5⟩ := sv_at (L36 g) k hl
  rw [L36_at g hl] at p0 p1 p2 p3 p4 p5
  exact ⟨own_at h.2.1 p0, own_at h.2.1 p1, own_at h.2.1 p2, own_at h.2.1 p3, own_at h.2.1 p4, own_at h.2.1 p5⟩
theorem SRh {w U : World} {g : Fn6} (h : KR 1 [(w.heap.size, Obj.cells #[.int .i64 (rowv (g 0)), .int .i64 (rowv (g 1)), .int .i64 (rowv (g 2)), .int .i64 (rowv (g 3)), .int .i64 (rowv (g 4)), .int .i64 (rowv (g 5))] 28 (0, 0))] w U) : U.cell? ⟨w.heap.size, 0, none⟩ = some (.int .i64 (rowv (g 0))) ∧ U.cell? ⟨w.heap.size, 1, none⟩ = some (.int .i64 (rowv (g 1))) ∧ U.cell? ⟨w.heap.size, 2, none⟩ = some (.int .i64 (rowv (g 2))) ∧ U.cell? ⟨w.heap.size, 3, none⟩ = some (.int .i64 (rowv (g 3))) ∧ U.cell? ⟨w.heap.size, 4, none⟩ = some (.int .i64 (rowv (g 4))) ∧ U.cell? ⟨w.heap.size, 5, none⟩ = some (.int .i64 (rowv (g 5))) ∧ KR 1 [(w.heap.size, Obj.cells #[.int .i64 (rowv (g 0)), .int .i64 (rowv (g 1)), .int .i64 (rowv (g 2)), .int .i64 (rowv (g 3)), .int .i64 (rowv (g 4)), .int .i64 (rowv (g 5))] 28 (0, 0))] w U := SR1 h
set_option maxRecDepth 20000 in
set_option maxHeartbeats 4000000 in
theorem ics_y (g : Fn6) (n : Nat) (P c1 c2 : Int) (hn : n ≤ 3) (HA : Hid (∀ w, Calls Try.prog 102 #[.agg #[.int .i64 (rowv (g 0)), .int .i64 (rowv (g 1)), .int .i64 (rowv (g 2)), .int .i64 (rowv (g 3)), .int .i64 (rowv (g 4)), .int .i64 (rowv (g 5))]] w fun e w' => e = .returned (.bool true) ∧ Below w.heap.size w w'))(HL : Hid (∀ w, Calls Try.prog 113 #[.int .i64 (n : Int)] w fun e w' => e = .returned (.int .i64 P) ∧ Below w.heap.size w w'))(HX : Hid (∀ w, Calls Try.prog 101 #[.int .i64 ((ct9 g n zf : Nat) : Int), .int .i64 P] w fun e w' => e = .returned (.agg #[.int .i64 c1, .int .i64 c2]) ∧ Below w.heap.size w w')) (w : World) : Calls Try.prog 46 #[.agg #[.int .i64 (rowv (g 0)), .int .i64 (rowv (g 1)), .int .i64 (rowv (g 2)), .int .i64 (rowv (g 3)), .int .i64 (rowv (g 4)), .int .i64 (rowv (g 5))], .int .i64 (n : Int)] w fun e w' => e = .returned (.tuple #[.agg #[.int .i64 c1, .int .i64 c2], .bool true]) ∧ Below w.heap.size w w' := by
  have hn0 : ¬ (n : Int) < 0 := by omega
  have hn3 : ¬ (3 : Int) < n := by omega
  obtain ⟨i0, hi, hz0, hz1, hz2⟩ := info_parts info104
  have HF := Lib.hid full_any
  have HSH : Hid (∀ w, Calls Try.prog 109 #[.agg #[.int .i64 63, .int .i64 63, .int .i64 63, .int .i64 63, .int .i64 63, .int .i64 63], .func (.func 111) #[.agg #[.int .i64 (rowv (g 0)), .int .i64 (rowv (g 1)), .int .i64 (rowv (g 2)), .int .i64 (rowv (g 3)), .int .i64 (rowv (g 4)), .int .i64 (rowv (g 5))]] #[]] w (SlPost g onf w)) := Lib.hid (fun w => shifts_f g onf w)
  have HT := Lib.hid (fun gb cap w => ctog_f g n hn zf gb cap w)
  rw [show ((fd36 zf : Nat) : Int) = 0 by decide +kernel] at HT
  have hmf : ∀ (fn : Fn) (first cap : Array Value) (w : World), (Instr.makeFunc fn first cap).run Try.prog w = .ok (.func fn first cap) w := fun _ _ _ _ => rfl
  go_enter Try.func46, Try.ntmps46
  go_wp2_with fail
  generalize hW : (World.alloc _ _ : World) = W0
  have q0 : W0.heap[(w.heap.size : Nat)]? = some (Obj.cells #[.int .i64 (rowv (g 0)), .int .i64 (rowv (g 1)), .int .i64 (rowv (g 2)), .int .i64 (rowv (g 3)), .int .i64 (rowv (g 4)), .int .i64 (rowv (g 5))] 28 (0, 0)) := by
    rw [← hW]
    repeat (first | (refine alloc_at ?_; first | (simp; done) | (simp; omega)) | refine drew_row ?_ | refine alloc_past ?_ | assumption)
  have hq : W0.heap[(w.heap.size + 1 : Nat)]? = some (Obj.cells #[.int .i64 0, .int .i64 0] 25 (0, 0)) := by
    rw [← hW]
    repeat (first | (refine alloc_at ?_; first | (simp; done) | (simp; omega)) | refine drew_row ?_ | refine alloc_past ?_ | assumption)
  have hk : KR 1 [(w.heap.size, Obj.cells #[.int .i64 (rowv (g 0)), .int .i64 (rowv (g 1)), .int .i64 (rowv (g 2)), .int .i64 (rowv (g 3)), .int .i64 (rowv (g 4)), .int .i64 (rowv (g 5))] 28 (0, 0))] w W0 := ⟨by simp [q0], by rw [← hW]; simp, by rw [← hW]; (repeat (first | exact Below.refl _ _ | assumption | refine Below.setCell ?_ (by first | (simp; done) | (simp; omega)) _ | refine Below.alloc ?_ (by first | (simp; done) | (simp; omega)) _ | refine Below.drew ?_))⟩
  clear hW q0
  have r0_c := fun j => cell_of_row W0 _ j _ _ _ (hk.row (g := w.heap.size) (List.mem_cons_self ..))
  have z_c := fun j => cell_of_row W0 _ j _ _ _ hq
  have z_f := fun j => frozen_of_row W0 _ j _ _ hq
  go_wp2_with fail
  refine (HA.out _).mono ?_
  rintro e W1 ⟨rfl, hb⟩
  clear r0_c z_c z_f
  have hk := hk.far hb rfl
  have hq := rowk hq hb rfl
  clear hb HA
  go_wp2_with fail
  have hz9 := KR.le hk
  set_option maxRecDepth 8000 in
  go_region_held3 (fun U => U.cell? ⟨w.heap.size, 0, none⟩ = some (.int .i64 (rowv (g 0))) ∧ U.cell? ⟨w.heap.size, 1, none⟩ = some (.int .i64 (rowv (g 1))) ∧ U.cell? ⟨w.heap.size, 2, none⟩ = some (.int .i64 (rowv (g 2))) ∧ U.cell? ⟨w.heap.size, 3, none⟩ = some (.int .i64 (rowv (g 3))) ∧ U.cell? ⟨w.heap.size, 4, none⟩ = some (.int .i64 (rowv (g 4))) ∧ U.cell? ⟨w.heap.size, 5, none⟩ = some (.int .i64 (rowv (g 5))) ∧ KR 1 [(w.heap.size, Obj.cells #[.int .i64 (rowv (g 0)), .int .i64 (rowv (g 1)), .int .i64 (rowv (g 2)), .int .i64 (rowv (g 3)), .int .i64 (rowv (g 4)), .int .i64 (rowv (g 5))] 28 (0, 0))] w U) (with_reducible refine SRh ?_; (repeat (first | with_reducible assumption | with_reducible refine KR.al ?_ | with_reducible refine KR.drew ?_ | with_reducible refine KR.set ?_ (by first | omega | (simp; omega))))) (first | (go_at_call 110; with_reducible refine (HF.out _).mono ?_; rintro e w' ⟨rfl, hb'⟩; have hk : KR 1 [(w.heap.size, Obj.cells #[.int .i64 (rowv (g 0)), .int .i64 (rowv (g 1)), .int .i64 (rowv (g 2)), .int .i64 (rowv (g 3)), .int .i64 (rowv (g 4)), .int .i64 (rowv (g 5))] 28 (0, 0))] w w' := KR.far (by (repeat (first | with_reducible assumption | with_reducible refine KR.al ?_ | with_reducible refine KR.drew ?_ | with_reducible refine KR.set ?_ (by first | omega | (simp; omega))))) hb' rfl; have hq : w'.heap[w.heap.size + 1]? = some (Obj.cells #[.int .i64 0, .int .i64 0] 25 (0, 0)) := rowk (by first | with_reducible assumption | (with_reducible refine drew_row ?_; with_reducible assumption)) hb' rfl) | (go_at_call 109; with_reducible refine (HSH.out _).mono ?_; intro e w' hp; obtain ⟨gs, cap, rfl, ho, hgs, hb'⟩ := SlP.on hp; have hk : KR 1 [(w.heap.size, Obj.cells #[.int .i64 (rowv (g 0)), .int .i64 (rowv (g 1)), .int .i64 (rowv (g 2)), .int .i64 (rowv (g 3)), .int .i64 (rowv (g 4)), .int .i64 (rowv (g 5))] 28 (0, 0))] w w' := KR.far (by (repeat (first | with_reducible assumption | with_reducible refine KR.al ?_ | with_reducible refine KR.drew ?_ | with_reducible refine KR.set ?_ (by first | omega | (simp; omega))))) hb' rfl; have hq : w'.heap[w.heap.size + 1]? = some (Obj.cells #[.int .i64 0, .int .i64 0] 25 (0, 0)) := rowk (by first | with_reducible assumption | (with_reducible refine drew_row ?_; with_reducible assumption)) hb' rfl))
  all_goals
    have hqs := row_lt hq
    have S0 : Hid (Q9 w g gs cap w'.heap.size 0 (.slice none 0 0) w') := Lib.hid ⟨⟨fun p hp => by
      simp only [List.mem_cons, List.mem_nil_iff, or_false] at hp
      rcases hp with rfl | rfl
      · exact ⟨by simp, hk.row (List.mem_cons_self ..)⟩
      · exact ⟨by simp, hq⟩, by omega, hk.2.2⟩, ho, World.ownsRow_nil _ _ _ _, hgs, by omega, Nat.le_refl _⟩
    clear hk hq ho hgs hp hqs HF HSH
    generalize w'.heap.size = Bz at S0 ⊢
    go_wp2_with fail
    go_loopw [6, 26] (fun v c wr => ∃ i : Nat, i ≤ 36 ∧ c = .int .i64 i ∧ Hid (Q9 w g gs cap Bz i v wr)) (fun _ c _ => 36 - (intOf c).toNat)
    case atStart => exact ⟨0, by omega, rfl, S0⟩
    case round =>
      obtain ⟨i, hi36, rfl, HS⟩ := hrel
      clear S0
      by_cases hlt : i < 36
      · have hlt' : (i : Int) < 36 := by omega
        have hi0 : (0 : Int) ≤ i := by omega
        obtain ⟨a0, a1, a2, a3, a4, a5⟩ := Q9_s HS.out hlt
        have HFO := Lib.hid (fieldof_s (sf (i % 6) (i / 6) g))
        have HAP := Lib.hid (fun (W w1 : World) (v v' : Value) => @Q9.snoc w W w1 g gs cap Bz i v v')
        generalize ((fd36 (sf (i % 6) (i / 6) g) : Nat) : Int) = x at HFO HAP
        generalize sf (i % 6) (i / 6) g = c at a0 a1 a2 a3 a4 a5 HFO
        have n_c := fun j => cell_of_row (wr.alloc (.cells #[.int .i64 (rowv (c 0)), .int .i64 (rowv (c 1)), .int .i64 (rowv (c 2)), .int .i64 (rowv (c 3)), .int .i64 (rowv (c 4)), .int .i64 (rowv (c 5))] 28)) _ j _ _ _ (alloc_at (g := wr.heap.size) rfl)
        go_wp2_with fail
        refine (HFO.out _).mono ?_
        rintro e w3 ⟨rfl, hb⟩
        have HY := Lib.hid ((HS.out.below (M := wr.heap.size) ((Below.refl _ _).alloc (Nat.le_refl _) _) rfl).below hb rfl)
        clear hb a0 a1 a2 a3 a4 a5 HS n_c HFO
        have HZ := Lib.hid (HY.out.below (M := w3.heap.size) ((Below.refl _ _).alloc (Nat.le_refl _) (.cells #[.int .u64 x] 104)) rfl)
        have HO := HZ.out.2.2.1
        have hks := HZ.out.2.2.2.2.2
        go_wp2_with (at_builtin; refine wpList_append_own _ rfl _ _ 111 rfl Bz 104 i0 (.int .u64 0) 1 8 Try.underlying111 hi hz0 hz1 hz2 rfl (by decide) _ _ _ rfl HO ⟨w3.heap.size, 0, none⟩ 1 1 [.int .u64 x] rfl rfl (one_newF _ _ _) (u_one _) (by unfold maxLen; omega) (by omega) (by have := hks; simp at this ⊢; omega) ?_; intro v' w1 hown' hgrow hnn; have R := Lib.hid (HAP.out _ _ _ _ HZ.out hown' hgrow); clear hown' hgrow hnn HY HO HZ hks)
        go_roundw
        case rel => exact ⟨i + 1, by omega, by go_num, R⟩
        case measure => simp [intOf]; omega
      · obtain rfl : i = 36 := by omega
        obtain ⟨hk2, _, h3, _⟩ := HS.out
        rcases h3.2 with ⟨_, h0⟩ | ⟨gp, cap2, cur, rfl, hb9, hr9⟩
        · omega
        · have HPR : Hid (Pr9 g gp wr) := Lib.hid (fun k hk => own_at h3 (fvs_at g hk))
          have hq : wr.heap[w.heap.size + 1]? = some (Obj.cells #[.int .i64 0, .int .i64 0] 25 (0, 0)) := hk2.row (List.mem_cons_of_mem _ (List.mem_cons_self ..))
          have hB := hk2.2.2
          clear h3 hb9 hr9 HS hk2 hi hz0 hz1 hz2
          go_wp2_with fail
          refine (HT.out gp cap2 wr HPR.out).mono ?_
          rintro e w4 ⟨rfl, rfl⟩
          clear HPR HT
          go_wp2_with fail
          refine (HL.out _).mono ?_
          rintro e W5 ⟨rfl, hb⟩
          have hq := rowk hq hb rfl
          have hB := below_of hB hb hB.size
          clear hb
          go_wp2_with fail
          refine (HX.out _).mono ?_
          rintro e W6 ⟨rfl, hb⟩
          have hq := rowk hq hb rfl
          have hB := below_of hB hb hB.size
          clear hb
          have z_c := fun j => cell_of_row W6 _ j _ _ _ hq
          have z_f := fun j => frozen_of_row W6 _ j _ _ hq
          go_wp2_with fail
          refine bodyPost_ret (v := .tuple #[.agg #[.int .i64 c1, .int .i64 c2], .bool true]) (by simp [results, Try.results46, go_sem, z_c]) rfl ⟨rfl, ?_⟩
          exact (hB.setCell (by first | (simp; done) | (simp; omega)) _).setCell (by first | (simp; done) | (simp; omega)) _
/- Pj9 -/
theorem in_s {n lo hi : Int} {b : Bool} (h : (decide (lo ≤ n) && decide (n ≤ hi)) = b) : Hid (∀ w, Calls Try.prog 107 #[.int .i64 n, .int .i64 lo, .int .i64 hi] w fun e w' => e = .returned (.bool b) ∧ Below w.heap.size w w') := sb9 (fun w => h ▸ l1in_any n lo hi w)
theorem cs_pair (a0 a1 a2 a3 a4 a5 : Int) (n : Int) : ∃ (r0 r1 : Int) (t : Bool), (∀ w, Calls Try.prog 45 #[.agg #[.int .i64 a0, .int .i64 a1, .int .i64 a2, .int .i64 a3, .int .i64 a4, .int .i64 a5], .int .i64 n] w fun e w' => e = .returned (.tuple #[.agg #[.int .i64 r0, .int .i64 r1], .bool t]) ∧ Below w.heap.size w w') ∧ (∀ w, Calls Try.prog 46 #[.agg #[.int .i64 a0, .int .i64 a1, .int .i64 a2, .int .i64 a3, .int .i64 a4, .int .i64 a5], .int .i64 n] w fun e w' => e = .returned (.tuple #[.agg #[.int .i64 r0, .int .i64 r1], .bool t]) ∧ Below w.heap.size w w') := by
  cases ha : (ok a0 && ok a1 && ok a2 && ok a3 && ok a4 && ok a5)
  · exact ⟨0, 0, false, scs_n0 a0 a1 a2 a3 a4 a5 n (sh_as a0 a1 a2 a3 a4 a5 ha), ics_n0 a0 a1 a2 a3 a4 a5 n (sh_ai a0 a1 a2 a3 a4 a5 ha)⟩
  · by_cases h0 : n < 0
    · exact ⟨0, 0, false, scs_n1 a0 a1 a2 a3 a4 a5 n (sh_as a0 a1 a2 a3 a4 a5 ha) (in_s (by simp; omega)), ics_n1 a0 a1 a2 a3 a4 a5 n h0 (sh_ai a0 a1 a2 a3 a4 a5 ha)⟩
    · by_cases h3 : 3 < n
      · exact ⟨0, 0, false, scs_n1 a0 a1 a2 a3 a4 a5 n (sh_as a0 a1 a2 a3 a4 a5 ha) (in_s (by simp; omega)), ics_n2 a0 a1 a2 a3 a4 a5 n h3 h0 (sh_ai a0 a1 a2 a3 a4 a5 ha)⟩
      · obtain ⟨g, rfl, rfl, rfl, rfl, rfl, rfl⟩ := sheet_bits a0 a1 a2 a3 a4 a5 ha
        obtain ⟨m, rfl⟩ : ∃ z : Nat, n = (z : Int) := ⟨n.toNat, by omega⟩
        have hm : m ≤ 3 := by omega
        have hp6 := pow36 (show m ≤ 6 by omega)
        have hc := ct9_le g m zf
        exact ⟨_, _, true, scs_y (rowv (g 0)) (rowv (g 1)) (rowv (g 2)) (rowv (g 3)) (rowv (g 4)) (rowv (g 5)) (m : Int) ((ct9 g m zf : Nat) : Int) ((36 ^ m : Nat) : Int) _ _ (sh_as (rowv (g 0)) (rowv (g 1)) (rowv (g 2)) (rowv (g 3)) (rowv (g 4)) (rowv (g 5)) (sh_of g)) (in_s (by simp; omega)) (Lib.hid (fun w => lsame_f g m hm zf w)) (sb9 (lpow_f (x := 36) (by omega) (by omega))) (Lib.hid (lcut_f (pow36_pos m) (by omega) (by omega))), ics_y g m _ _ _ hm (sh_ai (rowv (g 0)) (rowv (g 1)) (rowv (g 2)) (rowv (g 3)) (rowv (g 4)) (rowv (g 5)) (sh_of g)) (sb9 (lists_f (by omega))) (Lib.hid (frac_f (pow36_pos m) (by omega) (by omega)))⟩
end Go.Proofs.Ythphkhcppljdlaa
