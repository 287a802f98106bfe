/- PLAIN LEMMAS: OnesCount64 of 36 bits. -/
import Derived.Test.YthphkhcppljdlaaSz
import Derived.Laws.Bits64b
import Derived.WalkKit
import Derived.ProofKit
import Derived.OpenShut
import Derived.Lib.Hide
import Derived.WalkSpells
import Derived.Below
import Derived.BigQuiet
import Derived.LoopN
namespace Go.Proofs.Ythphkhcppljdlaa
open Go.ChangeShapes Go.WideShapes Go.ChangeAt Go.RowKit
set_option linter.unusedVariables false
theorem land_step (x m : Nat) : x &&& m = (x % 16 &&& m % 16) + 16 * (x / 16 &&& m / 16) := by
  have h1 : (x &&& m) % 2 ^ 4 = x % 2 ^ 4 &&& m % 2 ^ 4 := Nat.and_mod_two_pow
  have h2 : (x &&& m) / 2 ^ 4 = x / 2 ^ 4 &&& m / 2 ^ 4 := Nat.and_div_two_pow
  have h3 := Nat.mod_add_div (x &&& m) (2 ^ 4)
  rw [h1, h2] at h3
  exact h3.symm
theorem land_step8 (x m : Nat) : x &&& m = (x % 256 &&& m % 256) + 256 * (x / 256 &&& m / 256) := by
  have h1 : (x &&& m) % 2 ^ 8 = x % 2 ^ 8 &&& m % 2 ^ 8 := Nat.and_mod_two_pow
  have h2 : (x &&& m) / 2 ^ 8 = x / 2 ^ 8 &&& m / 2 ^ 8 := Nat.and_div_two_pow
  have h3 := Nat.mod_add_div (x &&& m) (2 ^ 8)
  rw [h1, h2] at h3
  exact h3.symm
/-- Digits of 16, the least first. -/
def va : List Nat → Nat
  | [] => 0
  | n :: l => n + 16 * va l
/-- A mask of k digits c. -/
def mk16 (c : Nat) : Nat → Nat
  | 0 => 0
  | k + 1 => c + 16 * mk16 c k
theorem d5 : ∀ n : Fin 16, ∀ b : Fin 2, (n.val / 2 + 8 * b.val) &&& 5 = n.val / 2 &&& 5 := by decide
theorem d3 : ∀ n : Fin 16, ∀ b : Fin 4, (n.val / 4 + 4 * b.val) &&& 3 = n.val / 4 &&& 3 := by decide
theorem va_and (c : Nat) (hc : c < 16) : ∀ (l : List Nat) (k : Nat), l.length ≤ k → (∀ n ∈ l, n < 16) → va l &&& mk16 c k = va (l.map (fun n => n &&& c))
  | [], k, _, _ => by simp [va]
  | n :: l, k, hk, hl => by
    obtain ⟨j, rfl⟩ : ∃ j, k = j + 1 := ⟨k - 1, by simp at hk; omega⟩
    have ih := va_and c hc l j (by simpa using hk) (fun m hm => hl m (List.mem_cons_of_mem _ hm))
    have hn := hl n (List.mem_cons_self ..)
    rw [land_step]
    show ((n + 16 * va l) % 16 &&& (c + 16 * mk16 c j) % 16) + 16 * ((n + 16 * va l) / 16 &&& (c + 16 * mk16 c j) / 16) = _
    rw [show (n + 16 * va l) % 16 = n by omega, show (c + 16 * mk16 c j) % 16 = c by omega, show (n + 16 * va l) / 16 = va l by omega, show (c + 16 * mk16 c j) / 16 = mk16 c j by omega, ih]
    rfl
theorem va_half : ∀ (l : List Nat) (k : Nat), l.length ≤ k → (∀ n ∈ l, n < 16) → va l / 2 &&& mk16 5 k = va (l.map (fun n => n / 2 &&& 5))
  | [], k, _, _ => by simp [va]
  | n :: l, k, hk, hl => by
    obtain ⟨j, rfl⟩ : ∃ j, k = j + 1 := ⟨k - 1, by simp at hk; omega⟩
    have ih := va_half l j (by simpa using hk) (fun m hm => hl m (List.mem_cons_of_mem _ hm))
    have hn := hl n (List.mem_cons_self ..)
    have hd := d5 ⟨n, hn⟩ ⟨va l % 2, Nat.mod_lt _ (by decide)⟩
    dsimp only at hd
    rw [land_step]
    show ((n + 16 * va l) / 2 % 16 &&& (5 + 16 * mk16 5 j) % 16) + 16 * ((n + 16 * va l) / 2 / 16 &&& (5 + 16 * mk16 5 j) / 16) = _
    rw [show (n + 16 * va l) / 2 % 16 = n / 2 + 8 * (va l % 2) by omega, show (5 + 16 * mk16 5 j) % 16 = 5 by omega, show (n + 16 * va l) / 2 / 16 = va l / 2 by omega, show (5 + 16 * mk16 5 j) / 16 = mk16 5 j by omega, ih, hd]
    rfl
theorem va_quart : ∀ (l : List Nat) (k : Nat), l.length ≤ k → (∀ n ∈ l, n < 16) → va l / 4 &&& mk16 3 k = va (l.map (fun n => n / 4 &&& 3))
  | [], k, _, _ => by simp [va]
  | n :: l, k, hk, hl => by
    obtain ⟨j, rfl⟩ : ∃ j, k = j + 1 := ⟨k - 1, by simp at hk; omega⟩
    have ih := va_quart l j (by simpa using hk) (fun m hm => hl m (List.mem_cons_of_mem _ hm))
    have hn := hl n (List.mem_cons_self ..)
    have hd := d3 ⟨n, hn⟩ ⟨va l % 4, Nat.mod_lt _ (by decide)⟩
    dsimp only at hd
    rw [land_step]
    show ((n + 16 * va l) / 4 % 16 &&& (3 + 16 * mk16 3 j) % 16) + 16 * ((n + 16 * va l) / 4 / 16 &&& (3 + 16 * mk16 3 j) / 16) = _
    rw [show (n + 16 * va l) / 4 % 16 = n / 4 + 4 * (va l % 4) by omega, show (3 + 16 * mk16 3 j) % 16 = 3 by omega, show (n + 16 * va l) / 4 / 16 = va l / 4 by omega, show (3 + 16 * mk16 3 j) / 16 = mk16 3 j by omega, ih, hd]
    rfl
theorem va_add (f g : Nat → Nat) : ∀ l : List Nat, va (l.map f) + va (l.map g) = va (l.map (fun n => f n + g n))
  | [] => rfl
  | n :: l => by
    have ih := va_add f g l
    simp only [List.map_cons, va]
    omega
def f17 (n : Nat) : Nat := (n / 2 &&& 5) + (n &&& 5)
def f27 (n : Nat) : Nat := (n / 4 &&& 3) + (n &&& 3)
theorem f_fin : ∀ n : Fin 16, f17 n.val < 16 ∧ f27 (f17 n.val) ≤ 4 := by decide
def s17 (x : Nat) : Nat := (x / 2 &&& 6148914691236517205) + (x &&& 6148914691236517205)
def s27 (x : Nat) : Nat := (x / 4 &&& 3689348814741910323) + (x &&& 3689348814741910323)
def s37 (x : Nat) : Nat := (x / 16 + x) &&& 1085102592571150095
def s47 (x : Nat) : Nat := x + x / 256
def s57 (x : Nat) : Nat := x + x / 65536
def s67 (x : Nat) : Nat := x + x / 4294967296
def mb : Nat → Nat
  | 0 => 0
  | k + 1 => 15 + 256 * mb k
def ev : Nat → Nat → Nat
  | 0, _ => 0
  | k + 1, x => x % 16 + 256 * ev k (x / 256)
theorem mb_and : ∀ (k x : Nat), x &&& mb k = ev k x
  | 0, x => by simp [mb, ev]
  | k + 1, x => by
    have e : x % 256 &&& 15 = x % 16 := by
      have := Nat.and_two_pow_sub_one_eq_mod (x % 256) 4
      rw [show 2 ^ 4 - 1 = 15 from rfl] at this
      rw [this]
      omega
    rw [land_step8]
    show (x % 256 &&& (15 + 256 * mb k) % 256) + 256 * (x / 256 &&& (15 + 256 * mb k) / 256) = _
    rw [show (15 + 256 * mb k) % 256 = 15 by omega, show (15 + 256 * mb k) / 256 = mb k by omega, e, mb_and k (x / 256)]
    rfl
theorem mask1 : 6148914691236517205 = mk16 5 16 := by decide +kernel
theorem mask2 : 3689348814741910323 = mk16 3 16 := by decide +kernel
theorem mask3 : 1085102592571150095 = mb 8 := by decide +kernel
theorem s17_va (l : List Nat) (h : l.length ≤ 16) (hl : ∀ n ∈ l, n < 16) : s17 (va l) = va (l.map f17) := by
  unfold s17
  rw [mask1, va_half l 16 h hl, va_and 5 (by decide) l 16 h hl, va_add]
  rfl
theorem s27_va (l : List Nat) (h : l.length ≤ 16) (hl : ∀ n ∈ l, n < 16) : s27 (va l) = va (l.map f27) := by
  unfold s27
  rw [mask2, va_quart l 16 h hl, va_and 3 (by decide) l 16 h hl, va_add]
  rfl
theorem ev_step (k a b y : Nat) (ha : a < 16) (hb : b < 16) : ev (k + 1) (a + 16 * b + 256 * y) = a + 256 * ev k y := by
  show (a + 16 * b + 256 * y) % 16 + 256 * ev k ((a + 16 * b + 256 * y) / 256) = _
  rw [show (a + 16 * b + 256 * y) % 16 = a by omega, show (a + 16 * b + 256 * y) / 256 = y by omega]
theorem half16 (g v : Nat) (h : g < 16) : (g + 16 * v) / 16 = v := by omega
theorem lin_nine (g0 g1 g2 g3 g4 g5 g6 g7 g8 : Nat) : va [g1, g2, g3, g4, g5, g6, g7, g8] + va [g0, g1, g2, g3, g4, g5, g6, g7, g8] = (g0 + g1) + 16 * (g1 + g2) + 256 * ((g2 + g3) + 16 * (g3 + g4) + 256 * ((g4 + g5) + 16 * (g5 + g6) + 256 * ((g6 + g7) + 16 * (g7 + g8) + 256 * (g8 + 16 * 0 + 256 * 0)))) := by
  simp only [va, Nat.mul_add, Nat.mul_zero, Nat.add_zero, ← Nat.mul_assoc]
  simp only [Nat.reduceMul]
  omega
theorem s37_nine (g0 g1 g2 g3 g4 g5 g6 g7 g8 : Nat) (h0 : g0 ≤ 4) (h1 : g1 ≤ 4) (h2 : g2 ≤ 4) (h3 : g3 ≤ 4) (h4 : g4 ≤ 4) (h5 : g5 ≤ 4) (h6 : g6 ≤ 4) (h7 : g7 ≤ 4) (h8 : g8 ≤ 4) : s37 (va [g0, g1, g2, g3, g4, g5, g6, g7, g8]) = (g0 + g1) + 256 * ((g2 + g3) + 256 * ((g4 + g5) + 256 * ((g6 + g7) + 256 * g8))) := by
  have hx : va [g0, g1, g2, g3, g4, g5, g6, g7, g8] / 16 + va [g0, g1, g2, g3, g4, g5, g6, g7, g8] = (g0 + g1) + 16 * (g1 + g2) + 256 * ((g2 + g3) + 16 * (g3 + g4) + 256 * ((g4 + g5) + 16 * (g5 + g6) + 256 * ((g6 + g7) + 16 * (g7 + g8) + 256 * (g8 + 16 * 0 + 256 * 0)))) := by
    have e : va [g0, g1, g2, g3, g4, g5, g6, g7, g8] = g0 + 16 * va [g1, g2, g3, g4, g5, g6, g7, g8] := rfl
    have e2 : va [g0, g1, g2, g3, g4, g5, g6, g7, g8] / 16 = va [g1, g2, g3, g4, g5, g6, g7, g8] := by rw [e]; exact half16 g0 _ (by omega)
    rw [e2]
    exact lin_nine g0 g1 g2 g3 g4 g5 g6 g7 g8
  unfold s37
  rw [hx, mask3, mb_and]
  rw [ev_step 7 _ _ _ (by omega) (by omega), ev_step 6 _ _ _ (by omega) (by omega), ev_step 5 _ _ _ (by omega) (by omega), ev_step 4 _ _ _ (by omega) (by omega), ev_step 3 _ _ _ (by omega) (by omega)]
  rw [show ev 3 0 = 0 from rfl]
  simp only [Nat.mul_zero, Nat.add_zero]
theorem sums (c0 c1 c2 c3 c4 : Nat) (h0 : c0 ≤ 8) (h1 : c1 ≤ 8) (h2 : c2 ≤ 8) (h3 : c3 ≤ 8) (h4 : c4 ≤ 8) : s67 (s57 (s47 (c0 + 256 * (c1 + 256 * (c2 + 256 * (c3 + 256 * c4)))))) % 128 = c0 + c1 + c2 + c3 + c4 := by
  have e4 : s47 (c0 + 256 * (c1 + 256 * (c2 + 256 * (c3 + 256 * c4)))) = ((c0 + c1) + 256 * (c1 + c2)) + 65536 * ((c2 + c3) + 256 * (c3 + c4) + 65536 * c4) := by
    unfold s47
    rw [show (c0 + 256 * (c1 + 256 * (c2 + 256 * (c3 + 256 * c4)))) / 256 = c1 + 256 * (c2 + 256 * (c3 + 256 * c4)) by omega]
    omega
  rw [e4]
  have e5 : s57 (((c0 + c1) + 256 * (c1 + c2)) + 65536 * ((c2 + c3) + 256 * (c3 + c4) + 65536 * c4)) = ((c0 + c1 + c2 + c3) + 256 * (c1 + c2 + c3 + c4) + 65536 * (c2 + c3 + c4) + 16777216 * (c3 + c4)) + 4294967296 * c4 := by
    unfold s57
    rw [show (((c0 + c1) + 256 * (c1 + c2)) + 65536 * ((c2 + c3) + 256 * (c3 + c4) + 65536 * c4)) / 65536 = (c2 + c3) + 256 * (c3 + c4) + 65536 * c4 by omega]
    omega
  rw [e5]
  unfold s67
  rw [show (((c0 + c1 + c2 + c3) + 256 * (c1 + c2 + c3 + c4) + 65536 * (c2 + c3 + c4) + 16777216 * (c3 + c4)) + 4294967296 * c4) / 4294967296 = c4 by omega]
  omega
theorem twelve : ∀ a b : Fin 64, f27 (f17 ((a.val * 64 + b.val) % 16)) + f27 (f17 ((a.val * 64 + b.val) / 16 % 16)) + f27 (f17 ((a.val * 64 + b.val) / 256)) = (pc ((a.val : Nat) : Int) + pc ((b.val : Nat) : Int)).toNat := by decide +kernel
theorem and127 (x : Int) : bits .and .i64 x 127 = x % 128 := by
  show IntKind.i64.wrap ((BitVec.ofInt 64 x &&& BitVec.ofInt 64 127).toNat : Int) = _
  have h2 : (BitVec.ofInt 64 127).toNat = 127 := by decide
  have h3 : (BitVec.ofInt 64 x).toNat = (x % 18446744073709551616).toNat := by rw [BitVec.toNat_ofInt]; rfl
  rw [BitVec.toNat_and, h2, h3, show (127 : Nat) = 2 ^ 7 - 1 from rfl, Nat.and_two_pow_sub_one_eq_mod, IntKind.wrap_i64]
  omega
theorem wrap_nat {n : Nat} (h : n < 18446744073709551616) : IntKind.u64.wrap (n : Int) = (n : Int) := by rw [IntKind.wrap_u64]; omega
theorem oc1_n {n : Nat} (h : n < 68719476736) : oc1 (n : Int) = ((s17 n : Nat) : Int) ∧ s17 n < 274877906944 := by
  have hb : s17 n < 274877906944 := by
    have h1 : n / 2 &&& 6148914691236517205 ≤ n / 2 := Nat.and_le_left
    have h2 : n &&& 6148914691236517205 ≤ n := Nat.and_le_left
    unfold s17
    omega
  refine ⟨?_, hb⟩
  unfold oc1
  have e1 := bits_and_u64_nat (n / 2) 6148914691236517205 (by omega) (by omega)
  have e2 := bits_and_u64_nat n 6148914691236517205 (by omega) (by omega)
  rw [show ((n : Int) / 2) = ((n / 2 : Nat) : Int) from rfl, show (6148914691236517205 : Int) = ((6148914691236517205 : Nat) : Int) from rfl, e1, e2, ← Int.natCast_add]
  exact wrap_nat (by unfold s17 at hb; omega)
theorem oc2_n {n : Nat} (h : n < 274877906944) : oc2 (n : Int) = ((s27 n : Nat) : Int) ∧ s27 n < 549755813888 := by
  have hb : s27 n < 549755813888 := by
    have h1 : n / 4 &&& 3689348814741910323 ≤ n / 4 := Nat.and_le_left
    have h2 : n &&& 3689348814741910323 ≤ n := Nat.and_le_left
    unfold s27
    omega
  refine ⟨?_, hb⟩
  unfold oc2
  have e1 := bits_and_u64_nat (n / 4) 3689348814741910323 (by omega) (by omega)
  have e2 := bits_and_u64_nat n 3689348814741910323 (by omega) (by omega)
  rw [show ((n : Int) / 4) = ((n / 4 : Nat) : Int) from rfl, show (3689348814741910323 : Int) = ((3689348814741910323 : Nat) : Int) from rfl, e1, e2, ← Int.natCast_add]
  exact wrap_nat (by unfold s27 at hb; omega)
theorem oc3_n {n : Nat} (h : n < 549755813888) : oc3 (n : Int) = ((s37 n : Nat) : Int) ∧ s37 n < 1099511627776 := by
  have hb : s37 n < 1099511627776 := by
    have h1 : (n / 16 + n) &&& 1085102592571150095 ≤ n / 16 + n := Nat.and_le_left
    unfold s37
    omega
  refine ⟨?_, hb⟩
  unfold oc3
  have e1 := bits_and_u64_nat (n / 16 + n) 1085102592571150095 (by omega) (by omega)
  rw [show ((n : Int) / 16 + (n : Int)) = ((n / 16 + n : Nat) : Int) from rfl, wrap_nat (by omega), show (1085102592571150095 : Int) = ((1085102592571150095 : Nat) : Int) from rfl, e1]
  rfl
theorem oc4_n {n : Nat} (h : n < 1099511627776) : oc4 (n : Int) = ((s47 n : Nat) : Int) ∧ s47 n < 2199023255552 := by
  refine ⟨?_, by unfold s47; omega⟩
  unfold oc4
  rw [show ((n : Int) + (n : Int) / 256) = ((n + n / 256 : Nat) : Int) from rfl, wrap_nat (by omega)]
  rfl
theorem oc5_n {n : Nat} (h : n < 2199023255552) : oc5 (n : Int) = ((s57 n : Nat) : Int) ∧ s57 n < 4398046511104 := by
  refine ⟨?_, by unfold s57; omega⟩
  unfold oc5
  rw [show ((n : Int) + (n : Int) / 65536) = ((n + n / 65536 : Nat) : Int) from rfl, wrap_nat (by omega)]
  rfl
theorem oc6_n {n : Nat} (h : n < 4398046511104) : oc6 (n : Int) = ((s67 n : Nat) : Int) ∧ s67 n < 8796093022208 := by
  refine ⟨?_, by unfold s67; omega⟩
  unfold oc6
  rw [show ((n : Int) + (n : Int) / 4294967296) = ((n + n / 4294967296 : Nat) : Int) from rfl, wrap_nat (by omega)]
  rfl
theorem ocF_n {n : Nat} (h : n < 68719476736) : ocF (n : Int) = ((s67 (s57 (s47 (s37 (s27 (s17 n))))) % 128 : Nat) : Int) := by
  obtain ⟨e1, h1⟩ := oc1_n h
  obtain ⟨e2, h2⟩ := oc2_n h1
  obtain ⟨e3, h3⟩ := oc3_n h2
  obtain ⟨e4, h4⟩ := oc4_n h3
  obtain ⟨e5, h5⟩ := oc5_n h4
  obtain ⟨e6, h6⟩ := oc6_n h5
  unfold ocF
  rw [e1, e2, e3, e4, e5, e6]
  generalize s67 (s57 (s47 (s37 (s27 (s17 n))))) = z at h6
  rw [show wrap64 (z : Int) = (z : Int) by unfold wrap64; omega]
  rw [and127]
  rfl
/-- Six rows in one number. -/
def six7 (r0 r1 r2 r3 r4 r5 : Nat) : Nat := ((((r0 * 64 + r1) * 64 + r2) * 64 + r3) * 64 + r4) * 64 + r5
theorem oc36 (r0 r1 r2 r3 r4 r5 : Nat) (h0 : r0 < 64) (h1 : r1 < 64) (h2 : r2 < 64) (h3 : r3 < 64) (h4 : r4 < 64) (h5 : r5 < 64) : ocF ((six7 r0 r1 r2 r3 r4 r5 : Nat) : Int) = pc r0 + pc r1 + pc r2 + pc r3 + pc r4 + pc r5 := by
  have ta := twelve ⟨r0, h0⟩ ⟨r1, h1⟩
  have tb := twelve ⟨r2, h2⟩ ⟨r3, h3⟩
  have tc := twelve ⟨r4, h4⟩ ⟨r5, h5⟩
  dsimp only at ta tb tc
  have p0 := pc_bd (x := (r0 : Int)) (by omega)
  have p1 := pc_bd (x := (r1 : Int)) (by omega)
  have p2 := pc_bd (x := (r2 : Int)) (by omega)
  have p3 := pc_bd (x := (r3 : Int)) (by omega)
  have p4 := pc_bd (x := (r4 : Int)) (by omega)
  have p5 := pc_bd (x := (r5 : Int)) (by omega)
  have hx : six7 r0 r1 r2 r3 r4 r5 < 68719476736 := by unfold six7; omega
  rw [ocF_n hx]
  have a1 : r0 * 64 + r1 < 4096 := by omega
  have b1 : r2 * 64 + r3 < 4096 := by omega
  have c1 : r4 * 64 + r5 < 4096 := by omega
  have hs : six7 r0 r1 r2 r3 r4 r5 = ((r0 * 64 + r1) * 4096 + (r2 * 64 + r3)) * 4096 + (r4 * 64 + r5) := by unfold six7; omega
  rw [hs]
  generalize r0 * 64 + r1 = A at *
  generalize r2 * 64 + r3 = B at *
  generalize r4 * 64 + r5 = C at *
  have hv : (A * 4096 + B) * 4096 + C = va [C % 16, C / 16 % 16, C / 256, B % 16, B / 16 % 16, B / 256, A % 16, A / 16 % 16, A / 256] := by simp only [va]; omega
  rw [hv]
  rw [s17_va _ (by simp) (by intro n hn; simp only [List.mem_cons, List.mem_nil_iff, or_false] at hn; omega)]
  have fb : ∀ n, n < 16 → f17 n < 16 ∧ f27 (f17 n) ≤ 4 := fun n hn => f_fin ⟨n, hn⟩
  have q0 := fb (C % 16) (by omega)
  have q1 := fb (C / 16 % 16) (by omega)
  have q2 := fb (C / 256) (by omega)
  have q3 := fb (B % 16) (by omega)
  have q4 := fb (B / 16 % 16) (by omega)
  have q5 := fb (B / 256) (by omega)
  have q6 := fb (A % 16) (by omega)
  have q7 := fb (A / 16 % 16) (by omega)
  have q8 := fb (A / 256) (by omega)
  simp only [List.map_cons, List.map_nil]
  rw [s27_va _ (by simp) (by intro n hn; simp only [List.mem_cons, List.mem_nil_iff, or_false] at hn; omega)]
  simp only [List.map_cons, List.map_nil]
  rw [s37_nine _ _ _ _ _ _ _ _ _ q0.2 q1.2 q2.2 q3.2 q4.2 q5.2 q6.2 q7.2 q8.2]
  rw [sums _ _ _ _ _ (by omega) (by omega) (by omega) (by omega) (by omega)]
  omega
theorem oc64_36 (r0 r1 r2 r3 r4 r5 : Nat) (h0 : r0 < 64) (h1 : r1 < 64) (h2 : r2 < 64) (h3 : r3 < 64) (h4 : r4 < 64) (h5 : r5 < 64) (w : World) : Calls Try.prog 167 #[.int .u64 ((six7 r0 r1 r2 r3 r4 r5 : Nat) : Int)] w fun e w' => e = .returned (.int .i64 (pc r0 + pc r1 + pc r2 + pc r3 + pc r4 + pc r5)) ∧ w' = w := by
  rw [← oc36 r0 r1 r2 r3 r4 r5 h0 h1 h2 h3 h4 h5]
  have hx : six7 r0 r1 r2 r3 r4 r5 < 68719476736 := by unfold six7; omega
  generalize six7 r0 r1 r2 r3 r4 r5 = x at *
  go_enter Try.func167, Try.ntmps167
  go_wp2_with fail
  go_ret
  exact ⟨rfl, rfl⟩
end Go.Proofs.Ythphkhcppljdlaa
