/- CONTRACTS: CommonCells, of the model and of the code; the law's walk. -/
import Derived.Test.YtnkjamdpafpcpaaLs12
import Derived.Test.YtnkjamdpafpcpaaSz
import Derived.Test.YtnkjamdpafpcpaaPb
import Derived.WalkKit
import Derived.ProofKit
import Derived.OpenShut
import Derived.Lib.Hide
import Derived.WalkSpells
import Derived.Below
import Derived.BigQuiet
import Derived.LoopN
namespace Go.Proofs.Ytnkjamdpafpcpaa
open Go.ChangeShapes Go.WideShapes Go.ChangeAt Go.RowKit
set_option linter.unusedVariables false
theorem and_fin : ∀ a b : Fin 64, 0 ≤ bits .and .i64 ((a.val : Nat) : Int) ((b.val : Nat) : Int) ∧ bits .and .i64 ((a.val : Nat) : Int) ((b.val : Nat) : Int) ≤ 63 := by decide +kernel
theorem and_in {a b : Int} (ha : 0 ≤ a ∧ a ≤ 63) (hb : 0 ≤ b ∧ b ≤ 63) : 0 ≤ bits .and .i64 a b ∧ bits .and .i64 a b ≤ 63 := by
  have h := and_fin ⟨a.toNat, by omega⟩ ⟨b.toNat, by omega⟩
  have e1 : ((a.toNat : Nat) : Int) = a := by omega
  have e2 : ((b.toNat : Nat) : Int) = b := by omega
  simp only [e1, e2] at h
  exact h
theorem oks_parts {a0 a1 a2 a3 a4 a5 b0 b1 b2 b3 b4 b5 p c : Int} (h : oks a0 a1 a2 a3 a4 a5 b0 b1 b2 b3 b4 b5 p c = true) : (ok a0 && ok a1 && ok a2 && ok a3 && ok a4 && ok a5) = true ∧ (ok b0 && ok b1 && ok b2 && ok b3 && ok b4 && ok b5) = true := by
  unfold oks at h
  simp only [Bool.and_eq_true] at h ⊢
  exact ⟨h.1.1.1, h.1.1.2⟩
theorem ok_of {a : Int} (h : 0 ≤ a ∧ a ≤ 63) : ok a = true := by
  unfold ok
  simp
  omega
set_option maxRecDepth 8000 in
set_option maxHeartbeats 2000000 in
theorem scommon_yes (a0 a1 a2 a3 a4 a5 : Int) (b0 b1 b2 b3 b4 b5 : Int) (p c : Int) (hq : oks a0 a1 a2 a3 a4 a5 b0 b1 b2 b3 b4 b5 p c = true) (w : World) : Calls Try.prog 25 #[.agg #[.int .i64 a0, .int .i64 a1, .int .i64 a2, .int .i64 a3, .int .i64 a4, .int .i64 a5, .int .i64 b0, .int .i64 b1, .int .i64 b2, .int .i64 b3, .int .i64 b4, .int .i64 b5, .int .i64 p, .int .i64 c]] w fun e w' => e = .returned (.tuple #[.int .i64 (pc (bits .and .i64 a0 b0) + pc (bits .and .i64 a1 b1) + pc (bits .and .i64 a2 b2) + pc (bits .and .i64 a3 b3) + pc (bits .and .i64 a4 b4) + pc (bits .and .i64 a5 b5)), .bool true]) ∧ Below w.heap.size w w' := by
  have HG := Lib.hid (sgood_any a0 a1 a2 a3 a4 a5 b0 b1 b2 b3 b4 b5 p c)
  rw [hq] at HG
  obtain ⟨ha0, ha1, ha2, ha3, ha4, ha5⟩ := ok_all a0 a1 a2 a3 a4 a5 (oks_parts hq).1
  obtain ⟨hb0, hb1, hb2, hb3, hb4, hb5⟩ := ok_all b0 b1 b2 b3 b4 b5 (oks_parts hq).2
  have HA := Lib.hid (l2and_any a0 a1 a2 a3 a4 a5 b0 b1 b2 b3 b4 b5)
  have k0 := and_in ha0 hb0
  have k1 := and_in ha1 hb1
  have k2 := and_in ha2 hb2
  have k3 := and_in ha3 hb3
  have k4 := and_in ha4 hb4
  have k5 := and_in ha5 hb5
  generalize bits .and .i64 a0 b0 = r0 at HA k0 ⊢
  generalize bits .and .i64 a1 b1 = r1 at HA k1 ⊢
  generalize bits .and .i64 a2 b2 = r2 at HA k2 ⊢
  generalize bits .and .i64 a3 b3 = r3 at HA k3 ⊢
  generalize bits .and .i64 a4 b4 = r4 at HA k4 ⊢
  generalize bits .and .i64 a5 b5 = r5 at HA k5 ⊢
  have HC := Lib.hid (l2count_any r0 r1 r2 r3 r4 r5 ⟨k0, k1, k2, k3, k4, k5⟩)
  clear hq ha0 ha1 ha2 ha3 ha4 ha5 hb0 hb1 hb2 hb3 hb4 hb5 k0 k1 k2 k3 k4 k5
  generalize pc r0 + pc r1 + pc r2 + pc r3 + pc r4 + pc r5 = n at HC ⊢
  go_enter Try.func25, Try.ntmps25
  go_wp2_with fail
  have K0 := kr12 w (.cells #[.int .i64 a0, .int .i64 a1, .int .i64 a2, .int .i64 a3, .int .i64 a4, .int .i64 a5, .int .i64 b0, .int .i64 b1, .int .i64 b2, .int .i64 b3, .int .i64 b4, .int .i64 b5, .int .i64 p, .int .i64 c] 30 (0, 0))
  generalize (World.alloc _ _ : World) = W0 at K0 ⊢
  have AC := Lib.hid (fun (U : World) (h : KR 1 [(w.heap.size, .cells #[.int .i64 a0, .int .i64 a1, .int .i64 a2, .int .i64 a3, .int .i64 a4, .int .i64 a5, .int .i64 b0, .int .i64 b1, .int .i64 b2, .int .i64 b3, .int .i64 b4, .int .i64 b5, .int .i64 p, .int .i64 c] 30 (0, 0))] w U) j => h.cell (g := w.heap.size) (cs := #[.int .i64 a0, .int .i64 a1, .int .i64 a2, .int .i64 a3, .int .i64 a4, .int .i64 a5, .int .i64 b0, .int .i64 b1, .int .i64 b2, .int .i64 b3, .int .i64 b4, .int .i64 b5, .int .i64 p, .int .i64 c]) (t := 30) (List.mem_cons_self ..) j)
  refine (HG.out _).mono ?_
  rintro e W1 ⟨rfl, hb⟩
  have K1 := K0.far hb rfl
  clear hb K0
  have c0 := AC.out _ K1
  go_wp2_with fail
  refine (HA.out _).mono ?_
  rintro e W2 ⟨rfl, hb⟩
  have K2 := K1.far hb rfl
  clear hb K1 c0
  go_wp2_with fail
  refine (HC.out _).mono ?_
  rintro e W3 ⟨rfl, hb⟩
  have K3 := K2.far hb rfl
  clear hb K2
  go_wp2_with fail
  exact bodyPost_ret (v := .tuple #[.int .i64 n, .bool true]) (by simp [results, Try.results25, go_sem]) rfl ⟨rfl, K3.2.2⟩
set_option maxRecDepth 8000 in
set_option maxHeartbeats 2000000 in
theorem scommon_no (a0 a1 a2 a3 a4 a5 : Int) (b0 b1 b2 b3 b4 b5 : Int) (p c : Int) (hq : oks a0 a1 a2 a3 a4 a5 b0 b1 b2 b3 b4 b5 p c = false) (w : World) : Calls Try.prog 25 #[.agg #[.int .i64 a0, .int .i64 a1, .int .i64 a2, .int .i64 a3, .int .i64 a4, .int .i64 a5, .int .i64 b0, .int .i64 b1, .int .i64 b2, .int .i64 b3, .int .i64 b4, .int .i64 b5, .int .i64 p, .int .i64 c]] w fun e w' => e = .returned (.tuple #[.int .i64 0, .bool false]) ∧ Below w.heap.size w w' := by
  have HG := Lib.hid (sgood_any a0 a1 a2 a3 a4 a5 b0 b1 b2 b3 b4 b5 p c)
  rw [hq] at HG
  clear hq
  go_enter Try.func25, Try.ntmps25
  go_wp2_with fail
  have K0 := kr12 w (.cells #[.int .i64 a0, .int .i64 a1, .int .i64 a2, .int .i64 a3, .int .i64 a4, .int .i64 a5, .int .i64 b0, .int .i64 b1, .int .i64 b2, .int .i64 b3, .int .i64 b4, .int .i64 b5, .int .i64 p, .int .i64 c] 30 (0, 0))
  generalize (World.alloc _ _ : World) = W0 at K0 ⊢
  refine (HG.out _).mono ?_
  rintro e W1 ⟨rfl, hb⟩
  have K1 := K0.far hb rfl
  clear hb K0
  go_wp2_with fail
  exact bodyPost_ret (v := .tuple #[.int .i64 0, .bool false]) (by simp [results, Try.results25, go_sem]) rfl ⟨rfl, K1.2.2⟩
set_option maxRecDepth 8000 in
set_option maxHeartbeats 2000000 in
theorem icommon_yes (a0 a1 a2 a3 a4 a5 : Int) (b0 b1 b2 b3 b4 b5 : Int) (p c : Int) (hq : oks a0 a1 a2 a3 a4 a5 b0 b1 b2 b3 b4 b5 p c = true) (w : World) : Calls Try.prog 26 #[.agg #[.int .i64 a0, .int .i64 a1, .int .i64 a2, .int .i64 a3, .int .i64 a4, .int .i64 a5, .int .i64 b0, .int .i64 b1, .int .i64 b2, .int .i64 b3, .int .i64 b4, .int .i64 b5, .int .i64 p, .int .i64 c]] w fun e w' => e = .returned (.tuple #[.int .i64 (pc (bits .and .i64 a0 b0) + pc (bits .and .i64 a1 b1) + pc (bits .and .i64 a2 b2) + pc (bits .and .i64 a3 b3) + pc (bits .and .i64 a4 b4) + pc (bits .and .i64 a5 b5)), .bool true]) ∧ Below w.heap.size w w' := by
  have HG := Lib.hid (ishop_any a0 a1 a2 a3 a4 a5 b0 b1 b2 b3 b4 b5 p c)
  rw [hq] at HG
  obtain ⟨ha0, ha1, ha2, ha3, ha4, ha5⟩ := ok_all a0 a1 a2 a3 a4 a5 (oks_parts hq).1
  obtain ⟨hb0, hb1, hb2, hb3, hb4, hb5⟩ := ok_all b0 b1 b2 b3 b4 b5 (oks_parts hq).2
  have HA := Lib.hid (shared_any a0 a1 a2 a3 a4 a5 b0 b1 b2 b3 b4 b5)
  have k0 := and_in ha0 hb0
  have k1 := and_in ha1 hb1
  have k2 := and_in ha2 hb2
  have k3 := and_in ha3 hb3
  have k4 := and_in ha4 hb4
  have k5 := and_in ha5 hb5
  generalize bits .and .i64 a0 b0 = r0 at HA k0 ⊢
  generalize bits .and .i64 a1 b1 = r1 at HA k1 ⊢
  generalize bits .and .i64 a2 b2 = r2 at HA k2 ⊢
  generalize bits .and .i64 a3 b3 = r3 at HA k3 ⊢
  generalize bits .and .i64 a4 b4 = r4 at HA k4 ⊢
  generalize bits .and .i64 a5 b5 = r5 at HA k5 ⊢
  have HC := Lib.hid (isize_yes r0 r1 r2 r3 r4 r5 ⟨k0, k1, k2, k3, k4, k5⟩ (sh_ai r0 r1 r2 r3 r4 r5 (by rw [ok_of k0, ok_of k1, ok_of k2, ok_of k3, ok_of k4, ok_of k5]; rfl)))
  clear hq ha0 ha1 ha2 ha3 ha4 ha5 hb0 hb1 hb2 hb3 hb4 hb5 k0 k1 k2 k3 k4 k5
  generalize pc r0 + pc r1 + pc r2 + pc r3 + pc r4 + pc r5 = n at HC ⊢
  go_enter Try.func26, Try.ntmps26
  go_wp2_with fail
  have K0 := kr12 w (.cells #[.int .i64 a0, .int .i64 a1, .int .i64 a2, .int .i64 a3, .int .i64 a4, .int .i64 a5, .int .i64 b0, .int .i64 b1, .int .i64 b2, .int .i64 b3, .int .i64 b4, .int .i64 b5, .int .i64 p, .int .i64 c] 30 (0, 0))
  generalize (World.alloc _ _ : World) = W0 at K0 ⊢
  have AC := Lib.hid (fun (U : World) (h : KR 1 [(w.heap.size, .cells #[.int .i64 a0, .int .i64 a1, .int .i64 a2, .int .i64 a3, .int .i64 a4, .int .i64 a5, .int .i64 b0, .int .i64 b1, .int .i64 b2, .int .i64 b3, .int .i64 b4, .int .i64 b5, .int .i64 p, .int .i64 c] 30 (0, 0))] w U) j => h.cell (g := w.heap.size) (cs := #[.int .i64 a0, .int .i64 a1, .int .i64 a2, .int .i64 a3, .int .i64 a4, .int .i64 a5, .int .i64 b0, .int .i64 b1, .int .i64 b2, .int .i64 b3, .int .i64 b4, .int .i64 b5, .int .i64 p, .int .i64 c]) (t := 30) (List.mem_cons_self ..) j)
  refine (HG.out _).mono ?_
  rintro e W1 ⟨rfl, hb⟩
  have K1 := K0.far hb rfl
  clear hb K0
  have c0 := AC.out _ K1
  go_wp2_with fail
  refine (HA.out _).mono ?_
  rintro e W2 ⟨rfl, hb⟩
  have K2 := K1.far hb rfl
  clear hb K1 c0
  go_wp2_with fail
  refine (HC.out _).mono ?_
  rintro e W3 ⟨rfl, hb⟩
  have K3 := K2.far hb rfl
  clear hb K2
  go_wp2_with fail
  exact bodyPost_ret (v := .tuple #[.int .i64 n, .bool true]) (by simp [results, Try.results26, go_sem]) rfl ⟨rfl, K3.2.2⟩
set_option maxRecDepth 8000 in
set_option maxHeartbeats 2000000 in
theorem icommon_no (a0 a1 a2 a3 a4 a5 : Int) (b0 b1 b2 b3 b4 b5 : Int) (p c : Int) (hq : oks a0 a1 a2 a3 a4 a5 b0 b1 b2 b3 b4 b5 p c = false) (w : World) : Calls Try.prog 26 #[.agg #[.int .i64 a0, .int .i64 a1, .int .i64 a2, .int .i64 a3, .int .i64 a4, .int .i64 a5, .int .i64 b0, .int .i64 b1, .int .i64 b2, .int .i64 b3, .int .i64 b4, .int .i64 b5, .int .i64 p, .int .i64 c]] w fun e w' => e = .returned (.tuple #[.int .i64 0, .bool false]) ∧ Below w.heap.size w w' := by
  have HG := Lib.hid (ishop_any a0 a1 a2 a3 a4 a5 b0 b1 b2 b3 b4 b5 p c)
  rw [hq] at HG
  clear hq
  go_enter Try.func26, Try.ntmps26
  go_wp2_with fail
  have K0 := kr12 w (.cells #[.int .i64 a0, .int .i64 a1, .int .i64 a2, .int .i64 a3, .int .i64 a4, .int .i64 a5, .int .i64 b0, .int .i64 b1, .int .i64 b2, .int .i64 b3, .int .i64 b4, .int .i64 b5, .int .i64 p, .int .i64 c] 30 (0, 0))
  generalize (World.alloc _ _ : World) = W0 at K0 ⊢
  refine (HG.out _).mono ?_
  rintro e W1 ⟨rfl, hb⟩
  have K1 := K0.far hb rfl
  clear hb K0
  go_wp2_with fail
  exact bodyPost_ret (v := .tuple #[.int .i64 0, .bool false]) (by simp [results, Try.results26, go_sem]) rfl ⟨rfl, K1.2.2⟩
theorem common_pair (a0 a1 a2 a3 a4 a5 : Int) (b0 b1 b2 b3 b4 b5 : Int) (p c : Int) : ∃ (r : Int) (t : Bool), (∀ w, Calls Try.prog 25 #[.agg #[.int .i64 a0, .int .i64 a1, .int .i64 a2, .int .i64 a3, .int .i64 a4, .int .i64 a5, .int .i64 b0, .int .i64 b1, .int .i64 b2, .int .i64 b3, .int .i64 b4, .int .i64 b5, .int .i64 p, .int .i64 c]] w fun e w' => e = .returned (.tuple #[.int .i64 r, .bool t]) ∧ Below w.heap.size w w') ∧ (∀ w, Calls Try.prog 26 #[.agg #[.int .i64 a0, .int .i64 a1, .int .i64 a2, .int .i64 a3, .int .i64 a4, .int .i64 a5, .int .i64 b0, .int .i64 b1, .int .i64 b2, .int .i64 b3, .int .i64 b4, .int .i64 b5, .int .i64 p, .int .i64 c]] w fun e w' => e = .returned (.tuple #[.int .i64 r, .bool t]) ∧ Below w.heap.size w w') := by
  cases hq : oks a0 a1 a2 a3 a4 a5 b0 b1 b2 b3 b4 b5 p c
  · exact ⟨_, _, scommon_no a0 a1 a2 a3 a4 a5 b0 b1 b2 b3 b4 b5 p c hq, icommon_no a0 a1 a2 a3 a4 a5 b0 b1 b2 b3 b4 b5 p c hq⟩
  · exact ⟨_, _, scommon_yes a0 a1 a2 a3 a4 a5 b0 b1 b2 b3 b4 b5 p c hq, icommon_yes a0 a1 a2 a3 a4 a5 b0 b1 b2 b3 b4 b5 p c hq⟩
set_option maxRecDepth 8000 in
set_option maxHeartbeats 2000000 in
theorem common_core (a0 a1 a2 a3 a4 a5 : Int) (b0 b1 b2 b3 b4 b5 : Int) (p c : Int) (r : Int) (t : Bool) (HS : Hid (∀ w, Calls Try.prog 25 #[.agg #[.int .i64 a0, .int .i64 a1, .int .i64 a2, .int .i64 a3, .int .i64 a4, .int .i64 a5, .int .i64 b0, .int .i64 b1, .int .i64 b2, .int .i64 b3, .int .i64 b4, .int .i64 b5, .int .i64 p, .int .i64 c]] w fun e w' => e = .returned (.tuple #[.int .i64 r, .bool t]) ∧ Below w.heap.size w w')) (HI : Hid (∀ w, Calls Try.prog 26 #[.agg #[.int .i64 a0, .int .i64 a1, .int .i64 a2, .int .i64 a3, .int .i64 a4, .int .i64 a5, .int .i64 b0, .int .i64 b1, .int .i64 b2, .int .i64 b3, .int .i64 b4, .int .i64 b5, .int .i64 p, .int .i64 c]] w fun e w' => e = .returned (.tuple #[.int .i64 r, .bool t]) ∧ Below w.heap.size w w')) (w : World) : Calls Try.prog 5 #[.agg #[.int .i64 a0, .int .i64 a1, .int .i64 a2, .int .i64 a3, .int .i64 a4, .int .i64 a5, .int .i64 b0, .int .i64 b1, .int .i64 b2, .int .i64 b3, .int .i64 b4, .int .i64 b5, .int .i64 p, .int .i64 c]] w fun e w' => e = .returned (.bool true) ∧ Below w.heap.size w w' := by
  have HT := Lib.hid (to_shop a0 a1 a2 a3 a4 a5 b0 b1 b2 b3 b4 b5 p c)
  go_enter Try.func5, Try.ntmps5
  go_wp2_with fail
  have K0 := kr12 w (.cells #[.int .i64 a0, .int .i64 a1, .int .i64 a2, .int .i64 a3, .int .i64 a4, .int .i64 a5, .int .i64 b0, .int .i64 b1, .int .i64 b2, .int .i64 b3, .int .i64 b4, .int .i64 b5, .int .i64 p, .int .i64 c] 26 (0, 0))
  generalize (World.alloc _ _ : World) = W0 at K0 ⊢
  have AC := Lib.hid (fun (U : World) (h : KR 1 [(w.heap.size, .cells #[.int .i64 a0, .int .i64 a1, .int .i64 a2, .int .i64 a3, .int .i64 a4, .int .i64 a5, .int .i64 b0, .int .i64 b1, .int .i64 b2, .int .i64 b3, .int .i64 b4, .int .i64 b5, .int .i64 p, .int .i64 c] 26 (0, 0))] w U) j => h.cell (g := w.heap.size) (cs := #[.int .i64 a0, .int .i64 a1, .int .i64 a2, .int .i64 a3, .int .i64 a4, .int .i64 a5, .int .i64 b0, .int .i64 b1, .int .i64 b2, .int .i64 b3, .int .i64 b4, .int .i64 b5, .int .i64 p, .int .i64 c]) (t := 26) (List.mem_cons_self ..) j)
  refine (HT.out _).mono ?_
  rintro e W2 ⟨rfl, hb⟩
  have K1 := K0.far hb rfl
  clear hb K0
  go_wp2_with fail
  refine (HS.out _).mono ?_
  rintro e W3 ⟨rfl, hb⟩
  have K2 := K1.far hb rfl
  clear hb K1
  have c0 := AC.out _ K2
  go_wp2_with fail
  refine (HT.out _).mono ?_
  rintro e W4 ⟨rfl, hb⟩
  have K3 := K2.far hb rfl
  clear hb K2 c0
  go_wp2_with fail
  refine (HI.out _).mono ?_
  rintro e W5 ⟨rfl, hb⟩
  have K4 := K3.far hb rfl
  clear hb K3
  cases t
  all_goals
    go_wp2_with fail
    go_ret
    exact ⟨rfl, K4.2.2⟩
theorem common_law (a0 a1 a2 a3 a4 a5 : Int) (b0 b1 b2 b3 b4 b5 : Int) (p c : Int) (w : World) : Calls Try.prog 5 #[.agg #[.int .i64 a0, .int .i64 a1, .int .i64 a2, .int .i64 a3, .int .i64 a4, .int .i64 a5, .int .i64 b0, .int .i64 b1, .int .i64 b2, .int .i64 b3, .int .i64 b4, .int .i64 b5, .int .i64 p, .int .i64 c]] w fun e w' => e = .returned (.bool true) ∧ Below w.heap.size w w' := by
  obtain ⟨r, t, h1, h2⟩ := common_pair a0 a1 a2 a3 a4 a5 b0 b1 b2 b3 b4 b5 p c
  exact common_core a0 a1 a2 a3 a4 a5 b0 b1 b2 b3 b4 b5 p c r t (Lib.hid h1) (Lib.hid h2) w
end Go.Proofs.Ytnkjamdpafpcpaa
