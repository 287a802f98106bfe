/- CONTRACTS: SpreadTimes. -/
import Derived.Test.YtjhokdccgachcaaRp5
import Derived.Test.YtjhokdccgachcaaBs5
import Derived.Deep.RegionHeld3
import Derived.WalkKit
import Derived.ProofKit
import Derived.OpenShut
import Derived.Lib.Hide
import Derived.WalkSpells
import Derived.Below
import Derived.BigQuiet
import Derived.LoopN
namespace Go.Proofs.Ytjhokdccgachcaa
open Go.ChangeShapes Go.WideShapes Go.ChangeAt Go.RowKit
set_option linter.unusedVariables false
set_option maxHeartbeats 1000000 in
theorem stm_no0 (a0 a1 a2 a3 a4 a5 : Int) (b0 b1 b2 b3 b4 b5 : Int) (k : Int) (H0 : Hid (∀ w, Calls Try.prog 91 #[.agg #[.int .i64 a0, .int .i64 a1, .int .i64 a2, .int .i64 a3, .int .i64 a4, .int .i64 a5]] w fun e w' => e = .returned (.bool false) ∧ Below w.heap.size w w')) (w : World) : Calls Try.prog 41 #[.agg #[.int .i64 a0, .int .i64 a1, .int .i64 a2, .int .i64 a3, .int .i64 a4, .int .i64 a5], .agg #[.int .i64 b0, .int .i64 b1, .int .i64 b2, .int .i64 b3, .int .i64 b4, .int .i64 b5], .int .i64 k] w fun e w' => e = .returned (.tuple #[.agg #[.int .i64 0, .int .i64 0, .int .i64 0, .int .i64 0, .int .i64 0, .int .i64 0], .bool false]) ∧ Below w.heap.size w w' := by
  go_enter Try.func41, Try.ntmps41
  go_wp2_with fail
  generalize hW : (World.alloc _ _ : World) = W0
  have hB0 : Below w.heap.size w W0 := by rw [← hW]; (repeat (first | exact Below.refl _ _ | assumption | refine Below.setCell ?_ (by first | (simp; done) | (simp; omega)) _ | refine Below.alloc ?_ (by first | (simp; done) | (simp; omega)) _ | refine Below.drew ?_))
  have qa : W0.heap[(w.heap.size : Nat)]? = some (Obj.cells (#[.int .i64 a0, .int .i64 a1, .int .i64 a2, .int .i64 a3, .int .i64 a4, .int .i64 a5]) 25 (0, 0)) := by
    rw [← hW]
    repeat (first | (refine alloc_at ?_; first | (simp; done) | (simp; omega)) | refine drew_row ?_ | refine alloc_past ?_ | assumption)
  have qb : W0.heap[(w.heap.size + 1 : Nat)]? = some (Obj.cells (#[.int .i64 b0, .int .i64 b1, .int .i64 b2, .int .i64 b3, .int .i64 b4, .int .i64 b5]) 25 (0, 0)) := by
    rw [← hW]
    repeat (first | (refine alloc_at ?_; first | (simp; done) | (simp; omega)) | refine drew_row ?_ | refine alloc_past ?_ | assumption)
  have qz : W0.heap[(w.heap.size + 1 + 1 : Nat)]? = some (Obj.cells (#[.int .i64 0, .int .i64 0, .int .i64 0, .int .i64 0, .int .i64 0, .int .i64 0]) 25 (0, 0)) := by
    rw [← hW]
    repeat (first | (refine alloc_at ?_; first | (simp; done) | (simp; omega)) | refine drew_row ?_ | refine alloc_past ?_ | assumption)
  clear hW
  refine (H0.out _).mono ?_
  rintro e W1 ⟨rfl, hb⟩
  have nqa := rowk qa hb rfl
  have nqb := rowk qb hb rfl
  have nqz := rowk qz hb rfl
  have hB1 := below_of hB0 hb hB0.size
  clear hb hB0 qa qb qz
  have qa := nqa
  have qb := nqb
  have qz := nqz
  clear nqa nqb nqz
  have qa_c := fun j => cell_of_row W1 _ j _ _ _ qa
  have qa_f := fun j => frozen_of_row W1 _ j _ _ qa
  have qb_c := fun j => cell_of_row W1 _ j _ _ _ qb
  have qb_f := fun j => frozen_of_row W1 _ j _ _ qb
  have qz_c := fun j => cell_of_row W1 _ j _ _ _ qz
  have qz_f := fun j => frozen_of_row W1 _ j _ _ qz
  go_wp2_with fail
  refine bodyPost_ret (v := .tuple #[.agg #[.int .i64 0, .int .i64 0, .int .i64 0, .int .i64 0, .int .i64 0, .int .i64 0], .bool false]) (by simp [results, Try.results41, go_sem, qz_c]) rfl ⟨rfl, ?_⟩
  exact below6 hB1 (by omega)
set_option maxHeartbeats 1000000 in
theorem stm_no1 (a0 a1 a2 a3 a4 a5 : Int) (b0 b1 b2 b3 b4 b5 : Int) (k : Int) (H0 : Hid (∀ w, Calls Try.prog 91 #[.agg #[.int .i64 a0, .int .i64 a1, .int .i64 a2, .int .i64 a3, .int .i64 a4, .int .i64 a5]] w fun e w' => e = .returned (.bool true) ∧ Below w.heap.size w w')) (H1 : Hid (∀ w, Calls Try.prog 91 #[.agg #[.int .i64 b0, .int .i64 b1, .int .i64 b2, .int .i64 b3, .int .i64 b4, .int .i64 b5]] w fun e w' => e = .returned (.bool false) ∧ Below w.heap.size w w')) (w : World) : Calls Try.prog 41 #[.agg #[.int .i64 a0, .int .i64 a1, .int .i64 a2, .int .i64 a3, .int .i64 a4, .int .i64 a5], .agg #[.int .i64 b0, .int .i64 b1, .int .i64 b2, .int .i64 b3, .int .i64 b4, .int .i64 b5], .int .i64 k] w fun e w' => e = .returned (.tuple #[.agg #[.int .i64 0, .int .i64 0, .int .i64 0, .int .i64 0, .int .i64 0, .int .i64 0], .bool false]) ∧ Below w.heap.size w w' := by
  go_enter Try.func41, Try.ntmps41
  go_wp2_with fail
  generalize hW : (World.alloc _ _ : World) = W0
  have hB0 : Below w.heap.size w W0 := by rw [← hW]; (repeat (first | exact Below.refl _ _ | assumption | refine Below.setCell ?_ (by first | (simp; done) | (simp; omega)) _ | refine Below.alloc ?_ (by first | (simp; done) | (simp; omega)) _ | refine Below.drew ?_))
  have qa : W0.heap[(w.heap.size : Nat)]? = some (Obj.cells (#[.int .i64 a0, .int .i64 a1, .int .i64 a2, .int .i64 a3, .int .i64 a4, .int .i64 a5]) 25 (0, 0)) := by
    rw [← hW]
    repeat (first | (refine alloc_at ?_; first | (simp; done) | (simp; omega)) | refine drew_row ?_ | refine alloc_past ?_ | assumption)
  have qb : W0.heap[(w.heap.size + 1 : Nat)]? = some (Obj.cells (#[.int .i64 b0, .int .i64 b1, .int .i64 b2, .int .i64 b3, .int .i64 b4, .int .i64 b5]) 25 (0, 0)) := by
    rw [← hW]
    repeat (first | (refine alloc_at ?_; first | (simp; done) | (simp; omega)) | refine drew_row ?_ | refine alloc_past ?_ | assumption)
  have qz : W0.heap[(w.heap.size + 1 + 1 : Nat)]? = some (Obj.cells (#[.int .i64 0, .int .i64 0, .int .i64 0, .int .i64 0, .int .i64 0, .int .i64 0]) 25 (0, 0)) := by
    rw [← hW]
    repeat (first | (refine alloc_at ?_; first | (simp; done) | (simp; omega)) | refine drew_row ?_ | refine alloc_past ?_ | assumption)
  clear hW
  refine (H0.out _).mono ?_
  rintro e W1 ⟨rfl, hb⟩
  have nqa := rowk qa hb rfl
  have nqb := rowk qb hb rfl
  have nqz := rowk qz hb rfl
  have hB1 := below_of hB0 hb hB0.size
  clear hb hB0 qa qb qz
  have qa := nqa
  have qb := nqb
  have qz := nqz
  clear nqa nqb nqz
  have qa_c := fun j => cell_of_row W1 _ j _ _ _ qa
  have qa_f := fun j => frozen_of_row W1 _ j _ _ qa
  have qb_c := fun j => cell_of_row W1 _ j _ _ _ qb
  have qb_f := fun j => frozen_of_row W1 _ j _ _ qb
  have qz_c := fun j => cell_of_row W1 _ j _ _ _ qz
  have qz_f := fun j => frozen_of_row W1 _ j _ _ qz
  go_wp2_with fail
  refine (H1.out _).mono ?_
  rintro e W2 ⟨rfl, hb⟩
  have nqa := rowk qa hb rfl
  have nqb := rowk qb hb rfl
  have nqz := rowk qz hb rfl
  have hB2 := below_of hB1 hb hB1.size
  clear hb hB1 qa qb qz qa_c qa_f qb_c qb_f qz_c qz_f
  have qa := nqa
  have qb := nqb
  have qz := nqz
  clear nqa nqb nqz
  have qa_c := fun j => cell_of_row W2 _ j _ _ _ qa
  have qa_f := fun j => frozen_of_row W2 _ j _ _ qa
  have qb_c := fun j => cell_of_row W2 _ j _ _ _ qb
  have qb_f := fun j => frozen_of_row W2 _ j _ _ qb
  have qz_c := fun j => cell_of_row W2 _ j _ _ _ qz
  have qz_f := fun j => frozen_of_row W2 _ j _ _ qz
  go_wp2_with fail
  refine bodyPost_ret (v := .tuple #[.agg #[.int .i64 0, .int .i64 0, .int .i64 0, .int .i64 0, .int .i64 0, .int .i64 0], .bool false]) (by simp [results, Try.results41, go_sem, qz_c]) rfl ⟨rfl, ?_⟩
  exact below6 hB2 (by omega)
set_option maxHeartbeats 1000000 in
theorem stm_no2 (a0 a1 a2 a3 a4 a5 : Int) (b0 b1 b2 b3 b4 b5 : Int) (k : Int) (H0 : Hid (∀ w, Calls Try.prog 91 #[.agg #[.int .i64 a0, .int .i64 a1, .int .i64 a2, .int .i64 a3, .int .i64 a4, .int .i64 a5]] w fun e w' => e = .returned (.bool true) ∧ Below w.heap.size w w')) (H1 : Hid (∀ w, Calls Try.prog 91 #[.agg #[.int .i64 b0, .int .i64 b1, .int .i64 b2, .int .i64 b3, .int .i64 b4, .int .i64 b5]] w fun e w' => e = .returned (.bool true) ∧ Below w.heap.size w w')) (H2 : Hid (∀ w, Calls Try.prog 111 #[.int .i64 k, .int .i64 0, .int .i64 12] w fun e w' => e = .returned (.bool false) ∧ Below w.heap.size w w')) (w : World) : Calls Try.prog 41 #[.agg #[.int .i64 a0, .int .i64 a1, .int .i64 a2, .int .i64 a3, .int .i64 a4, .int .i64 a5], .agg #[.int .i64 b0, .int .i64 b1, .int .i64 b2, .int .i64 b3, .int .i64 b4, .int .i64 b5], .int .i64 k] w fun e w' => e = .returned (.tuple #[.agg #[.int .i64 0, .int .i64 0, .int .i64 0, .int .i64 0, .int .i64 0, .int .i64 0], .bool false]) ∧ Below w.heap.size w w' := by
  go_enter Try.func41, Try.ntmps41
  go_wp2_with fail
  generalize hW : (World.alloc _ _ : World) = W0
  have hB0 : Below w.heap.size w W0 := by rw [← hW]; (repeat (first | exact Below.refl _ _ | assumption | refine Below.setCell ?_ (by first | (simp; done) | (simp; omega)) _ | refine Below.alloc ?_ (by first | (simp; done) | (simp; omega)) _ | refine Below.drew ?_))
  have qa : W0.heap[(w.heap.size : Nat)]? = some (Obj.cells (#[.int .i64 a0, .int .i64 a1, .int .i64 a2, .int .i64 a3, .int .i64 a4, .int .i64 a5]) 25 (0, 0)) := by
    rw [← hW]
    repeat (first | (refine alloc_at ?_; first | (simp; done) | (simp; omega)) | refine drew_row ?_ | refine alloc_past ?_ | assumption)
  have qb : W0.heap[(w.heap.size + 1 : Nat)]? = some (Obj.cells (#[.int .i64 b0, .int .i64 b1, .int .i64 b2, .int .i64 b3, .int .i64 b4, .int .i64 b5]) 25 (0, 0)) := by
    rw [← hW]
    repeat (first | (refine alloc_at ?_; first | (simp; done) | (simp; omega)) | refine drew_row ?_ | refine alloc_past ?_ | assumption)
  have qz : W0.heap[(w.heap.size + 1 + 1 : Nat)]? = some (Obj.cells (#[.int .i64 0, .int .i64 0, .int .i64 0, .int .i64 0, .int .i64 0, .int .i64 0]) 25 (0, 0)) := by
    rw [← hW]
    repeat (first | (refine alloc_at ?_; first | (simp; done) | (simp; omega)) | refine drew_row ?_ | refine alloc_past ?_ | assumption)
  clear hW
  refine (H0.out _).mono ?_
  rintro e W1 ⟨rfl, hb⟩
  have nqa := rowk qa hb rfl
  have nqb := rowk qb hb rfl
  have nqz := rowk qz hb rfl
  have hB1 := below_of hB0 hb hB0.size
  clear hb hB0 qa qb qz
  have qa := nqa
  have qb := nqb
  have qz := nqz
  clear nqa nqb nqz
  have qa_c := fun j => cell_of_row W1 _ j _ _ _ qa
  have qa_f := fun j => frozen_of_row W1 _ j _ _ qa
  have qb_c := fun j => cell_of_row W1 _ j _ _ _ qb
  have qb_f := fun j => frozen_of_row W1 _ j _ _ qb
  have qz_c := fun j => cell_of_row W1 _ j _ _ _ qz
  have qz_f := fun j => frozen_of_row W1 _ j _ _ qz
  go_wp2_with fail
  refine (H1.out _).mono ?_
  rintro e W2 ⟨rfl, hb⟩
  have nqa := rowk qa hb rfl
  have nqb := rowk qb hb rfl
  have nqz := rowk qz hb rfl
  have hB2 := below_of hB1 hb hB1.size
  clear hb hB1 qa qb qz qa_c qa_f qb_c qb_f qz_c qz_f
  have qa := nqa
  have qb := nqb
  have qz := nqz
  clear nqa nqb nqz
  have qa_c := fun j => cell_of_row W2 _ j _ _ _ qa
  have qa_f := fun j => frozen_of_row W2 _ j _ _ qa
  have qb_c := fun j => cell_of_row W2 _ j _ _ _ qb
  have qb_f := fun j => frozen_of_row W2 _ j _ _ qb
  have qz_c := fun j => cell_of_row W2 _ j _ _ _ qz
  have qz_f := fun j => frozen_of_row W2 _ j _ _ qz
  go_wp2_with fail
  refine (H2.out _).mono ?_
  rintro e W3 ⟨rfl, hb⟩
  have nqa := rowk qa hb rfl
  have nqb := rowk qb hb rfl
  have nqz := rowk qz hb rfl
  have hB3 := below_of hB2 hb hB2.size
  clear hb hB2 qa qb qz qa_c qa_f qb_c qb_f qz_c qz_f
  have qa := nqa
  have qb := nqb
  have qz := nqz
  clear nqa nqb nqz
  have qa_c := fun j => cell_of_row W3 _ j _ _ _ qa
  have qa_f := fun j => frozen_of_row W3 _ j _ _ qa
  have qb_c := fun j => cell_of_row W3 _ j _ _ _ qb
  have qb_f := fun j => frozen_of_row W3 _ j _ _ qb
  have qz_c := fun j => cell_of_row W3 _ j _ _ _ qz
  have qz_f := fun j => frozen_of_row W3 _ j _ _ qz
  go_wp2_with fail
  refine bodyPost_ret (v := .tuple #[.agg #[.int .i64 0, .int .i64 0, .int .i64 0, .int .i64 0, .int .i64 0, .int .i64 0], .bool false]) (by simp [results, Try.results41, go_sem, qz_c]) rfl ⟨rfl, ?_⟩
  exact below6 hB3 (by omega)
set_option maxHeartbeats 1000000 in
theorem stm_yes (s p : Fn6) (k : Nat) (hk12 : k ≤ 12) (K0 : Hid (∀ w, Calls Try.prog 91 #[.agg #[.int .i64 (rowv (s 0)), .int .i64 (rowv (s 1)), .int .i64 (rowv (s 2)), .int .i64 (rowv (s 3)), .int .i64 (rowv (s 4)), .int .i64 (rowv (s 5))]] w fun e w' => e = .returned (.bool true) ∧ Below w.heap.size w w')) (K1 : Hid (∀ w, Calls Try.prog 91 #[.agg #[.int .i64 (rowv (p 0)), .int .i64 (rowv (p 1)), .int .i64 (rowv (p 2)), .int .i64 (rowv (p 3)), .int .i64 (rowv (p 4)), .int .i64 (rowv (p 5))]] w fun e w' => e = .returned (.bool true) ∧ Below w.heap.size w w')) (w : World) : Calls Try.prog 41 #[.agg #[.int .i64 (rowv (s 0)), .int .i64 (rowv (s 1)), .int .i64 (rowv (s 2)), .int .i64 (rowv (s 3)), .int .i64 (rowv (s 4)), .int .i64 (rowv (s 5))], .agg #[.int .i64 (rowv (p 0)), .int .i64 (rowv (p 1)), .int .i64 (rowv (p 2)), .int .i64 (rowv (p 3)), .int .i64 (rowv (p 4)), .int .i64 (rowv (p 5))], .int .i64 (k : Int)] w fun e w' => e = .returned (.tuple #[.agg #[.int .i64 (rowv (spn5 s p k 0)), .int .i64 (rowv (spn5 s p k 1)), .int .i64 (rowv (spn5 s p k 2)), .int .i64 (rowv (spn5 s p k 3)), .int .i64 (rowv (spn5 s p k 4)), .int .i64 (rowv (spn5 s p k 5))], .bool true]) ∧ Below w.heap.size w w' := by
  have HI : Hid (∀ w, Calls Try.prog 111 #[.int .i64 (k : Int), .int .i64 0, .int .i64 12] w fun e w' => e = .returned (.bool true) ∧ w' = w) := Lib.hid (fun w => by
    have h := l1in_any (k : Int) 0 12 w
    have e1 : decide ((0 : Int) ≤ k) = true := by simp
    have e2 : decide ((k : Int) ≤ 12) = true := by simp; omega
    rw [e1, e2] at h
    exact h)
  go_enter Try.func41, Try.ntmps41
  go_wp2_with fail
  generalize hW : (World.alloc _ _ : World) = W0
  have hB0 : Below w.heap.size w W0 := by rw [← hW]; (repeat (first | exact Below.refl _ _ | assumption | refine Below.setCell ?_ (by first | (simp; done) | (simp; omega)) _ | refine Below.alloc ?_ (by first | (simp; done) | (simp; omega)) _ | refine Below.drew ?_))
  have q0 : W0.heap[(w.heap.size : Nat)]? = some (o6 s) := by
    rw [← hW]
    repeat (first | (refine alloc_at ?_; first | (simp; done) | (simp; omega)) | refine drew_row ?_ | refine alloc_past ?_ | assumption)
  have q1 : W0.heap[(w.heap.size + 1 : Nat)]? = some (o6 p) := by
    rw [← hW]
    repeat (first | (refine alloc_at ?_; first | (simp; done) | (simp; omega)) | refine drew_row ?_ | refine alloc_past ?_ | assumption)
  have q2 : W0.heap[(w.heap.size + 2 : Nat)]? = some (oz) := by
    rw [← hW]
    repeat (first | (refine alloc_at ?_; first | (simp; done) | (simp; omega)) | refine drew_row ?_ | refine alloc_past ?_ | assumption)
  have hk : KR 2 [(w.heap.size, o6 s), (w.heap.size + 1, o6 p)] w W0 := ⟨by simp [q0, q1], by rw [← hW]; simp, hB0⟩
  have hq := q2
  clear hW hB0 q0 q1 q2
  have HS : Hid (Bh5 w p s W0) := Lib.hid ⟨hk.row (g := w.heap.size) (o := o6 s) (by simp), hk.row (g := w.heap.size + 1) (o := o6 p) (by simp), hq, row_lt hq, hk.2.2⟩
  clear hk hq
  have s_c := Bh5_s HS.out
  go_wp2_with fail
  refine (K0.out _).mono ?_
  rintro e V0 ⟨rfl, hb⟩
  have HS := Lib.hid (HS.out.far hb rfl)
  clear hb s_c
  have p_c := Bh5_p HS.out
  go_wp2_with fail
  refine (K1.out _).mono ?_
  rintro e V1 ⟨rfl, hb⟩
  have HS := Lib.hid (HS.out.far hb rfl)
  clear hb p_c K0 K1
  go_wp2_with fail
  refine (HI.out _).mono ?_
  rintro e V2 ⟨rfl, hv⟩
  subst hv
  have S0 : Hid (Bh5 w p (spn5 s p 0) V2) := HS
  clear HS HI
  go_wp2_with fail
  go_loopw [8] (fun c wr => ∃ n : Nat, n ≤ k ∧ c = .int .i64 n ∧ Hid (Bh5 w p (spn5 s p n) wr)) (fun c _ => k - (intOf c).toNat)
  case atStart => exact ⟨0, by omega, rfl, S0⟩
  case round =>
    obtain ⟨n, hn, rfl, HS⟩ := hrel
    by_cases hlt : n < k
    · have hlt' : (n : Int) < k := by omega
      obtain ⟨F, hF⟩ : ∃ F, F = spn5 s p n := ⟨_, rfl⟩
      rw [← hF] at HS
      have HF := Lib.hid hF
      clear hF
      have HL := Lib.hid (lspread_f F p)
      have s_c := Bh5_s HS.out
      have p_c := Bh5_p HS.out
      go_wp2_with fail
      refine (HL.out _).mono ?_
      rintro e Y ⟨rfl, hb⟩
      have HY := Lib.hid (HS.out.far hb rfl)
      clear hb HS s_c p_c HL
      have s_c := Bh5_s HY.out
      have s_f := Bh5_sf HY.out
      go_wp2_with fail
      have HI := Lib.hid (HY.out.put (spd F p))
      clear HY s_c s_f
      go_roundw
      case rel => exact ⟨n + 1, by omega, by go_num, by have hF := HF.out; subst hF; exact HI⟩
      case measure => simp [intOf]; omega
    · obtain rfl : n = k := by omega
      have s_c := Bh5_s HS.out
      have z_c : ∀ j, wr.cell? ⟨w.heap.size + 1 + 1, j, none⟩ = (#[.int .i64 0, .int .i64 0, .int .i64 0, .int .i64 0, .int .i64 0, .int .i64 0] : Array Value)[j]? := oz_c HS.out.2.2.1
      have z_f : ∀ j, wr.frozen? ⟨w.heap.size + 1 + 1, j, none⟩ = false := oz_f HS.out.2.2.1
      go_wp2_with fail
      refine bodyPost_ret (v := .tuple #[.agg #[.int .i64 (rowv (spn5 s p n 0)), .int .i64 (rowv (spn5 s p n 1)), .int .i64 (rowv (spn5 s p n 2)), .int .i64 (rowv (spn5 s p n 3)), .int .i64 (rowv (spn5 s p n 4)), .int .i64 (rowv (spn5 s p n 5))], .bool true]) (by simp [results, Try.results41, go_sem, z_c]) rfl ⟨rfl, ?_⟩
      exact below6 HS.out.2.2.2.2 (by omega)
theorem SI2 {a0 a1 a2 a3 a4 a5 b0 b1 b2 b3 b4 b5 : Int} {w U : World} (h : KR 2 [(w.heap.size, .cells #[.int .i64 a0, .int .i64 a1, .int .i64 a2, .int .i64 a3, .int .i64 a4, .int .i64 a5] 25 (0, 0)), (w.heap.size + 1, .cells #[.int .i64 b0, .int .i64 b1, .int .i64 b2, .int .i64 b3, .int .i64 b4, .int .i64 b5] 25 (0, 0))] w U) : U.cell? ⟨w.heap.size, 0, none⟩ = some (.int .i64 a0) ∧ U.cell? ⟨w.heap.size, 1, none⟩ = some (.int .i64 a1) ∧ U.cell? ⟨w.heap.size, 2, none⟩ = some (.int .i64 a2) ∧ U.cell? ⟨w.heap.size, 3, none⟩ = some (.int .i64 a3) ∧ U.cell? ⟨w.heap.size, 4, none⟩ = some (.int .i64 a4) ∧ U.cell? ⟨w.heap.size, 5, none⟩ = some (.int .i64 a5) ∧ U.cell? ⟨w.heap.size + 1, 0, none⟩ = some (.int .i64 b0) ∧ U.cell? ⟨w.heap.size + 1, 1, none⟩ = some (.int .i64 b1) ∧ U.cell? ⟨w.heap.size + 1, 2, none⟩ = some (.int .i64 b2) ∧ U.cell? ⟨w.heap.size + 1, 3, none⟩ = some (.int .i64 b3) ∧ U.cell? ⟨w.heap.size + 1, 4, none⟩ = some (.int .i64 b4) ∧ U.cell? ⟨w.heap.size + 1, 5, none⟩ = some (.int .i64 b5) ∧ KR 2 [(w.heap.size, .cells #[.int .i64 a0, .int .i64 a1, .int .i64 a2, .int .i64 a3, .int .i64 a4, .int .i64 a5] 25 (0, 0)), (w.heap.size + 1, .cells #[.int .i64 b0, .int .i64 b1, .int .i64 b2, .int .i64 b3, .int .i64 b4, .int .i64 b5] 25 (0, 0))] w U :=
  have h1 := fun j => cell_of_row U _ j _ _ _ (h.row (g := w.heap.size) (List.mem_cons_self ..))
  have h2 := fun j => cell_of_row U _ j _ _ _ (h.row (g := w.heap.size + 1) (List.mem_cons_of_mem _ (List.mem_cons_self ..)))
  ⟨h1 0, h1 1, h1 2, h1 3, h1 4, h1 5, h2 0, h2 1, h2 2, h2 3, h2 4, h2 5, h⟩
set_option maxHeartbeats 1000000 in
theorem iti_no (a0 a1 a2 a3 a4 a5 : Int) (b0 b1 b2 b3 b4 b5 : Int) (k : Int) (hk : ¬ (0 ≤ k ∧ k ≤ 12)) (w : World) : Calls Try.prog 42 #[.agg #[.int .i64 a0, .int .i64 a1, .int .i64 a2, .int .i64 a3, .int .i64 a4, .int .i64 a5], .agg #[.int .i64 b0, .int .i64 b1, .int .i64 b2, .int .i64 b3, .int .i64 b4, .int .i64 b5], .int .i64 k] w fun e w' => e = .returned (.tuple #[.agg #[.int .i64 0, .int .i64 0, .int .i64 0, .int .i64 0, .int .i64 0, .int .i64 0], .bool false]) ∧ Below w.heap.size w w' := by
  by_cases h0 : k < 0
  · go_enter Try.func42, Try.ntmps42
    go_wp2_with fail
    refine bodyPost_ret (v := .tuple #[.agg #[.int .i64 0, .int .i64 0, .int .i64 0, .int .i64 0, .int .i64 0, .int .i64 0], .bool false]) (by simp [results, Try.results42, go_sem]) rfl ⟨rfl, ?_⟩
    (repeat (first | exact Below.refl _ _ | assumption | refine Below.setCell ?_ (by first | (simp; done) | (simp; omega)) _ | refine Below.alloc ?_ (by first | (simp; done) | (simp; omega)) _ | refine Below.drew ?_))
  · have h1 : 12 < k := by omega
    have h2 : 0 ≤ k := by omega
    go_enter Try.func42, Try.ntmps42
    go_wp2_with fail
    refine bodyPost_ret (v := .tuple #[.agg #[.int .i64 0, .int .i64 0, .int .i64 0, .int .i64 0, .int .i64 0, .int .i64 0], .bool false]) (by simp [results, Try.results42, go_sem]) rfl ⟨rfl, ?_⟩
    (repeat (first | exact Below.refl _ _ | assumption | refine Below.setCell ?_ (by first | (simp; done) | (simp; omega)) _ | refine Below.alloc ?_ (by first | (simp; done) | (simp; omega)) _ | refine Below.drew ?_))
set_option maxHeartbeats 2000000 in
theorem iti_any (a0 a1 a2 a3 a4 a5 : Int) (b0 b1 b2 b3 b4 b5 : Int) (r0 r1 r2 r3 r4 r5 : Int) (t : Bool) (k : Nat) (hk12 : k ≤ 12) (HB : Hid (∀ (w : World) (g : Nat), w.heap[g]? = some (.cells (rr5 k k).toArray 86 (0, 0)) → Calls Try.prog 94 #[.agg #[.int .i64 a0, .int .i64 a1, .int .i64 a2, .int .i64 a3, .int .i64 a4, .int .i64 a5], .agg #[.int .i64 b0, .int .i64 b1, .int .i64 b2, .int .i64 b3, .int .i64 b4, .int .i64 b5], .slice (some ⟨g, 0, none⟩) k k] w fun e w' => e = .returned (.tuple #[.agg #[.int .i64 r0, .int .i64 r1, .int .i64 r2, .int .i64 r3, .int .i64 r4, .int .i64 r5], .bool t]) ∧ Below w.heap.size w w')) (w : World) : Calls Try.prog 42 #[.agg #[.int .i64 a0, .int .i64 a1, .int .i64 a2, .int .i64 a3, .int .i64 a4, .int .i64 a5], .agg #[.int .i64 b0, .int .i64 b1, .int .i64 b2, .int .i64 b3, .int .i64 b4, .int .i64 b5], .int .i64 (k : Int)] w fun e w' => e = .returned (.tuple #[.agg #[.int .i64 r0, .int .i64 r1, .int .i64 r2, .int .i64 r3, .int .i64 r4, .int .i64 r5], .bool t]) ∧ Below w.heap.size w w' := by
  have HR : Hid (∀ (W : World) (g : Nat), g = W.heap.size → Calls Try.prog 112 #[.slice (some ⟨g, 0, none⟩) 1 1, .int .i64 (k : Int)] (W.alloc (.cells #[.func (.func 95) #[] #[]] 86)).drew fun e w' => ∃ g2, e = .returned (.slice (some ⟨g2, 0, none⟩) k k) ∧ w'.heap[g2]? = some (.cells (rr5 k k).toArray 86 (0, 0)) ∧ Below (W.alloc (.cells #[.func (.func 95) #[] #[]] 86)).drew.heap.size (W.alloc (.cells #[.func (.func 95) #[] #[]] 86)).drew w') := Lib.hid (fun W g hg => by subst hg; exact rep_f k hk12 _ _ (drew_row (alloc_at rfl)))
  have h0 : ¬ ((k : Int) < 0) := by omega
  have h1 : ¬ ((12 : Int) < k) := by omega
  go_enter Try.func42, Try.ntmps42
  go_wp2_with fail
  generalize hW : (World.alloc _ _ : World) = W0
  have q0 : W0.heap[(w.heap.size : Nat)]? = some (.cells #[.int .i64 a0, .int .i64 a1, .int .i64 a2, .int .i64 a3, .int .i64 a4, .int .i64 a5] 25 (0, 0)) := by
    rw [← hW]
    repeat (first | (refine alloc_at ?_; first | (simp; done) | (simp; omega)) | refine drew_row ?_ | refine alloc_past ?_ | assumption)
  have q1 : W0.heap[(w.heap.size + 1 : Nat)]? = some (.cells #[.int .i64 b0, .int .i64 b1, .int .i64 b2, .int .i64 b3, .int .i64 b4, .int .i64 b5] 25 (0, 0)) := by
    rw [← hW]
    repeat (first | (refine alloc_at ?_; first | (simp; done) | (simp; omega)) | refine drew_row ?_ | refine alloc_past ?_ | assumption)
  have hq : W0.heap[w.heap.size + 2]? = some oz := by
    rw [← hW]
    repeat (first | (refine alloc_at ?_; first | (simp; done) | (simp; omega)) | refine drew_row ?_ | refine alloc_past ?_ | assumption)
  have hk : KR 2 [(w.heap.size, .cells #[.int .i64 a0, .int .i64 a1, .int .i64 a2, .int .i64 a3, .int .i64 a4, .int .i64 a5] 25 (0, 0)), (w.heap.size + 1, .cells #[.int .i64 b0, .int .i64 b1, .int .i64 b2, .int .i64 b3, .int .i64 b4, .int .i64 b5] 25 (0, 0))] w W0 := ⟨by simp [q0, q1], by rw [← hW]; simp, by rw [← hW]; (repeat (first | exact Below.refl _ _ | assumption | refine Below.setCell ?_ (by first | (simp; done) | (simp; omega)) _ | refine Below.alloc ?_ (by first | (simp; done) | (simp; omega)) _ | refine Below.drew ?_))⟩
  clear hW q0 q1
  have hz0 := KR.le hk
  set_option maxRecDepth 8000 in
  go_region_held3 (fun U => U.cell? ⟨w.heap.size, 0, none⟩ = some (.int .i64 a0) ∧ U.cell? ⟨w.heap.size, 1, none⟩ = some (.int .i64 a1) ∧ U.cell? ⟨w.heap.size, 2, none⟩ = some (.int .i64 a2) ∧ U.cell? ⟨w.heap.size, 3, none⟩ = some (.int .i64 a3) ∧ U.cell? ⟨w.heap.size, 4, none⟩ = some (.int .i64 a4) ∧ U.cell? ⟨w.heap.size, 5, none⟩ = some (.int .i64 a5) ∧ U.cell? ⟨w.heap.size + 1, 0, none⟩ = some (.int .i64 b0) ∧ U.cell? ⟨w.heap.size + 1, 1, none⟩ = some (.int .i64 b1) ∧ U.cell? ⟨w.heap.size + 1, 2, none⟩ = some (.int .i64 b2) ∧ U.cell? ⟨w.heap.size + 1, 3, none⟩ = some (.int .i64 b3) ∧ U.cell? ⟨w.heap.size + 1, 4, none⟩ = some (.int .i64 b4) ∧ U.cell? ⟨w.heap.size + 1, 5, none⟩ = some (.int .i64 b5) ∧ KR 2 [(w.heap.size, .cells #[.int .i64 a0, .int .i64 a1, .int .i64 a2, .int .i64 a3, .int .i64 a4, .int .i64 a5] 25 (0, 0)), (w.heap.size + 1, .cells #[.int .i64 b0, .int .i64 b1, .int .i64 b2, .int .i64 b3, .int .i64 b4, .int .i64 b5] 25 (0, 0))] w U) (with_reducible refine SI2 ?_; (repeat (first | with_reducible assumption | with_reducible refine KR.al ?_ | with_reducible refine KR.drew ?_ | with_reducible refine KR.set ?_ (by first | omega | (simp; omega))))) (first | (go_at_call 112; with_reducible refine (HR.out _ _ (by simp)).mono ?_; rintro e w' ⟨g2, rfl, hg2, hb'⟩; have hk : KR 2 [(w.heap.size, .cells #[.int .i64 a0, .int .i64 a1, .int .i64 a2, .int .i64 a3, .int .i64 a4, .int .i64 a5] 25 (0, 0)), (w.heap.size + 1, .cells #[.int .i64 b0, .int .i64 b1, .int .i64 b2, .int .i64 b3, .int .i64 b4, .int .i64 b5] 25 (0, 0))] w w' := KR.far (by (repeat (first | with_reducible assumption | with_reducible refine KR.al ?_ | with_reducible refine KR.drew ?_ | with_reducible refine KR.set ?_ (by first | omega | (simp; omega))))) hb' rfl; have hq : w'.heap[w.heap.size + 2]? = some oz := rowk (by first | with_reducible assumption | (with_reducible refine drew_row ?_; with_reducible assumption) | (with_reducible refine alloc_past ?_; with_reducible assumption) | (with_reducible refine alloc_past ?_; with_reducible refine drew_row ?_; with_reducible assumption) | (with_reducible refine drew_row ?_; with_reducible refine alloc_past ?_; with_reducible assumption)) hb' rfl) | (go_at_call 94; with_reducible refine (HB.out _ _ hg2).mono ?_; rintro e w' ⟨rfl, hb'⟩; have hk : KR 2 [(w.heap.size, .cells #[.int .i64 a0, .int .i64 a1, .int .i64 a2, .int .i64 a3, .int .i64 a4, .int .i64 a5] 25 (0, 0)), (w.heap.size + 1, .cells #[.int .i64 b0, .int .i64 b1, .int .i64 b2, .int .i64 b3, .int .i64 b4, .int .i64 b5] 25 (0, 0))] w w' := KR.far (by (repeat (first | with_reducible assumption | with_reducible refine KR.al ?_ | with_reducible refine KR.drew ?_ | with_reducible refine KR.set ?_ (by first | omega | (simp; omega))))) hb' rfl; have hq : w'.heap[w.heap.size + 2]? = some oz := rowk (by first | with_reducible assumption | (with_reducible refine drew_row ?_; with_reducible assumption) | (with_reducible refine alloc_past ?_; with_reducible assumption) | (with_reducible refine alloc_past ?_; with_reducible refine drew_row ?_; with_reducible assumption) | (with_reducible refine drew_row ?_; with_reducible refine alloc_past ?_; with_reducible assumption)) hb' rfl; have z_c := oz_c hq; have z_f := oz_f hq))
  all_goals
    go_wp2_with fail
    refine bodyPost_ret (v := .tuple #[.agg #[.int .i64 r0, .int .i64 r1, .int .i64 r2, .int .i64 r3, .int .i64 r4, .int .i64 r5], .bool t]) (by simp [results, Try.results42, go_sem, z_c]) rfl ⟨rfl, ?_⟩
    exact below6 hk.2.2 (by omega)
theorem be_rep (s p : Fn6) : ∀ k, be5 (List.replicate k false) s p = spn5 s p k
  | 0 => by simp [be5, spn5]
  | k + 1 => by
    have ih := be_rep s p k
    rw [List.replicate_succ']
    simp only [be5, List.foldl_append, List.foldl_cons, List.foldl_nil] at ih ⊢
    rw [ih]
    simp [st5, spn5]
theorem rr5_map (k : Nat) : (rr5 k k).toArray = ((List.replicate k false).map fv5).toArray := by simp [rr5]
theorem times_pair (a0 a1 a2 a3 a4 a5 : Int) (b0 b1 b2 b3 b4 b5 : Int) (k : Int) : ∃ (r0 r1 r2 r3 r4 r5 : Int) (t : Bool), (∀ w, Calls Try.prog 41 #[.agg #[.int .i64 a0, .int .i64 a1, .int .i64 a2, .int .i64 a3, .int .i64 a4, .int .i64 a5], .agg #[.int .i64 b0, .int .i64 b1, .int .i64 b2, .int .i64 b3, .int .i64 b4, .int .i64 b5], .int .i64 k] w fun e w' => e = .returned (.tuple #[.agg #[.int .i64 r0, .int .i64 r1, .int .i64 r2, .int .i64 r3, .int .i64 r4, .int .i64 r5], .bool t]) ∧ Below w.heap.size w w') ∧ (∀ w, Calls Try.prog 42 #[.agg #[.int .i64 a0, .int .i64 a1, .int .i64 a2, .int .i64 a3, .int .i64 a4, .int .i64 a5], .agg #[.int .i64 b0, .int .i64 b1, .int .i64 b2, .int .i64 b3, .int .i64 b4, .int .i64 b5], .int .i64 k] w fun e w' => e = .returned (.tuple #[.agg #[.int .i64 r0, .int .i64 r1, .int .i64 r2, .int .i64 r3, .int .i64 r4, .int .i64 r5], .bool t]) ∧ Below w.heap.size w w') := by
  by_cases hk : 0 ≤ k ∧ k ≤ 12
  · obtain ⟨n, rfl⟩ := Int.eq_ofNat_of_zero_le hk.1
    have hn : n ≤ 12 := by omega
    cases hv : (ok a0 && ok a1 && ok a2 && ok a3 && ok a4 && ok a5)
    · exact ⟨0, 0, 0, 0, 0, 0, false, fun w => stm_no0 a0 a1 a2 a3 a4 a5 b0 b1 b2 b3 b4 b5 n (sh_as a0 a1 a2 a3 a4 a5 hv) w, fun w => iti_any a0 a1 a2 a3 a4 a5 b0 b1 b2 b3 b4 b5 0 0 0 0 0 0 false n hn (Lib.hid fun w g _ => behind_no0 a0 a1 a2 a3 a4 a5 b0 b1 b2 b3 b4 b5 _ (sh_ai a0 a1 a2 a3 a4 a5 hv) w) w⟩
    · cases hc : (ok b0 && ok b1 && ok b2 && ok b3 && ok b4 && ok b5)
      · exact ⟨0, 0, 0, 0, 0, 0, false, fun w => stm_no1 a0 a1 a2 a3 a4 a5 b0 b1 b2 b3 b4 b5 n (sh_as a0 a1 a2 a3 a4 a5 hv) (sh_as b0 b1 b2 b3 b4 b5 hc) w, fun w => iti_any a0 a1 a2 a3 a4 a5 b0 b1 b2 b3 b4 b5 0 0 0 0 0 0 false n hn (Lib.hid fun w g _ => behind_no1 a0 a1 a2 a3 a4 a5 b0 b1 b2 b3 b4 b5 _ (sh_ai a0 a1 a2 a3 a4 a5 hv) (sh_ai b0 b1 b2 b3 b4 b5 hc) w) w⟩
      · have Hs := sh_as a0 a1 a2 a3 a4 a5 hv
        have Ks := sh_as b0 b1 b2 b3 b4 b5 hc
        obtain ⟨s, rfl, rfl, rfl, rfl, rfl, rfl⟩ := sheet_bits a0 a1 a2 a3 a4 a5 hv
        obtain ⟨p, rfl, rfl, rfl, rfl, rfl, rfl⟩ := sheet_bits b0 b1 b2 b3 b4 b5 hc
        exact ⟨_, _, _, _, _, _, true, fun w => stm_yes s p n hn Hs Ks w, fun w => iti_any (rowv (s 0)) (rowv (s 1)) (rowv (s 2)) (rowv (s 3)) (rowv (s 4)) (rowv (s 5)) (rowv (p 0)) (rowv (p 1)) (rowv (p 2)) (rowv (p 3)) (rowv (p 4)) (rowv (p 5)) _ _ _ _ _ _ true n hn (Lib.hid fun w g hg => behind_g (List.replicate n false) n List.length_replicate hn _ (rr5_map n) _ s p (be_rep s p n) w g hg) w⟩
  · have HN : Hid (∀ w, Calls Try.prog 111 #[.int .i64 k, .int .i64 0, .int .i64 12] w fun e w' => e = .returned (.bool false) ∧ Below w.heap.size w w') := Lib.hid (fun w => (l1in_any k 0 12 w).mono (by
      rintro e w' ⟨rfl, rfl⟩
      refine ⟨?_, Below.refl _ _⟩
      have : (decide ((0 : Int) ≤ k) && decide (k ≤ 12)) = false := by
        cases hc : (decide ((0 : Int) ≤ k) && decide (k ≤ 12))
        · rfl
        · simp at hc; omega
      rw [this]))
    cases hv : (ok a0 && ok a1 && ok a2 && ok a3 && ok a4 && ok a5)
    · exact ⟨0, 0, 0, 0, 0, 0, false, fun w => stm_no0 a0 a1 a2 a3 a4 a5 b0 b1 b2 b3 b4 b5 k (sh_as a0 a1 a2 a3 a4 a5 hv) w, fun w => iti_no a0 a1 a2 a3 a4 a5 b0 b1 b2 b3 b4 b5 k hk w⟩
    · cases hc : (ok b0 && ok b1 && ok b2 && ok b3 && ok b4 && ok b5)
      · exact ⟨0, 0, 0, 0, 0, 0, false, fun w => stm_no1 a0 a1 a2 a3 a4 a5 b0 b1 b2 b3 b4 b5 k (sh_as a0 a1 a2 a3 a4 a5 hv) (sh_as b0 b1 b2 b3 b4 b5 hc) w, fun w => iti_no a0 a1 a2 a3 a4 a5 b0 b1 b2 b3 b4 b5 k hk w⟩
      · exact ⟨0, 0, 0, 0, 0, 0, false, fun w => stm_no2 a0 a1 a2 a3 a4 a5 b0 b1 b2 b3 b4 b5 k (sh_as a0 a1 a2 a3 a4 a5 hv) (sh_as b0 b1 b2 b3 b4 b5 hc) HN w, fun w => iti_no a0 a1 a2 a3 a4 a5 b0 b1 b2 b3 b4 b5 k hk w⟩
end Go.Proofs.Ytjhokdccgachcaa
