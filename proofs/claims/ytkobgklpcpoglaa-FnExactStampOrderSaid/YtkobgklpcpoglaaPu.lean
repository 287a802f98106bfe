/- CONTRACTS: PowerOf, the model's and the code's. -/
import Derived.Test.YtkobgklpcpoglaaPp
import Derived.Test.YtkobgklpcpoglaaRk
import Derived.Test.YtkobgklpcpoglaaPi
import Derived.WalkKit
import Derived.ProofKit
import Derived.OpenShut
import Derived.Lib.Hide
import Derived.WalkSpells
import Derived.Below
import Derived.BigQuiet
import Derived.LoopN
namespace Go.Proofs.Ytkobgklpcpoglaa
open Go.ChangeShapes Go.WideShapes Go.ChangeAt Go.RowKit
set_option linter.unusedVariables false
theorem unit_row : (1 : Int) = rowv (un 0) ∧ (0 : Int) = rowv (un 1) ∧ (0 : Int) = rowv (un 2) ∧ (0 : Int) = rowv (un 3) ∧ (0 : Int) = rowv (un 4) ∧ (0 : Int) = rowv (un 5) := ⟨rfl, rfl, rfl, rfl, rfl, rfl⟩
theorem lunit_f (w : World) : Calls Try.prog 136 #[] w fun e w' => e = .returned (.agg #[.int .i64 (rowv (un 0)), .int .i64 (rowv (un 1)), .int .i64 (rowv (un 2)), .int .i64 (rowv (un 3)), .int .i64 (rowv (un 4)), .int .i64 (rowv (un 5))]) ∧ Below w.heap.size w w' := by
  obtain ⟨e0, e1, e2, e3, e4, e5⟩ := unit_row
  rw [← e0, ← e1, ← e2, ← e3, ← e4, ← e5]
  clear e0 e1 e2 e3 e4 e5
  go_enter Try.func136, Try.ntmps136
  go_wp2_with fail
  have hx : (w.alloc (.cells #[.int .i64 1, .int .i64 0, .int .i64 0, .int .i64 0, .int .i64 0, .int .i64 0] 25)).heap[w.heap.size]? = some (.cells #[.int .i64 1, .int .i64 0, .int .i64 0, .int .i64 0, .int .i64 0, .int .i64 0] 25 (0, 0)) := alloc_at rfl
  have hB : Below w.heap.size w (w.alloc (.cells #[.int .i64 1, .int .i64 0, .int .i64 0, .int .i64 0, .int .i64 0, .int .i64 0] 25)) := by (repeat (first | exact Below.refl _ _ | assumption | refine Below.setCell ?_ (by first | (simp; done) | (simp; omega)) _ | refine Below.alloc ?_ (by first | (simp; done) | (simp; omega)) _ | refine Below.drew ?_))
  generalize (World.alloc _ _ : World) = X at hx hB ⊢
  have x_c := fun j => cell_of_row X _ j _ _ _ hx
  exact bodyPost_ret (v := .agg #[.int .i64 1, .int .i64 0, .int .i64 0, .int .i64 0, .int .i64 0, .int .i64 0]) (by simp [results, Try.results136, go_sem, x_c]) rfl ⟨rfl, hB⟩
theorem unit_f (w : World) : Calls Try.prog 137 #[] w fun e w' => e = .returned (.agg #[.int .i64 (rowv (un 0)), .int .i64 (rowv (un 1)), .int .i64 (rowv (un 2)), .int .i64 (rowv (un 3)), .int .i64 (rowv (un 4)), .int .i64 (rowv (un 5))]) ∧ Below w.heap.size w w' := by
  obtain ⟨e0, e1, e2, e3, e4, e5⟩ := unit_row
  rw [← e0, ← e1, ← e2, ← e3, ← e4, ← e5]
  clear e0 e1 e2 e3 e4 e5
  go_enter Try.func137, Try.ntmps137
  go_wp2_with fail
  have hx : (w.alloc (.cells #[.int .i64 1, .int .i64 0, .int .i64 0, .int .i64 0, .int .i64 0, .int .i64 0] 25)).heap[w.heap.size]? = some (.cells #[.int .i64 1, .int .i64 0, .int .i64 0, .int .i64 0, .int .i64 0, .int .i64 0] 25 (0, 0)) := alloc_at rfl
  have hB : Below w.heap.size w (w.alloc (.cells #[.int .i64 1, .int .i64 0, .int .i64 0, .int .i64 0, .int .i64 0, .int .i64 0] 25)) := by (repeat (first | exact Below.refl _ _ | assumption | refine Below.setCell ?_ (by first | (simp; done) | (simp; omega)) _ | refine Below.alloc ?_ (by first | (simp; done) | (simp; omega)) _ | refine Below.drew ?_))
  generalize (World.alloc _ _ : World) = X at hx hB ⊢
  have x_c := fun j => cell_of_row X _ j _ _ _ hx
  exact bodyPost_ret (v := .agg #[.int .i64 1, .int .i64 0, .int .i64 0, .int .i64 0, .int .i64 0, .int .i64 0]) (by simp [results, Try.results137, go_sem, x_c]) rfl ⟨rfl, hB⟩
/-- Midway: the stamp, the answer's room, and in block gb the power so far. -/
def Rv (w : World) (s : Nat → Nat → Bool) (gb i : Nat) (W : World) : Prop :=
  KR 2 [(w.heap.size, o6 s), (w.heap.size + 1, oz)] w W ∧ W.heap[gb]? = some (o6 (pw s i)) ∧ w.heap.size + 2 ≤ gb ∧ gb < W.heap.size
theorem Rv.below {w W W' : World} {s : Nat → Nat → Bool} {gb i M : Nat} (h : Rv w s gb i W) (hb : Below M W W') (hM : M = W.heap.size) : Rv w s gb i W' := by
  obtain ⟨h1, h2, h3, h4⟩ := h
  exact ⟨h1.far hb hM, rowk h2 hb hM, h3, Nat.lt_of_lt_of_le h4 hb.size⟩
theorem Rv.put {w W : World} {s : Nat → Nat → Bool} {gb i : Nat} (h : Rv w s gb i W) : Rv w s gb (i + 1) ((((((W.setCell ⟨gb, 0, none⟩ (.int .i64 (rowv (pf (pw s i) s 0)))).setCell ⟨gb, 1, none⟩ (.int .i64 (rowv (pf (pw s i) s 1)))).setCell ⟨gb, 2, none⟩ (.int .i64 (rowv (pf (pw s i) s 2)))).setCell ⟨gb, 3, none⟩ (.int .i64 (rowv (pf (pw s i) s 3)))).setCell ⟨gb, 4, none⟩ (.int .i64 (rowv (pf (pw s i) s 4)))).setCell ⟨gb, 5, none⟩ (.int .i64 (rowv (pf (pw s i) s 5)))) := by
  obtain ⟨h1, h2, h3, h4⟩ := h
  exact ⟨h1.set h3 |>.set h3 |>.set h3 |>.set h3 |>.set h3 |>.set h3, set6a _ _ _ _ _ _ h2, h3, by simpa using h4⟩
theorem Rv_c {w U : World} {s : Nat → Nat → Bool} {gb i : Nat} (h : Rv w s gb i U) : ∀ j, U.cell? ⟨gb, j, none⟩ = (#[.int .i64 (rowv (pw s i 0)), .int .i64 (rowv (pw s i 1)), .int .i64 (rowv (pw s i 2)), .int .i64 (rowv (pw s i 3)), .int .i64 (rowv (pw s i 4)), .int .i64 (rowv (pw s i 5))] : Array Value)[j]? := fun j => cell_of_row U _ j _ _ _ h.2.1
theorem Rv_f {w U : World} {s : Nat → Nat → Bool} {gb i : Nat} (h : Rv w s gb i U) : ∀ j, U.frozen? ⟨gb, j, none⟩ = false := fun j => frozen_of_row U _ j _ _ h.2.1
theorem Rv_s {w U : World} {s : Nat → Nat → Bool} {gb i : Nat} (h : Rv w s gb i U) : ∀ j, U.cell? ⟨w.heap.size, j, none⟩ = (#[.int .i64 (rowv (s 0)), .int .i64 (rowv (s 1)), .int .i64 (rowv (s 2)), .int .i64 (rowv (s 3)), .int .i64 (rowv (s 4)), .int .i64 (rowv (s 5))] : Array Value)[j]? := fun j => cell_of_row U _ j _ _ _ (h.1.row (g := w.heap.size) (o := o6 s) (by simp))
set_option maxHeartbeats 1000000 in
theorem spow_yes (s : Nat → Nat → Bool) (k : Nat) (hk : k ≤ 24) (H0 : Hid (∀ w, Calls Try.prog 117 #[.agg #[.int .i64 (rowv (s 0)), .int .i64 (rowv (s 1)), .int .i64 (rowv (s 2)), .int .i64 (rowv (s 3)), .int .i64 (rowv (s 4)), .int .i64 (rowv (s 5))]] w fun e w' => e = .returned (.bool true) ∧ Below w.heap.size w w')) (H1 : Hid (∀ w, Calls Try.prog 138 #[.int .i64 (k : Int), .int .i64 0, .int .i64 24] w fun e w' => e = .returned (.bool true) ∧ Below w.heap.size w w')) (w : World) : Calls Try.prog 47 #[.agg #[.int .i64 (rowv (s 0)), .int .i64 (rowv (s 1)), .int .i64 (rowv (s 2)), .int .i64 (rowv (s 3)), .int .i64 (rowv (s 4)), .int .i64 (rowv (s 5))], .int .i64 (k : Int)] w fun e w' => e = .returned (.tuple #[.agg #[.int .i64 (rowv (pw s k 0)), .int .i64 (rowv (pw s k 1)), .int .i64 (rowv (pw s k 2)), .int .i64 (rowv (pw s k 3)), .int .i64 (rowv (pw s k 4)), .int .i64 (rowv (pw s k 5))], .bool true]) ∧ Below w.heap.size w w' := by
  have HU := Lib.hid lunit_f
  have HP := Lib.hid lprint_f
  go_enter Try.func47, Try.ntmps47
  go_wp2_with fail
  generalize hW : (World.alloc _ _ : World) = W0
  have hB0 : Below w.heap.size w W0 := by rw [← hW]; (repeat (first | exact Below.refl _ _ | assumption | refine Below.setCell ?_ (by first | (simp; done) | (simp; omega)) _ | refine Below.alloc ?_ (by first | (simp; done) | (simp; omega)) _ | refine Below.drew ?_))
  have qa : W0.heap[(w.heap.size : Nat)]? = some (o6 s) := by
    rw [← hW]
    repeat (first | (refine alloc_at ?_; first | (simp; done) | (simp; omega)) | refine drew_row ?_ | refine alloc_past ?_ | assumption)
  have qz : W0.heap[(w.heap.size + 1 : Nat)]? = some oz := by
    rw [← hW]
    repeat (first | (refine alloc_at ?_; first | (simp; done) | (simp; omega)) | refine drew_row ?_ | refine alloc_past ?_ | assumption)
  have K0 : KR 2 [(w.heap.size, o6 s), (w.heap.size + 1, oz)] w W0 := ⟨by simp [qa, qz], by rw [← hW]; simp, hB0⟩
  clear hW hB0 qa qz
  refine (H0.out _).mono ?_
  rintro e W1 ⟨rfl, hb⟩
  have K1 := K0.far hb rfl
  clear hb K0
  go_wp2_with fail
  refine (H1.out _).mono ?_
  rintro e W2 ⟨rfl, hb⟩
  have K2 := K1.far hb rfl
  clear hb K1
  go_wp2_with fail
  refine (HU.out _).mono ?_
  rintro e W3 ⟨rfl, hb⟩
  have K3 := K2.far hb rfl
  clear hb K2
  go_wp2_with fail
  have S0 : Hid (Rv w s W3.heap.size 0 (W3.alloc (.cells #[.int .i64 (rowv (un 0)), .int .i64 (rowv (un 1)), .int .i64 (rowv (un 2)), .int .i64 (rowv (un 3)), .int .i64 (rowv (un 4)), .int .i64 (rowv (un 5))] 25))) := Lib.hid ⟨K3.al, alloc_at rfl, K3.le, by simp⟩
  clear K3
  generalize hgb : W3.heap.size = gb at S0 ⊢
  generalize (World.alloc _ _ : World) = W4 at S0 ⊢
  clear hgb
  go_loopw [7] (fun c wr => ∃ i : Nat, i ≤ k ∧ c = .int .i64 i ∧ Hid (Rv w s gb i wr)) (fun c _ => k - (intOf c).toNat)
  case atStart => exact ⟨0, by omega, rfl, S0⟩
  case round =>
    obtain ⟨i, hi, rfl, HS⟩ := hrel
    by_cases hlt : i < k
    · have hlt' : (i : Int) < k := by omega
      have hi0 : (0 : Int) ≤ i := by omega
      have hi2 : i ≤ 24 := by omega
      have d_c := Rv_c HS.out
      have s_c := Rv_s HS.out
      go_wp2_with fail
      refine (HP.out _ _ _).mono ?_
      rintro e w' ⟨rfl, hb'⟩
      have HG := Lib.hid (HS.out.below hb' rfl)
      clear d_c s_c hb' HS
      have b_c := Rv_c HG.out
      have b_f := Rv_f HG.out
      have HI2 := Lib.hid HG.out.put
      clear HG
      go_wp2_with fail
      go_roundw
      case rel => exact ⟨i + 1, by omega, by go_num, HI2⟩
      case measure => simp [intOf]; omega
    · obtain rfl : i = k := by omega
      have d_c := Rv_c HS.out
      have z_c := fun j => cell_of_row wr _ j _ _ _ (HS.out.1.row (g := w.heap.size + 1) (o := oz) (by simp))
      have z_f := fun j => frozen_of_row wr _ j _ _ (HS.out.1.row (g := w.heap.size + 1) (o := oz) (by simp))
      go_wp2_with fail
      have qx : ((((((wr.setCell ⟨w.heap.size + 1, 0, none⟩ (.int .i64 (rowv (pw s i 0)))).setCell ⟨w.heap.size + 1, 1, none⟩ (.int .i64 (rowv (pw s i 1)))).setCell ⟨w.heap.size + 1, 2, none⟩ (.int .i64 (rowv (pw s i 2)))).setCell ⟨w.heap.size + 1, 3, none⟩ (.int .i64 (rowv (pw s i 3)))).setCell ⟨w.heap.size + 1, 4, none⟩ (.int .i64 (rowv (pw s i 4)))).setCell ⟨w.heap.size + 1, 5, none⟩ (.int .i64 (rowv (pw s i 5)))).heap[w.heap.size + 1]? = _ := set6a _ _ _ _ _ _ (HS.out.1.row (g := w.heap.size + 1) (o := oz) (by simp))
      have hB := below6 (g := w.heap.size + 1) (v0 := .int .i64 (rowv (pw s i 0))) (v1 := .int .i64 (rowv (pw s i 1))) (v2 := .int .i64 (rowv (pw s i 2))) (v3 := .int .i64 (rowv (pw s i 3))) (v4 := .int .i64 (rowv (pw s i 4))) (v5 := .int .i64 (rowv (pw s i 5))) HS.out.1.2.2 (by omega)
      generalize (World.setCell _ _ _ : World) = X at qx hB ⊢
      have x_c := fun j => cell_of_row X _ j _ _ _ qx
      exact bodyPost_ret (v := .tuple #[.agg #[.int .i64 (rowv (pw s i 0)), .int .i64 (rowv (pw s i 1)), .int .i64 (rowv (pw s i 2)), .int .i64 (rowv (pw s i 3)), .int .i64 (rowv (pw s i 4)), .int .i64 (rowv (pw s i 5))], .bool true]) (by simp [results, Try.results47, go_sem, x_c]) rfl ⟨rfl, hB⟩
set_option maxHeartbeats 1000000 in
theorem ipow_yes (s : Nat → Nat → Bool) (k : Nat) (hk : k ≤ 24) (H0 : Hid (∀ w, Calls Try.prog 64 #[.agg #[.int .i64 (rowv (s 0)), .int .i64 (rowv (s 1)), .int .i64 (rowv (s 2)), .int .i64 (rowv (s 3)), .int .i64 (rowv (s 4)), .int .i64 (rowv (s 5))]] w fun e w' => e = .returned (.bool true) ∧ Below w.heap.size w w')) (w : World) : Calls Try.prog 48 #[.agg #[.int .i64 (rowv (s 0)), .int .i64 (rowv (s 1)), .int .i64 (rowv (s 2)), .int .i64 (rowv (s 3)), .int .i64 (rowv (s 4)), .int .i64 (rowv (s 5))], .int .i64 (k : Int)] w fun e w' => e = .returned (.tuple #[.agg #[.int .i64 (rowv (pw s k 0)), .int .i64 (rowv (pw s k 1)), .int .i64 (rowv (pw s k 2)), .int .i64 (rowv (pw s k 3)), .int .i64 (rowv (pw s k 4)), .int .i64 (rowv (pw s k 5))], .bool true]) ∧ Below w.heap.size w w' := by
  have hk0 : (0 : Int) ≤ k := by omega
  have hk1 : (k : Int) ≤ 24 := by omega
  have HU := Lib.hid unit_f
  have HP := Lib.hid print_f
  go_enter Try.func48, Try.ntmps48
  go_wp2_with fail
  generalize hW : (World.alloc _ _ : World) = W0
  have hB0 : Below w.heap.size w W0 := by rw [← hW]; (repeat (first | exact Below.refl _ _ | assumption | refine Below.setCell ?_ (by first | (simp; done) | (simp; omega)) _ | refine Below.alloc ?_ (by first | (simp; done) | (simp; omega)) _ | refine Below.drew ?_))
  have qa : W0.heap[(w.heap.size : Nat)]? = some (o6 s) := by
    rw [← hW]
    repeat (first | (refine alloc_at ?_; first | (simp; done) | (simp; omega)) | refine drew_row ?_ | refine alloc_past ?_ | assumption)
  have qz : W0.heap[(w.heap.size + 1 : Nat)]? = some oz := by
    rw [← hW]
    repeat (first | (refine alloc_at ?_; first | (simp; done) | (simp; omega)) | refine drew_row ?_ | refine alloc_past ?_ | assumption)
  have K0 : KR 2 [(w.heap.size, o6 s), (w.heap.size + 1, oz)] w W0 := ⟨by simp [qa, qz], by rw [← hW]; simp, hB0⟩
  clear hW hB0 qa qz
  refine (H0.out _).mono ?_
  rintro e W1 ⟨rfl, hb⟩
  have K1 := K0.far hb rfl
  clear hb K0
  go_wp2_with fail
  refine (HU.out _).mono ?_
  rintro e W3 ⟨rfl, hb⟩
  have K3 := K1.far hb rfl
  clear hb K1
  go_wp2_with fail
  have S0 : Hid (Rv w s W3.heap.size 0 (W3.alloc (.cells #[.int .i64 (rowv (un 0)), .int .i64 (rowv (un 1)), .int .i64 (rowv (un 2)), .int .i64 (rowv (un 3)), .int .i64 (rowv (un 4)), .int .i64 (rowv (un 5))] 25))) := Lib.hid ⟨K3.al, alloc_at rfl, K3.le, by simp⟩
  clear K3
  generalize hgb : W3.heap.size = gb at S0 ⊢
  generalize (World.alloc _ _ : World) = W4 at S0 ⊢
  clear hgb
  go_loopw [21] (fun c wr => ∃ i : Nat, i ≤ k ∧ c = .int .i64 i ∧ Hid (Rv w s gb i wr)) (fun c _ => k - (intOf c).toNat)
  case atStart => exact ⟨0, by omega, rfl, S0⟩
  case round =>
    obtain ⟨i, hi, rfl, HS⟩ := hrel
    by_cases hlt : i < k
    · have hlt' : (i : Int) < k := by omega
      have hi0 : (0 : Int) ≤ i := by omega
      have hi2 : i ≤ 24 := by omega
      have d_c := Rv_c HS.out
      have s_c := Rv_s HS.out
      go_wp2_with fail
      refine (HP.out _ _ _).mono ?_
      rintro e w' ⟨rfl, hb'⟩
      have HG := Lib.hid (HS.out.below hb' rfl)
      clear d_c s_c hb' HS
      have b_c := Rv_c HG.out
      have b_f := Rv_f HG.out
      have HI2 := Lib.hid HG.out.put
      clear HG
      go_wp2_with fail
      go_roundw
      case rel => exact ⟨i + 1, by omega, by go_num, HI2⟩
      case measure => simp [intOf]; omega
    · obtain rfl : i = k := by omega
      have d_c := Rv_c HS.out
      have z_c := fun j => cell_of_row wr _ j _ _ _ (HS.out.1.row (g := w.heap.size + 1) (o := oz) (by simp))
      have z_f := fun j => frozen_of_row wr _ j _ _ (HS.out.1.row (g := w.heap.size + 1) (o := oz) (by simp))
      go_wp2_with fail
      have qx : ((((((wr.setCell ⟨w.heap.size + 1, 0, none⟩ (.int .i64 (rowv (pw s i 0)))).setCell ⟨w.heap.size + 1, 1, none⟩ (.int .i64 (rowv (pw s i 1)))).setCell ⟨w.heap.size + 1, 2, none⟩ (.int .i64 (rowv (pw s i 2)))).setCell ⟨w.heap.size + 1, 3, none⟩ (.int .i64 (rowv (pw s i 3)))).setCell ⟨w.heap.size + 1, 4, none⟩ (.int .i64 (rowv (pw s i 4)))).setCell ⟨w.heap.size + 1, 5, none⟩ (.int .i64 (rowv (pw s i 5)))).heap[w.heap.size + 1]? = _ := set6a _ _ _ _ _ _ (HS.out.1.row (g := w.heap.size + 1) (o := oz) (by simp))
      have hB := below6 (g := w.heap.size + 1) (v0 := .int .i64 (rowv (pw s i 0))) (v1 := .int .i64 (rowv (pw s i 1))) (v2 := .int .i64 (rowv (pw s i 2))) (v3 := .int .i64 (rowv (pw s i 3))) (v4 := .int .i64 (rowv (pw s i 4))) (v5 := .int .i64 (rowv (pw s i 5))) HS.out.1.2.2 (by omega)
      generalize (World.setCell _ _ _ : World) = X at qx hB ⊢
      have x_c := fun j => cell_of_row X _ j _ _ _ qx
      exact bodyPost_ret (v := .tuple #[.agg #[.int .i64 (rowv (pw s i 0)), .int .i64 (rowv (pw s i 1)), .int .i64 (rowv (pw s i 2)), .int .i64 (rowv (pw s i 3)), .int .i64 (rowv (pw s i 4)), .int .i64 (rowv (pw s i 5))], .bool true]) (by simp [results, Try.results48, go_sem, x_c]) rfl ⟨rfl, hB⟩
end Go.Proofs.Ytkobgklpcpoglaa
