/- CONTRACTS: StampOrder, the model's and the code's. -/
import Derived.Test.YtkobgklpcpoglaaPv
import Derived.Test.YtkobgklpcpoglaaEq
import Derived.WalkKit
import Derived.ProofKit
import Derived.OpenShut
import Derived.Lib.Hide
import Derived.WalkSpells
import Derived.Below
import Derived.BigQuiet
import Derived.LoopN
namespace Go.Proofs.Ytkobgklpcpoglaa
open Go.ChangeShapes Go.WideShapes Go.ChangeAt Go.RowKit
set_option linter.unusedVariables false
/-- Is it the unit. -/
def uq (f : Nat → Nat → Bool) : Bool := (rowv (f 0) == rowv (un 0)) && (rowv (f 1) == rowv (un 1)) && (rowv (f 2) == rowv (un 2)) && (rowv (f 3) == rowv (un 3)) && (rowv (f 4) == rowv (un 4)) && (rowv (f 5) == rowv (un 5))
theorem Ag.uq {f g : Nat → Nat → Bool} (h : Ag f g) : uq f = uq g := by
  unfold Go.Proofs.Ytkobgklpcpoglaa.uq
  rw [h.row (r := 0) (by decide), h.row (r := 1) (by decide), h.row (r := 2) (by decide), h.row (r := 3) (by decide), h.row (r := 4) (by decide), h.row (r := 5) (by decide)]
/-- The stamp's product with itself, n times more. -/
def nw (s : Nat → Nat → Bool) : Nat → Nat → Nat → Bool
  | 0 => s
  | n + 1 => pf (nw s n) s
theorem pw_nw (s : Nat → Nat → Bool) : ∀ n, Ag (pw s (n + 1)) (nw s n)
  | 0 => pf_un s
  | n + 1 => (pw_nw s n).pf s
theorem uq_pw (s : Nat → Nat → Bool) (n : Nat) : uq (pw s (n + 1)) = uq (nw s n) := (pw_nw s n).uq
/-- The first of k powers, from the n-th on, that is the unit. -/
def fo (s : Nat → Nat → Bool) : Nat → Nat → Option Nat
  | 0, _ => none
  | k + 1, n => if uq (nw s n) then some (n + 1) else fo s k (n + 1)
theorem fo_yes {s : Nat → Nat → Bool} {n : Nat} (hn : n < 6) (h : uq (nw s n) = true) : fo s (6 - n) n = some (n + 1) := by
  rw [show 6 - n = (5 - n) + 1 by omega]
  show (if uq (nw s n) then some (n + 1) else fo s (5 - n) (n + 1)) = _
  rw [h]; rfl
theorem fo_no {s : Nat → Nat → Bool} {n : Nat} (hn : n < 6) (h : uq (nw s n) = false) : fo s (6 - n) n = fo s (6 - (n + 1)) (n + 1) := by
  rw [show 6 - n = (5 - n) + 1 by omega, show 6 - (n + 1) = 5 - n by omega]
  show (if uq (nw s n) then some (n + 1) else fo s (5 - n) (n + 1)) = _
  rw [h]; rfl
/-- The answer's number and its flag. -/
def foN (o : Option Nat) : Int := match o with | none => 0 | some n => (n : Int)
/-- Midway in the model: the stamp, and in block gb its product so far. -/
def Rn (w : World) (s : Nat → Nat → Bool) (gb i : Nat) (W : World) : Prop :=
  KR 1 [(w.heap.size, o6 s)] w W ∧ W.heap[gb]? = some (o6 (nw s i)) ∧ w.heap.size + 1 ≤ gb ∧ gb < W.heap.size
theorem Rn.below {w W W' : World} {s : Nat → Nat → Bool} {gb i M : Nat} (h : Rn w s gb i W) (hb : Below M W W') (hM : M = W.heap.size) : Rn w s gb i W' := by
  obtain ⟨h1, h2, h3, h4⟩ := h
  exact ⟨h1.far hb hM, rowk h2 hb hM, h3, Nat.lt_of_lt_of_le h4 hb.size⟩
theorem Rn.put {w W : World} {s : Nat → Nat → Bool} {gb i : Nat} (h : Rn w s gb i W) : Rn w s gb (i + 1) ((((((W.setCell ⟨gb, 0, none⟩ (.int .i64 (rowv (pf (nw s i) s 0)))).setCell ⟨gb, 1, none⟩ (.int .i64 (rowv (pf (nw s i) s 1)))).setCell ⟨gb, 2, none⟩ (.int .i64 (rowv (pf (nw s i) s 2)))).setCell ⟨gb, 3, none⟩ (.int .i64 (rowv (pf (nw s i) s 3)))).setCell ⟨gb, 4, none⟩ (.int .i64 (rowv (pf (nw s i) s 4)))).setCell ⟨gb, 5, none⟩ (.int .i64 (rowv (pf (nw s i) s 5)))) := by
  obtain ⟨h1, h2, h3, h4⟩ := h
  exact ⟨h1.set h3 |>.set h3 |>.set h3 |>.set h3 |>.set h3 |>.set h3, set6a _ _ _ _ _ _ h2, h3, by simpa using h4⟩
theorem Rn_c {w U : World} {s : Nat → Nat → Bool} {gb i : Nat} (h : Rn w s gb i U) : ∀ j, U.cell? ⟨gb, j, none⟩ = (#[.int .i64 (rowv (nw s i 0)), .int .i64 (rowv (nw s i 1)), .int .i64 (rowv (nw s i 2)), .int .i64 (rowv (nw s i 3)), .int .i64 (rowv (nw s i 4)), .int .i64 (rowv (nw s i 5))] : Array Value)[j]? := fun j => cell_of_row U _ j _ _ _ h.2.1
theorem Rn_f {w U : World} {s : Nat → Nat → Bool} {gb i : Nat} (h : Rn w s gb i U) : ∀ j, U.frozen? ⟨gb, j, none⟩ = false := fun j => frozen_of_row U _ j _ _ h.2.1
theorem Rn_s {w U : World} {s : Nat → Nat → Bool} {gb i : Nat} (h : Rn w s gb i U) : ∀ j, U.cell? ⟨w.heap.size, j, none⟩ = (#[.int .i64 (rowv (s 0)), .int .i64 (rowv (s 1)), .int .i64 (rowv (s 2)), .int .i64 (rowv (s 3)), .int .i64 (rowv (s 4)), .int .i64 (rowv (s 5))] : Array Value)[j]? := fun j => cell_of_row U _ j _ _ _ (h.1.row (g := w.heap.size) (o := o6 s) (by simp))
set_option maxHeartbeats 1000000 in
theorem sord_yes (s : Nat → Nat → Bool) (ans : Option Nat) (HA : Hid (fo s 6 0 = ans)) (H0 : Hid (∀ w, Calls Try.prog 117 #[.agg #[.int .i64 (rowv (s 0)), .int .i64 (rowv (s 1)), .int .i64 (rowv (s 2)), .int .i64 (rowv (s 3)), .int .i64 (rowv (s 4)), .int .i64 (rowv (s 5))]] w fun e w' => e = .returned (.bool true) ∧ Below w.heap.size w w')) (w : World) : Calls Try.prog 49 #[.agg #[.int .i64 (rowv (s 0)), .int .i64 (rowv (s 1)), .int .i64 (rowv (s 2)), .int .i64 (rowv (s 3)), .int .i64 (rowv (s 4)), .int .i64 (rowv (s 5))]] w fun e w' => e = .returned (.tuple #[.int .i64 (foN ans), .bool ans.isSome]) ∧ Below w.heap.size w w' := by
  have HU := Lib.hid lunit_f
  have HP := Lib.hid lprint_f
  go_enter Try.func49, Try.ntmps49
  go_wp2_with fail
  generalize hW : (World.alloc _ _ : World) = W0
  have hB0 : Below w.heap.size w W0 := by rw [← hW]; (repeat (first | exact Below.refl _ _ | assumption | refine Below.setCell ?_ (by first | (simp; done) | (simp; omega)) _ | refine Below.alloc ?_ (by first | (simp; done) | (simp; omega)) _ | refine Below.drew ?_))
  have qa : W0.heap[(w.heap.size : Nat)]? = some (o6 s) := by
    rw [← hW]
    repeat (first | (refine alloc_at ?_; first | (simp; done) | (simp; omega)) | refine drew_row ?_ | refine alloc_past ?_ | assumption)
  have K0 : KR 1 [(w.heap.size, o6 s)] w W0 := ⟨by simp [qa], by rw [← hW]; simp, hB0⟩
  clear hW hB0 qa
  refine (H0.out _).mono ?_
  rintro e W1 ⟨rfl, hb⟩
  have K1 := K0.far hb rfl
  clear hb K0
  have s_c := fun j => cell_of_row W1 _ j _ _ _ (K1.row (g := w.heap.size) (o := o6 s) (by simp))
  go_wp2_with fail
  have S0 : Hid (Rn w s W1.heap.size 0 (W1.alloc (.cells #[.int .i64 (rowv (s 0)), .int .i64 (rowv (s 1)), .int .i64 (rowv (s 2)), .int .i64 (rowv (s 3)), .int .i64 (rowv (s 4)), .int .i64 (rowv (s 5))] 25))) := Lib.hid ⟨K1.al, alloc_at rfl, K1.le, by simp⟩
  clear K1 s_c
  generalize hgb : W1.heap.size = gb at S0 ⊢
  generalize (World.alloc _ _ : World) = W4 at S0 ⊢
  clear hgb
  go_loopw [5] (fun c wr => ∃ i : Nat, i ≤ 6 ∧ c = .int .i64 ((i : Int) + 1) ∧ Hid (fo s (6 - i) i = ans) ∧ Hid (Rn w s gb i wr)) (fun c _ => 7 - (intOf c).toNat)
  case atStart => exact ⟨0, by omega, rfl, HA, S0⟩
  case round =>
    obtain ⟨i, hi, rfl, HF, HS⟩ := hrel
    by_cases hlt : i < 6
    · have hlt' : (i : Int) + 1 ≤ 6 := by omega
      have hi0 : (0 : Int) ≤ i := by omega
      have hi2 : (i : Int) ≤ 5 := by omega
      have heq := eq26 (rowv (nw s i 0)) (rowv (nw s i 1)) (rowv (nw s i 2)) (rowv (nw s i 3)) (rowv (nw s i 4)) (rowv (nw s i 5)) (rowv (un 0)) (rowv (un 1)) (rowv (un 2)) (rowv (un 3)) (rowv (un 4)) (rowv (un 5))
      have HT : Hid (uq (nw s i) = ((rowv (nw s i 0) == rowv (un 0)) && (rowv (nw s i 1) == rowv (un 1)) && (rowv (nw s i 2) == rowv (un 2)) && (rowv (nw s i 3) == rowv (un 3)) && (rowv (nw s i 4) == rowv (un 4)) && (rowv (nw s i 5) == rowv (un 5)))) := Lib.hid rfl
      generalize ((rowv (nw s i 0) == rowv (un 0)) && (rowv (nw s i 1) == rowv (un 1)) && (rowv (nw s i 2) == rowv (un 2)) && (rowv (nw s i 3) == rowv (un 3)) && (rowv (nw s i 4) == rowv (un 4)) && (rowv (nw s i 5) == rowv (un 5))) = t at heq HT
      have HD := Lib.hid (HS.out.below (M := wr.heap.size) (Below.refl _ _).drew rfl)
      clear HS
      have d_c := Rn_c HD.out
      go_wp2_with fail
      set_option maxRecDepth 8000 in
      go_region_with (go_at_call 136; with_reducible refine (HU.out _).mono ?_; rintro e w' ⟨rfl, hb'⟩; have HE := Lib.hid (HD.out.below hb' rfl); have e_c := Rn_c HE.out)
      all_goals
        clear d_c HD
        have s_c := Rn_s HE.out
        cases t
        · go_wp2_with fail
          refine (HP.out _ _ _).mono ?_
          rintro e w'' ⟨rfl, hb'⟩
          have HG := Lib.hid (HE.out.below hb' rfl)
          clear e_c s_c hb' HE
          have b_c := Rn_c HG.out
          have b_f := Rn_f HG.out
          have HI2 := Lib.hid HG.out.put
          clear HG
          go_wp2_with fail
          go_roundw
          case rel => exact ⟨i + 1, by omega, by go_num, Lib.hid ((fo_no hlt HT.out).symm.trans HF.out), HI2⟩
          case measure => simp [intOf]; omega
        · go_wp2_with fail
          have hans : ans = some (i + 1) := HF.out.symm.trans (fo_yes hlt HT.out)
          go_ret2
          exact ⟨by rw [hans]; rfl, HE.out.1.2.2⟩
    · obtain rfl : i = 6 := by omega
      have hans : ans = none := HF.out.symm
      go_wp2_with fail
      go_ret2
      exact ⟨by rw [hans]; rfl, HS.out.1.2.2⟩
set_option maxHeartbeats 1000000 in
theorem iord_yes (s : Nat → Nat → Bool) (ans : Option Nat) (HA : Hid (fo s 6 0 = ans)) (HP : Hid (∀ (k : Nat) (w : World), k ≤ 24 → Calls Try.prog 48 #[.agg #[.int .i64 (rowv (s 0)), .int .i64 (rowv (s 1)), .int .i64 (rowv (s 2)), .int .i64 (rowv (s 3)), .int .i64 (rowv (s 4)), .int .i64 (rowv (s 5))], .int .i64 (k : Int)] w fun e w' => e = .returned (.tuple #[.agg #[.int .i64 (rowv (pw s k 0)), .int .i64 (rowv (pw s k 1)), .int .i64 (rowv (pw s k 2)), .int .i64 (rowv (pw s k 3)), .int .i64 (rowv (pw s k 4)), .int .i64 (rowv (pw s k 5))], .bool true]) ∧ Below w.heap.size w w')) (w : World) : Calls Try.prog 50 #[.agg #[.int .i64 (rowv (s 0)), .int .i64 (rowv (s 1)), .int .i64 (rowv (s 2)), .int .i64 (rowv (s 3)), .int .i64 (rowv (s 4)), .int .i64 (rowv (s 5))]] w fun e w' => e = .returned (.tuple #[.int .i64 (foN ans), .bool ans.isSome]) ∧ Below w.heap.size w w' := by
  have HU := Lib.hid unit_f
  go_enter Try.func50, Try.ntmps50
  go_wp2_with fail
  generalize hW : (World.alloc _ _ : World) = W0
  have hB0 : Below w.heap.size w W0 := by rw [← hW]; (repeat (first | exact Below.refl _ _ | assumption | refine Below.setCell ?_ (by first | (simp; done) | (simp; omega)) _ | refine Below.alloc ?_ (by first | (simp; done) | (simp; omega)) _ | refine Below.drew ?_))
  have qa : W0.heap[(w.heap.size : Nat)]? = some (o6 s) := by
    rw [← hW]
    repeat (first | (refine alloc_at ?_; first | (simp; done) | (simp; omega)) | refine drew_row ?_ | refine alloc_past ?_ | assumption)
  have S0 := Lib.hid (⟨by simp [qa], by rw [← hW]; simp, hB0⟩ : KR 1 [(w.heap.size, o6 s)] w W0)
  clear hW hB0 qa
  go_loopw [4] (fun c wr => ∃ i : Nat, i ≤ 6 ∧ c = .int .i64 ((i : Int) + 1) ∧ Hid (fo s (6 - i) i = ans) ∧ Hid (KR 1 [(w.heap.size, o6 s)] w wr)) (fun c _ => 7 - (intOf c).toNat)
  case atStart => exact ⟨0, by omega, rfl, HA, S0⟩
  case round =>
    obtain ⟨i, hi, rfl, HF, HS⟩ := hrel
    by_cases hlt : i < 6
    · have hlt' : (i : Int) + 1 ≤ 6 := by omega
      have hi0 : (0 : Int) ≤ i := by omega
      have hi2 : (i : Int) ≤ 5 := by omega
      have heq := eq26 (rowv (pw s (i + 1) 0)) (rowv (pw s (i + 1) 1)) (rowv (pw s (i + 1) 2)) (rowv (pw s (i + 1) 3)) (rowv (pw s (i + 1) 4)) (rowv (pw s (i + 1) 5)) (rowv (un 0)) (rowv (un 1)) (rowv (un 2)) (rowv (un 3)) (rowv (un 4)) (rowv (un 5))
      have HT : Hid (uq (nw s i) = ((rowv (pw s (i + 1) 0) == rowv (un 0)) && (rowv (pw s (i + 1) 1) == rowv (un 1)) && (rowv (pw s (i + 1) 2) == rowv (un 2)) && (rowv (pw s (i + 1) 3) == rowv (un 3)) && (rowv (pw s (i + 1) 4) == rowv (un 4)) && (rowv (pw s (i + 1) 5) == rowv (un 5)))) := Lib.hid (uq_pw s i).symm
      generalize ((rowv (pw s (i + 1) 0) == rowv (un 0)) && (rowv (pw s (i + 1) 1) == rowv (un 1)) && (rowv (pw s (i + 1) 2) == rowv (un 2)) && (rowv (pw s (i + 1) 3) == rowv (un 3)) && (rowv (pw s (i + 1) 4) == rowv (un 4)) && (rowv (pw s (i + 1) 5) == rowv (un 5))) = t at heq HT
      have HP1 := Lib.hid (fun w => HP.out (i + 1) w (by omega))
      simp only [Int.natCast_add, Int.natCast_one] at HP1
      have s_c := fun j => cell_of_row wr _ j _ _ _ (HS.out.row (g := w.heap.size) (o := o6 s) (by simp))
      go_wp2_with fail
      refine (HP1.out _).mono ?_
      rintro e w1 ⟨rfl, hb⟩
      have HK := Lib.hid (HS.out.far hb rfl)
      clear s_c hb HS
      go_wp2_with fail
      have hp : (w1.alloc (.cells #[.int .i64 (rowv (pw s (i + 1) 0)), .int .i64 (rowv (pw s (i + 1) 1)), .int .i64 (rowv (pw s (i + 1) 2)), .int .i64 (rowv (pw s (i + 1) 3)), .int .i64 (rowv (pw s (i + 1) 4)), .int .i64 (rowv (pw s (i + 1) 5))] 25)).heap[w1.heap.size]? = some (.cells #[.int .i64 (rowv (pw s (i + 1) 0)), .int .i64 (rowv (pw s (i + 1) 1)), .int .i64 (rowv (pw s (i + 1) 2)), .int .i64 (rowv (pw s (i + 1) 3)), .int .i64 (rowv (pw s (i + 1) 4)), .int .i64 (rowv (pw s (i + 1) 5))] 25 (0, 0)) := alloc_at rfl
      have HK2 := Lib.hid (HK.out.al (o := .cells #[.int .i64 (rowv (pw s (i + 1) 0)), .int .i64 (rowv (pw s (i + 1) 1)), .int .i64 (rowv (pw s (i + 1) 2)), .int .i64 (rowv (pw s (i + 1) 3)), .int .i64 (rowv (pw s (i + 1) 4)), .int .i64 (rowv (pw s (i + 1) 5))] 25))
      clear HK
      generalize (World.alloc _ _ : World) = W5 at hp HK2 ⊢
      generalize w1.heap.size = gp at hp ⊢
      have HP2 := Lib.hid (drew_row hp)
      have d_c := fun j => cell_of_row W5.drew _ j _ _ _ (drew_row hp)
      clear hp
      set_option maxRecDepth 8000 in
      go_region_with (go_at_call 137; with_reducible refine (HU.out _).mono ?_; rintro e w' ⟨rfl, hb'⟩; have HE := Lib.hid (HK2.out.drew.far hb' rfl); have e_r := rowk HP2.out hb' rfl; have e_c := fun j => cell_of_row w' _ j _ _ _ e_r)
      all_goals
        clear d_c e_r HP2
        cases t
        · go_wp2_with fail
          go_roundw
          case rel => exact ⟨i + 1, by omega, by go_num, Lib.hid ((fo_no hlt HT.out).symm.trans HF.out), HE⟩
          case measure => simp [intOf]; omega
        · go_wp2_with fail
          have hans : ans = some (i + 1) := HF.out.symm.trans (fo_yes hlt HT.out)
          go_ret2
          exact ⟨by rw [hans]; rfl, HE.out.2.2⟩
    · obtain rfl : i = 6 := by omega
      have hans : ans = none := HF.out.symm
      go_wp2_with fail
      go_ret2
      exact ⟨by rw [hans]; rfl, HS.out.2.2⟩
theorem sord_no (a0 a1 a2 a3 a4 a5 : Int) (H0 : Hid (∀ w, Calls Try.prog 117 #[.agg #[.int .i64 a0, .int .i64 a1, .int .i64 a2, .int .i64 a3, .int .i64 a4, .int .i64 a5]] w fun e w' => e = .returned (.bool false) ∧ Below w.heap.size w w')) (w : World) : Calls Try.prog 49 #[.agg #[.int .i64 a0, .int .i64 a1, .int .i64 a2, .int .i64 a3, .int .i64 a4, .int .i64 a5]] w fun e w' => e = .returned (.tuple #[.int .i64 0, .bool false]) ∧ Below w.heap.size w w' := by
  go_enter Try.func49, Try.ntmps49
  go_wp2_with fail
  generalize hW : (World.alloc _ _ : World) = W0
  have hB0 : Below w.heap.size w W0 := by rw [← hW]; (repeat (first | exact Below.refl _ _ | assumption | refine Below.setCell ?_ (by first | (simp; done) | (simp; omega)) _ | refine Below.alloc ?_ (by first | (simp; done) | (simp; omega)) _ | refine Below.drew ?_))
  clear hW
  refine (H0.out _).mono ?_
  rintro e W1 ⟨rfl, hb⟩
  have hB1 := below_of hB0 hb hB0.size
  clear hb hB0
  go_wp2_with fail
  go_ret2
  exact ⟨rfl, hB1⟩
set_option maxHeartbeats 1000000 in
theorem iord_no (a0 a1 a2 a3 a4 a5 : Int) (HP : Hid (∀ (k : Int) (w : World), Calls Try.prog 48 #[.agg #[.int .i64 a0, .int .i64 a1, .int .i64 a2, .int .i64 a3, .int .i64 a4, .int .i64 a5], .int .i64 k] w fun e w' => e = .returned (.tuple #[.agg #[.int .i64 (0), .int .i64 (0), .int .i64 (0), .int .i64 (0), .int .i64 (0), .int .i64 (0)], .bool false]) ∧ Below w.heap.size w w')) (w : World) : Calls Try.prog 50 #[.agg #[.int .i64 a0, .int .i64 a1, .int .i64 a2, .int .i64 a3, .int .i64 a4, .int .i64 a5]] w fun e w' => e = .returned (.tuple #[.int .i64 0, .bool false]) ∧ Below w.heap.size w w' := by
  go_enter Try.func50, Try.ntmps50
  go_wp2_with fail
  generalize hW : (World.alloc _ _ : World) = W0
  have hB0 : Below w.heap.size w W0 := by rw [← hW]; (repeat (first | exact Below.refl _ _ | assumption | refine Below.setCell ?_ (by first | (simp; done) | (simp; omega)) _ | refine Below.alloc ?_ (by first | (simp; done) | (simp; omega)) _ | refine Below.drew ?_))
  have qa : W0.heap[(w.heap.size : Nat)]? = some (.cells #[.int .i64 a0, .int .i64 a1, .int .i64 a2, .int .i64 a3, .int .i64 a4, .int .i64 a5] 25 (0, 0)) := by
    rw [← hW]
    repeat (first | (refine alloc_at ?_; first | (simp; done) | (simp; omega)) | refine drew_row ?_ | refine alloc_past ?_ | assumption)
  have S0 := Lib.hid (⟨by simp [qa], by rw [← hW]; simp, hB0⟩ : KR 1 [(w.heap.size, .cells #[.int .i64 a0, .int .i64 a1, .int .i64 a2, .int .i64 a3, .int .i64 a4, .int .i64 a5] 25 (0, 0))] w W0)
  clear hW hB0 qa
  go_loopw [4] (fun c wr => ∃ i : Nat, i ≤ 6 ∧ c = .int .i64 ((i : Int) + 1) ∧ Hid (KR 1 [(w.heap.size, .cells #[.int .i64 a0, .int .i64 a1, .int .i64 a2, .int .i64 a3, .int .i64 a4, .int .i64 a5] 25 (0, 0))] w wr)) (fun c _ => 7 - (intOf c).toNat)
  case atStart => exact ⟨0, by omega, rfl, S0⟩
  case round =>
    obtain ⟨i, hi, rfl, HS⟩ := hrel
    by_cases hlt : i < 6
    · have hlt' : (i : Int) + 1 ≤ 6 := by omega
      have hi0 : (0 : Int) ≤ i := by omega
      have hi2 : (i : Int) ≤ 5 := by omega
      have s_c := fun j => cell_of_row wr _ j _ _ _ (HS.out.row (g := w.heap.size) (List.mem_cons_self ..))
      go_wp2_with fail
      refine (HP.out _ _).mono ?_
      rintro e w1 ⟨rfl, hb⟩
      have HK := Lib.hid (HS.out.far hb rfl)
      clear s_c hb HS
      go_wp2_with fail
      have HK2 := Lib.hid (HK.out.al (o := .cells #[.int .i64 0, .int .i64 0, .int .i64 0, .int .i64 0, .int .i64 0, .int .i64 0] 25)).drew
      clear HK
      set_option maxRecDepth 8000 in
      go_region
      all_goals
        go_wp2_with fail
        go_roundw
        case rel => exact ⟨i + 1, by omega, by go_num, HK2⟩
        case measure => simp [intOf]; omega
    · obtain rfl : i = 6 := by omega
      go_wp2_with fail
      go_ret2
      exact ⟨rfl, HS.out.2.2⟩
theorem order_pair (a0 a1 a2 a3 a4 a5 : Int) : ∃ (r : Int) (t : Bool), (∀ w, Calls Try.prog 49 #[.agg #[.int .i64 a0, .int .i64 a1, .int .i64 a2, .int .i64 a3, .int .i64 a4, .int .i64 a5]] w fun e w' => e = .returned (.tuple #[.int .i64 r, .bool t]) ∧ Below w.heap.size w w') ∧ (∀ w, Calls Try.prog 50 #[.agg #[.int .i64 a0, .int .i64 a1, .int .i64 a2, .int .i64 a3, .int .i64 a4, .int .i64 a5]] w fun e w' => e = .returned (.tuple #[.int .i64 r, .bool t]) ∧ Below w.heap.size w w') := by
  cases hv : (ok a0 && ok a1 && ok a2 && ok a3 && ok a4 && ok a5)
  · exact ⟨0, false, fun w => sord_no a0 a1 a2 a3 a4 a5 (sh_as a0 a1 a2 a3 a4 a5 hv) w, fun w => iord_no a0 a1 a2 a3 a4 a5 (Lib.hid fun k w => ipow_no0 a0 a1 a2 a3 a4 a5 k (sh_ai a0 a1 a2 a3 a4 a5 hv) w) w⟩
  · have Hs := sh_as a0 a1 a2 a3 a4 a5 hv
    have Hi := sh_ai a0 a1 a2 a3 a4 a5 hv
    obtain ⟨s, rfl, rfl, rfl, rfl, rfl, rfl⟩ := sheet_bits a0 a1 a2 a3 a4 a5 hv
    obtain ⟨ans, hans⟩ : ∃ ans, fo s 6 0 = ans := ⟨_, rfl⟩
    exact ⟨_, _, fun w => sord_yes s ans (Lib.hid hans) Hs w, fun w => iord_yes s ans (Lib.hid hans) (Lib.hid fun k w hk => ipow_yes s k hk Hi w) w⟩
end Go.Proofs.Ytkobgklpcpoglaa
