/- CONTRACTS: the code's steps one behind the other. -/
import Derived.Test.YtkjaaaefcmpokaaCk5
import Derived.RegionTactic
import Derived.WalkKit
import Derived.ProofKit
import Derived.OpenShut
import Derived.Lib.Hide
import Derived.WalkSpells
import Derived.Below
import Derived.BigQuiet
import Derived.LoopN
namespace Go.Proofs.Ytkjaaaefcmpokaa
open Go.ChangeShapes Go.WideShapes Go.ChangeAt Go.RowKit
set_option linter.unusedVariables false
/-- What steps make of a sheet: true is shrinking, false spreading. -/
def st5 (b : Bool) (s p : Fn6) : Fn6 := if b then shr s p else spd s p
def be5 (T : List Bool) (s p : Fn6) : Fn6 := T.foldl (fun s b => st5 b s p) s
theorem be5_succ (T : List Bool) (s p : Fn6) {i : Nat} (h : i < T.length) : be5 (T.take (i + 1)) s p = st5 T[i] (be5 (T.take i) s p) p := by
  unfold be5
  rw [List.take_add_one, List.getElem?_eq_getElem h, List.foldl_append]
  rfl
def fv5 (b : Bool) : Value := .func (.func (if b then 190 else 308)) #[] #[]
theorem spread_1 (s p : Fn6) (gp : Nat) (w : World) (hp : w.heap[gp]? = some (o6 p)) : Calls Try.prog 327 #[.agg #[.int .i64 (rowv (s 0)), .int .i64 (rowv (s 1)), .int .i64 (rowv (s 2)), .int .i64 (rowv (s 3)), .int .i64 (rowv (s 4)), .int .i64 (rowv (s 5))], .pointer (some ⟨gp, 0, none⟩)] w fun e w' => e = .returned (.agg #[.int .i64 (rowv (spd s p 0)), .int .i64 (rowv (spd s p 1)), .int .i64 (rowv (spd s p 2)), .int .i64 (rowv (spd s p 3)), .int .i64 (rowv (spd s p 4)), .int .i64 (rowv (spd s p 5))]) ∧ Below w.heap.size w w' := by
  have h := spread1_f s p gp w hp
  rw [fo5_spo] at h
  exact h
theorem shrink_1 (s p : Fn6) (gp : Nat) (w : World) (hp : w.heap[gp]? = some (o6 (rf p))) : Calls Try.prog 272 #[.agg #[.int .i64 (rowv (s 0)), .int .i64 (rowv (s 1)), .int .i64 (rowv (s 2)), .int .i64 (rowv (s 3)), .int .i64 (rowv (s 4)), .int .i64 (rowv (s 5))], .pointer (some ⟨gp, 0, none⟩)] w fun e w' => e = .returned (.agg #[.int .i64 (rowv (shr s p 0)), .int .i64 (rowv (shr s p 1)), .int .i64 (rowv (shr s p 2)), .int .i64 (rowv (shr s p 3)), .int .i64 (rowv (shr s p 4)), .int .i64 (rowv (shr s p 5))]) ∧ Below w.heap.size w w' := by
  have h := shrink1_f s (rf p) gp w hp
  rw [fo5_sho] at h
  exact h
/-- Midway: what came of the sheet lies in its own block. -/
def Bh5 (w : World) (p F : Fn6) (W : World) : Prop := W.heap[w.heap.size]? = some (o6 F) ∧ W.heap[w.heap.size + 1]? = some (o6 p) ∧ W.heap[w.heap.size + 2]? = some oz ∧ w.heap.size + 3 ≤ W.heap.size ∧ Below w.heap.size w W
theorem Bh5.far {w W V : World} {p F : Fn6} {M : Nat} (h : Bh5 w p F W) (hb : Below M W V) (hM : M = W.heap.size) : Bh5 w p F V :=
  ⟨rowk h.1 hb hM, rowk h.2.1 hb hM, rowk h.2.2.1 hb hM, Nat.le_trans h.2.2.2.1 hb.size, below_of h.2.2.2.2 hb (by have := h.2.2.2.1; omega)⟩
theorem Bh5.put {w W : World} {p F : Fn6} (G : Fn6) (h : Bh5 w p F W) : Bh5 w p G ((((((W.setCell ⟨w.heap.size, 0, none⟩ (.int .i64 (rowv (G 0)))).setCell ⟨w.heap.size, 1, none⟩ (.int .i64 (rowv (G 1)))).setCell ⟨w.heap.size, 2, none⟩ (.int .i64 (rowv (G 2)))).setCell ⟨w.heap.size, 3, none⟩ (.int .i64 (rowv (G 3)))).setCell ⟨w.heap.size, 4, none⟩ (.int .i64 (rowv (G 4)))).setCell ⟨w.heap.size, 5, none⟩ (.int .i64 (rowv (G 5)))) := by
  obtain ⟨h1, h2, h3, h4, h5⟩ := h
  exact ⟨set6a _ _ _ _ _ _ h1, set6o _ _ _ _ _ _ (by omega) h2, set6o _ _ _ _ _ _ (by omega) h3, by simpa using h4, below6 h5 (by omega)⟩
theorem Bh5_s {w W : World} {p F : Fn6} (h : Bh5 w p F W) : ∀ j, W.cell? ⟨w.heap.size, j, none⟩ = (#[.int .i64 (rowv (F 0)), .int .i64 (rowv (F 1)), .int .i64 (rowv (F 2)), .int .i64 (rowv (F 3)), .int .i64 (rowv (F 4)), .int .i64 (rowv (F 5))] : Array Value)[j]? := fun j => cell_of_row W _ j _ _ _ h.1
theorem Bh5_sf {w W : World} {p F : Fn6} (h : Bh5 w p F W) : ∀ j, W.frozen? ⟨w.heap.size, j, none⟩ = false := fun j => frozen_of_row W _ j _ _ h.1
theorem Bh5_p {w W : World} {p F : Fn6} (h : Bh5 w p F W) : ∀ j, W.cell? ⟨w.heap.size + 1, j, none⟩ = (#[.int .i64 (rowv (p 0)), .int .i64 (rowv (p 1)), .int .i64 (rowv (p 2)), .int .i64 (rowv (p 3)), .int .i64 (rowv (p 4)), .int .i64 (rowv (p 5))] : Array Value)[j]? := fun j => cell_of_row W _ j _ _ _ h.2.1
set_option maxHeartbeats 4000000 in
theorem behind_f (T : List Bool) (hT : T.length ≤ 12) (s p : Fn6) (g cap : Nat) (w : World) (hgw : g < w.heap.size) (hc : ∀ (i : Nat) (h : i < T.length), w.cell? ⟨g, i, none⟩ = some (fv5 T[i])) (H0 : Hid (∀ w, Calls Try.prog 144 #[.agg #[.int .i64 (rowv (s 0)), .int .i64 (rowv (s 1)), .int .i64 (rowv (s 2)), .int .i64 (rowv (s 3)), .int .i64 (rowv (s 4)), .int .i64 (rowv (s 5))]] w fun e w' => e = .returned (.bool true) ∧ Below w.heap.size w w')) (H1 : Hid (∀ w, Calls Try.prog 144 #[.agg #[.int .i64 (rowv (p 0)), .int .i64 (rowv (p 1)), .int .i64 (rowv (p 2)), .int .i64 (rowv (p 3)), .int .i64 (rowv (p 4)), .int .i64 (rowv (p 5))]] w fun e w' => e = .returned (.bool true) ∧ Below w.heap.size w w')) : Calls Try.prog 189 #[.agg #[.int .i64 (rowv (s 0)), .int .i64 (rowv (s 1)), .int .i64 (rowv (s 2)), .int .i64 (rowv (s 3)), .int .i64 (rowv (s 4)), .int .i64 (rowv (s 5))], .agg #[.int .i64 (rowv (p 0)), .int .i64 (rowv (p 1)), .int .i64 (rowv (p 2)), .int .i64 (rowv (p 3)), .int .i64 (rowv (p 4)), .int .i64 (rowv (p 5))], .slice (some ⟨g, 0, none⟩) T.length cap] w fun e w' => e = .returned (.tuple #[.agg #[.int .i64 (rowv (be5 T s p 0)), .int .i64 (rowv (be5 T s p 1)), .int .i64 (rowv (be5 T s p 2)), .int .i64 (rowv (be5 T s p 3)), .int .i64 (rowv (be5 T s p 4)), .int .i64 (rowv (be5 T s p 5))], .bool true]) ∧ Below w.heap.size w w' := by
  have HC := Lib.hid hc
  clear hc
  go_enter Try.func189, Try.ntmps189
  go_wp2_with fail
  generalize hW : (World.alloc _ _ : World) = W0
  have hB0 : Below w.heap.size w W0 := by rw [← hW]; (repeat (first | exact Below.refl _ _ | assumption | refine Below.setCell ?_ (by first | (simp; done) | (simp; omega)) _ | refine Below.alloc ?_ (by first | (simp; done) | (simp; omega)) _ | refine Below.drew ?_))
  have q0 : W0.heap[(w.heap.size : Nat)]? = some (o6 s) := by
    rw [← hW]
    repeat (first | (refine alloc_at ?_; first | (simp; done) | (simp; omega)) | refine drew_row ?_ | refine alloc_past ?_ | assumption)
  have q1 : W0.heap[(w.heap.size + 1 : Nat)]? = some (o6 p) := by
    rw [← hW]
    repeat (first | (refine alloc_at ?_; first | (simp; done) | (simp; omega)) | refine drew_row ?_ | refine alloc_past ?_ | assumption)
  have q2 : W0.heap[(w.heap.size + 2 : Nat)]? = some (oz) := by
    rw [← hW]
    repeat (first | (refine alloc_at ?_; first | (simp; done) | (simp; omega)) | refine drew_row ?_ | refine alloc_past ?_ | assumption)
  have hk : KR 2 [(w.heap.size, o6 s), (w.heap.size + 1, o6 p)] w W0 := ⟨by simp [q0, q1], by rw [← hW]; simp, hB0⟩
  have hq := q2
  clear hW hB0 q0 q1 q2
  have HS : Hid (Bh5 w p s W0) := Lib.hid ⟨hk.row (g := w.heap.size) (o := o6 s) (by simp), hk.row (g := w.heap.size + 1) (o := o6 p) (by simp), hq, row_lt hq, hk.2.2⟩
  clear hk hq
  have s_c := Bh5_s HS.out
  go_wp2_with fail
  refine (H0.out _).mono ?_
  rintro e W1 ⟨rfl, hb⟩
  have HS1 := Lib.hid (HS.out.far hb rfl)
  clear hb HS s_c
  have p_c := Bh5_p HS1.out
  go_wp2_with fail
  refine (H1.out _).mono ?_
  rintro e W2 ⟨rfl, hb⟩
  have S0 : Hid (Bh5 w p (be5 (T.take 0) s p) W2) := Lib.hid (HS1.out.far hb rfl)
  clear hb HS1 p_c H0 H1
  go_wp2_with fail
  go_loopw [21] (fun c wr => ∃ i : Nat, i ≤ T.length ∧ c = .int .i64 i ∧ Hid (Bh5 w p (be5 (T.take i) s p) wr)) (fun c _ => T.length - (intOf c).toNat)
  case atStart => exact ⟨0, by omega, rfl, S0⟩
  case round =>
    obtain ⟨i, hi, rfl, HS⟩ := hrel
    by_cases hlt : i < T.length
    · have hlt' : (i : Int) < T.length := by omega
      have hi0 : (0 : Int) ≤ i := by omega
      have hi2 : i ≤ 12 := by omega
      have HE := Lib.hid (be5_succ T s p hlt)
      obtain ⟨F, hF⟩ : ∃ F, F = be5 (T.take i) s p := ⟨_, rfl⟩
      rw [← hF] at HE HS
      have hcw : wr.cell? ⟨g, i, none⟩ = some (fv5 T[i]) := (HS.out.2.2.2.2.cell (p := ⟨g, i, none⟩) hgw).trans (HC.out i hlt)
      clear hF
      cases hb : T[i]
      · rw [hb] at hcw HE
        simp only [fv5, Bool.false_eq_true, if_false] at hcw
        go_wp2_with fail
        have HD := Lib.hid (HS.out.far (M := wr.heap.size) (Below.refl _ _).drew rfl)
        clear HS hcw
        have s_c := Bh5_s HD.out
        have p_c := Bh5_p HD.out
        have HP := Lib.hid (spreading_f p)
        have HQ := Lib.hid (spread_1 F p)
        set_option maxRecDepth 8000 in
        go_region_with (first | (go_at_call 308; with_reducible refine (HP.out _).mono ?_; rintro e w1 ⟨g1, rfl, hq1, hb1⟩; have HA := Lib.hid (HD.out.far hb1 rfl); have e_c := Bh5_s HA.out) | (go_at_call 327; with_reducible refine (HQ.out g1 _ hq1).mono ?_; rintro e w2 ⟨rfl, hb2⟩; have HB := Lib.hid (HA.out.far hb2 rfl); clear e_c s_c p_c; have t_c := Bh5_s HB.out; have t_f := Bh5_sf HB.out))
        all_goals
          have HI := Lib.hid (HB.out.put (spd F p))
          clear HB HA HD HP HQ t_c t_f hq1 hb1 hb2
          go_wp2_with fail
          go_roundw
          case rel => exact ⟨i + 1, by omega, by go_num, by rw [HE.out]; exact HI⟩
          case measure => simp [intOf]; omega
      · rw [hb] at hcw HE
        simp only [fv5, if_true] at hcw
        go_wp2_with fail
        have HD := Lib.hid (HS.out.far (M := wr.heap.size) (Below.refl _ _).drew rfl)
        clear HS hcw
        have s_c := Bh5_s HD.out
        have p_c := Bh5_p HD.out
        have HP := Lib.hid (shrinking_f p)
        have HQ := Lib.hid (shrink_1 F p)
        set_option maxRecDepth 8000 in
        go_region_with (first | (go_at_call 190; with_reducible refine (HP.out _).mono ?_; rintro e w1 ⟨g1, rfl, hq1, hb1⟩; have HA := Lib.hid (HD.out.far hb1 rfl); have e_c := Bh5_s HA.out) | (go_at_call 272; with_reducible refine (HQ.out g1 _ hq1).mono ?_; rintro e w2 ⟨rfl, hb2⟩; have HB := Lib.hid (HA.out.far hb2 rfl); clear e_c s_c p_c; have t_c := Bh5_s HB.out; have t_f := Bh5_sf HB.out))
        all_goals
          have HI := Lib.hid (HB.out.put (shr F p))
          clear HB HA HD HP HQ t_c t_f hq1 hb1 hb2
          go_wp2_with fail
          go_roundw
          case rel => exact ⟨i + 1, by omega, by go_num, by rw [HE.out]; exact HI⟩
          case measure => simp [intOf]; omega
    · obtain rfl : i = T.length := by omega
      rw [List.take_length] at HS
      have s_c := Bh5_s HS.out
      have z_c := fun j => cell_of_row wr _ j _ _ _ HS.out.2.2.1
      have z_f := fun j => frozen_of_row wr _ j _ _ HS.out.2.2.1
      go_wp2_with fail
      refine bodyPost_ret (v := .tuple #[.agg #[.int .i64 (rowv (be5 T s p 0)), .int .i64 (rowv (be5 T s p 1)), .int .i64 (rowv (be5 T s p 2)), .int .i64 (rowv (be5 T s p 3)), .int .i64 (rowv (be5 T s p 4)), .int .i64 (rowv (be5 T s p 5))], .bool true]) (by simp [results, Try.results189, go_sem, z_c]) rfl ⟨rfl, ?_⟩
      exact below6 HS.out.2.2.2.2 (by omega)
end Go.Proofs.Ytkjaaaefcmpokaa
