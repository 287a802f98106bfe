/- CONTRACTS: ShrinkLeft, the code's. -/
import Derived.Test.YtjhokdccgachcaaLm5
import Derived.Deep.Cut
import Derived.RegionTactic
import Derived.WalkKit
import Derived.ProofKit
import Derived.OpenShut
import Derived.Lib.Hide
import Derived.WalkSpells
import Derived.Below
import Derived.BigQuiet
import Derived.LoopN
namespace Go.Proofs.Ytjhokdccgachcaa
open Go.ChangeShapes Go.WideShapes Go.ChangeAt Go.RowKit
set_option linter.unusedVariables false
set_option maxHeartbeats 600000 in
theorem isl_yes (s p : Fn6) (N : Nat) (hN : lft5 s p N) (K0 : Hid (∀ w, Calls Try.prog 104 #[.agg #[.int .i64 (rowv (s 0)), .int .i64 (rowv (s 1)), .int .i64 (rowv (s 2)), .int .i64 (rowv (s 3)), .int .i64 (rowv (s 4)), .int .i64 (rowv (s 5))]] w fun e w' => e = .returned (.bool true) ∧ Below w.heap.size w w')) (K1 : Hid (∀ w, Calls Try.prog 104 #[.agg #[.int .i64 (rowv (p 0)), .int .i64 (rowv (p 1)), .int .i64 (rowv (p 2)), .int .i64 (rowv (p 3)), .int .i64 (rowv (p 4)), .int .i64 (rowv (p 5))]] w fun e w' => e = .returned (.bool true) ∧ Below w.heap.size w w')) (w : World) : Calls Try.prog 46 #[.agg #[.int .i64 (rowv (s 0)), .int .i64 (rowv (s 1)), .int .i64 (rowv (s 2)), .int .i64 (rowv (s 3)), .int .i64 (rowv (s 4)), .int .i64 (rowv (s 5))], .agg #[.int .i64 (rowv (p 0)), .int .i64 (rowv (p 1)), .int .i64 (rowv (p 2)), .int .i64 (rowv (p 3)), .int .i64 (rowv (p 4)), .int .i64 (rowv (p 5))]] w fun e w' => e = .returned (.tuple #[.int .i64 (N : Int), .agg #[.int .i64 (rowv (shn5 s p N 0)), .int .i64 (rowv (shn5 s p N 1)), .int .i64 (rowv (shn5 s p N 2)), .int .i64 (rowv (shn5 s p N 3)), .int .i64 (rowv (shn5 s p N 4)), .int .i64 (rowv (shn5 s p N 5))], .bool true]) ∧ Below w.heap.size w w' := by
  have h12 := hN.1
  have Hno := Lib.hid hN.2.1
  have Hyes := Lib.hid hN.2.2
  clear hN
  have hmf : ∀ (fn : Fn) (first cap : Array Value) (w : World), (Instr.makeFunc fn first cap).run Try.prog w = .ok (.func fn first cap) w := fun _ _ _ _ => rfl
  have HSP := Lib.hid (shrinking_g p)
  go_enter Try.func46, Try.ntmps46
  go_wp2_with fail
  generalize hW : (World.alloc _ _ : World) = W0
  have hB0 : Below w.heap.size w W0 := by rw [← hW]; (repeat (first | exact Below.refl _ _ | assumption | refine Below.setCell ?_ (by first | (simp; done) | (simp; omega)) _ | refine Below.alloc ?_ (by first | (simp; done) | (simp; omega)) _ | refine Below.drew ?_))
  have q0 : W0.heap[(w.heap.size : Nat)]? = some (o6 s) := by
    rw [← hW]
    repeat (first | (refine alloc_at ?_; first | (simp; done) | (simp; omega)) | refine drew_row ?_ | refine alloc_past ?_ | assumption)
  have q1 : W0.heap[(w.heap.size + 1 : Nat)]? = some (o6 p) := by
    rw [← hW]
    repeat (first | (refine alloc_at ?_; first | (simp; done) | (simp; omega)) | refine drew_row ?_ | refine alloc_past ?_ | assumption)
  have q2 : W0.heap[(w.heap.size + 2 : Nat)]? = some (oz) := by
    rw [← hW]
    repeat (first | (refine alloc_at ?_; first | (simp; done) | (simp; omega)) | refine drew_row ?_ | refine alloc_past ?_ | assumption)
  have hk : KR 2 [(w.heap.size, o6 s), (w.heap.size + 1, o6 p)] w W0 := ⟨by simp [q0, q1], by rw [← hW]; simp, hB0⟩
  have hq := q2
  clear hW hB0 q0 q1 q2
  have HS : Hid (Bh5 w p s W0) := Lib.hid ⟨hk.row (g := w.heap.size) (o := o6 s) (by simp), hk.row (g := w.heap.size + 1) (o := o6 p) (by simp), hq, row_lt hq, hk.2.2⟩
  clear hk hq
  have s_c := Bh5_s HS.out
  go_wp2_with fail
  refine (K0.out _).mono ?_
  rintro e V0 ⟨rfl, hb⟩
  have HS := Lib.hid (HS.out.far hb rfl)
  clear hb s_c
  have p_c := Bh5_p HS.out
  go_wp2_with fail
  refine (K1.out _).mono ?_
  rintro e V1 ⟨rfl, hb⟩
  have HS := Lib.hid (HS.out.far hb rfl)
  clear hb p_c K0 K1
  have p_c := Bh5_p HS.out
  go_wp2_with fail
  refine (HSP.out _).mono ?_
  rintro e V2 ⟨gc, rfl, hgc, hge, hb⟩
  have S0 : Hid (Bh5 w p (shn5 s p 0) V2 ∧ V2.heap[gc]? = some (o6 (rf p)) ∧ w.heap.size + 3 ≤ gc) := Lib.hid ⟨HS.out.far hb rfl, hgc, Nat.le_trans HS.out.2.2.2.1 hge⟩
  clear hb HS p_c HSP hgc hge
  go_wp2_with fail
  go_loopw [8] (fun c wr => ∃ n : Nat, n ≤ N ∧ c = .int .i64 n ∧ Hid (Bh5 w p (shn5 s p n) wr ∧ wr.heap[gc]? = some (o6 (rf p)) ∧ w.heap.size + 3 ≤ gc)) (fun c _ => 12 - (intOf c).toNat)
  case atStart => exact ⟨0, by omega, rfl, S0⟩
  case round =>
    obtain ⟨n, hn, rfl, HS⟩ := hrel
    obtain ⟨F, hF⟩ : ∃ F, F = shn5 s p n := ⟨_, rfl⟩
    have hG : shn5 s p (n + 1) = shr F p := by rw [hF]; rfl
    rw [← hF] at HS
    have HF := Lib.hid hF
    have HG := Lib.hid hG
    clear hF hG
    have e1 := neq_white F
    have e2 := eq_white (shr F p)
    have s_c := Bh5_s HS.out.1
    by_cases hgo : n < N
    · have h1 := (Hno.out n hgo).1
      have h2 := (Hno.out n hgo).2
      rw [← HF.out] at h1
      rw [HG.out] at h2
      simp only [h1, Bool.not_false] at e1
      simp only [h2] at e2
      have hlt' : (n : Int) < 12 := by omega
      clear h1 h2
      have HL := Lib.hid (fun (w2 : World) h => shrink_1 F p gc w2 h)
      have hgr := HS.out.2.1
      go_wp2_with fail
      refine (HL.out _ hgr).mono ?_
      rintro e Y ⟨rfl, hb⟩
      have HSY := HS.out.1.far hb rfl
      have hgrY := rowk hgr hb rfl
      clear hb s_c HL
      have hcge := HS.out.2.2
      have HZ := Lib.hid (Bn5.new (G := shr F p) HSY)
      have hgZ : (Y.alloc (.cells #[.int .i64 (rowv (shr F p 0)), .int .i64 (rowv (shr F p 1)), .int .i64 (rowv (shr F p 2)), .int .i64 (rowv (shr F p 3)), .int .i64 (rowv (shr F p 4)), .int .i64 (rowv (shr F p 5))] 25)).heap[gc]? = some (o6 (rf p)) := alloc_past hgrY
      have y_c := Bh5_s HSY
      have y_f := Bh5_sf HSY
      have slt : w.heap.size < Y.heap.size := by have := HSY.2.2.2.1; omega
      have slt2 := Nat.ne_of_lt slt
      go_wp2_with fail
      have HI := Lib.hid ((HSY.put (shr F p)).far (M := _) ((Below.refl _ _).alloc (Nat.le_refl _) (.cells #[.int .i64 (rowv (shr F p 0)), .int .i64 (rowv (shr F p 1)), .int .i64 (rowv (shr F p 2)), .int .i64 (rowv (shr F p 3)), .int .i64 (rowv (shr F p 4)), .int .i64 (rowv (shr F p 5))] 25)) rfl)
      have HJ := Lib.hid (alloc_past (o := .cells #[.int .i64 (rowv (shr F p 0)), .int .i64 (rowv (shr F p 1)), .int .i64 (rowv (shr F p 2)), .int .i64 (rowv (shr F p 3)), .int .i64 (rowv (shr F p 4)), .int .i64 (rowv (shr F p 5))] 25) (set6o (.int .i64 (rowv (shr F p 0))) (.int .i64 (rowv (shr F p 1))) (.int .i64 (rowv (shr F p 2))) (.int .i64 (rowv (shr F p 3))) (.int .i64 (rowv (shr F p 4))) (.int .i64 (rowv (shr F p 5))) (show gc ≠ w.heap.size by omega) hgrY))
      have HC := Lib.hid hcge
      clear HZ y_c y_f slt slt2 hgZ HSY hgrY hgr hcge e1 e2
      go_roundw
      case rel => exact ⟨n + 1, by omega, by go_num, by have hF := HF.out; subst hF; exact Lib.hid ⟨HI.out, HJ.out, HC.out⟩⟩
      case measure => simp [intOf]; omega
    · have hnN : n = N := by omega
      have HNn := Lib.hid hnN
      have HBX := HS.out.1
      by_cases h12n : n < 12
      · have hlt' : (n : Int) < 12 := by omega
        have hor := Hyes.out (by omega)
        rw [← hnN, ← HF.out, HG.out] at hor
        clear hnN
        cases hw : wh5 F
        · rw [hw] at hor
          simp only [Bool.false_eq_true, false_or] at hor
          simp only [hw, Bool.not_false] at e1
          simp only [hor] at e2
          clear hor
          have HL := Lib.hid (fun (w2 : World) h => shrink_1 F p gc w2 h)
          have hgr := HS.out.2.1
          go_wp2_with fail
          refine (HL.out _ hgr).mono ?_
          rintro e Y ⟨rfl, hb⟩
          have HSY := HS.out.1.far hb rfl
          have hgrY := rowk hgr hb rfl
          clear hb s_c HL
          have hcge := HS.out.2.2
          have HZ := Lib.hid (Bn5.new (G := shr F p) HSY)
          have hgZ : (Y.alloc (.cells #[.int .i64 (rowv (shr F p 0)), .int .i64 (rowv (shr F p 1)), .int .i64 (rowv (shr F p 2)), .int .i64 (rowv (shr F p 3)), .int .i64 (rowv (shr F p 4)), .int .i64 (rowv (shr F p 5))] 25)).heap[gc]? = some (o6 (rf p)) := alloc_past hgrY
          have y_c := Bh5_s HSY
          have y_f := Bh5_sf HSY
          have slt : w.heap.size < Y.heap.size := by have := HSY.2.2.2.1; omega
          have slt2 := Nat.ne_of_lt slt
          have HBZ := HZ.out.1
          clear HZ hgZ hgrY hgr hcge HBX
          have zlt : w.heap.size + 1 + 1 < Y.heap.size := by have := HSY.2.2.2.1; omega
          have zlt2 := Nat.ne_of_lt zlt
          go_wp2_with fail
          have z_c : ∀ j, Y.cell? ⟨w.heap.size + 1 + 1, j, none⟩ = (#[.int .i64 0, .int .i64 0, .int .i64 0, .int .i64 0, .int .i64 0, .int .i64 0] : Array Value)[j]? := oz_c HSY.2.2.1
          have z_f : ∀ j, Y.frozen? ⟨w.heap.size + 1 + 1, j, none⟩ = false := oz_f HSY.2.2.1
          have hBB := HBZ.2.2.2.2
          go_region
          all_goals
            go_wp2_with fail
            generalize hX : (World.alloc _ _ : World) = X
            have qx : X.heap[w.heap.size + 1 + 1]? = some (.cells #[.int .i64 (rowv (F 0)), .int .i64 (rowv (F 1)), .int .i64 (rowv (F 2)), .int .i64 (rowv (F 3)), .int .i64 (rowv (F 4)), .int .i64 (rowv (F 5))] 25 (0, 0)) := by rw [← hX]; exact alloc_past (set6a _ _ _ _ _ _ HSY.2.2.1)
            have hB : Below w.heap.size w X := by rw [← hX]; exact (below6 HSY.2.2.2.2 (by omega)).alloc (by have := HSY.2.2.2.2.size; simpa using this) _
            clear hX z_c z_f
            have x_c := fun j => cell_of_row X _ j _ _ _ qx
            exact bodyPost_ret (v := .tuple #[.int .i64 (n : Int), .agg #[.int .i64 (rowv (F 0)), .int .i64 (rowv (F 1)), .int .i64 (rowv (F 2)), .int .i64 (rowv (F 3)), .int .i64 (rowv (F 4)), .int .i64 (rowv (F 5))], .bool true]) (by simp [results, Try.results46, go_sem, x_c]) rfl ⟨by rw [HF.out, HNn.out], by first | with_reducible exact hB | with_reducible exact hB.drew⟩
        · simp only [hw, Bool.not_true] at e1
          clear hor
          go_wp2_with fail
          have z_c : ∀ j, wr.cell? ⟨w.heap.size + 1 + 1, j, none⟩ = (#[.int .i64 0, .int .i64 0, .int .i64 0, .int .i64 0, .int .i64 0, .int .i64 0] : Array Value)[j]? := oz_c HBX.2.2.1
          have z_f : ∀ j, wr.frozen? ⟨w.heap.size + 1 + 1, j, none⟩ = false := oz_f HBX.2.2.1
          have hBB := HBX.2.2.2.2
          go_region
          all_goals
            go_wp2_with fail
            refine bodyPost_ret (v := .tuple #[.int .i64 (n : Int), .agg #[.int .i64 (rowv (F 0)), .int .i64 (rowv (F 1)), .int .i64 (rowv (F 2)), .int .i64 (rowv (F 3)), .int .i64 (rowv (F 4)), .int .i64 (rowv (F 5))], .bool true]) (by simp [results, Try.results46, go_sem, z_c]) rfl ⟨by rw [HF.out, HNn.out], ?_⟩
            first | with_reducible exact below6 hBB (by omega) | with_reducible exact (below6 hBB (by omega)).drew | with_reducible exact below6 hBB.drew (by omega)
      · have hge : ¬ ((n : Int) < 12) := by omega
        clear hnN
        cases hw : wh5 F
        · simp only [hw, Bool.not_false] at e1
          go_wp2_with fail
          have z_c : ∀ j, wr.cell? ⟨w.heap.size + 1 + 1, j, none⟩ = (#[.int .i64 0, .int .i64 0, .int .i64 0, .int .i64 0, .int .i64 0, .int .i64 0] : Array Value)[j]? := oz_c HBX.2.2.1
          have z_f : ∀ j, wr.frozen? ⟨w.heap.size + 1 + 1, j, none⟩ = false := oz_f HBX.2.2.1
          have hBB := HBX.2.2.2.2
          go_region
          all_goals
            go_wp2_with fail
            refine bodyPost_ret (v := .tuple #[.int .i64 (n : Int), .agg #[.int .i64 (rowv (F 0)), .int .i64 (rowv (F 1)), .int .i64 (rowv (F 2)), .int .i64 (rowv (F 3)), .int .i64 (rowv (F 4)), .int .i64 (rowv (F 5))], .bool true]) (by simp [results, Try.results46, go_sem, z_c]) rfl ⟨by rw [HF.out, HNn.out], ?_⟩
            first | with_reducible exact below6 hBB (by omega) | with_reducible exact (below6 hBB (by omega)).drew | with_reducible exact below6 hBB.drew (by omega)
        · simp only [hw, Bool.not_true] at e1
          go_wp2_with fail
          have z_c : ∀ j, wr.cell? ⟨w.heap.size + 1 + 1, j, none⟩ = (#[.int .i64 0, .int .i64 0, .int .i64 0, .int .i64 0, .int .i64 0, .int .i64 0] : Array Value)[j]? := oz_c HBX.2.2.1
          have z_f : ∀ j, wr.frozen? ⟨w.heap.size + 1 + 1, j, none⟩ = false := oz_f HBX.2.2.1
          have hBB := HBX.2.2.2.2
          go_region
          all_goals
            go_wp2_with fail
            refine bodyPost_ret (v := .tuple #[.int .i64 (n : Int), .agg #[.int .i64 (rowv (F 0)), .int .i64 (rowv (F 1)), .int .i64 (rowv (F 2)), .int .i64 (rowv (F 3)), .int .i64 (rowv (F 4)), .int .i64 (rowv (F 5))], .bool true]) (by simp [results, Try.results46, go_sem, z_c]) rfl ⟨by rw [HF.out, HNn.out], ?_⟩
            first | with_reducible exact below6 hBB (by omega) | with_reducible exact (below6 hBB (by omega)).drew | with_reducible exact below6 hBB.drew (by omega)
end Go.Proofs.Ytjhokdccgachcaa
