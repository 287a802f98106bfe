/- CONTRACTS: TimesToFill, the model's and the code's. -/
import Derived.Test.YtjhokdccgachcaaBs5
import Derived.WalkKit
import Derived.ProofKit
import Derived.OpenShut
import Derived.Lib.Hide
import Derived.WalkSpells
import Derived.Below
import Derived.BigQuiet
import Derived.LoopN
namespace Go.Proofs.Ytjhokdccgachcaa
open Go.ChangeShapes Go.WideShapes Go.ChangeAt Go.RowKit
set_option linter.unusedVariables false
set_option maxHeartbeats 4000000 in
theorem stf_yes (s p : Fn6) (N : Nat) (hN : N ≤ 13) (hno : ∀ m, m < N → fl5 (spn5 s p m) = false) (hyes : N < 13 → fl5 (spn5 s p N) = true) (K0 : Hid (∀ w, Calls Try.prog 91 #[.agg #[.int .i64 (rowv (s 0)), .int .i64 (rowv (s 1)), .int .i64 (rowv (s 2)), .int .i64 (rowv (s 3)), .int .i64 (rowv (s 4)), .int .i64 (rowv (s 5))]] w fun e w' => e = .returned (.bool true) ∧ Below w.heap.size w w')) (K1 : Hid (∀ w, Calls Try.prog 91 #[.agg #[.int .i64 (rowv (p 0)), .int .i64 (rowv (p 1)), .int .i64 (rowv (p 2)), .int .i64 (rowv (p 3)), .int .i64 (rowv (p 4)), .int .i64 (rowv (p 5))]] w fun e w' => e = .returned (.bool true) ∧ Below w.heap.size w w')) (w : World) : Calls Try.prog 43 #[.agg #[.int .i64 (rowv (s 0)), .int .i64 (rowv (s 1)), .int .i64 (rowv (s 2)), .int .i64 (rowv (s 3)), .int .i64 (rowv (s 4)), .int .i64 (rowv (s 5))], .agg #[.int .i64 (rowv (p 0)), .int .i64 (rowv (p 1)), .int .i64 (rowv (p 2)), .int .i64 (rowv (p 3)), .int .i64 (rowv (p 4)), .int .i64 (rowv (p 5))]] w fun e w' => e = .returned (.tuple #[.int .i64 (if N < 13 then (N : Int) else 0), .bool (decide (N < 13))]) ∧ Below w.heap.size w w' := by
  have Hno := Lib.hid hno
  have Hyes := Lib.hid hyes
  clear hno hyes
  go_enter Try.func43, Try.ntmps43
  go_wp2_with fail
  generalize hW : (World.alloc _ _ : World) = W0
  have hB0 : Below w.heap.size w W0 := by rw [← hW]; (repeat (first | exact Below.refl _ _ | assumption | refine Below.setCell ?_ (by first | (simp; done) | (simp; omega)) _ | refine Below.alloc ?_ (by first | (simp; done) | (simp; omega)) _ | refine Below.drew ?_))
  have q0 : W0.heap[(w.heap.size : Nat)]? = some (o6 s) := by
    rw [← hW]
    repeat (first | (refine alloc_at ?_; first | (simp; done) | (simp; omega)) | refine drew_row ?_ | refine alloc_past ?_ | assumption)
  have q1 : W0.heap[(w.heap.size + 1 : Nat)]? = some (o6 p) := by
    rw [← hW]
    repeat (first | (refine alloc_at ?_; first | (simp; done) | (simp; omega)) | refine drew_row ?_ | refine alloc_past ?_ | assumption)
  have hk : KR 2 [(w.heap.size, o6 s), (w.heap.size + 1, o6 p)] w W0 := ⟨by simp [q0, q1], by rw [← hW]; simp, hB0⟩
  clear hW hB0 q0 q1
  have HS : Hid (Bs5 w p s W0) := Lib.hid ⟨hk.row (g := w.heap.size) (o := o6 s) (by simp), hk.row (g := w.heap.size + 1) (o := o6 p) (by simp), hk.2.1, hk.2.2⟩
  clear hk
  have s_c := Bs5_s HS.out
  go_wp2_with fail
  refine (K0.out _).mono ?_
  rintro e V0 ⟨rfl, hb⟩
  have HS := Lib.hid (HS.out.far hb rfl)
  clear hb s_c
  have p_c := Bs5_p HS.out
  go_wp2_with fail
  refine (K1.out _).mono ?_
  rintro e V1 ⟨rfl, hb⟩
  have HS := Lib.hid (HS.out.far hb rfl)
  clear hb p_c K0 K1
  have S0 : Hid (Bs5 w p (spn5 s p 0) V1) := HS
  clear HS
  go_wp2_with fail
  go_loopw [6] (fun c wr => ∃ n : Nat, n ≤ N ∧ c = .int .i64 n ∧ Hid (Bs5 w p (spn5 s p n) wr)) (fun c _ => 13 - (intOf c).toNat)
  case atStart => exact ⟨0, by omega, rfl, S0⟩
  case round =>
    obtain ⟨n, hn, rfl, HS⟩ := hrel
    by_cases h13 : n < 13
    · have hlt' : (n : Int) ≤ 12 := by omega
      have hlt2 : (n : Int) < 13 := by omega
      obtain ⟨F, hF⟩ : ∃ F, F = spn5 s p n := ⟨_, rfl⟩
      rw [← hF] at HS
      have HF := Lib.hid hF
      clear hF
      have he := eq_full F
      have HN := Lib.hid lfull_f
      have HL := Lib.hid (lspread_f F p)
      have hk := HS.out
      skip
      clear HS
      cases hb : fl5 F
      all_goals
        simp only [hb] at he
        have s_c := Bs5_s hk
        go_wp2_with fail
        clear s_c
        set_option maxRecDepth 8000 in
        go_region_held3 (fun U => U.cell? ⟨w.heap.size, 0, none⟩ = some (.int .i64 (rowv (F 0))) ∧ U.cell? ⟨w.heap.size, 1, none⟩ = some (.int .i64 (rowv (F 1))) ∧ U.cell? ⟨w.heap.size, 2, none⟩ = some (.int .i64 (rowv (F 2))) ∧ U.cell? ⟨w.heap.size, 3, none⟩ = some (.int .i64 (rowv (F 3))) ∧ U.cell? ⟨w.heap.size, 4, none⟩ = some (.int .i64 (rowv (F 4))) ∧ U.cell? ⟨w.heap.size, 5, none⟩ = some (.int .i64 (rowv (F 5))) ∧ Bs5 w p F U) (with_reducible refine SB5 ?_; (repeat (first | with_reducible assumption | with_reducible refine Bs5.al ?_ | with_reducible refine Bs5.drew ?_))) (first | (go_at_call 107; with_reducible refine (HN.out _).mono ?_; rintro e w' ⟨rfl, hb'⟩; have hk : Bs5 w p F w' := Bs5.far (by (repeat (first | with_reducible assumption | with_reducible refine Bs5.al ?_ | with_reducible refine Bs5.drew ?_))) hb' rfl))
      · have hnN : n < N := by
          rcases Nat.lt_or_ge n N with h | h
          · exact h
          · have : n = N := by omega
            subst this
            have := Hyes.out h13
            rw [← HF.out, hb] at this
            cases this
        have s_c := Bs5_s hk
        have p_c := Bs5_p hk
        go_wp2_with fail
        refine (HL.out _).mono ?_
        rintro e W3 ⟨rfl, hb3⟩
        have HS3 := Lib.hid (hk.far hb3 rfl)
        skip
        have s_c := Bs5_s HS3.out
        have s_f := Bs5_sf HS3.out
        clear hk hb3
        go_wp2_with fail
        have HI := Lib.hid (HS3.out.put (spd F p))
        skip
        clear HS3 s_c s_f
        go_roundw
        case rel => exact ⟨n + 1, by omega, by go_num, by have hF := HF.out; subst hF; exact HI⟩
        case measure => simp [intOf]; omega
      · have hnN : n = N := by
          rcases Nat.lt_or_ge n N with h | h
          · have := Hno.out n h
            rw [← HF.out, hb] at this
            cases this
          · omega
        have hB := hk.2.2.2
        go_wp2_with fail
        go_ret2
        exact ⟨by subst hnN; simp, hB⟩
    · have hn13 : n = 13 := by omega
      subst hn13
      obtain rfl : N = 13 := by omega
      have hB := HS.out.2.2.2
      go_wp2_with fail
      go_ret2
      exact ⟨rfl, hB⟩
set_option maxHeartbeats 4000000 in
theorem itf_yes (s p : Fn6) (N : Nat) (hN : N ≤ 13) (hno : ∀ m, m < N → fl5 (spn5 s p m) = false) (hyes : N < 13 → fl5 (spn5 s p N) = true) (K0 : Hid (∀ w, Calls Try.prog 104 #[.agg #[.int .i64 (rowv (s 0)), .int .i64 (rowv (s 1)), .int .i64 (rowv (s 2)), .int .i64 (rowv (s 3)), .int .i64 (rowv (s 4)), .int .i64 (rowv (s 5))]] w fun e w' => e = .returned (.bool true) ∧ Below w.heap.size w w')) (K1 : Hid (∀ w, Calls Try.prog 104 #[.agg #[.int .i64 (rowv (p 0)), .int .i64 (rowv (p 1)), .int .i64 (rowv (p 2)), .int .i64 (rowv (p 3)), .int .i64 (rowv (p 4)), .int .i64 (rowv (p 5))]] w fun e w' => e = .returned (.bool true) ∧ Below w.heap.size w w')) (w : World) : Calls Try.prog 44 #[.agg #[.int .i64 (rowv (s 0)), .int .i64 (rowv (s 1)), .int .i64 (rowv (s 2)), .int .i64 (rowv (s 3)), .int .i64 (rowv (s 4)), .int .i64 (rowv (s 5))], .agg #[.int .i64 (rowv (p 0)), .int .i64 (rowv (p 1)), .int .i64 (rowv (p 2)), .int .i64 (rowv (p 3)), .int .i64 (rowv (p 4)), .int .i64 (rowv (p 5))]] w fun e w' => e = .returned (.tuple #[.int .i64 (if N < 13 then (N : Int) else 0), .bool (decide (N < 13))]) ∧ Below w.heap.size w w' := by
  have Hno := Lib.hid hno
  have Hyes := Lib.hid hyes
  clear hno hyes
  have hmf : ∀ (fn : Fn) (first cap : Array Value) (w : World), (Instr.makeFunc fn first cap).run Try.prog w = .ok (.func fn first cap) w := fun _ _ _ _ => rfl
  have HSP := Lib.hid (spreading_g p)
  go_enter Try.func44, Try.ntmps44
  go_wp2_with fail
  generalize hW : (World.alloc _ _ : World) = W0
  have hB0 : Below w.heap.size w W0 := by rw [← hW]; (repeat (first | exact Below.refl _ _ | assumption | refine Below.setCell ?_ (by first | (simp; done) | (simp; omega)) _ | refine Below.alloc ?_ (by first | (simp; done) | (simp; omega)) _ | refine Below.drew ?_))
  have q0 : W0.heap[(w.heap.size : Nat)]? = some (o6 s) := by
    rw [← hW]
    repeat (first | (refine alloc_at ?_; first | (simp; done) | (simp; omega)) | refine drew_row ?_ | refine alloc_past ?_ | assumption)
  have q1 : W0.heap[(w.heap.size + 1 : Nat)]? = some (o6 p) := by
    rw [← hW]
    repeat (first | (refine alloc_at ?_; first | (simp; done) | (simp; omega)) | refine drew_row ?_ | refine alloc_past ?_ | assumption)
  have hk : KR 2 [(w.heap.size, o6 s), (w.heap.size + 1, o6 p)] w W0 := ⟨by simp [q0, q1], by rw [← hW]; simp, hB0⟩
  clear hW hB0 q0 q1
  have HS : Hid (Bs5 w p s W0) := Lib.hid ⟨hk.row (g := w.heap.size) (o := o6 s) (by simp), hk.row (g := w.heap.size + 1) (o := o6 p) (by simp), hk.2.1, hk.2.2⟩
  clear hk
  have s_c := Bs5_s HS.out
  go_wp2_with fail
  refine (K0.out _).mono ?_
  rintro e V0 ⟨rfl, hb⟩
  have HS := Lib.hid (HS.out.far hb rfl)
  clear hb s_c
  have p_c := Bs5_p HS.out
  go_wp2_with fail
  refine (K1.out _).mono ?_
  rintro e V1 ⟨rfl, hb⟩
  have HS := Lib.hid (HS.out.far hb rfl)
  clear hb p_c K0 K1
  have p_c := Bs5_p HS.out
  go_wp2_with fail
  refine (HSP.out _).mono ?_
  rintro e V2 ⟨g, rfl, hg, hge, hb⟩
  have hgge : g ≠ w.heap.size := by have := HS.out.2.2.1; omega
  have S0 : Hid (Bs5 w p (spn5 s p 0) V2 ∧ V2.heap[g]? = some (o6 p) ∧ g ≠ w.heap.size) := Lib.hid ⟨HS.out.far hb rfl, hg, hgge⟩
  clear hb HS p_c HSP hg
  go_wp2_with fail
  go_loopw [18] (fun c wr => ∃ n : Nat, n ≤ N ∧ c = .int .i64 n ∧ Hid (Bs5 w p (spn5 s p n) wr ∧ wr.heap[g]? = some (o6 p) ∧ g ≠ w.heap.size)) (fun c _ => 13 - (intOf c).toNat)
  case atStart => exact ⟨0, by omega, rfl, S0⟩
  case round =>
    obtain ⟨n, hn, rfl, HS⟩ := hrel
    by_cases h13 : n < 13
    · have hlt' : (n : Int) ≤ 12 := by omega
      have hlt2 : (n : Int) < 13 := by omega
      obtain ⟨F, hF⟩ : ∃ F, F = spn5 s p n := ⟨_, rfl⟩
      rw [← hF] at HS
      have HF := Lib.hid hF
      clear hF
      have he := eq_full F
      have HN := Lib.hid full_any
      have HL := Lib.hid (fun w2 h => spread_1 F p g w2 h)
      have hk := HS.out.1
      have hgr := HS.out.2.1
      have hgn := HS.out.2.2
      clear HS
      cases hb : fl5 F
      all_goals
        simp only [hb] at he
        have s_c := Bs5_s hk
        go_wp2_with fail
        clear s_c
        set_option maxRecDepth 8000 in
        go_region_held3 (fun U => U.cell? ⟨w.heap.size, 0, none⟩ = some (.int .i64 (rowv (F 0))) ∧ U.cell? ⟨w.heap.size, 1, none⟩ = some (.int .i64 (rowv (F 1))) ∧ U.cell? ⟨w.heap.size, 2, none⟩ = some (.int .i64 (rowv (F 2))) ∧ U.cell? ⟨w.heap.size, 3, none⟩ = some (.int .i64 (rowv (F 3))) ∧ U.cell? ⟨w.heap.size, 4, none⟩ = some (.int .i64 (rowv (F 4))) ∧ U.cell? ⟨w.heap.size, 5, none⟩ = some (.int .i64 (rowv (F 5))) ∧ Bs5 w p F U) (with_reducible refine SB5 ?_; (repeat (first | with_reducible assumption | with_reducible refine Bs5.al ?_ | with_reducible refine Bs5.drew ?_))) (first | (go_at_call 109; with_reducible refine (HN.out _).mono ?_; rintro e w' ⟨rfl, hb'⟩; have hk : Bs5 w p F w' := Bs5.far (by (repeat (first | with_reducible assumption | with_reducible refine Bs5.al ?_ | with_reducible refine Bs5.drew ?_))) hb' rfl; have hgr : w'.heap[g]? = some (o6 p) := rowk (by first | with_reducible assumption | (with_reducible refine drew_row ?_; with_reducible assumption)) hb' rfl))
      · have hnN : n < N := by
          rcases Nat.lt_or_ge n N with h | h
          · exact h
          · have : n = N := by omega
            subst this
            have := Hyes.out h13
            rw [← HF.out, hb] at this
            cases this
        have s_c := Bs5_s hk
        have p_c := Bs5_p hk
        go_wp2_with fail
        refine (HL.out _ hgr).mono ?_
        rintro e W3 ⟨rfl, hb3⟩
        have HS3 := Lib.hid (hk.far hb3 rfl)
        have hgr3 := rowk hgr hb3 rfl
        have s_c := Bs5_s HS3.out
        have s_f := Bs5_sf HS3.out
        clear hk hb3
        go_wp2_with fail
        have HI := Lib.hid (HS3.out.put (spd F p))
        have HG := Lib.hid (set6o (.int .i64 (rowv (spd F p 0))) (.int .i64 (rowv (spd F p 1))) (.int .i64 (rowv (spd F p 2))) (.int .i64 (rowv (spd F p 3))) (.int .i64 (rowv (spd F p 4))) (.int .i64 (rowv (spd F p 5))) hgn hgr3)
        clear HS3 s_c s_f
        go_roundw
        case rel => exact ⟨n + 1, by omega, by go_num, by have hF := HF.out; subst hF; exact Lib.hid ⟨HI.out, HG.out, hgn⟩⟩
        case measure => simp [intOf]; omega
      · have hnN : n = N := by
          rcases Nat.lt_or_ge n N with h | h
          · have := Hno.out n h
            rw [← HF.out, hb] at this
            cases this
          · omega
        have hB := hk.2.2.2
        go_wp2_with fail
        go_ret2
        exact ⟨by subst hnN; simp, hB⟩
    · have hn13 : n = 13 := by omega
      subst hn13
      obtain rfl : N = 13 := by omega
      have hB := HS.out.1.2.2.2
      go_wp2_with fail
      go_ret2
      exact ⟨rfl, hB⟩
end Go.Proofs.Ytjhokdccgachcaa
