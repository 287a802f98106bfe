/- CONTRACTS: a step repeated. -/
import Derived.Test.YtjhokdccgachcaaPm5
import Derived.RegionTactic
import Derived.StillTailTactics
import Derived.Laws.CopyRow
import Derived.Laws.CopyOwn
import Derived.WalkKit
import Derived.ProofKit
import Derived.OpenShut
import Derived.Lib.Hide
import Derived.WalkSpells
import Derived.Below
import Derived.BigQuiet
import Derived.LoopN
namespace Go.Proofs.Ytjhokdccgachcaa
open Go.ChangeShapes Go.WideShapes Go.ChangeAt Go.RowKit
set_option linter.unusedVariables false
theorem mul64_0 (w : World) : Calls Try.prog 175 #[.int .u64 1, .int .u64 0] w fun e w' => e = .returned (.tuple #[.int .u64 0, .int .u64 0]) ∧ w' = w := by
  go_enter Try.func175, Try.ntmps175
  go_wp2_with fail
  go_ret2
  exact ⟨by kernel_rfl, rfl⟩
theorem mul_0 (w : World) : Calls Try.prog 161 #[.int .u64 1, .int .u64 0] w fun e w' => e = .returned (.tuple #[.int .u64 0, .int .u64 0]) ∧ w' = w := by
  go_enter Try.func161, Try.ntmps161
  go_wp2_with fail
  refine (mul64_0 _).mono ?_
  rintro e w' ⟨rfl, rfl⟩
  go_wp2_with fail
  go_ret2
  exact ⟨rfl, rfl⟩
theorem mul64_1 (w : World) : Calls Try.prog 175 #[.int .u64 1, .int .u64 1] w fun e w' => e = .returned (.tuple #[.int .u64 0, .int .u64 1]) ∧ w' = w := by
  go_enter Try.func175, Try.ntmps175
  go_wp2_with fail
  go_ret2
  exact ⟨by kernel_rfl, rfl⟩
theorem mul_1 (w : World) : Calls Try.prog 161 #[.int .u64 1, .int .u64 1] w fun e w' => e = .returned (.tuple #[.int .u64 0, .int .u64 1]) ∧ w' = w := by
  go_enter Try.func161, Try.ntmps161
  go_wp2_with fail
  refine (mul64_1 _).mono ?_
  rintro e w' ⟨rfl, rfl⟩
  go_wp2_with fail
  go_ret2
  exact ⟨rfl, rfl⟩
theorem mul64_2 (w : World) : Calls Try.prog 175 #[.int .u64 1, .int .u64 2] w fun e w' => e = .returned (.tuple #[.int .u64 0, .int .u64 2]) ∧ w' = w := by
  go_enter Try.func175, Try.ntmps175
  go_wp2_with fail
  go_ret2
  exact ⟨by kernel_rfl, rfl⟩
theorem mul_2 (w : World) : Calls Try.prog 161 #[.int .u64 1, .int .u64 2] w fun e w' => e = .returned (.tuple #[.int .u64 0, .int .u64 2]) ∧ w' = w := by
  go_enter Try.func161, Try.ntmps161
  go_wp2_with fail
  refine (mul64_2 _).mono ?_
  rintro e w' ⟨rfl, rfl⟩
  go_wp2_with fail
  go_ret2
  exact ⟨rfl, rfl⟩
theorem mul64_3 (w : World) : Calls Try.prog 175 #[.int .u64 1, .int .u64 3] w fun e w' => e = .returned (.tuple #[.int .u64 0, .int .u64 3]) ∧ w' = w := by
  go_enter Try.func175, Try.ntmps175
  go_wp2_with fail
  go_ret2
  exact ⟨by kernel_rfl, rfl⟩
theorem mul_3 (w : World) : Calls Try.prog 161 #[.int .u64 1, .int .u64 3] w fun e w' => e = .returned (.tuple #[.int .u64 0, .int .u64 3]) ∧ w' = w := by
  go_enter Try.func161, Try.ntmps161
  go_wp2_with fail
  refine (mul64_3 _).mono ?_
  rintro e w' ⟨rfl, rfl⟩
  go_wp2_with fail
  go_ret2
  exact ⟨rfl, rfl⟩
theorem mul64_4 (w : World) : Calls Try.prog 175 #[.int .u64 1, .int .u64 4] w fun e w' => e = .returned (.tuple #[.int .u64 0, .int .u64 4]) ∧ w' = w := by
  go_enter Try.func175, Try.ntmps175
  go_wp2_with fail
  go_ret2
  exact ⟨by kernel_rfl, rfl⟩
theorem mul_4 (w : World) : Calls Try.prog 161 #[.int .u64 1, .int .u64 4] w fun e w' => e = .returned (.tuple #[.int .u64 0, .int .u64 4]) ∧ w' = w := by
  go_enter Try.func161, Try.ntmps161
  go_wp2_with fail
  refine (mul64_4 _).mono ?_
  rintro e w' ⟨rfl, rfl⟩
  go_wp2_with fail
  go_ret2
  exact ⟨rfl, rfl⟩
theorem mul64_5 (w : World) : Calls Try.prog 175 #[.int .u64 1, .int .u64 5] w fun e w' => e = .returned (.tuple #[.int .u64 0, .int .u64 5]) ∧ w' = w := by
  go_enter Try.func175, Try.ntmps175
  go_wp2_with fail
  go_ret2
  exact ⟨by kernel_rfl, rfl⟩
theorem mul_5 (w : World) : Calls Try.prog 161 #[.int .u64 1, .int .u64 5] w fun e w' => e = .returned (.tuple #[.int .u64 0, .int .u64 5]) ∧ w' = w := by
  go_enter Try.func161, Try.ntmps161
  go_wp2_with fail
  refine (mul64_5 _).mono ?_
  rintro e w' ⟨rfl, rfl⟩
  go_wp2_with fail
  go_ret2
  exact ⟨rfl, rfl⟩
theorem mul64_6 (w : World) : Calls Try.prog 175 #[.int .u64 1, .int .u64 6] w fun e w' => e = .returned (.tuple #[.int .u64 0, .int .u64 6]) ∧ w' = w := by
  go_enter Try.func175, Try.ntmps175
  go_wp2_with fail
  go_ret2
  exact ⟨by kernel_rfl, rfl⟩
theorem mul_6 (w : World) : Calls Try.prog 161 #[.int .u64 1, .int .u64 6] w fun e w' => e = .returned (.tuple #[.int .u64 0, .int .u64 6]) ∧ w' = w := by
  go_enter Try.func161, Try.ntmps161
  go_wp2_with fail
  refine (mul64_6 _).mono ?_
  rintro e w' ⟨rfl, rfl⟩
  go_wp2_with fail
  go_ret2
  exact ⟨rfl, rfl⟩
theorem mul64_7 (w : World) : Calls Try.prog 175 #[.int .u64 1, .int .u64 7] w fun e w' => e = .returned (.tuple #[.int .u64 0, .int .u64 7]) ∧ w' = w := by
  go_enter Try.func175, Try.ntmps175
  go_wp2_with fail
  go_ret2
  exact ⟨by kernel_rfl, rfl⟩
theorem mul_7 (w : World) : Calls Try.prog 161 #[.int .u64 1, .int .u64 7] w fun e w' => e = .returned (.tuple #[.int .u64 0, .int .u64 7]) ∧ w' = w := by
  go_enter Try.func161, Try.ntmps161
  go_wp2_with fail
  refine (mul64_7 _).mono ?_
  rintro e w' ⟨rfl, rfl⟩
  go_wp2_with fail
  go_ret2
  exact ⟨rfl, rfl⟩
theorem mul64_8 (w : World) : Calls Try.prog 175 #[.int .u64 1, .int .u64 8] w fun e w' => e = .returned (.tuple #[.int .u64 0, .int .u64 8]) ∧ w' = w := by
  go_enter Try.func175, Try.ntmps175
  go_wp2_with fail
  go_ret2
  exact ⟨by kernel_rfl, rfl⟩
theorem mul_8 (w : World) : Calls Try.prog 161 #[.int .u64 1, .int .u64 8] w fun e w' => e = .returned (.tuple #[.int .u64 0, .int .u64 8]) ∧ w' = w := by
  go_enter Try.func161, Try.ntmps161
  go_wp2_with fail
  refine (mul64_8 _).mono ?_
  rintro e w' ⟨rfl, rfl⟩
  go_wp2_with fail
  go_ret2
  exact ⟨rfl, rfl⟩
theorem mul64_9 (w : World) : Calls Try.prog 175 #[.int .u64 1, .int .u64 9] w fun e w' => e = .returned (.tuple #[.int .u64 0, .int .u64 9]) ∧ w' = w := by
  go_enter Try.func175, Try.ntmps175
  go_wp2_with fail
  go_ret2
  exact ⟨by kernel_rfl, rfl⟩
theorem mul_9 (w : World) : Calls Try.prog 161 #[.int .u64 1, .int .u64 9] w fun e w' => e = .returned (.tuple #[.int .u64 0, .int .u64 9]) ∧ w' = w := by
  go_enter Try.func161, Try.ntmps161
  go_wp2_with fail
  refine (mul64_9 _).mono ?_
  rintro e w' ⟨rfl, rfl⟩
  go_wp2_with fail
  go_ret2
  exact ⟨rfl, rfl⟩
theorem mul64_10 (w : World) : Calls Try.prog 175 #[.int .u64 1, .int .u64 10] w fun e w' => e = .returned (.tuple #[.int .u64 0, .int .u64 10]) ∧ w' = w := by
  go_enter Try.func175, Try.ntmps175
  go_wp2_with fail
  go_ret2
  exact ⟨by kernel_rfl, rfl⟩
theorem mul_10 (w : World) : Calls Try.prog 161 #[.int .u64 1, .int .u64 10] w fun e w' => e = .returned (.tuple #[.int .u64 0, .int .u64 10]) ∧ w' = w := by
  go_enter Try.func161, Try.ntmps161
  go_wp2_with fail
  refine (mul64_10 _).mono ?_
  rintro e w' ⟨rfl, rfl⟩
  go_wp2_with fail
  go_ret2
  exact ⟨rfl, rfl⟩
theorem mul64_11 (w : World) : Calls Try.prog 175 #[.int .u64 1, .int .u64 11] w fun e w' => e = .returned (.tuple #[.int .u64 0, .int .u64 11]) ∧ w' = w := by
  go_enter Try.func175, Try.ntmps175
  go_wp2_with fail
  go_ret2
  exact ⟨by kernel_rfl, rfl⟩
theorem mul_11 (w : World) : Calls Try.prog 161 #[.int .u64 1, .int .u64 11] w fun e w' => e = .returned (.tuple #[.int .u64 0, .int .u64 11]) ∧ w' = w := by
  go_enter Try.func161, Try.ntmps161
  go_wp2_with fail
  refine (mul64_11 _).mono ?_
  rintro e w' ⟨rfl, rfl⟩
  go_wp2_with fail
  go_ret2
  exact ⟨rfl, rfl⟩
theorem mul64_12 (w : World) : Calls Try.prog 175 #[.int .u64 1, .int .u64 12] w fun e w' => e = .returned (.tuple #[.int .u64 0, .int .u64 12]) ∧ w' = w := by
  go_enter Try.func175, Try.ntmps175
  go_wp2_with fail
  go_ret2
  exact ⟨by kernel_rfl, rfl⟩
theorem mul_12 (w : World) : Calls Try.prog 161 #[.int .u64 1, .int .u64 12] w fun e w' => e = .returned (.tuple #[.int .u64 0, .int .u64 12]) ∧ w' = w := by
  go_enter Try.func161, Try.ntmps161
  go_wp2_with fail
  refine (mul64_12 _).mono ?_
  rintro e w' ⟨rfl, rfl⟩
  go_wp2_with fail
  go_ret2
  exact ⟨rfl, rfl⟩
theorem mul_k (k : Nat) (hk : k ≤ 12) (w : World) : Calls Try.prog 161 #[.int .u64 1, .int .u64 (k : Int)] w fun e w' => e = .returned (.tuple #[.int .u64 0, .int .u64 (k : Int)]) ∧ w' = w := by
  have h : k = 0 ∨ k = 1 ∨ k = 2 ∨ k = 3 ∨ k = 4 ∨ k = 5 ∨ k = 6 ∨ k = 7 ∨ k = 8 ∨ k = 9 ∨ k = 10 ∨ k = 11 ∨ k = 12 := by omega
  rcases h with rfl | rfl | rfl | rfl | rfl | rfl | rfl | rfl | rfl | rfl | rfl | rfl | rfl
  · exact mul_0 w
  · exact mul_1 w
  · exact mul_2 w
  · exact mul_3 w
  · exact mul_4 w
  · exact mul_5 w
  · exact mul_6 w
  · exact mul_7 w
  · exact mul_8 w
  · exact mul_9 w
  · exact mul_10 w
  · exact mul_11 w
  · exact mul_12 w
theorem infoF : (Try.prog.info? 86).map (fun i => (i.zero, i.size, i.bytes)) = some (some .nilFunc, 1, 8) := by kernel_rfl
theorem madeF (m : Nat) : madeCells #[Value.nilFunc] m = (List.replicate m Value.nilFunc).toArray := by
  apply Array.ext'
  refine List.eq_replicate_iff.mpr ⟨by simp [madeCells], fun b hb => ?_⟩
  simp only [madeCells, Array.toList_map, List.mem_map] at hb
  obtain ⟨a, _, rfl⟩ := hb
  show (#[Value.nilFunc] : Array Value)[a % 1]! = Value.nilFunc
  rw [Nat.mod_one]
  rfl
/-- The row when n of k steps are laid. -/
def rr5 (n k : Nat) : List Value := List.replicate n (fv5 false) ++ List.replicate (k - n) Value.nilFunc
theorem rr5_len (n k : Nat) (h : n ≤ k) : (rr5 n k).length = k := by simp [rr5]; omega
theorem make_f (k : Nat) (hk : k ≤ 12) (w : World) : (Instr.makeSlice 96 (.int .i64 (k : Int)) (.int .i64 (k : Int))).run Try.prog w = .ok (.slice (some ⟨w.heap.size, 0, none⟩) k k) (w.alloc (.cells (rr5 0 k).toArray 86)) := by
  obtain ⟨i0, hi, hz⟩ : ∃ i0, Try.prog.info? 86 = some i0 ∧ (i0.zero, i0.size, i0.bytes) = (some .nilFunc, 1, 8) := by
    have h := infoF
    cases hh : Try.prog.info? 86 with
    | none => rw [hh] at h; simp at h
    | some i0 => rw [hh] at h; exact ⟨i0, rfl, by simpa using h⟩
  simp only [Prod.mk.injEq] at hz
  obtain ⟨hz0, hz1, hz2⟩ := hz
  have h := run_make w 96 86 i0 .nilFunc Try.underlying96 hi hz0 .i64 .i64 (k : Int) (k : Int) (by omega) (by omega) (by rw [hz2]; omega) (by omega)
  rw [hz1, Int.toNat_natCast, Nat.mul_one] at h
  rw [h]
  have e : madeCells (Value.nilFunc).cells k = (rr5 0 k).toArray := by
    show madeCells #[Value.nilFunc] k = _
    rw [madeF]
    simp [rr5]
  rw [e]
theorem rr5_set (n k m : Nat) (h : n + m ≤ k) : (((rr5 n k).take n ++ List.replicate m (fv5 false)) ++ (rr5 n k).drop (n + m)) = rr5 (n + m) k := by
  apply List.ext_getElem?
  intro j
  simp only [rr5, List.getElem?_append, List.getElem?_take, List.getElem?_drop, List.getElem?_replicate, List.length_append, List.length_take, List.length_replicate]
  (repeat' split) <;> first | rfl | omega
/-- The steps of a row copied behind the n steps of another one. -/
theorem copy_f (n k sLen sCap gs g2 B : Nat) (w W : World) (h : n ≤ k) (hB : B ≤ g2) (hb : Below B w W) (hW : W.heap[g2]? = some (.cells (rr5 n k).toArray 86 (0, 0))) (hs : ∀ j, j < sLen → W.cell? ⟨gs, j, none⟩ = some (fv5 false)) : ∃ X, (Builtin.copy_ #[96, 96] 3 #[.slice (some ⟨g2, n, none⟩) (k - n) (k - n), .slice (some ⟨gs, 0, none⟩) sLen sCap]).run Try.prog W = .ok (.int .i64 ((min sLen (k - n) : Nat) : Int)) X ∧ X.heap[g2]? = some (.cells (rr5 (n + min sLen (k - n)) k).toArray 86 (0, 0)) ∧ Below B w X := by
  have hl : (List.replicate (min sLen (k - n)) (fv5 false)).length = Nat.min sLen (k - n) := List.length_replicate
  have hrl := rr5_len n k h
  have hx := run_copy_row (P := Try.prog) W 96 96 3 86 g2 n (k - n) (k - n) ⟨gs, 0, none⟩ sLen sCap (rr5 n k).toArray 86 (List.replicate (min sLen (k - n)) (fv5 false)) Try.underlying96 (by
      have h := infoF
      cases hh : Try.prog.info? 86 with
      | none => rw [hh] at h; simp at h
      | some i0 => rw [hh] at h; simp at h ⊢; exact h.2.1) hW hl (by
      intro j v hv
      rw [List.getElem?_replicate] at hv
      split at hv
      · cases hv
        have h2 := hs j (by omega)
        by_cases h0 : j = 0
        · subst h0
          simpa [Addr.add] using h2
        · simpa [Addr.add, h0] using h2
      · cases hv) (by rw [List.length_replicate, List.size_toArray, hrl]; omega) (by
      intro v hv
      rw [List.mem_replicate] at hv
      rw [hv.2]
      rfl)
  rw [List.length_replicate] at hx
  refine ⟨_, hx, ?_, below_setRow hb hB _⟩
  rw [setRow_heap _ _ _ _ _ _ hW, rr5_set n k _ (by omega)]
set_option maxRecDepth 20000 in
set_option maxHeartbeats 1000000 in
theorem rep_f (k : Nat) (hk : k ≤ 12) (g : Nat) (w : World) (hg : w.heap[g]? = some (.cells #[fv5 false] 86 (0, 0))) : Calls Try.prog 112 #[.slice (some ⟨g, 0, none⟩) 1 1, .int .i64 (k : Int)] w fun e w' => ∃ g2, e = .returned (.slice (some ⟨g2, 0, none⟩) k k) ∧ w'.heap[g2]? = some (.cells (rr5 k k).toArray 86 (0, 0)) ∧ Below w.heap.size w w' := by
  have hmk := make_f k hk
  obtain ⟨X, hc1, hc2, hc3⟩ := copy_f 0 k 1 1 g w.heap.size w.heap.size w (w.alloc (.cells (rr5 0 k).toArray 86)) (Nat.zero_le _) (Nat.le_refl _) (by (repeat (first | exact Below.refl _ _ | assumption | refine Below.setCell ?_ (by first | (simp; done) | (simp; omega)) _ | refine Below.alloc ?_ (by first | (simp; done) | (simp; omega)) _ | refine Below.drew ?_))) (alloc_at rfl) (fun j hj => by
    obtain rfl : j = 0 := by omega
    have h1 := alloc_past (o := .cells (rr5 0 k).toArray 86) hg
    have h2 := cell_of_row _ _ 0 _ _ _ h1
    exact h2)
  rw [Nat.sub_zero] at hc1
  rw [Nat.zero_add, Nat.sub_zero] at hc2
  have HM := Lib.hid (mul_k k hk)
  have hk0 : (0 : Int) ≤ k := by omega
  have hk12 : (k : Int) ≤ 12 := by omega
  have c1 : IntKind.u64.wrap (k : Int) = k := by simp only [IntKind.wrap, IntKind.signed, IntKind.bits]; simp; omega
  have c2 : IntKind.i64.wrap (k : Int) = k := by rw [IntKind.wrap_i64]; omega
  go_enter Try.func112, Try.ntmps112
  go_wp2_with fail
  refine (HM.out _).mono ?_
  rintro e w' ⟨rfl, hw⟩
  subst hw
  go_wp2_with fail
  have S0 : Hid (X.heap[w'.heap.size]? = some (.cells (rr5 (min 1 k) k).toArray 86 (0, 0)) ∧ Below w'.heap.size w' X) := Lib.hid ⟨hc2, hc3⟩
  clear hc1 hc2 hc3 hmk HM hg
  go_loopw [8] (fun c wr => ∃ n : Nat, min 1 k ≤ n ∧ n ≤ k ∧ c = .int .i64 n ∧ Hid (wr.heap[w'.heap.size]? = some (.cells (rr5 n k).toArray 86 (0, 0)) ∧ Below w'.heap.size w' wr)) (fun c _ => k - (intOf c).toNat)
  case atStart => exact ⟨min 1 k, Nat.le_refl _, by omega, rfl, S0⟩
  case round =>
    obtain ⟨n, hn1, hn, rfl, HS⟩ := hrel
    by_cases hlt : n < k
    · have hlt' : (n : Int) < k := by omega
      have hle' : (n : Int) ≤ k := by omega
      have hn0 : (0 : Int) ≤ n := by omega
      obtain ⟨Y, d1, d2, d3⟩ := copy_f n k n k w'.heap.size w'.heap.size w'.heap.size w' wr.drew hn (Nat.le_refl _) HS.out.2.drew (drew_row HS.out.1) (fun j hj => by
        have h2 := cell_of_row _ _ j _ _ _ (drew_row HS.out.1)
        rw [h2]
        simp only [rr5, List.getElem?_toArray, List.getElem?_append, List.length_replicate, hj, if_true, List.getElem?_replicate])
      obtain ⟨m, hm⟩ : ∃ m, m = min n (k - n) := ⟨_, rfl⟩
      rw [← hm] at d1 d2
      have hm1 : 0 < m := by omega
      have hm2 : n + m ≤ k := by omega
      have c3 : IntKind.i64.wrap ((n : Int) + (m : Int)) = ((n + m : Nat) : Int) := by rw [IntKind.wrap_i64]; omega
      have HD := Lib.hid d2
      have HB := Lib.hid d3
      clear hm d2 d3
      go_wp2_with fail
      go_region
      all_goals
        go_wp2_with fail
        go_roundw
        case rel => exact ⟨n + m, by omega, hm2, by go_num, Lib.hid ⟨HD.out, HB.out⟩⟩
        case measure => simp [intOf]; omega
    · obtain rfl : n = k := by omega
      have HX := HS
      go_wp2_with fail
      go_ret
      exact ⟨_, rfl, HX.out.1, HX.out.2⟩
end Go.Proofs.Ytjhokdccgachcaa
