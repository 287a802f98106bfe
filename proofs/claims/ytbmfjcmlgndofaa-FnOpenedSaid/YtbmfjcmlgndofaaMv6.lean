/- MERGED, for one claim's sake: Rp5, Bs5, St5, Tm5, Wn5, Sz, Bz, By, Lm5, Li5, Sk7, Bo5. -/
import Derived.Test.YtbmfjcmlgndofaaPm5
import Derived.Test.YtbmfjcmlgndofaaSc
import Derived.Test.YtbmfjcmlgndofaaKp
import Derived.Test.YtbmfjcmlgndofaaRh
import Derived.Test.YtbmfjcmlgndofaaSe
import Derived.Test.YtbmfjcmlgndofaaPb
import Derived.RegionTactic
import Derived.StillTailTactics
import Derived.Laws.CopyRow
import Derived.Laws.CopyOwn
import Derived.WalkKit
import Derived.ProofKit
import Derived.OpenShut
import Derived.Lib.Hide
import Derived.WalkSpells
import Derived.Below
import Derived.BigQuiet
import Derived.LoopN
import Derived.Deep.RegionHeld3
import Derived.Deep.Cut
namespace Go.Proofs.Ytbmfjcmlgndofaa
open Go.ChangeShapes Go.WideShapes Go.ChangeAt Go.RowKit
set_option linter.unusedVariables false
/- Rp5 -/
theorem mul64_0 (w : World) : Calls Try.prog 249 #[.int .u64 1, .int .u64 0] w fun e w' => e = .returned (.tuple #[.int .u64 0, .int .u64 0]) ∧ w' = w := by
  go_enter Try.func249, Try.ntmps249
  go_wp2_with fail
  go_ret2
  exact ⟨by kernel_rfl, rfl⟩
theorem mul_0 (w : World) : Calls Try.prog 239 #[.int .u64 1, .int .u64 0] w fun e w' => e = .returned (.tuple #[.int .u64 0, .int .u64 0]) ∧ w' = w := by
  go_enter Try.func239, Try.ntmps239
  go_wp2_with fail
  refine (mul64_0 _).mono ?_
  rintro e w' ⟨rfl, rfl⟩
  go_wp2_with fail
  go_ret2
  exact ⟨rfl, rfl⟩
theorem mul64_1 (w : World) : Calls Try.prog 249 #[.int .u64 1, .int .u64 1] w fun e w' => e = .returned (.tuple #[.int .u64 0, .int .u64 1]) ∧ w' = w := by
  go_enter Try.func249, Try.ntmps249
  go_wp2_with fail
  go_ret2
  exact ⟨by kernel_rfl, rfl⟩
theorem mul_1 (w : World) : Calls Try.prog 239 #[.int .u64 1, .int .u64 1] w fun e w' => e = .returned (.tuple #[.int .u64 0, .int .u64 1]) ∧ w' = w := by
  go_enter Try.func239, Try.ntmps239
  go_wp2_with fail
  refine (mul64_1 _).mono ?_
  rintro e w' ⟨rfl, rfl⟩
  go_wp2_with fail
  go_ret2
  exact ⟨rfl, rfl⟩
theorem mul64_2 (w : World) : Calls Try.prog 249 #[.int .u64 1, .int .u64 2] w fun e w' => e = .returned (.tuple #[.int .u64 0, .int .u64 2]) ∧ w' = w := by
  go_enter Try.func249, Try.ntmps249
  go_wp2_with fail
  go_ret2
  exact ⟨by kernel_rfl, rfl⟩
theorem mul_2 (w : World) : Calls Try.prog 239 #[.int .u64 1, .int .u64 2] w fun e w' => e = .returned (.tuple #[.int .u64 0, .int .u64 2]) ∧ w' = w := by
  go_enter Try.func239, Try.ntmps239
  go_wp2_with fail
  refine (mul64_2 _).mono ?_
  rintro e w' ⟨rfl, rfl⟩
  go_wp2_with fail
  go_ret2
  exact ⟨rfl, rfl⟩
theorem mul64_3 (w : World) : Calls Try.prog 249 #[.int .u64 1, .int .u64 3] w fun e w' => e = .returned (.tuple #[.int .u64 0, .int .u64 3]) ∧ w' = w := by
  go_enter Try.func249, Try.ntmps249
  go_wp2_with fail
  go_ret2
  exact ⟨by kernel_rfl, rfl⟩
theorem mul_3 (w : World) : Calls Try.prog 239 #[.int .u64 1, .int .u64 3] w fun e w' => e = .returned (.tuple #[.int .u64 0, .int .u64 3]) ∧ w' = w := by
  go_enter Try.func239, Try.ntmps239
  go_wp2_with fail
  refine (mul64_3 _).mono ?_
  rintro e w' ⟨rfl, rfl⟩
  go_wp2_with fail
  go_ret2
  exact ⟨rfl, rfl⟩
theorem mul64_4 (w : World) : Calls Try.prog 249 #[.int .u64 1, .int .u64 4] w fun e w' => e = .returned (.tuple #[.int .u64 0, .int .u64 4]) ∧ w' = w := by
  go_enter Try.func249, Try.ntmps249
  go_wp2_with fail
  go_ret2
  exact ⟨by kernel_rfl, rfl⟩
theorem mul_4 (w : World) : Calls Try.prog 239 #[.int .u64 1, .int .u64 4] w fun e w' => e = .returned (.tuple #[.int .u64 0, .int .u64 4]) ∧ w' = w := by
  go_enter Try.func239, Try.ntmps239
  go_wp2_with fail
  refine (mul64_4 _).mono ?_
  rintro e w' ⟨rfl, rfl⟩
  go_wp2_with fail
  go_ret2
  exact ⟨rfl, rfl⟩
theorem mul64_5 (w : World) : Calls Try.prog 249 #[.int .u64 1, .int .u64 5] w fun e w' => e = .returned (.tuple #[.int .u64 0, .int .u64 5]) ∧ w' = w := by
  go_enter Try.func249, Try.ntmps249
  go_wp2_with fail
  go_ret2
  exact ⟨by kernel_rfl, rfl⟩
theorem mul_5 (w : World) : Calls Try.prog 239 #[.int .u64 1, .int .u64 5] w fun e w' => e = .returned (.tuple #[.int .u64 0, .int .u64 5]) ∧ w' = w := by
  go_enter Try.func239, Try.ntmps239
  go_wp2_with fail
  refine (mul64_5 _).mono ?_
  rintro e w' ⟨rfl, rfl⟩
  go_wp2_with fail
  go_ret2
  exact ⟨rfl, rfl⟩
theorem mul64_6 (w : World) : Calls Try.prog 249 #[.int .u64 1, .int .u64 6] w fun e w' => e = .returned (.tuple #[.int .u64 0, .int .u64 6]) ∧ w' = w := by
  go_enter Try.func249, Try.ntmps249
  go_wp2_with fail
  go_ret2
  exact ⟨by kernel_rfl, rfl⟩
theorem mul_6 (w : World) : Calls Try.prog 239 #[.int .u64 1, .int .u64 6] w fun e w' => e = .returned (.tuple #[.int .u64 0, .int .u64 6]) ∧ w' = w := by
  go_enter Try.func239, Try.ntmps239
  go_wp2_with fail
  refine (mul64_6 _).mono ?_
  rintro e w' ⟨rfl, rfl⟩
  go_wp2_with fail
  go_ret2
  exact ⟨rfl, rfl⟩
theorem mul64_7 (w : World) : Calls Try.prog 249 #[.int .u64 1, .int .u64 7] w fun e w' => e = .returned (.tuple #[.int .u64 0, .int .u64 7]) ∧ w' = w := by
  go_enter Try.func249, Try.ntmps249
  go_wp2_with fail
  go_ret2
  exact ⟨by kernel_rfl, rfl⟩
theorem mul_7 (w : World) : Calls Try.prog 239 #[.int .u64 1, .int .u64 7] w fun e w' => e = .returned (.tuple #[.int .u64 0, .int .u64 7]) ∧ w' = w := by
  go_enter Try.func239, Try.ntmps239
  go_wp2_with fail
  refine (mul64_7 _).mono ?_
  rintro e w' ⟨rfl, rfl⟩
  go_wp2_with fail
  go_ret2
  exact ⟨rfl, rfl⟩
theorem mul64_8 (w : World) : Calls Try.prog 249 #[.int .u64 1, .int .u64 8] w fun e w' => e = .returned (.tuple #[.int .u64 0, .int .u64 8]) ∧ w' = w := by
  go_enter Try.func249, Try.ntmps249
  go_wp2_with fail
  go_ret2
  exact ⟨by kernel_rfl, rfl⟩
theorem mul_8 (w : World) : Calls Try.prog 239 #[.int .u64 1, .int .u64 8] w fun e w' => e = .returned (.tuple #[.int .u64 0, .int .u64 8]) ∧ w' = w := by
  go_enter Try.func239, Try.ntmps239
  go_wp2_with fail
  refine (mul64_8 _).mono ?_
  rintro e w' ⟨rfl, rfl⟩
  go_wp2_with fail
  go_ret2
  exact ⟨rfl, rfl⟩
theorem mul64_9 (w : World) : Calls Try.prog 249 #[.int .u64 1, .int .u64 9] w fun e w' => e = .returned (.tuple #[.int .u64 0, .int .u64 9]) ∧ w' = w := by
  go_enter Try.func249, Try.ntmps249
  go_wp2_with fail
  go_ret2
  exact ⟨by kernel_rfl, rfl⟩
theorem mul_9 (w : World) : Calls Try.prog 239 #[.int .u64 1, .int .u64 9] w fun e w' => e = .returned (.tuple #[.int .u64 0, .int .u64 9]) ∧ w' = w := by
  go_enter Try.func239, Try.ntmps239
  go_wp2_with fail
  refine (mul64_9 _).mono ?_
  rintro e w' ⟨rfl, rfl⟩
  go_wp2_with fail
  go_ret2
  exact ⟨rfl, rfl⟩
theorem mul64_10 (w : World) : Calls Try.prog 249 #[.int .u64 1, .int .u64 10] w fun e w' => e = .returned (.tuple #[.int .u64 0, .int .u64 10]) ∧ w' = w := by
  go_enter Try.func249, Try.ntmps249
  go_wp2_with fail
  go_ret2
  exact ⟨by kernel_rfl, rfl⟩
theorem mul_10 (w : World) : Calls Try.prog 239 #[.int .u64 1, .int .u64 10] w fun e w' => e = .returned (.tuple #[.int .u64 0, .int .u64 10]) ∧ w' = w := by
  go_enter Try.func239, Try.ntmps239
  go_wp2_with fail
  refine (mul64_10 _).mono ?_
  rintro e w' ⟨rfl, rfl⟩
  go_wp2_with fail
  go_ret2
  exact ⟨rfl, rfl⟩
theorem mul64_11 (w : World) : Calls Try.prog 249 #[.int .u64 1, .int .u64 11] w fun e w' => e = .returned (.tuple #[.int .u64 0, .int .u64 11]) ∧ w' = w := by
  go_enter Try.func249, Try.ntmps249
  go_wp2_with fail
  go_ret2
  exact ⟨by kernel_rfl, rfl⟩
theorem mul_11 (w : World) : Calls Try.prog 239 #[.int .u64 1, .int .u64 11] w fun e w' => e = .returned (.tuple #[.int .u64 0, .int .u64 11]) ∧ w' = w := by
  go_enter Try.func239, Try.ntmps239
  go_wp2_with fail
  refine (mul64_11 _).mono ?_
  rintro e w' ⟨rfl, rfl⟩
  go_wp2_with fail
  go_ret2
  exact ⟨rfl, rfl⟩
theorem mul64_12 (w : World) : Calls Try.prog 249 #[.int .u64 1, .int .u64 12] w fun e w' => e = .returned (.tuple #[.int .u64 0, .int .u64 12]) ∧ w' = w := by
  go_enter Try.func249, Try.ntmps249
  go_wp2_with fail
  go_ret2
  exact ⟨by kernel_rfl, rfl⟩
theorem mul_12 (w : World) : Calls Try.prog 239 #[.int .u64 1, .int .u64 12] w fun e w' => e = .returned (.tuple #[.int .u64 0, .int .u64 12]) ∧ w' = w := by
  go_enter Try.func239, Try.ntmps239
  go_wp2_with fail
  refine (mul64_12 _).mono ?_
  rintro e w' ⟨rfl, rfl⟩
  go_wp2_with fail
  go_ret2
  exact ⟨rfl, rfl⟩
theorem mul_k (k : Nat) (hk : k ≤ 12) (w : World) : Calls Try.prog 239 #[.int .u64 1, .int .u64 (k : Int)] w fun e w' => e = .returned (.tuple #[.int .u64 0, .int .u64 (k : Int)]) ∧ w' = w := by
  have h : k = 0 ∨ k = 1 ∨ k = 2 ∨ k = 3 ∨ k = 4 ∨ k = 5 ∨ k = 6 ∨ k = 7 ∨ k = 8 ∨ k = 9 ∨ k = 10 ∨ k = 11 ∨ k = 12 := by omega
  rcases h with rfl | rfl | rfl | rfl | rfl | rfl | rfl | rfl | rfl | rfl | rfl | rfl | rfl
  · exact mul_0 w
  · exact mul_1 w
  · exact mul_2 w
  · exact mul_3 w
  · exact mul_4 w
  · exact mul_5 w
  · exact mul_6 w
  · exact mul_7 w
  · exact mul_8 w
  · exact mul_9 w
  · exact mul_10 w
  · exact mul_11 w
  · exact mul_12 w
theorem infoF : (Try.prog.info? 149).map (fun i => (i.zero, i.size, i.bytes)) = some (some .nilFunc, 1, 8) := by kernel_rfl
theorem madeF (m : Nat) : madeCells #[Value.nilFunc] m = (List.replicate m Value.nilFunc).toArray := by
  apply Array.ext'
  refine List.eq_replicate_iff.mpr ⟨by simp [madeCells], fun b hb => ?_⟩
  simp only [madeCells, Array.toList_map, List.mem_map] at hb
  obtain ⟨a, _, rfl⟩ := hb
  show (#[Value.nilFunc] : Array Value)[a % 1]! = Value.nilFunc
  rw [Nat.mod_one]
  rfl
/-- The row when n of k steps are laid. -/
def rr5 (n k : Nat) : List Value := List.replicate n (fv5 false) ++ List.replicate (k - n) Value.nilFunc
theorem rr5_len (n k : Nat) (h : n ≤ k) : (rr5 n k).length = k := by simp [rr5]; omega
theorem make_f (k : Nat) (hk : k ≤ 12) (w : World) : (Instr.makeSlice 154 (.int .i64 (k : Int)) (.int .i64 (k : Int))).run Try.prog w = .ok (.slice (some ⟨w.heap.size, 0, none⟩) k k) (w.alloc (.cells (rr5 0 k).toArray 149)) := by
  obtain ⟨i0, hi, hz⟩ : ∃ i0, Try.prog.info? 149 = some i0 ∧ (i0.zero, i0.size, i0.bytes) = (some .nilFunc, 1, 8) := by
    have h := infoF
    cases hh : Try.prog.info? 149 with
    | none => rw [hh] at h; simp at h
    | some i0 => rw [hh] at h; exact ⟨i0, rfl, by simpa using h⟩
  simp only [Prod.mk.injEq] at hz
  obtain ⟨hz0, hz1, hz2⟩ := hz
  have h := run_make w 154 149 i0 .nilFunc Try.underlying154 hi hz0 .i64 .i64 (k : Int) (k : Int) (by omega) (by omega) (by rw [hz2]; omega) (by omega)
  rw [hz1, Int.toNat_natCast, Nat.mul_one] at h
  rw [h]
  have e : madeCells (Value.nilFunc).cells k = (rr5 0 k).toArray := by
    show madeCells #[Value.nilFunc] k = _
    rw [madeF]
    simp [rr5]
  rw [e]
theorem rr5_set (n k m : Nat) (h : n + m ≤ k) : (((rr5 n k).take n ++ List.replicate m (fv5 false)) ++ (rr5 n k).drop (n + m)) = rr5 (n + m) k := by
  apply List.ext_getElem?
  intro j
  simp only [rr5, List.getElem?_append, List.getElem?_take, List.getElem?_drop, List.getElem?_replicate, List.length_append, List.length_take, List.length_replicate]
  (repeat' split) <;> first | rfl | omega
/-- The steps of a row copied behind the n steps of another one. -/
theorem copy_f (n k sLen sCap gs g2 B : Nat) (w W : World) (h : n ≤ k) (hB : B ≤ g2) (hb : Below B w W) (hW : W.heap[g2]? = some (.cells (rr5 n k).toArray 149 (0, 0))) (hs : ∀ j, j < sLen → W.cell? ⟨gs, j, none⟩ = some (fv5 false)) : ∃ X, (Builtin.copy_ #[154, 154] 3 #[.slice (some ⟨g2, n, none⟩) (k - n) (k - n), .slice (some ⟨gs, 0, none⟩) sLen sCap]).run Try.prog W = .ok (.int .i64 ((min sLen (k - n) : Nat) : Int)) X ∧ X.heap[g2]? = some (.cells (rr5 (n + min sLen (k - n)) k).toArray 149 (0, 0)) ∧ Below B w X := by
  have hl : (List.replicate (min sLen (k - n)) (fv5 false)).length = Nat.min sLen (k - n) := List.length_replicate
  have hrl := rr5_len n k h
  have hx := run_copy_row (P := Try.prog) W 154 154 3 149 g2 n (k - n) (k - n) ⟨gs, 0, none⟩ sLen sCap (rr5 n k).toArray 149 (List.replicate (min sLen (k - n)) (fv5 false)) Try.underlying154 (by
      have h := infoF
      cases hh : Try.prog.info? 149 with
      | none => rw [hh] at h; simp at h
      | some i0 => rw [hh] at h; simp at h ⊢; exact h.2.1) hW hl (by
      intro j v hv
      rw [List.getElem?_replicate] at hv
      split at hv
      · cases hv
        have h2 := hs j (by omega)
        by_cases h0 : j = 0
        · subst h0
          simpa [Addr.add] using h2
        · simpa [Addr.add, h0] using h2
      · cases hv) (by rw [List.length_replicate, List.size_toArray, hrl]; omega) (by
      intro v hv
      rw [List.mem_replicate] at hv
      rw [hv.2]
      rfl)
  rw [List.length_replicate] at hx
  refine ⟨_, hx, ?_, below_setRow hb hB _⟩
  rw [setRow_heap _ _ _ _ _ _ hW, rr5_set n k _ (by omega)]
set_option maxRecDepth 20000 in
set_option maxHeartbeats 1000000 in
theorem rep_f (k : Nat) (hk : k ≤ 12) (g : Nat) (w : World) (hg : w.heap[g]? = some (.cells #[fv5 false] 149 (0, 0))) : Calls Try.prog 176 #[.slice (some ⟨g, 0, none⟩) 1 1, .int .i64 (k : Int)] w fun e w' => ∃ g2, e = .returned (.slice (some ⟨g2, 0, none⟩) k k) ∧ w'.heap[g2]? = some (.cells (rr5 k k).toArray 149 (0, 0)) ∧ Below w.heap.size w w' := by
  have hmk := make_f k hk
  obtain ⟨X, hc1, hc2, hc3⟩ := copy_f 0 k 1 1 g w.heap.size w.heap.size w (w.alloc (.cells (rr5 0 k).toArray 149)) (Nat.zero_le _) (Nat.le_refl _) (by (repeat (first | exact Below.refl _ _ | assumption | refine Below.setCell ?_ (by first | (simp; done) | (simp; omega)) _ | refine Below.alloc ?_ (by first | (simp; done) | (simp; omega)) _ | refine Below.drew ?_))) (alloc_at rfl) (fun j hj => by
    obtain rfl : j = 0 := by omega
    have h1 := alloc_past (o := .cells (rr5 0 k).toArray 149) hg
    have h2 := cell_of_row _ _ 0 _ _ _ h1
    exact h2)
  rw [Nat.sub_zero] at hc1
  rw [Nat.zero_add, Nat.sub_zero] at hc2
  have HM := Lib.hid (mul_k k hk)
  have hk0 : (0 : Int) ≤ k := by omega
  have hk12 : (k : Int) ≤ 12 := by omega
  have c1 : IntKind.u64.wrap (k : Int) = k := by simp only [IntKind.wrap, IntKind.signed, IntKind.bits]; simp; omega
  have c2 : IntKind.i64.wrap (k : Int) = k := by rw [IntKind.wrap_i64]; omega
  go_enter Try.func176, Try.ntmps176
  go_wp2_with fail
  refine (HM.out _).mono ?_
  rintro e w' ⟨rfl, hw⟩
  subst hw
  go_wp2_with fail
  have S0 : Hid (X.heap[w'.heap.size]? = some (.cells (rr5 (min 1 k) k).toArray 149 (0, 0)) ∧ Below w'.heap.size w' X) := Lib.hid ⟨hc2, hc3⟩
  clear hc1 hc2 hc3 hmk HM hg
  go_loopw [8] (fun c wr => ∃ n : Nat, min 1 k ≤ n ∧ n ≤ k ∧ c = .int .i64 n ∧ Hid (wr.heap[w'.heap.size]? = some (.cells (rr5 n k).toArray 149 (0, 0)) ∧ Below w'.heap.size w' wr)) (fun c _ => k - (intOf c).toNat)
  case atStart => exact ⟨min 1 k, Nat.le_refl _, by omega, rfl, S0⟩
  case round =>
    obtain ⟨n, hn1, hn, rfl, HS⟩ := hrel
    by_cases hlt : n < k
    · have hlt' : (n : Int) < k := by omega
      have hle' : (n : Int) ≤ k := by omega
      have hn0 : (0 : Int) ≤ n := by omega
      obtain ⟨Y, d1, d2, d3⟩ := copy_f n k n k w'.heap.size w'.heap.size w'.heap.size w' wr.drew hn (Nat.le_refl _) HS.out.2.drew (drew_row HS.out.1) (fun j hj => by
        have h2 := cell_of_row _ _ j _ _ _ (drew_row HS.out.1)
        rw [h2]
        simp only [rr5, List.getElem?_toArray, List.getElem?_append, List.length_replicate, hj, if_true, List.getElem?_replicate])
      obtain ⟨m, hm⟩ : ∃ m, m = min n (k - n) := ⟨_, rfl⟩
      rw [← hm] at d1 d2
      have hm1 : 0 < m := by omega
      have hm2 : n + m ≤ k := by omega
      have c3 : IntKind.i64.wrap ((n : Int) + (m : Int)) = ((n + m : Nat) : Int) := by rw [IntKind.wrap_i64]; omega
      have HD := Lib.hid d2
      have HB := Lib.hid d3
      clear hm d2 d3
      go_wp2_with fail
      go_region
      all_goals
        go_wp2_with fail
        go_roundw
        case rel => exact ⟨n + m, by omega, hm2, by go_num, Lib.hid ⟨HD.out, HB.out⟩⟩
        case measure => simp [intOf]; omega
    · obtain rfl : n = k := by omega
      have HX := HS
      go_wp2_with fail
      go_ret
      exact ⟨_, rfl, HX.out.1, HX.out.2⟩
/- Bs5 -/
def Bs5 (w : World) (p F : Fn6) (W : World) : Prop := W.heap[w.heap.size]? = some (o6 F) ∧ W.heap[w.heap.size + 1]? = some (o6 p) ∧ w.heap.size + 2 ≤ W.heap.size ∧ Below w.heap.size w W
theorem Bs5.far {w W V : World} {p F : Fn6} {M : Nat} (h : Bs5 w p F W) (hb : Below M W V) (hM : M = W.heap.size) : Bs5 w p F V :=
  ⟨rowk h.1 hb hM, rowk h.2.1 hb hM, Nat.le_trans h.2.2.1 hb.size, below_of h.2.2.2 hb (by have := h.2.2.1; omega)⟩
theorem Bs5.al {w W : World} {p F : Fn6} {o : Obj} (h : Bs5 w p F W) : Bs5 w p F (W.alloc o) := h.far (M := W.heap.size) ((Below.refl _ _).alloc (Nat.le_refl _) o) rfl
theorem Bs5.drew {w W : World} {p F : Fn6} (h : Bs5 w p F W) : Bs5 w p F W.drew := h.far (M := W.heap.size) (Below.refl _ _).drew rfl
theorem Bs5.put {w W : World} {p F : Fn6} (G : Fn6) (h : Bs5 w p F W) : Bs5 w p G ((((((W.setCell ⟨w.heap.size, 0, none⟩ (.int .i64 (rowv (G 0)))).setCell ⟨w.heap.size, 1, none⟩ (.int .i64 (rowv (G 1)))).setCell ⟨w.heap.size, 2, none⟩ (.int .i64 (rowv (G 2)))).setCell ⟨w.heap.size, 3, none⟩ (.int .i64 (rowv (G 3)))).setCell ⟨w.heap.size, 4, none⟩ (.int .i64 (rowv (G 4)))).setCell ⟨w.heap.size, 5, none⟩ (.int .i64 (rowv (G 5)))) := by
  obtain ⟨h1, h2, h4, h5⟩ := h
  exact ⟨set6a _ _ _ _ _ _ h1, set6o _ _ _ _ _ _ (by omega) h2, by simpa using h4, below6 h5 (by omega)⟩
theorem Bs5_s {w W : World} {p F : Fn6} (h : Bs5 w p F W) : ∀ j, W.cell? ⟨w.heap.size, j, none⟩ = (#[.int .i64 (rowv (F 0)), .int .i64 (rowv (F 1)), .int .i64 (rowv (F 2)), .int .i64 (rowv (F 3)), .int .i64 (rowv (F 4)), .int .i64 (rowv (F 5))] : Array Value)[j]? := fun j => cell_of_row W _ j _ _ _ h.1
theorem Bs5_sf {w W : World} {p F : Fn6} (h : Bs5 w p F W) : ∀ j, W.frozen? ⟨w.heap.size, j, none⟩ = false := fun j => frozen_of_row W _ j _ _ h.1
theorem Bs5_p {w W : World} {p F : Fn6} (h : Bs5 w p F W) : ∀ j, W.cell? ⟨w.heap.size + 1, j, none⟩ = (#[.int .i64 (rowv (p 0)), .int .i64 (rowv (p 1)), .int .i64 (rowv (p 2)), .int .i64 (rowv (p 3)), .int .i64 (rowv (p 4)), .int .i64 (rowv (p 5))] : Array Value)[j]? := fun j => cell_of_row W _ j _ _ _ h.2.1
theorem SB5 {w U : World} {p F : Fn6} (h : Bs5 w p F U) : U.cell? ⟨w.heap.size, 0, none⟩ = some (.int .i64 (rowv (F 0))) ∧ U.cell? ⟨w.heap.size, 1, none⟩ = some (.int .i64 (rowv (F 1))) ∧ U.cell? ⟨w.heap.size, 2, none⟩ = some (.int .i64 (rowv (F 2))) ∧ U.cell? ⟨w.heap.size, 3, none⟩ = some (.int .i64 (rowv (F 3))) ∧ U.cell? ⟨w.heap.size, 4, none⟩ = some (.int .i64 (rowv (F 4))) ∧ U.cell? ⟨w.heap.size, 5, none⟩ = some (.int .i64 (rowv (F 5))) ∧ Bs5 w p F U :=
  have h2 := Bs5_s h
  ⟨h2 0, h2 1, h2 2, h2 3, h2 4, h2 5, h⟩
/-- Full; white. -/
def fl5 (F : Fn6) : Bool := rowv (F 0) == 63 && rowv (F 1) == 63 && rowv (F 2) == 63 && rowv (F 3) == 63 && rowv (F 4) == 63 && rowv (F 5) == 63
def wh5 (F : Fn6) : Bool := rowv (F 0) == 0 && rowv (F 1) == 0 && rowv (F 2) == 0 && rowv (F 3) == 0 && rowv (F 4) == 0 && rowv (F 5) == 0
theorem lfull_f (w : World) : Calls Try.prog 180 #[.agg #[.int .i64 0, .int .i64 0, .int .i64 0, .int .i64 0, .int .i64 0, .int .i64 0]] w fun e w' => e = .returned (.agg #[.int .i64 63, .int .i64 63, .int .i64 63, .int .i64 63, .int .i64 63, .int .i64 63]) ∧ Below w.heap.size w w' := by
  have h := l2not_any 0 0 0 0 0 0 w
  rw [show wrap64 (63 - 0) = 63 by decide +kernel] at h
  exact h
theorem eq_full (F : Fn6) (w : World) : (binOp .eql 28 (.agg #[.int .i64 (rowv (F 0)), .int .i64 (rowv (F 1)), .int .i64 (rowv (F 2)), .int .i64 (rowv (F 3)), .int .i64 (rowv (F 4)), .int .i64 (rowv (F 5))]) (.agg #[.int .i64 63, .int .i64 63, .int .i64 63, .int .i64 63, .int .i64 63, .int .i64 63])).run Try.prog w = .ok (.bool (fl5 F)) w := eq26 (rowv (F 0)) (rowv (F 1)) (rowv (F 2)) (rowv (F 3)) (rowv (F 4)) (rowv (F 5)) 63 63 63 63 63 63 w
theorem eq_white (F : Fn6) (w : World) : (binOp .eql 28 (.agg #[.int .i64 (rowv (F 0)), .int .i64 (rowv (F 1)), .int .i64 (rowv (F 2)), .int .i64 (rowv (F 3)), .int .i64 (rowv (F 4)), .int .i64 (rowv (F 5))]) (.agg #[.int .i64 0, .int .i64 0, .int .i64 0, .int .i64 0, .int .i64 0, .int .i64 0])).run Try.prog w = .ok (.bool (wh5 F)) w := eq26 (rowv (F 0)) (rowv (F 1)) (rowv (F 2)) (rowv (F 3)) (rowv (F 4)) (rowv (F 5)) 0 0 0 0 0 0 w
/-- As spreading_f and shrinking_f; the block is new. -/
theorem spreading_g (p : Fn6) (w : World) : Calls Try.prog 170 #[.agg #[.int .i64 (rowv (p 0)), .int .i64 (rowv (p 1)), .int .i64 (rowv (p 2)), .int .i64 (rowv (p 3)), .int .i64 (rowv (p 4)), .int .i64 (rowv (p 5))]] w fun e w' => ∃ g, e = .returned (.func (.func 238) #[] #[.pointer (some ⟨g, 0, none⟩)]) ∧ w'.heap[g]? = some (o6 p) ∧ w.heap.size ≤ g ∧ Below w.heap.size w w' := by
  have hmf : ∀ (fn : Fn) (first cap : Array Value) (w : World), (Instr.makeFunc fn first cap).run Try.prog w = .ok (.func fn first cap) w := fun _ _ _ _ => rfl
  go_enter Try.func170, Try.ntmps170
  go_wp2_with fail
  go_ret
  exact ⟨_, rfl, alloc_at rfl, Nat.le_refl _, by (repeat (first | exact Below.refl _ _ | assumption | refine Below.setCell ?_ (by first | (simp; done) | (simp; omega)) _ | refine Below.alloc ?_ (by first | (simp; done) | (simp; omega)) _ | refine Below.drew ?_))⟩
theorem shrinking_g (p : Fn6) (w : World) : Calls Try.prog 169 #[.agg #[.int .i64 (rowv (p 0)), .int .i64 (rowv (p 1)), .int .i64 (rowv (p 2)), .int .i64 (rowv (p 3)), .int .i64 (rowv (p 4)), .int .i64 (rowv (p 5))]] w fun e w' => ∃ g, e = .returned (.func (.func 236) #[] #[.pointer (some ⟨g, 0, none⟩)]) ∧ w'.heap[g]? = some (o6 (rf p)) ∧ w.heap.size ≤ g ∧ Below w.heap.size w w' := by
  have hmf : ∀ (fn : Fn) (first cap : Array Value) (w : World), (Instr.makeFunc fn first cap).run Try.prog w = .ok (.func fn first cap) w := fun _ _ _ _ => rfl
  have HR := Lib.hid (reflected_f p)
  go_enter Try.func169, Try.ntmps169
  go_wp2_with fail
  refine (HR.out _).mono ?_
  rintro e W1 ⟨rfl, hb⟩
  have hB : Below w.heap.size w W1 := below_of (by (repeat (first | exact Below.refl _ _ | assumption | refine Below.setCell ?_ (by first | (simp; done) | (simp; omega)) _ | refine Below.alloc ?_ (by first | (simp; done) | (simp; omega)) _ | refine Below.drew ?_))) hb (by simp)
  clear hb
  go_wp2_with fail
  go_ret
  exact ⟨_, rfl, alloc_at rfl, hB.size, hB.alloc hB.size _⟩
/-- The first of the rounds up to 12 at which a test holds, or 13. -/
theorem first13 (q : Nat → Bool) : ∃ N, N ≤ 13 ∧ (∀ m, m < N → q m = false) ∧ (N < 13 → q N = true) := by
  have key : ∀ k, k ≤ 13 → (∀ m, m < k → q m = false) ∨ ∃ N, N < k ∧ (∀ m, m < N → q m = false) ∧ q N = true := by
    intro k
    induction k with
    | zero => intro _; exact .inl fun m h => by omega
    | succ k ih =>
      intro hk
      rcases ih (by omega) with h | ⟨N, h1, h2, h3⟩
      · cases hq : q k
        · exact .inl fun m hm => by
            rcases Nat.lt_succ_iff_lt_or_eq.mp hm with h' | rfl
            · exact h m h'
            · exact hq
        · exact .inr ⟨k, by omega, h, hq⟩
      · exact .inr ⟨N, by omega, h2, h3⟩
  rcases key 13 (Nat.le_refl _) with h | ⟨N, h1, h2, h3⟩
  · exact ⟨13, Nat.le_refl _, h, fun h => by omega⟩
  · exact ⟨N, by omega, h2, fun _ => h3⟩
/- St5 -/
set_option maxHeartbeats 1000000 in
theorem stm_no0 (a0 a1 a2 a3 a4 a5 : Int) (b0 b1 b2 b3 b4 b5 : Int) (k : Int) (H0 : Hid (∀ w, Calls Try.prog 121 #[.agg #[.int .i64 a0, .int .i64 a1, .int .i64 a2, .int .i64 a3, .int .i64 a4, .int .i64 a5]] w fun e w' => e = .returned (.bool false) ∧ Below w.heap.size w w')) (w : World) : Calls Try.prog 77 #[.agg #[.int .i64 a0, .int .i64 a1, .int .i64 a2, .int .i64 a3, .int .i64 a4, .int .i64 a5], .agg #[.int .i64 b0, .int .i64 b1, .int .i64 b2, .int .i64 b3, .int .i64 b4, .int .i64 b5], .int .i64 k] w fun e w' => e = .returned (.tuple #[.agg #[.int .i64 0, .int .i64 0, .int .i64 0, .int .i64 0, .int .i64 0, .int .i64 0], .bool false]) ∧ Below w.heap.size w w' := by
  go_enter Try.func77, Try.ntmps77
  go_wp2_with fail
  generalize hW : (World.alloc _ _ : World) = W0
  have hB0 : Below w.heap.size w W0 := by rw [← hW]; (repeat (first | exact Below.refl _ _ | assumption | refine Below.setCell ?_ (by first | (simp; done) | (simp; omega)) _ | refine Below.alloc ?_ (by first | (simp; done) | (simp; omega)) _ | refine Below.drew ?_))
  have qa : W0.heap[(w.heap.size : Nat)]? = some (Obj.cells (#[.int .i64 a0, .int .i64 a1, .int .i64 a2, .int .i64 a3, .int .i64 a4, .int .i64 a5]) 28 (0, 0)) := by
    rw [← hW]
    repeat (first | (refine alloc_at ?_; first | (simp; done) | (simp; omega)) | refine drew_row ?_ | refine alloc_past ?_ | assumption)
  have qb : W0.heap[(w.heap.size + 1 : Nat)]? = some (Obj.cells (#[.int .i64 b0, .int .i64 b1, .int .i64 b2, .int .i64 b3, .int .i64 b4, .int .i64 b5]) 28 (0, 0)) := by
    rw [← hW]
    repeat (first | (refine alloc_at ?_; first | (simp; done) | (simp; omega)) | refine drew_row ?_ | refine alloc_past ?_ | assumption)
  have qz : W0.heap[(w.heap.size + 1 + 1 : Nat)]? = some (Obj.cells (#[.int .i64 0, .int .i64 0, .int .i64 0, .int .i64 0, .int .i64 0, .int .i64 0]) 28 (0, 0)) := by
    rw [← hW]
    repeat (first | (refine alloc_at ?_; first | (simp; done) | (simp; omega)) | refine drew_row ?_ | refine alloc_past ?_ | assumption)
  clear hW
  refine (H0.out _).mono ?_
  rintro e W1 ⟨rfl, hb⟩
  have nqa := rowk qa hb rfl
  have nqb := rowk qb hb rfl
  have nqz := rowk qz hb rfl
  have hB1 := below_of hB0 hb hB0.size
  clear hb hB0 qa qb qz
  have qa := nqa
  have qb := nqb
  have qz := nqz
  clear nqa nqb nqz
  have qa_c := fun j => cell_of_row W1 _ j _ _ _ qa
  have qa_f := fun j => frozen_of_row W1 _ j _ _ qa
  have qb_c := fun j => cell_of_row W1 _ j _ _ _ qb
  have qb_f := fun j => frozen_of_row W1 _ j _ _ qb
  have qz_c := fun j => cell_of_row W1 _ j _ _ _ qz
  have qz_f := fun j => frozen_of_row W1 _ j _ _ qz
  go_wp2_with fail
  refine bodyPost_ret (v := .tuple #[.agg #[.int .i64 0, .int .i64 0, .int .i64 0, .int .i64 0, .int .i64 0, .int .i64 0], .bool false]) (by simp [results, Try.results77, go_sem, qz_c]) rfl ⟨rfl, ?_⟩
  exact below6 hB1 (by omega)
set_option maxHeartbeats 1000000 in
theorem stm_no1 (a0 a1 a2 a3 a4 a5 : Int) (b0 b1 b2 b3 b4 b5 : Int) (k : Int) (H0 : Hid (∀ w, Calls Try.prog 121 #[.agg #[.int .i64 a0, .int .i64 a1, .int .i64 a2, .int .i64 a3, .int .i64 a4, .int .i64 a5]] w fun e w' => e = .returned (.bool true) ∧ Below w.heap.size w w')) (H1 : Hid (∀ w, Calls Try.prog 121 #[.agg #[.int .i64 b0, .int .i64 b1, .int .i64 b2, .int .i64 b3, .int .i64 b4, .int .i64 b5]] w fun e w' => e = .returned (.bool false) ∧ Below w.heap.size w w')) (w : World) : Calls Try.prog 77 #[.agg #[.int .i64 a0, .int .i64 a1, .int .i64 a2, .int .i64 a3, .int .i64 a4, .int .i64 a5], .agg #[.int .i64 b0, .int .i64 b1, .int .i64 b2, .int .i64 b3, .int .i64 b4, .int .i64 b5], .int .i64 k] w fun e w' => e = .returned (.tuple #[.agg #[.int .i64 0, .int .i64 0, .int .i64 0, .int .i64 0, .int .i64 0, .int .i64 0], .bool false]) ∧ Below w.heap.size w w' := by
  go_enter Try.func77, Try.ntmps77
  go_wp2_with fail
  generalize hW : (World.alloc _ _ : World) = W0
  have hB0 : Below w.heap.size w W0 := by rw [← hW]; (repeat (first | exact Below.refl _ _ | assumption | refine Below.setCell ?_ (by first | (simp; done) | (simp; omega)) _ | refine Below.alloc ?_ (by first | (simp; done) | (simp; omega)) _ | refine Below.drew ?_))
  have qa : W0.heap[(w.heap.size : Nat)]? = some (Obj.cells (#[.int .i64 a0, .int .i64 a1, .int .i64 a2, .int .i64 a3, .int .i64 a4, .int .i64 a5]) 28 (0, 0)) := by
    rw [← hW]
    repeat (first | (refine alloc_at ?_; first | (simp; done) | (simp; omega)) | refine drew_row ?_ | refine alloc_past ?_ | assumption)
  have qb : W0.heap[(w.heap.size + 1 : Nat)]? = some (Obj.cells (#[.int .i64 b0, .int .i64 b1, .int .i64 b2, .int .i64 b3, .int .i64 b4, .int .i64 b5]) 28 (0, 0)) := by
    rw [← hW]
    repeat (first | (refine alloc_at ?_; first | (simp; done) | (simp; omega)) | refine drew_row ?_ | refine alloc_past ?_ | assumption)
  have qz : W0.heap[(w.heap.size + 1 + 1 : Nat)]? = some (Obj.cells (#[.int .i64 0, .int .i64 0, .int .i64 0, .int .i64 0, .int .i64 0, .int .i64 0]) 28 (0, 0)) := by
    rw [← hW]
    repeat (first | (refine alloc_at ?_; first | (simp; done) | (simp; omega)) | refine drew_row ?_ | refine alloc_past ?_ | assumption)
  clear hW
  refine (H0.out _).mono ?_
  rintro e W1 ⟨rfl, hb⟩
  have nqa := rowk qa hb rfl
  have nqb := rowk qb hb rfl
  have nqz := rowk qz hb rfl
  have hB1 := below_of hB0 hb hB0.size
  clear hb hB0 qa qb qz
  have qa := nqa
  have qb := nqb
  have qz := nqz
  clear nqa nqb nqz
  have qa_c := fun j => cell_of_row W1 _ j _ _ _ qa
  have qa_f := fun j => frozen_of_row W1 _ j _ _ qa
  have qb_c := fun j => cell_of_row W1 _ j _ _ _ qb
  have qb_f := fun j => frozen_of_row W1 _ j _ _ qb
  have qz_c := fun j => cell_of_row W1 _ j _ _ _ qz
  have qz_f := fun j => frozen_of_row W1 _ j _ _ qz
  go_wp2_with fail
  refine (H1.out _).mono ?_
  rintro e W2 ⟨rfl, hb⟩
  have nqa := rowk qa hb rfl
  have nqb := rowk qb hb rfl
  have nqz := rowk qz hb rfl
  have hB2 := below_of hB1 hb hB1.size
  clear hb hB1 qa qb qz qa_c qa_f qb_c qb_f qz_c qz_f
  have qa := nqa
  have qb := nqb
  have qz := nqz
  clear nqa nqb nqz
  have qa_c := fun j => cell_of_row W2 _ j _ _ _ qa
  have qa_f := fun j => frozen_of_row W2 _ j _ _ qa
  have qb_c := fun j => cell_of_row W2 _ j _ _ _ qb
  have qb_f := fun j => frozen_of_row W2 _ j _ _ qb
  have qz_c := fun j => cell_of_row W2 _ j _ _ _ qz
  have qz_f := fun j => frozen_of_row W2 _ j _ _ qz
  go_wp2_with fail
  refine bodyPost_ret (v := .tuple #[.agg #[.int .i64 0, .int .i64 0, .int .i64 0, .int .i64 0, .int .i64 0, .int .i64 0], .bool false]) (by simp [results, Try.results77, go_sem, qz_c]) rfl ⟨rfl, ?_⟩
  exact below6 hB2 (by omega)
set_option maxHeartbeats 1000000 in
theorem stm_no2 (a0 a1 a2 a3 a4 a5 : Int) (b0 b1 b2 b3 b4 b5 : Int) (k : Int) (H0 : Hid (∀ w, Calls Try.prog 121 #[.agg #[.int .i64 a0, .int .i64 a1, .int .i64 a2, .int .i64 a3, .int .i64 a4, .int .i64 a5]] w fun e w' => e = .returned (.bool true) ∧ Below w.heap.size w w')) (H1 : Hid (∀ w, Calls Try.prog 121 #[.agg #[.int .i64 b0, .int .i64 b1, .int .i64 b2, .int .i64 b3, .int .i64 b4, .int .i64 b5]] w fun e w' => e = .returned (.bool true) ∧ Below w.heap.size w w')) (H2 : Hid (∀ w, Calls Try.prog 177 #[.int .i64 k, .int .i64 0, .int .i64 12] w fun e w' => e = .returned (.bool false) ∧ Below w.heap.size w w')) (w : World) : Calls Try.prog 77 #[.agg #[.int .i64 a0, .int .i64 a1, .int .i64 a2, .int .i64 a3, .int .i64 a4, .int .i64 a5], .agg #[.int .i64 b0, .int .i64 b1, .int .i64 b2, .int .i64 b3, .int .i64 b4, .int .i64 b5], .int .i64 k] w fun e w' => e = .returned (.tuple #[.agg #[.int .i64 0, .int .i64 0, .int .i64 0, .int .i64 0, .int .i64 0, .int .i64 0], .bool false]) ∧ Below w.heap.size w w' := by
  go_enter Try.func77, Try.ntmps77
  go_wp2_with fail
  generalize hW : (World.alloc _ _ : World) = W0
  have hB0 : Below w.heap.size w W0 := by rw [← hW]; (repeat (first | exact Below.refl _ _ | assumption | refine Below.setCell ?_ (by first | (simp; done) | (simp; omega)) _ | refine Below.alloc ?_ (by first | (simp; done) | (simp; omega)) _ | refine Below.drew ?_))
  have qa : W0.heap[(w.heap.size : Nat)]? = some (Obj.cells (#[.int .i64 a0, .int .i64 a1, .int .i64 a2, .int .i64 a3, .int .i64 a4, .int .i64 a5]) 28 (0, 0)) := by
    rw [← hW]
    repeat (first | (refine alloc_at ?_; first | (simp; done) | (simp; omega)) | refine drew_row ?_ | refine alloc_past ?_ | assumption)
  have qb : W0.heap[(w.heap.size + 1 : Nat)]? = some (Obj.cells (#[.int .i64 b0, .int .i64 b1, .int .i64 b2, .int .i64 b3, .int .i64 b4, .int .i64 b5]) 28 (0, 0)) := by
    rw [← hW]
    repeat (first | (refine alloc_at ?_; first | (simp; done) | (simp; omega)) | refine drew_row ?_ | refine alloc_past ?_ | assumption)
  have qz : W0.heap[(w.heap.size + 1 + 1 : Nat)]? = some (Obj.cells (#[.int .i64 0, .int .i64 0, .int .i64 0, .int .i64 0, .int .i64 0, .int .i64 0]) 28 (0, 0)) := by
    rw [← hW]
    repeat (first | (refine alloc_at ?_; first | (simp; done) | (simp; omega)) | refine drew_row ?_ | refine alloc_past ?_ | assumption)
  clear hW
  refine (H0.out _).mono ?_
  rintro e W1 ⟨rfl, hb⟩
  have nqa := rowk qa hb rfl
  have nqb := rowk qb hb rfl
  have nqz := rowk qz hb rfl
  have hB1 := below_of hB0 hb hB0.size
  clear hb hB0 qa qb qz
  have qa := nqa
  have qb := nqb
  have qz := nqz
  clear nqa nqb nqz
  have qa_c := fun j => cell_of_row W1 _ j _ _ _ qa
  have qa_f := fun j => frozen_of_row W1 _ j _ _ qa
  have qb_c := fun j => cell_of_row W1 _ j _ _ _ qb
  have qb_f := fun j => frozen_of_row W1 _ j _ _ qb
  have qz_c := fun j => cell_of_row W1 _ j _ _ _ qz
  have qz_f := fun j => frozen_of_row W1 _ j _ _ qz
  go_wp2_with fail
  refine (H1.out _).mono ?_
  rintro e W2 ⟨rfl, hb⟩
  have nqa := rowk qa hb rfl
  have nqb := rowk qb hb rfl
  have nqz := rowk qz hb rfl
  have hB2 := below_of hB1 hb hB1.size
  clear hb hB1 qa qb qz qa_c qa_f qb_c qb_f qz_c qz_f
  have qa := nqa
  have qb := nqb
  have qz := nqz
  clear nqa nqb nqz
  have qa_c := fun j => cell_of_row W2 _ j _ _ _ qa
  have qa_f := fun j => frozen_of_row W2 _ j _ _ qa
  have qb_c := fun j => cell_of_row W2 _ j _ _ _ qb
  have qb_f := fun j => frozen_of_row W2 _ j _ _ qb
  have qz_c := fun j => cell_of_row W2 _ j _ _ _ qz
  have qz_f := fun j => frozen_of_row W2 _ j _ _ qz
  go_wp2_with fail
  refine (H2.out _).mono ?_
  rintro e W3 ⟨rfl, hb⟩
  have nqa := rowk qa hb rfl
  have nqb := rowk qb hb rfl
  have nqz := rowk qz hb rfl
  have hB3 := below_of hB2 hb hB2.size
  clear hb hB2 qa qb qz qa_c qa_f qb_c qb_f qz_c qz_f
  have qa := nqa
  have qb := nqb
  have qz := nqz
  clear nqa nqb nqz
  have qa_c := fun j => cell_of_row W3 _ j _ _ _ qa
  have qa_f := fun j => frozen_of_row W3 _ j _ _ qa
  have qb_c := fun j => cell_of_row W3 _ j _ _ _ qb
  have qb_f := fun j => frozen_of_row W3 _ j _ _ qb
  have qz_c := fun j => cell_of_row W3 _ j _ _ _ qz
  have qz_f := fun j => frozen_of_row W3 _ j _ _ qz
  go_wp2_with fail
  refine bodyPost_ret (v := .tuple #[.agg #[.int .i64 0, .int .i64 0, .int .i64 0, .int .i64 0, .int .i64 0, .int .i64 0], .bool false]) (by simp [results, Try.results77, go_sem, qz_c]) rfl ⟨rfl, ?_⟩
  exact below6 hB3 (by omega)
set_option maxHeartbeats 1000000 in
theorem stm_yes (s p : Fn6) (k : Nat) (hk12 : k ≤ 12) (K0 : Hid (∀ w, Calls Try.prog 121 #[.agg #[.int .i64 (rowv (s 0)), .int .i64 (rowv (s 1)), .int .i64 (rowv (s 2)), .int .i64 (rowv (s 3)), .int .i64 (rowv (s 4)), .int .i64 (rowv (s 5))]] w fun e w' => e = .returned (.bool true) ∧ Below w.heap.size w w')) (K1 : Hid (∀ w, Calls Try.prog 121 #[.agg #[.int .i64 (rowv (p 0)), .int .i64 (rowv (p 1)), .int .i64 (rowv (p 2)), .int .i64 (rowv (p 3)), .int .i64 (rowv (p 4)), .int .i64 (rowv (p 5))]] w fun e w' => e = .returned (.bool true) ∧ Below w.heap.size w w')) (w : World) : Calls Try.prog 77 #[.agg #[.int .i64 (rowv (s 0)), .int .i64 (rowv (s 1)), .int .i64 (rowv (s 2)), .int .i64 (rowv (s 3)), .int .i64 (rowv (s 4)), .int .i64 (rowv (s 5))], .agg #[.int .i64 (rowv (p 0)), .int .i64 (rowv (p 1)), .int .i64 (rowv (p 2)), .int .i64 (rowv (p 3)), .int .i64 (rowv (p 4)), .int .i64 (rowv (p 5))], .int .i64 (k : Int)] w fun e w' => e = .returned (.tuple #[.agg #[.int .i64 (rowv (spn5 s p k 0)), .int .i64 (rowv (spn5 s p k 1)), .int .i64 (rowv (spn5 s p k 2)), .int .i64 (rowv (spn5 s p k 3)), .int .i64 (rowv (spn5 s p k 4)), .int .i64 (rowv (spn5 s p k 5))], .bool true]) ∧ Below w.heap.size w w' := by
  have HI : Hid (∀ w, Calls Try.prog 177 #[.int .i64 (k : Int), .int .i64 0, .int .i64 12] w fun e w' => e = .returned (.bool true) ∧ w' = w) := Lib.hid (fun w => by
    have h := l1in_any (k : Int) 0 12 w
    have e1 : decide ((0 : Int) ≤ k) = true := by simp
    have e2 : decide ((k : Int) ≤ 12) = true := by simp; omega
    rw [e1, e2] at h
    exact h)
  go_enter Try.func77, Try.ntmps77
  go_wp2_with fail
  generalize hW : (World.alloc _ _ : World) = W0
  have hB0 : Below w.heap.size w W0 := by rw [← hW]; (repeat (first | exact Below.refl _ _ | assumption | refine Below.setCell ?_ (by first | (simp; done) | (simp; omega)) _ | refine Below.alloc ?_ (by first | (simp; done) | (simp; omega)) _ | refine Below.drew ?_))
  have q0 : W0.heap[(w.heap.size : Nat)]? = some (o6 s) := by
    rw [← hW]
    repeat (first | (refine alloc_at ?_; first | (simp; done) | (simp; omega)) | refine drew_row ?_ | refine alloc_past ?_ | assumption)
  have q1 : W0.heap[(w.heap.size + 1 : Nat)]? = some (o6 p) := by
    rw [← hW]
    repeat (first | (refine alloc_at ?_; first | (simp; done) | (simp; omega)) | refine drew_row ?_ | refine alloc_past ?_ | assumption)
  have q2 : W0.heap[(w.heap.size + 2 : Nat)]? = some (oz) := by
    rw [← hW]
    repeat (first | (refine alloc_at ?_; first | (simp; done) | (simp; omega)) | refine drew_row ?_ | refine alloc_past ?_ | assumption)
  have hk : KR 2 [(w.heap.size, o6 s), (w.heap.size + 1, o6 p)] w W0 := ⟨by simp [q0, q1], by rw [← hW]; simp, hB0⟩
  have hq := q2
  clear hW hB0 q0 q1 q2
  have HS : Hid (Bh5 w p s W0) := Lib.hid ⟨hk.row (g := w.heap.size) (o := o6 s) (by simp), hk.row (g := w.heap.size + 1) (o := o6 p) (by simp), hq, row_lt hq, hk.2.2⟩
  clear hk hq
  have s_c := Bh5_s HS.out
  go_wp2_with fail
  refine (K0.out _).mono ?_
  rintro e V0 ⟨rfl, hb⟩
  have HS := Lib.hid (HS.out.far hb rfl)
  clear hb s_c
  have p_c := Bh5_p HS.out
  go_wp2_with fail
  refine (K1.out _).mono ?_
  rintro e V1 ⟨rfl, hb⟩
  have HS := Lib.hid (HS.out.far hb rfl)
  clear hb p_c K0 K1
  go_wp2_with fail
  refine (HI.out _).mono ?_
  rintro e V2 ⟨rfl, hv⟩
  subst hv
  have S0 : Hid (Bh5 w p (spn5 s p 0) V2) := HS
  clear HS HI
  go_wp2_with fail
  go_loopw [8] (fun c wr => ∃ n : Nat, n ≤ k ∧ c = .int .i64 n ∧ Hid (Bh5 w p (spn5 s p n) wr)) (fun c _ => k - (intOf c).toNat)
  case atStart => exact ⟨0, by omega, rfl, S0⟩
  case round =>
    obtain ⟨n, hn, rfl, HS⟩ := hrel
    by_cases hlt : n < k
    · have hlt' : (n : Int) < k := by omega
      obtain ⟨F, hF⟩ : ∃ F, F = spn5 s p n := ⟨_, rfl⟩
      rw [← hF] at HS
      have HF := Lib.hid hF
      clear hF
      have HL := Lib.hid (lspread_f F p)
      have s_c := Bh5_s HS.out
      have p_c := Bh5_p HS.out
      go_wp2_with fail
      refine (HL.out _).mono ?_
      rintro e Y ⟨rfl, hb⟩
      have HY := Lib.hid (HS.out.far hb rfl)
      clear hb HS s_c p_c HL
      have s_c := Bh5_s HY.out
      have s_f := Bh5_sf HY.out
      go_wp2_with fail
      have HI := Lib.hid (HY.out.put (spd F p))
      clear HY s_c s_f
      go_roundw
      case rel => exact ⟨n + 1, by omega, by go_num, by have hF := HF.out; subst hF; exact HI⟩
      case measure => simp [intOf]; omega
    · obtain rfl : n = k := by omega
      have s_c := Bh5_s HS.out
      have z_c : ∀ j, wr.cell? ⟨w.heap.size + 1 + 1, j, none⟩ = (#[.int .i64 0, .int .i64 0, .int .i64 0, .int .i64 0, .int .i64 0, .int .i64 0] : Array Value)[j]? := oz_c HS.out.2.2.1
      have z_f : ∀ j, wr.frozen? ⟨w.heap.size + 1 + 1, j, none⟩ = false := oz_f HS.out.2.2.1
      go_wp2_with fail
      refine bodyPost_ret (v := .tuple #[.agg #[.int .i64 (rowv (spn5 s p n 0)), .int .i64 (rowv (spn5 s p n 1)), .int .i64 (rowv (spn5 s p n 2)), .int .i64 (rowv (spn5 s p n 3)), .int .i64 (rowv (spn5 s p n 4)), .int .i64 (rowv (spn5 s p n 5))], .bool true]) (by simp [results, Try.results77, go_sem, z_c]) rfl ⟨rfl, ?_⟩
      exact below6 HS.out.2.2.2.2 (by omega)
theorem SI2 {a0 a1 a2 a3 a4 a5 b0 b1 b2 b3 b4 b5 : Int} {w U : World} (h : KR 2 [(w.heap.size, .cells #[.int .i64 a0, .int .i64 a1, .int .i64 a2, .int .i64 a3, .int .i64 a4, .int .i64 a5] 28 (0, 0)), (w.heap.size + 1, .cells #[.int .i64 b0, .int .i64 b1, .int .i64 b2, .int .i64 b3, .int .i64 b4, .int .i64 b5] 28 (0, 0))] w U) : U.cell? ⟨w.heap.size, 0, none⟩ = some (.int .i64 a0) ∧ U.cell? ⟨w.heap.size, 1, none⟩ = some (.int .i64 a1) ∧ U.cell? ⟨w.heap.size, 2, none⟩ = some (.int .i64 a2) ∧ U.cell? ⟨w.heap.size, 3, none⟩ = some (.int .i64 a3) ∧ U.cell? ⟨w.heap.size, 4, none⟩ = some (.int .i64 a4) ∧ U.cell? ⟨w.heap.size, 5, none⟩ = some (.int .i64 a5) ∧ U.cell? ⟨w.heap.size + 1, 0, none⟩ = some (.int .i64 b0) ∧ U.cell? ⟨w.heap.size + 1, 1, none⟩ = some (.int .i64 b1) ∧ U.cell? ⟨w.heap.size + 1, 2, none⟩ = some (.int .i64 b2) ∧ U.cell? ⟨w.heap.size + 1, 3, none⟩ = some (.int .i64 b3) ∧ U.cell? ⟨w.heap.size + 1, 4, none⟩ = some (.int .i64 b4) ∧ U.cell? ⟨w.heap.size + 1, 5, none⟩ = some (.int .i64 b5) ∧ KR 2 [(w.heap.size, .cells #[.int .i64 a0, .int .i64 a1, .int .i64 a2, .int .i64 a3, .int .i64 a4, .int .i64 a5] 28 (0, 0)), (w.heap.size + 1, .cells #[.int .i64 b0, .int .i64 b1, .int .i64 b2, .int .i64 b3, .int .i64 b4, .int .i64 b5] 28 (0, 0))] w U :=
  have h1 := fun j => cell_of_row U _ j _ _ _ (h.row (g := w.heap.size) (List.mem_cons_self ..))
  have h2 := fun j => cell_of_row U _ j _ _ _ (h.row (g := w.heap.size + 1) (List.mem_cons_of_mem _ (List.mem_cons_self ..)))
  ⟨h1 0, h1 1, h1 2, h1 3, h1 4, h1 5, h2 0, h2 1, h2 2, h2 3, h2 4, h2 5, h⟩
set_option maxHeartbeats 1000000 in
theorem iti_no (a0 a1 a2 a3 a4 a5 : Int) (b0 b1 b2 b3 b4 b5 : Int) (k : Int) (hk : ¬ (0 ≤ k ∧ k ≤ 12)) (w : World) : Calls Try.prog 76 #[.agg #[.int .i64 a0, .int .i64 a1, .int .i64 a2, .int .i64 a3, .int .i64 a4, .int .i64 a5], .agg #[.int .i64 b0, .int .i64 b1, .int .i64 b2, .int .i64 b3, .int .i64 b4, .int .i64 b5], .int .i64 k] w fun e w' => e = .returned (.tuple #[.agg #[.int .i64 0, .int .i64 0, .int .i64 0, .int .i64 0, .int .i64 0, .int .i64 0], .bool false]) ∧ Below w.heap.size w w' := by
  by_cases h0 : k < 0
  · go_enter Try.func76, Try.ntmps76
    go_wp2_with fail
    refine bodyPost_ret (v := .tuple #[.agg #[.int .i64 0, .int .i64 0, .int .i64 0, .int .i64 0, .int .i64 0, .int .i64 0], .bool false]) (by simp [results, Try.results76, go_sem]) rfl ⟨rfl, ?_⟩
    (repeat (first | exact Below.refl _ _ | assumption | refine Below.setCell ?_ (by first | (simp; done) | (simp; omega)) _ | refine Below.alloc ?_ (by first | (simp; done) | (simp; omega)) _ | refine Below.drew ?_))
  · have h1 : 12 < k := by omega
    have h2 : 0 ≤ k := by omega
    go_enter Try.func76, Try.ntmps76
    go_wp2_with fail
    refine bodyPost_ret (v := .tuple #[.agg #[.int .i64 0, .int .i64 0, .int .i64 0, .int .i64 0, .int .i64 0, .int .i64 0], .bool false]) (by simp [results, Try.results76, go_sem]) rfl ⟨rfl, ?_⟩
    (repeat (first | exact Below.refl _ _ | assumption | refine Below.setCell ?_ (by first | (simp; done) | (simp; omega)) _ | refine Below.alloc ?_ (by first | (simp; done) | (simp; omega)) _ | refine Below.drew ?_))
set_option maxHeartbeats 2000000 in
theorem iti_any (a0 a1 a2 a3 a4 a5 : Int) (b0 b1 b2 b3 b4 b5 : Int) (r0 r1 r2 r3 r4 r5 : Int) (t : Bool) (k : Nat) (hk12 : k ≤ 12) (HB : Hid (∀ (w : World) (g : Nat), w.heap[g]? = some (.cells (rr5 k k).toArray 149 (0, 0)) → Calls Try.prog 168 #[.agg #[.int .i64 a0, .int .i64 a1, .int .i64 a2, .int .i64 a3, .int .i64 a4, .int .i64 a5], .agg #[.int .i64 b0, .int .i64 b1, .int .i64 b2, .int .i64 b3, .int .i64 b4, .int .i64 b5], .slice (some ⟨g, 0, none⟩) k k] w fun e w' => e = .returned (.tuple #[.agg #[.int .i64 r0, .int .i64 r1, .int .i64 r2, .int .i64 r3, .int .i64 r4, .int .i64 r5], .bool t]) ∧ Below w.heap.size w w')) (w : World) : Calls Try.prog 76 #[.agg #[.int .i64 a0, .int .i64 a1, .int .i64 a2, .int .i64 a3, .int .i64 a4, .int .i64 a5], .agg #[.int .i64 b0, .int .i64 b1, .int .i64 b2, .int .i64 b3, .int .i64 b4, .int .i64 b5], .int .i64 (k : Int)] w fun e w' => e = .returned (.tuple #[.agg #[.int .i64 r0, .int .i64 r1, .int .i64 r2, .int .i64 r3, .int .i64 r4, .int .i64 r5], .bool t]) ∧ Below w.heap.size w w' := by
  have HR : Hid (∀ (W : World) (g : Nat), g = W.heap.size → Calls Try.prog 176 #[.slice (some ⟨g, 0, none⟩) 1 1, .int .i64 (k : Int)] (W.alloc (.cells #[.func (.func 170) #[] #[]] 149)).drew fun e w' => ∃ g2, e = .returned (.slice (some ⟨g2, 0, none⟩) k k) ∧ w'.heap[g2]? = some (.cells (rr5 k k).toArray 149 (0, 0)) ∧ Below (W.alloc (.cells #[.func (.func 170) #[] #[]] 149)).drew.heap.size (W.alloc (.cells #[.func (.func 170) #[] #[]] 149)).drew w') := Lib.hid (fun W g hg => by subst hg; exact rep_f k hk12 _ _ (drew_row (alloc_at rfl)))
  have h0 : ¬ ((k : Int) < 0) := by omega
  have h1 : ¬ ((12 : Int) < k) := by omega
  go_enter Try.func76, Try.ntmps76
  go_wp2_with fail
  generalize hW : (World.alloc _ _ : World) = W0
  have q0 : W0.heap[(w.heap.size : Nat)]? = some (.cells #[.int .i64 a0, .int .i64 a1, .int .i64 a2, .int .i64 a3, .int .i64 a4, .int .i64 a5] 28 (0, 0)) := by
    rw [← hW]
    repeat (first | (refine alloc_at ?_; first | (simp; done) | (simp; omega)) | refine drew_row ?_ | refine alloc_past ?_ | assumption)
  have q1 : W0.heap[(w.heap.size + 1 : Nat)]? = some (.cells #[.int .i64 b0, .int .i64 b1, .int .i64 b2, .int .i64 b3, .int .i64 b4, .int .i64 b5] 28 (0, 0)) := by
    rw [← hW]
    repeat (first | (refine alloc_at ?_; first | (simp; done) | (simp; omega)) | refine drew_row ?_ | refine alloc_past ?_ | assumption)
  have hq : W0.heap[w.heap.size + 2]? = some oz := by
    rw [← hW]
    repeat (first | (refine alloc_at ?_; first | (simp; done) | (simp; omega)) | refine drew_row ?_ | refine alloc_past ?_ | assumption)
  have hk : KR 2 [(w.heap.size, .cells #[.int .i64 a0, .int .i64 a1, .int .i64 a2, .int .i64 a3, .int .i64 a4, .int .i64 a5] 28 (0, 0)), (w.heap.size + 1, .cells #[.int .i64 b0, .int .i64 b1, .int .i64 b2, .int .i64 b3, .int .i64 b4, .int .i64 b5] 28 (0, 0))] w W0 := ⟨by simp [q0, q1], by rw [← hW]; simp, by rw [← hW]; (repeat (first | exact Below.refl _ _ | assumption | refine Below.setCell ?_ (by first | (simp; done) | (simp; omega)) _ | refine Below.alloc ?_ (by first | (simp; done) | (simp; omega)) _ | refine Below.drew ?_))⟩
  clear hW q0 q1
  have hz0 := KR.le hk
  set_option maxRecDepth 8000 in
  go_region_held3 (fun U => U.cell? ⟨w.heap.size, 0, none⟩ = some (.int .i64 a0) ∧ U.cell? ⟨w.heap.size, 1, none⟩ = some (.int .i64 a1) ∧ U.cell? ⟨w.heap.size, 2, none⟩ = some (.int .i64 a2) ∧ U.cell? ⟨w.heap.size, 3, none⟩ = some (.int .i64 a3) ∧ U.cell? ⟨w.heap.size, 4, none⟩ = some (.int .i64 a4) ∧ U.cell? ⟨w.heap.size, 5, none⟩ = some (.int .i64 a5) ∧ U.cell? ⟨w.heap.size + 1, 0, none⟩ = some (.int .i64 b0) ∧ U.cell? ⟨w.heap.size + 1, 1, none⟩ = some (.int .i64 b1) ∧ U.cell? ⟨w.heap.size + 1, 2, none⟩ = some (.int .i64 b2) ∧ U.cell? ⟨w.heap.size + 1, 3, none⟩ = some (.int .i64 b3) ∧ U.cell? ⟨w.heap.size + 1, 4, none⟩ = some (.int .i64 b4) ∧ U.cell? ⟨w.heap.size + 1, 5, none⟩ = some (.int .i64 b5) ∧ KR 2 [(w.heap.size, .cells #[.int .i64 a0, .int .i64 a1, .int .i64 a2, .int .i64 a3, .int .i64 a4, .int .i64 a5] 28 (0, 0)), (w.heap.size + 1, .cells #[.int .i64 b0, .int .i64 b1, .int .i64 b2, .int .i64 b3, .int .i64 b4, .int .i64 b5] 28 (0, 0))] w U) (with_reducible refine SI2 ?_; (repeat (first | with_reducible assumption | with_reducible refine KR.al ?_ | with_reducible refine KR.drew ?_ | with_reducible refine KR.set ?_ (by first | omega | (simp; omega))))) (first | (go_at_call 176; with_reducible refine (HR.out _ _ (by simp)).mono ?_; rintro e w' ⟨g2, rfl, hg2, hb'⟩; have hk : KR 2 [(w.heap.size, .cells #[.int .i64 a0, .int .i64 a1, .int .i64 a2, .int .i64 a3, .int .i64 a4, .int .i64 a5] 28 (0, 0)), (w.heap.size + 1, .cells #[.int .i64 b0, .int .i64 b1, .int .i64 b2, .int .i64 b3, .int .i64 b4, .int .i64 b5] 28 (0, 0))] w w' := KR.far (by (repeat (first | with_reducible assumption | with_reducible refine KR.al ?_ | with_reducible refine KR.drew ?_ | with_reducible refine KR.set ?_ (by first | omega | (simp; omega))))) hb' rfl; have hq : w'.heap[w.heap.size + 2]? = some oz := rowk (by first | with_reducible assumption | (with_reducible refine drew_row ?_; with_reducible assumption) | (with_reducible refine alloc_past ?_; with_reducible assumption) | (with_reducible refine alloc_past ?_; with_reducible refine drew_row ?_; with_reducible assumption) | (with_reducible refine drew_row ?_; with_reducible refine alloc_past ?_; with_reducible assumption)) hb' rfl) | (go_at_call 168; with_reducible refine (HB.out _ _ hg2).mono ?_; rintro e w' ⟨rfl, hb'⟩; have hk : KR 2 [(w.heap.size, .cells #[.int .i64 a0, .int .i64 a1, .int .i64 a2, .int .i64 a3, .int .i64 a4, .int .i64 a5] 28 (0, 0)), (w.heap.size + 1, .cells #[.int .i64 b0, .int .i64 b1, .int .i64 b2, .int .i64 b3, .int .i64 b4, .int .i64 b5] 28 (0, 0))] w w' := KR.far (by (repeat (first | with_reducible assumption | with_reducible refine KR.al ?_ | with_reducible refine KR.drew ?_ | with_reducible refine KR.set ?_ (by first | omega | (simp; omega))))) hb' rfl; have hq : w'.heap[w.heap.size + 2]? = some oz := rowk (by first | with_reducible assumption | (with_reducible refine drew_row ?_; with_reducible assumption) | (with_reducible refine alloc_past ?_; with_reducible assumption) | (with_reducible refine alloc_past ?_; with_reducible refine drew_row ?_; with_reducible assumption) | (with_reducible refine drew_row ?_; with_reducible refine alloc_past ?_; with_reducible assumption)) hb' rfl; have z_c := oz_c hq; have z_f := oz_f hq))
  all_goals
    go_wp2_with fail
    refine bodyPost_ret (v := .tuple #[.agg #[.int .i64 r0, .int .i64 r1, .int .i64 r2, .int .i64 r3, .int .i64 r4, .int .i64 r5], .bool t]) (by simp [results, Try.results76, go_sem, z_c]) rfl ⟨rfl, ?_⟩
    exact below6 hk.2.2 (by omega)
theorem be_rep (s p : Fn6) : ∀ k, be5 (List.replicate k false) s p = spn5 s p k
  | 0 => by simp [be5, spn5]
  | k + 1 => by
    have ih := be_rep s p k
    rw [List.replicate_succ']
    simp only [be5, List.foldl_append, List.foldl_cons, List.foldl_nil] at ih ⊢
    rw [ih]
    simp [st5, spn5]
theorem rr5_map (k : Nat) : (rr5 k k).toArray = ((List.replicate k false).map fv5).toArray := by simp [rr5]
theorem times_pair (a0 a1 a2 a3 a4 a5 : Int) (b0 b1 b2 b3 b4 b5 : Int) (k : Int) : ∃ (r0 r1 r2 r3 r4 r5 : Int) (t : Bool), (∀ w, Calls Try.prog 77 #[.agg #[.int .i64 a0, .int .i64 a1, .int .i64 a2, .int .i64 a3, .int .i64 a4, .int .i64 a5], .agg #[.int .i64 b0, .int .i64 b1, .int .i64 b2, .int .i64 b3, .int .i64 b4, .int .i64 b5], .int .i64 k] w fun e w' => e = .returned (.tuple #[.agg #[.int .i64 r0, .int .i64 r1, .int .i64 r2, .int .i64 r3, .int .i64 r4, .int .i64 r5], .bool t]) ∧ Below w.heap.size w w') ∧ (∀ w, Calls Try.prog 76 #[.agg #[.int .i64 a0, .int .i64 a1, .int .i64 a2, .int .i64 a3, .int .i64 a4, .int .i64 a5], .agg #[.int .i64 b0, .int .i64 b1, .int .i64 b2, .int .i64 b3, .int .i64 b4, .int .i64 b5], .int .i64 k] w fun e w' => e = .returned (.tuple #[.agg #[.int .i64 r0, .int .i64 r1, .int .i64 r2, .int .i64 r3, .int .i64 r4, .int .i64 r5], .bool t]) ∧ Below w.heap.size w w') := by
  by_cases hk : 0 ≤ k ∧ k ≤ 12
  · obtain ⟨n, rfl⟩ := Int.eq_ofNat_of_zero_le hk.1
    have hn : n ≤ 12 := by omega
    cases hv : (ok a0 && ok a1 && ok a2 && ok a3 && ok a4 && ok a5)
    · exact ⟨0, 0, 0, 0, 0, 0, false, fun w => stm_no0 a0 a1 a2 a3 a4 a5 b0 b1 b2 b3 b4 b5 n (sh_as a0 a1 a2 a3 a4 a5 hv) w, fun w => iti_any a0 a1 a2 a3 a4 a5 b0 b1 b2 b3 b4 b5 0 0 0 0 0 0 false n hn (Lib.hid fun w g _ => behind_no0 a0 a1 a2 a3 a4 a5 b0 b1 b2 b3 b4 b5 _ (sh_ai a0 a1 a2 a3 a4 a5 hv) w) w⟩
    · cases hc : (ok b0 && ok b1 && ok b2 && ok b3 && ok b4 && ok b5)
      · exact ⟨0, 0, 0, 0, 0, 0, false, fun w => stm_no1 a0 a1 a2 a3 a4 a5 b0 b1 b2 b3 b4 b5 n (sh_as a0 a1 a2 a3 a4 a5 hv) (sh_as b0 b1 b2 b3 b4 b5 hc) w, fun w => iti_any a0 a1 a2 a3 a4 a5 b0 b1 b2 b3 b4 b5 0 0 0 0 0 0 false n hn (Lib.hid fun w g _ => behind_no1 a0 a1 a2 a3 a4 a5 b0 b1 b2 b3 b4 b5 _ (sh_ai a0 a1 a2 a3 a4 a5 hv) (sh_ai b0 b1 b2 b3 b4 b5 hc) w) w⟩
      · have Hs := sh_as a0 a1 a2 a3 a4 a5 hv
        have Ks := sh_as b0 b1 b2 b3 b4 b5 hc
        obtain ⟨s, rfl, rfl, rfl, rfl, rfl, rfl⟩ := sheet_bits a0 a1 a2 a3 a4 a5 hv
        obtain ⟨p, rfl, rfl, rfl, rfl, rfl, rfl⟩ := sheet_bits b0 b1 b2 b3 b4 b5 hc
        exact ⟨_, _, _, _, _, _, true, fun w => stm_yes s p n hn Hs Ks w, fun w => iti_any (rowv (s 0)) (rowv (s 1)) (rowv (s 2)) (rowv (s 3)) (rowv (s 4)) (rowv (s 5)) (rowv (p 0)) (rowv (p 1)) (rowv (p 2)) (rowv (p 3)) (rowv (p 4)) (rowv (p 5)) _ _ _ _ _ _ true n hn (Lib.hid fun w g hg => behind_g (List.replicate n false) n List.length_replicate hn _ (rr5_map n) _ s p (be_rep s p n) w g hg) w⟩
  · have HN : Hid (∀ w, Calls Try.prog 177 #[.int .i64 k, .int .i64 0, .int .i64 12] w fun e w' => e = .returned (.bool false) ∧ Below w.heap.size w w') := Lib.hid (fun w => (l1in_any k 0 12 w).mono (by
      rintro e w' ⟨rfl, rfl⟩
      refine ⟨?_, Below.refl _ _⟩
      have : (decide ((0 : Int) ≤ k) && decide (k ≤ 12)) = false := by
        cases hc : (decide ((0 : Int) ≤ k) && decide (k ≤ 12))
        · rfl
        · simp at hc; omega
      rw [this]))
    cases hv : (ok a0 && ok a1 && ok a2 && ok a3 && ok a4 && ok a5)
    · exact ⟨0, 0, 0, 0, 0, 0, false, fun w => stm_no0 a0 a1 a2 a3 a4 a5 b0 b1 b2 b3 b4 b5 k (sh_as a0 a1 a2 a3 a4 a5 hv) w, fun w => iti_no a0 a1 a2 a3 a4 a5 b0 b1 b2 b3 b4 b5 k hk w⟩
    · cases hc : (ok b0 && ok b1 && ok b2 && ok b3 && ok b4 && ok b5)
      · exact ⟨0, 0, 0, 0, 0, 0, false, fun w => stm_no1 a0 a1 a2 a3 a4 a5 b0 b1 b2 b3 b4 b5 k (sh_as a0 a1 a2 a3 a4 a5 hv) (sh_as b0 b1 b2 b3 b4 b5 hc) w, fun w => iti_no a0 a1 a2 a3 a4 a5 b0 b1 b2 b3 b4 b5 k hk w⟩
      · exact ⟨0, 0, 0, 0, 0, 0, false, fun w => stm_no2 a0 a1 a2 a3 a4 a5 b0 b1 b2 b3 b4 b5 k (sh_as a0 a1 a2 a3 a4 a5 hv) (sh_as b0 b1 b2 b3 b4 b5 hc) HN w, fun w => iti_no a0 a1 a2 a3 a4 a5 b0 b1 b2 b3 b4 b5 k hk w⟩
/- Tm5 -/
set_option maxHeartbeats 4000000 in
theorem stf_yes (s p : Fn6) (N : Nat) (hN : N ≤ 13) (hno : ∀ m, m < N → fl5 (spn5 s p m) = false) (hyes : N < 13 → fl5 (spn5 s p N) = true) (K0 : Hid (∀ w, Calls Try.prog 121 #[.agg #[.int .i64 (rowv (s 0)), .int .i64 (rowv (s 1)), .int .i64 (rowv (s 2)), .int .i64 (rowv (s 3)), .int .i64 (rowv (s 4)), .int .i64 (rowv (s 5))]] w fun e w' => e = .returned (.bool true) ∧ Below w.heap.size w w')) (K1 : Hid (∀ w, Calls Try.prog 121 #[.agg #[.int .i64 (rowv (p 0)), .int .i64 (rowv (p 1)), .int .i64 (rowv (p 2)), .int .i64 (rowv (p 3)), .int .i64 (rowv (p 4)), .int .i64 (rowv (p 5))]] w fun e w' => e = .returned (.bool true) ∧ Below w.heap.size w w')) (w : World) : Calls Try.prog 80 #[.agg #[.int .i64 (rowv (s 0)), .int .i64 (rowv (s 1)), .int .i64 (rowv (s 2)), .int .i64 (rowv (s 3)), .int .i64 (rowv (s 4)), .int .i64 (rowv (s 5))], .agg #[.int .i64 (rowv (p 0)), .int .i64 (rowv (p 1)), .int .i64 (rowv (p 2)), .int .i64 (rowv (p 3)), .int .i64 (rowv (p 4)), .int .i64 (rowv (p 5))]] w fun e w' => e = .returned (.tuple #[.int .i64 (if N < 13 then (N : Int) else 0), .bool (decide (N < 13))]) ∧ Below w.heap.size w w' := by
  have Hno := Lib.hid hno
  have Hyes := Lib.hid hyes
  clear hno hyes
  go_enter Try.func80, Try.ntmps80
  go_wp2_with fail
  generalize hW : (World.alloc _ _ : World) = W0
  have hB0 : Below w.heap.size w W0 := by rw [← hW]; (repeat (first | exact Below.refl _ _ | assumption | refine Below.setCell ?_ (by first | (simp; done) | (simp; omega)) _ | refine Below.alloc ?_ (by first | (simp; done) | (simp; omega)) _ | refine Below.drew ?_))
  have q0 : W0.heap[(w.heap.size : Nat)]? = some (o6 s) := by
    rw [← hW]
    repeat (first | (refine alloc_at ?_; first | (simp; done) | (simp; omega)) | refine drew_row ?_ | refine alloc_past ?_ | assumption)
  have q1 : W0.heap[(w.heap.size + 1 : Nat)]? = some (o6 p) := by
    rw [← hW]
    repeat (first | (refine alloc_at ?_; first | (simp; done) | (simp; omega)) | refine drew_row ?_ | refine alloc_past ?_ | assumption)
  have hk : KR 2 [(w.heap.size, o6 s), (w.heap.size + 1, o6 p)] w W0 := ⟨by simp [q0, q1], by rw [← hW]; simp, hB0⟩
  clear hW hB0 q0 q1
  have HS : Hid (Bs5 w p s W0) := Lib.hid ⟨hk.row (g := w.heap.size) (o := o6 s) (by simp), hk.row (g := w.heap.size + 1) (o := o6 p) (by simp), hk.2.1, hk.2.2⟩
  clear hk
  have s_c := Bs5_s HS.out
  go_wp2_with fail
  refine (K0.out _).mono ?_
  rintro e V0 ⟨rfl, hb⟩
  have HS := Lib.hid (HS.out.far hb rfl)
  clear hb s_c
  have p_c := Bs5_p HS.out
  go_wp2_with fail
  refine (K1.out _).mono ?_
  rintro e V1 ⟨rfl, hb⟩
  have HS := Lib.hid (HS.out.far hb rfl)
  clear hb p_c K0 K1
  have S0 : Hid (Bs5 w p (spn5 s p 0) V1) := HS
  clear HS
  go_wp2_with fail
  go_loopw [6] (fun c wr => ∃ n : Nat, n ≤ N ∧ c = .int .i64 n ∧ Hid (Bs5 w p (spn5 s p n) wr)) (fun c _ => 13 - (intOf c).toNat)
  case atStart => exact ⟨0, by omega, rfl, S0⟩
  case round =>
    obtain ⟨n, hn, rfl, HS⟩ := hrel
    by_cases h13 : n < 13
    · have hlt' : (n : Int) ≤ 12 := by omega
      have hlt2 : (n : Int) < 13 := by omega
      obtain ⟨F, hF⟩ : ∃ F, F = spn5 s p n := ⟨_, rfl⟩
      rw [← hF] at HS
      have HF := Lib.hid hF
      clear hF
      have he := eq_full F
      have HN := Lib.hid lfull_f
      have HL := Lib.hid (lspread_f F p)
      have hk := HS.out
      skip
      clear HS
      cases hb : fl5 F
      all_goals
        simp only [hb] at he
        have s_c := Bs5_s hk
        go_wp2_with fail
        clear s_c
        set_option maxRecDepth 8000 in
        go_region_held3 (fun U => U.cell? ⟨w.heap.size, 0, none⟩ = some (.int .i64 (rowv (F 0))) ∧ U.cell? ⟨w.heap.size, 1, none⟩ = some (.int .i64 (rowv (F 1))) ∧ U.cell? ⟨w.heap.size, 2, none⟩ = some (.int .i64 (rowv (F 2))) ∧ U.cell? ⟨w.heap.size, 3, none⟩ = some (.int .i64 (rowv (F 3))) ∧ U.cell? ⟨w.heap.size, 4, none⟩ = some (.int .i64 (rowv (F 4))) ∧ U.cell? ⟨w.heap.size, 5, none⟩ = some (.int .i64 (rowv (F 5))) ∧ Bs5 w p F U) (with_reducible refine SB5 ?_; (repeat (first | with_reducible assumption | with_reducible refine Bs5.al ?_ | with_reducible refine Bs5.drew ?_))) (first | (go_at_call 180; with_reducible refine (HN.out _).mono ?_; rintro e w' ⟨rfl, hb'⟩; have hk : Bs5 w p F w' := Bs5.far (by (repeat (first | with_reducible assumption | with_reducible refine Bs5.al ?_ | with_reducible refine Bs5.drew ?_))) hb' rfl))
      · have hnN : n < N := by
          rcases Nat.lt_or_ge n N with h | h
          · exact h
          · have : n = N := by omega
            subst this
            have := Hyes.out h13
            rw [← HF.out, hb] at this
            cases this
        have s_c := Bs5_s hk
        have p_c := Bs5_p hk
        go_wp2_with fail
        refine (HL.out _).mono ?_
        rintro e W3 ⟨rfl, hb3⟩
        have HS3 := Lib.hid (hk.far hb3 rfl)
        skip
        have s_c := Bs5_s HS3.out
        have s_f := Bs5_sf HS3.out
        clear hk hb3
        go_wp2_with fail
        have HI := Lib.hid (HS3.out.put (spd F p))
        skip
        clear HS3 s_c s_f
        go_roundw
        case rel => exact ⟨n + 1, by omega, by go_num, by have hF := HF.out; subst hF; exact HI⟩
        case measure => simp [intOf]; omega
      · have hnN : n = N := by
          rcases Nat.lt_or_ge n N with h | h
          · have := Hno.out n h
            rw [← HF.out, hb] at this
            cases this
          · omega
        have hB := hk.2.2.2
        go_wp2_with fail
        go_ret2
        exact ⟨by subst hnN; simp, hB⟩
    · have hn13 : n = 13 := by omega
      subst hn13
      obtain rfl : N = 13 := by omega
      have hB := HS.out.2.2.2
      go_wp2_with fail
      go_ret2
      exact ⟨rfl, hB⟩
set_option maxHeartbeats 4000000 in
theorem itf_yes (s p : Fn6) (N : Nat) (hN : N ≤ 13) (hno : ∀ m, m < N → fl5 (spn5 s p m) = false) (hyes : N < 13 → fl5 (spn5 s p N) = true) (K0 : Hid (∀ w, Calls Try.prog 147 #[.agg #[.int .i64 (rowv (s 0)), .int .i64 (rowv (s 1)), .int .i64 (rowv (s 2)), .int .i64 (rowv (s 3)), .int .i64 (rowv (s 4)), .int .i64 (rowv (s 5))]] w fun e w' => e = .returned (.bool true) ∧ Below w.heap.size w w')) (K1 : Hid (∀ w, Calls Try.prog 147 #[.agg #[.int .i64 (rowv (p 0)), .int .i64 (rowv (p 1)), .int .i64 (rowv (p 2)), .int .i64 (rowv (p 3)), .int .i64 (rowv (p 4)), .int .i64 (rowv (p 5))]] w fun e w' => e = .returned (.bool true) ∧ Below w.heap.size w w')) (w : World) : Calls Try.prog 79 #[.agg #[.int .i64 (rowv (s 0)), .int .i64 (rowv (s 1)), .int .i64 (rowv (s 2)), .int .i64 (rowv (s 3)), .int .i64 (rowv (s 4)), .int .i64 (rowv (s 5))], .agg #[.int .i64 (rowv (p 0)), .int .i64 (rowv (p 1)), .int .i64 (rowv (p 2)), .int .i64 (rowv (p 3)), .int .i64 (rowv (p 4)), .int .i64 (rowv (p 5))]] w fun e w' => e = .returned (.tuple #[.int .i64 (if N < 13 then (N : Int) else 0), .bool (decide (N < 13))]) ∧ Below w.heap.size w w' := by
  have Hno := Lib.hid hno
  have Hyes := Lib.hid hyes
  clear hno hyes
  have hmf : ∀ (fn : Fn) (first cap : Array Value) (w : World), (Instr.makeFunc fn first cap).run Try.prog w = .ok (.func fn first cap) w := fun _ _ _ _ => rfl
  have HSP := Lib.hid (spreading_g p)
  go_enter Try.func79, Try.ntmps79
  go_wp2_with fail
  generalize hW : (World.alloc _ _ : World) = W0
  have hB0 : Below w.heap.size w W0 := by rw [← hW]; (repeat (first | exact Below.refl _ _ | assumption | refine Below.setCell ?_ (by first | (simp; done) | (simp; omega)) _ | refine Below.alloc ?_ (by first | (simp; done) | (simp; omega)) _ | refine Below.drew ?_))
  have q0 : W0.heap[(w.heap.size : Nat)]? = some (o6 s) := by
    rw [← hW]
    repeat (first | (refine alloc_at ?_; first | (simp; done) | (simp; omega)) | refine drew_row ?_ | refine alloc_past ?_ | assumption)
  have q1 : W0.heap[(w.heap.size + 1 : Nat)]? = some (o6 p) := by
    rw [← hW]
    repeat (first | (refine alloc_at ?_; first | (simp; done) | (simp; omega)) | refine drew_row ?_ | refine alloc_past ?_ | assumption)
  have hk : KR 2 [(w.heap.size, o6 s), (w.heap.size + 1, o6 p)] w W0 := ⟨by simp [q0, q1], by rw [← hW]; simp, hB0⟩
  clear hW hB0 q0 q1
  have HS : Hid (Bs5 w p s W0) := Lib.hid ⟨hk.row (g := w.heap.size) (o := o6 s) (by simp), hk.row (g := w.heap.size + 1) (o := o6 p) (by simp), hk.2.1, hk.2.2⟩
  clear hk
  have s_c := Bs5_s HS.out
  go_wp2_with fail
  refine (K0.out _).mono ?_
  rintro e V0 ⟨rfl, hb⟩
  have HS := Lib.hid (HS.out.far hb rfl)
  clear hb s_c
  have p_c := Bs5_p HS.out
  go_wp2_with fail
  refine (K1.out _).mono ?_
  rintro e V1 ⟨rfl, hb⟩
  have HS := Lib.hid (HS.out.far hb rfl)
  clear hb p_c K0 K1
  have p_c := Bs5_p HS.out
  go_wp2_with fail
  refine (HSP.out _).mono ?_
  rintro e V2 ⟨g, rfl, hg, hge, hb⟩
  have hgge : g ≠ w.heap.size := by have := HS.out.2.2.1; omega
  have S0 : Hid (Bs5 w p (spn5 s p 0) V2 ∧ V2.heap[g]? = some (o6 p) ∧ g ≠ w.heap.size) := Lib.hid ⟨HS.out.far hb rfl, hg, hgge⟩
  clear hb HS p_c HSP hg
  go_wp2_with fail
  go_loopw [18] (fun c wr => ∃ n : Nat, n ≤ N ∧ c = .int .i64 n ∧ Hid (Bs5 w p (spn5 s p n) wr ∧ wr.heap[g]? = some (o6 p) ∧ g ≠ w.heap.size)) (fun c _ => 13 - (intOf c).toNat)
  case atStart => exact ⟨0, by omega, rfl, S0⟩
  case round =>
    obtain ⟨n, hn, rfl, HS⟩ := hrel
    by_cases h13 : n < 13
    · have hlt' : (n : Int) ≤ 12 := by omega
      have hlt2 : (n : Int) < 13 := by omega
      obtain ⟨F, hF⟩ : ∃ F, F = spn5 s p n := ⟨_, rfl⟩
      rw [← hF] at HS
      have HF := Lib.hid hF
      clear hF
      have he := eq_full F
      have HN := Lib.hid full_any
      have HL := Lib.hid (fun w2 h => spread_1 F p g w2 h)
      have hk := HS.out.1
      have hgr := HS.out.2.1
      have hgn := HS.out.2.2
      clear HS
      cases hb : fl5 F
      all_goals
        simp only [hb] at he
        have s_c := Bs5_s hk
        go_wp2_with fail
        clear s_c
        set_option maxRecDepth 8000 in
        go_region_held3 (fun U => U.cell? ⟨w.heap.size, 0, none⟩ = some (.int .i64 (rowv (F 0))) ∧ U.cell? ⟨w.heap.size, 1, none⟩ = some (.int .i64 (rowv (F 1))) ∧ U.cell? ⟨w.heap.size, 2, none⟩ = some (.int .i64 (rowv (F 2))) ∧ U.cell? ⟨w.heap.size, 3, none⟩ = some (.int .i64 (rowv (F 3))) ∧ U.cell? ⟨w.heap.size, 4, none⟩ = some (.int .i64 (rowv (F 4))) ∧ U.cell? ⟨w.heap.size, 5, none⟩ = some (.int .i64 (rowv (F 5))) ∧ Bs5 w p F U) (with_reducible refine SB5 ?_; (repeat (first | with_reducible assumption | with_reducible refine Bs5.al ?_ | with_reducible refine Bs5.drew ?_))) (first | (go_at_call 179; with_reducible refine (HN.out _).mono ?_; rintro e w' ⟨rfl, hb'⟩; have hk : Bs5 w p F w' := Bs5.far (by (repeat (first | with_reducible assumption | with_reducible refine Bs5.al ?_ | with_reducible refine Bs5.drew ?_))) hb' rfl; have hgr : w'.heap[g]? = some (o6 p) := rowk (by first | with_reducible assumption | (with_reducible refine drew_row ?_; with_reducible assumption)) hb' rfl))
      · have hnN : n < N := by
          rcases Nat.lt_or_ge n N with h | h
          · exact h
          · have : n = N := by omega
            subst this
            have := Hyes.out h13
            rw [← HF.out, hb] at this
            cases this
        have s_c := Bs5_s hk
        have p_c := Bs5_p hk
        go_wp2_with fail
        refine (HL.out _ hgr).mono ?_
        rintro e W3 ⟨rfl, hb3⟩
        have HS3 := Lib.hid (hk.far hb3 rfl)
        have hgr3 := rowk hgr hb3 rfl
        have s_c := Bs5_s HS3.out
        have s_f := Bs5_sf HS3.out
        clear hk hb3
        go_wp2_with fail
        have HI := Lib.hid (HS3.out.put (spd F p))
        have HG := Lib.hid (set6o (.int .i64 (rowv (spd F p 0))) (.int .i64 (rowv (spd F p 1))) (.int .i64 (rowv (spd F p 2))) (.int .i64 (rowv (spd F p 3))) (.int .i64 (rowv (spd F p 4))) (.int .i64 (rowv (spd F p 5))) hgn hgr3)
        clear HS3 s_c s_f
        go_roundw
        case rel => exact ⟨n + 1, by omega, by go_num, by have hF := HF.out; subst hF; exact Lib.hid ⟨HI.out, HG.out, hgn⟩⟩
        case measure => simp [intOf]; omega
      · have hnN : n = N := by
          rcases Nat.lt_or_ge n N with h | h
          · have := Hno.out n h
            rw [← HF.out, hb] at this
            cases this
          · omega
        have hB := hk.2.2.2
        go_wp2_with fail
        go_ret2
        exact ⟨by subst hnN; simp, hB⟩
    · have hn13 : n = 13 := by omega
      subst hn13
      obtain rfl : N = 13 := by omega
      have hB := HS.out.1.2.2.2
      go_wp2_with fail
      go_ret2
      exact ⟨rfl, hB⟩
/- Wn5 -/
set_option maxHeartbeats 1000000 in
theorem ssl_no0 (a0 a1 a2 a3 a4 a5 : Int) (b0 b1 b2 b3 b4 b5 : Int) (H0 : Hid (∀ w, Calls Try.prog 121 #[.agg #[.int .i64 a0, .int .i64 a1, .int .i64 a2, .int .i64 a3, .int .i64 a4, .int .i64 a5]] w fun e w' => e = .returned (.bool false) ∧ Below w.heap.size w w')) (w : World) : Calls Try.prog 73 #[.agg #[.int .i64 a0, .int .i64 a1, .int .i64 a2, .int .i64 a3, .int .i64 a4, .int .i64 a5], .agg #[.int .i64 b0, .int .i64 b1, .int .i64 b2, .int .i64 b3, .int .i64 b4, .int .i64 b5]] w fun e w' => e = .returned (.tuple #[.int .i64 0, .agg #[.int .i64 0, .int .i64 0, .int .i64 0, .int .i64 0, .int .i64 0, .int .i64 0], .bool false]) ∧ Below w.heap.size w w' := by
  go_enter Try.func73, Try.ntmps73
  go_wp2_with fail
  generalize hW : (World.alloc _ _ : World) = W0
  have hB0 : Below w.heap.size w W0 := by rw [← hW]; (repeat (first | exact Below.refl _ _ | assumption | refine Below.setCell ?_ (by first | (simp; done) | (simp; omega)) _ | refine Below.alloc ?_ (by first | (simp; done) | (simp; omega)) _ | refine Below.drew ?_))
  have qa : W0.heap[(w.heap.size : Nat)]? = some (Obj.cells (#[.int .i64 a0, .int .i64 a1, .int .i64 a2, .int .i64 a3, .int .i64 a4, .int .i64 a5]) 28 (0, 0)) := by
    rw [← hW]
    repeat (first | (refine alloc_at ?_; first | (simp; done) | (simp; omega)) | refine drew_row ?_ | refine alloc_past ?_ | assumption)
  have qb : W0.heap[(w.heap.size + 1 : Nat)]? = some (Obj.cells (#[.int .i64 b0, .int .i64 b1, .int .i64 b2, .int .i64 b3, .int .i64 b4, .int .i64 b5]) 28 (0, 0)) := by
    rw [← hW]
    repeat (first | (refine alloc_at ?_; first | (simp; done) | (simp; omega)) | refine drew_row ?_ | refine alloc_past ?_ | assumption)
  have qz : W0.heap[(w.heap.size + 1 + 1 : Nat)]? = some (Obj.cells (#[.int .i64 0, .int .i64 0, .int .i64 0, .int .i64 0, .int .i64 0, .int .i64 0]) 28 (0, 0)) := by
    rw [← hW]
    repeat (first | (refine alloc_at ?_; first | (simp; done) | (simp; omega)) | refine drew_row ?_ | refine alloc_past ?_ | assumption)
  clear hW
  refine (H0.out _).mono ?_
  rintro e W1 ⟨rfl, hb⟩
  have nqa := rowk qa hb rfl
  have nqb := rowk qb hb rfl
  have nqz := rowk qz hb rfl
  have hB1 := below_of hB0 hb hB0.size
  clear hb hB0 qa qb qz
  have qa := nqa
  have qb := nqb
  have qz := nqz
  clear nqa nqb nqz
  have qa_c := fun j => cell_of_row W1 _ j _ _ _ qa
  have qa_f := fun j => frozen_of_row W1 _ j _ _ qa
  have qb_c := fun j => cell_of_row W1 _ j _ _ _ qb
  have qb_f := fun j => frozen_of_row W1 _ j _ _ qb
  have qz_c := fun j => cell_of_row W1 _ j _ _ _ qz
  have qz_f := fun j => frozen_of_row W1 _ j _ _ qz
  go_wp2_with fail
  refine bodyPost_ret (v := .tuple #[.int .i64 0, .agg #[.int .i64 0, .int .i64 0, .int .i64 0, .int .i64 0, .int .i64 0, .int .i64 0], .bool false]) (by simp [results, Try.results73, go_sem, qz_c]) rfl ⟨rfl, ?_⟩
  exact below6 hB1 (by omega)
set_option maxHeartbeats 1000000 in
theorem ssl_no1 (a0 a1 a2 a3 a4 a5 : Int) (b0 b1 b2 b3 b4 b5 : Int) (H0 : Hid (∀ w, Calls Try.prog 121 #[.agg #[.int .i64 a0, .int .i64 a1, .int .i64 a2, .int .i64 a3, .int .i64 a4, .int .i64 a5]] w fun e w' => e = .returned (.bool true) ∧ Below w.heap.size w w')) (H1 : Hid (∀ w, Calls Try.prog 121 #[.agg #[.int .i64 b0, .int .i64 b1, .int .i64 b2, .int .i64 b3, .int .i64 b4, .int .i64 b5]] w fun e w' => e = .returned (.bool false) ∧ Below w.heap.size w w')) (w : World) : Calls Try.prog 73 #[.agg #[.int .i64 a0, .int .i64 a1, .int .i64 a2, .int .i64 a3, .int .i64 a4, .int .i64 a5], .agg #[.int .i64 b0, .int .i64 b1, .int .i64 b2, .int .i64 b3, .int .i64 b4, .int .i64 b5]] w fun e w' => e = .returned (.tuple #[.int .i64 0, .agg #[.int .i64 0, .int .i64 0, .int .i64 0, .int .i64 0, .int .i64 0, .int .i64 0], .bool false]) ∧ Below w.heap.size w w' := by
  go_enter Try.func73, Try.ntmps73
  go_wp2_with fail
  generalize hW : (World.alloc _ _ : World) = W0
  have hB0 : Below w.heap.size w W0 := by rw [← hW]; (repeat (first | exact Below.refl _ _ | assumption | refine Below.setCell ?_ (by first | (simp; done) | (simp; omega)) _ | refine Below.alloc ?_ (by first | (simp; done) | (simp; omega)) _ | refine Below.drew ?_))
  have qa : W0.heap[(w.heap.size : Nat)]? = some (Obj.cells (#[.int .i64 a0, .int .i64 a1, .int .i64 a2, .int .i64 a3, .int .i64 a4, .int .i64 a5]) 28 (0, 0)) := by
    rw [← hW]
    repeat (first | (refine alloc_at ?_; first | (simp; done) | (simp; omega)) | refine drew_row ?_ | refine alloc_past ?_ | assumption)
  have qb : W0.heap[(w.heap.size + 1 : Nat)]? = some (Obj.cells (#[.int .i64 b0, .int .i64 b1, .int .i64 b2, .int .i64 b3, .int .i64 b4, .int .i64 b5]) 28 (0, 0)) := by
    rw [← hW]
    repeat (first | (refine alloc_at ?_; first | (simp; done) | (simp; omega)) | refine drew_row ?_ | refine alloc_past ?_ | assumption)
  have qz : W0.heap[(w.heap.size + 1 + 1 : Nat)]? = some (Obj.cells (#[.int .i64 0, .int .i64 0, .int .i64 0, .int .i64 0, .int .i64 0, .int .i64 0]) 28 (0, 0)) := by
    rw [← hW]
    repeat (first | (refine alloc_at ?_; first | (simp; done) | (simp; omega)) | refine drew_row ?_ | refine alloc_past ?_ | assumption)
  clear hW
  refine (H0.out _).mono ?_
  rintro e W1 ⟨rfl, hb⟩
  have nqa := rowk qa hb rfl
  have nqb := rowk qb hb rfl
  have nqz := rowk qz hb rfl
  have hB1 := below_of hB0 hb hB0.size
  clear hb hB0 qa qb qz
  have qa := nqa
  have qb := nqb
  have qz := nqz
  clear nqa nqb nqz
  have qa_c := fun j => cell_of_row W1 _ j _ _ _ qa
  have qa_f := fun j => frozen_of_row W1 _ j _ _ qa
  have qb_c := fun j => cell_of_row W1 _ j _ _ _ qb
  have qb_f := fun j => frozen_of_row W1 _ j _ _ qb
  have qz_c := fun j => cell_of_row W1 _ j _ _ _ qz
  have qz_f := fun j => frozen_of_row W1 _ j _ _ qz
  go_wp2_with fail
  refine (H1.out _).mono ?_
  rintro e W2 ⟨rfl, hb⟩
  have nqa := rowk qa hb rfl
  have nqb := rowk qb hb rfl
  have nqz := rowk qz hb rfl
  have hB2 := below_of hB1 hb hB1.size
  clear hb hB1 qa qb qz qa_c qa_f qb_c qb_f qz_c qz_f
  have qa := nqa
  have qb := nqb
  have qz := nqz
  clear nqa nqb nqz
  have qa_c := fun j => cell_of_row W2 _ j _ _ _ qa
  have qa_f := fun j => frozen_of_row W2 _ j _ _ qa
  have qb_c := fun j => cell_of_row W2 _ j _ _ _ qb
  have qb_f := fun j => frozen_of_row W2 _ j _ _ qb
  have qz_c := fun j => cell_of_row W2 _ j _ _ _ qz
  have qz_f := fun j => frozen_of_row W2 _ j _ _ qz
  go_wp2_with fail
  refine bodyPost_ret (v := .tuple #[.int .i64 0, .agg #[.int .i64 0, .int .i64 0, .int .i64 0, .int .i64 0, .int .i64 0, .int .i64 0], .bool false]) (by simp [results, Try.results73, go_sem, qz_c]) rfl ⟨rfl, ?_⟩
  exact below6 hB2 (by omega)
set_option maxHeartbeats 1000000 in
theorem isl_no0 (a0 a1 a2 a3 a4 a5 : Int) (b0 b1 b2 b3 b4 b5 : Int) (H0 : Hid (∀ w, Calls Try.prog 147 #[.agg #[.int .i64 a0, .int .i64 a1, .int .i64 a2, .int .i64 a3, .int .i64 a4, .int .i64 a5]] w fun e w' => e = .returned (.bool false) ∧ Below w.heap.size w w')) (w : World) : Calls Try.prog 72 #[.agg #[.int .i64 a0, .int .i64 a1, .int .i64 a2, .int .i64 a3, .int .i64 a4, .int .i64 a5], .agg #[.int .i64 b0, .int .i64 b1, .int .i64 b2, .int .i64 b3, .int .i64 b4, .int .i64 b5]] w fun e w' => e = .returned (.tuple #[.int .i64 0, .agg #[.int .i64 0, .int .i64 0, .int .i64 0, .int .i64 0, .int .i64 0, .int .i64 0], .bool false]) ∧ Below w.heap.size w w' := by
  go_enter Try.func72, Try.ntmps72
  go_wp2_with fail
  generalize hW : (World.alloc _ _ : World) = W0
  have hB0 : Below w.heap.size w W0 := by rw [← hW]; (repeat (first | exact Below.refl _ _ | assumption | refine Below.setCell ?_ (by first | (simp; done) | (simp; omega)) _ | refine Below.alloc ?_ (by first | (simp; done) | (simp; omega)) _ | refine Below.drew ?_))
  have qa : W0.heap[(w.heap.size : Nat)]? = some (Obj.cells (#[.int .i64 a0, .int .i64 a1, .int .i64 a2, .int .i64 a3, .int .i64 a4, .int .i64 a5]) 28 (0, 0)) := by
    rw [← hW]
    repeat (first | (refine alloc_at ?_; first | (simp; done) | (simp; omega)) | refine drew_row ?_ | refine alloc_past ?_ | assumption)
  have qb : W0.heap[(w.heap.size + 1 : Nat)]? = some (Obj.cells (#[.int .i64 b0, .int .i64 b1, .int .i64 b2, .int .i64 b3, .int .i64 b4, .int .i64 b5]) 28 (0, 0)) := by
    rw [← hW]
    repeat (first | (refine alloc_at ?_; first | (simp; done) | (simp; omega)) | refine drew_row ?_ | refine alloc_past ?_ | assumption)
  have qz : W0.heap[(w.heap.size + 1 + 1 : Nat)]? = some (Obj.cells (#[.int .i64 0, .int .i64 0, .int .i64 0, .int .i64 0, .int .i64 0, .int .i64 0]) 28 (0, 0)) := by
    rw [← hW]
    repeat (first | (refine alloc_at ?_; first | (simp; done) | (simp; omega)) | refine drew_row ?_ | refine alloc_past ?_ | assumption)
  clear hW
  refine (H0.out _).mono ?_
  rintro e W1 ⟨rfl, hb⟩
  have nqa := rowk qa hb rfl
  have nqb := rowk qb hb rfl
  have nqz := rowk qz hb rfl
  have hB1 := below_of hB0 hb hB0.size
  clear hb hB0 qa qb qz
  have qa := nqa
  have qb := nqb
  have qz := nqz
  clear nqa nqb nqz
  have qa_c := fun j => cell_of_row W1 _ j _ _ _ qa
  have qa_f := fun j => frozen_of_row W1 _ j _ _ qa
  have qb_c := fun j => cell_of_row W1 _ j _ _ _ qb
  have qb_f := fun j => frozen_of_row W1 _ j _ _ qb
  have qz_c := fun j => cell_of_row W1 _ j _ _ _ qz
  have qz_f := fun j => frozen_of_row W1 _ j _ _ qz
  go_wp2_with fail
  refine bodyPost_ret (v := .tuple #[.int .i64 0, .agg #[.int .i64 0, .int .i64 0, .int .i64 0, .int .i64 0, .int .i64 0, .int .i64 0], .bool false]) (by simp [results, Try.results72, go_sem, qz_c]) rfl ⟨rfl, ?_⟩
  exact below6 hB1 (by omega)
set_option maxHeartbeats 1000000 in
theorem isl_no1 (a0 a1 a2 a3 a4 a5 : Int) (b0 b1 b2 b3 b4 b5 : Int) (H0 : Hid (∀ w, Calls Try.prog 147 #[.agg #[.int .i64 a0, .int .i64 a1, .int .i64 a2, .int .i64 a3, .int .i64 a4, .int .i64 a5]] w fun e w' => e = .returned (.bool true) ∧ Below w.heap.size w w')) (H1 : Hid (∀ w, Calls Try.prog 147 #[.agg #[.int .i64 b0, .int .i64 b1, .int .i64 b2, .int .i64 b3, .int .i64 b4, .int .i64 b5]] w fun e w' => e = .returned (.bool false) ∧ Below w.heap.size w w')) (w : World) : Calls Try.prog 72 #[.agg #[.int .i64 a0, .int .i64 a1, .int .i64 a2, .int .i64 a3, .int .i64 a4, .int .i64 a5], .agg #[.int .i64 b0, .int .i64 b1, .int .i64 b2, .int .i64 b3, .int .i64 b4, .int .i64 b5]] w fun e w' => e = .returned (.tuple #[.int .i64 0, .agg #[.int .i64 0, .int .i64 0, .int .i64 0, .int .i64 0, .int .i64 0, .int .i64 0], .bool false]) ∧ Below w.heap.size w w' := by
  go_enter Try.func72, Try.ntmps72
  go_wp2_with fail
  generalize hW : (World.alloc _ _ : World) = W0
  have hB0 : Below w.heap.size w W0 := by rw [← hW]; (repeat (first | exact Below.refl _ _ | assumption | refine Below.setCell ?_ (by first | (simp; done) | (simp; omega)) _ | refine Below.alloc ?_ (by first | (simp; done) | (simp; omega)) _ | refine Below.drew ?_))
  have qa : W0.heap[(w.heap.size : Nat)]? = some (Obj.cells (#[.int .i64 a0, .int .i64 a1, .int .i64 a2, .int .i64 a3, .int .i64 a4, .int .i64 a5]) 28 (0, 0)) := by
    rw [← hW]
    repeat (first | (refine alloc_at ?_; first | (simp; done) | (simp; omega)) | refine drew_row ?_ | refine alloc_past ?_ | assumption)
  have qb : W0.heap[(w.heap.size + 1 : Nat)]? = some (Obj.cells (#[.int .i64 b0, .int .i64 b1, .int .i64 b2, .int .i64 b3, .int .i64 b4, .int .i64 b5]) 28 (0, 0)) := by
    rw [← hW]
    repeat (first | (refine alloc_at ?_; first | (simp; done) | (simp; omega)) | refine drew_row ?_ | refine alloc_past ?_ | assumption)
  have qz : W0.heap[(w.heap.size + 1 + 1 : Nat)]? = some (Obj.cells (#[.int .i64 0, .int .i64 0, .int .i64 0, .int .i64 0, .int .i64 0, .int .i64 0]) 28 (0, 0)) := by
    rw [← hW]
    repeat (first | (refine alloc_at ?_; first | (simp; done) | (simp; omega)) | refine drew_row ?_ | refine alloc_past ?_ | assumption)
  clear hW
  refine (H0.out _).mono ?_
  rintro e W1 ⟨rfl, hb⟩
  have nqa := rowk qa hb rfl
  have nqb := rowk qb hb rfl
  have nqz := rowk qz hb rfl
  have hB1 := below_of hB0 hb hB0.size
  clear hb hB0 qa qb qz
  have qa := nqa
  have qb := nqb
  have qz := nqz
  clear nqa nqb nqz
  have qa_c := fun j => cell_of_row W1 _ j _ _ _ qa
  have qa_f := fun j => frozen_of_row W1 _ j _ _ qa
  have qb_c := fun j => cell_of_row W1 _ j _ _ _ qb
  have qb_f := fun j => frozen_of_row W1 _ j _ _ qb
  have qz_c := fun j => cell_of_row W1 _ j _ _ _ qz
  have qz_f := fun j => frozen_of_row W1 _ j _ _ qz
  go_wp2_with fail
  refine (H1.out _).mono ?_
  rintro e W2 ⟨rfl, hb⟩
  have nqa := rowk qa hb rfl
  have nqb := rowk qb hb rfl
  have nqz := rowk qz hb rfl
  have hB2 := below_of hB1 hb hB1.size
  clear hb hB1 qa qb qz qa_c qa_f qb_c qb_f qz_c qz_f
  have qa := nqa
  have qb := nqb
  have qz := nqz
  clear nqa nqb nqz
  have qa_c := fun j => cell_of_row W2 _ j _ _ _ qa
  have qa_f := fun j => frozen_of_row W2 _ j _ _ qa
  have qb_c := fun j => cell_of_row W2 _ j _ _ _ qb
  have qb_f := fun j => frozen_of_row W2 _ j _ _ qb
  have qz_c := fun j => cell_of_row W2 _ j _ _ _ qz
  have qz_f := fun j => frozen_of_row W2 _ j _ _ qz
  go_wp2_with fail
  refine bodyPost_ret (v := .tuple #[.int .i64 0, .agg #[.int .i64 0, .int .i64 0, .int .i64 0, .int .i64 0, .int .i64 0, .int .i64 0], .bool false]) (by simp [results, Try.results72, go_sem, qz_c]) rfl ⟨rfl, ?_⟩
  exact below6 hB2 (by omega)
/- Sz -/
def pc (x : Int) : Int := x % 2 + x / 2 % 2 + x / 4 % 2 + x / 8 % 2 + x / 16 % 2 + x / 32 % 2
def oc1 (x : Int) : Int := IntKind.u64.wrap (bits .and .u64 (x / 2) 6148914691236517205 + bits .and .u64 x 6148914691236517205)
def oc2 (t : Int) : Int := IntKind.u64.wrap (bits .and .u64 (t / 4) 3689348814741910323 + bits .and .u64 t 3689348814741910323)
def oc3 (t : Int) : Int := bits .and .u64 (IntKind.u64.wrap (t / 16 + t)) 1085102592571150095
def oc4 (t : Int) : Int := IntKind.u64.wrap (t + t / 256)
def oc5 (t : Int) : Int := IntKind.u64.wrap (t + t / 65536)
def oc6 (t : Int) : Int := IntKind.u64.wrap (t + t / 4294967296)
def ocF (x : Int) : Int := bits .and .i64 (wrap64 (oc6 (oc5 (oc4 (oc3 (oc2 (oc1 x))))))) 127
theorem oc_fin : ∀ n : Fin 64, ocF ((n.val : Nat) : Int) = pc ((n.val : Nat) : Int) := by decide +kernel
theorem oc_pc {x : Int} (hx : 0 ≤ x ∧ x ≤ 63) : ocF x = pc x := by
  obtain ⟨n, rfl⟩ := Int.eq_ofNat_of_zero_le hx.1
  exact oc_fin ⟨n, by omega⟩
theorem pc_bd {x : Int} (hx : 0 ≤ x ∧ x ≤ 63) : 0 ≤ pc x ∧ pc x ≤ 6 := by unfold pc; omega
theorem pc_zero : pc 0 = 0 := rfl
theorem pc_half {v : Int} (h0 : 0 ≤ v) (h1 : v ≤ 63) : v % 2 + pc (v / 2) = pc v := by unfold pc; omega
theorem oc64 (x : Int) (hx : 0 ≤ x ∧ x ≤ 63) (w : World) : Calls Try.prog 222 #[.int .u64 x] w fun e w' => e = .returned (.int .i64 (pc x)) ∧ w' = w := by
  rw [← oc_pc hx]
  go_enter Try.func222, Try.ntmps222
  go_wp2_with fail
  go_ret
  exact ⟨rfl, rfl⟩
theorem oc_any (x : Int) (hx : 0 ≤ x ∧ x ≤ 63) (w : World) : Calls Try.prog 163 #[.int .u64 x] w fun e w' => e = .returned (.int .i64 (pc x)) ∧ w' = w := by
  have H := Lib.hid (oc64 x hx)
  go_enter Try.func163, Try.ntmps163
  go_wp2_with fail
  refine (H.out _).mono ?_
  rintro e w' ⟨rfl, rfl⟩
  go_wp2_with fail
  go_ret
  exact ⟨rfl, rfl⟩
set_option maxHeartbeats 2000000 in
theorem l2count_any (a0 a1 a2 a3 a4 a5 : Int) (hv : (0 ≤ a0 ∧ a0 ≤ 63) ∧ (0 ≤ a1 ∧ a1 ≤ 63) ∧ (0 ≤ a2 ∧ a2 ≤ 63) ∧ (0 ≤ a3 ∧ a3 ≤ 63) ∧ (0 ≤ a4 ∧ a4 ≤ 63) ∧ (0 ≤ a5 ∧ a5 ≤ 63)) (w : World) : Calls Try.prog 136 #[.agg #[.int .i64 a0, .int .i64 a1, .int .i64 a2, .int .i64 a3, .int .i64 a4, .int .i64 a5]] w fun e w' => e = .returned (.int .i64 (pc a0 + pc a1 + pc a2 + pc a3 + pc a4 + pc a5)) ∧ Below w.heap.size w w' := by
  obtain ⟨h0, h1, h2, h3, h4, h5⟩ := hv
  have b0 := pc_bd h0; have b1 := pc_bd h1; have b2 := pc_bd h2; have b3 := pc_bd h3; have b4 := pc_bd h4; have b5 := pc_bd h5
  go_enter Try.func136, Try.ntmps136
  go_wp2_with fail
  refine wp_loop_rounds 7 ?_
  rw [rounds_succ]
  go_wp2_with fail
  go_loop [3, 5] (fun m r => ∃ (u v : Int), m = .int .i64 u ∧ r = .int .i64 v ∧ 0 ≤ v ∧ v ≤ 63 ∧ 0 ≤ u ∧ Hid (u + pc v = pc a0)) (fun _ r => (intOf r).toNat)
  case atStart => exact ⟨0, a0, rfl, rfl, h0.1, h0.2, by omega, Lib.hid (by omega)⟩
  case round =>
    obtain ⟨u, v, rfl, rfl, hv0, hv1, hu0, HR⟩ := hrel
    have hub : u ≤ 36 := by have := HR.out; have := (pc_bd ⟨hv0, hv1⟩).1; omega
    by_cases hp : 0 < v
    · go_wp2_with fail
      go_round
      case rel => exact ⟨u + v % 2, v / 2, by go_num, by go_num, by omega, by omega, by omega, Lib.hid (by have := HR.out; have := pc_half hv0 hv1; omega)⟩
      case measure => simp [intOf]; omega
    · have hv : v = 0 := by omega
      have hu : u = pc a0 := by have := HR.out; rw [hv, pc_zero] at this; omega
      subst hv
      clear HR hu0 hub hv0 hv1
      subst hu
      go_wp2_with fail
      rw [rounds_succ]
      go_wp2_with fail
      go_loop [3, 5] (fun m r => ∃ (u v : Int), m = .int .i64 u ∧ r = .int .i64 v ∧ 0 ≤ v ∧ v ≤ 63 ∧ 0 ≤ u ∧ Hid (u + pc v = pc a0 + pc a1)) (fun _ r => (intOf r).toNat)
      case atStart => exact ⟨_, a1, rfl, rfl, h1.1, h1.2, by omega, Lib.hid (by omega)⟩
      case round =>
        obtain ⟨u, v, rfl, rfl, hv0, hv1, hu0, HR⟩ := hrel
        have hub : u ≤ 36 := by have := HR.out; have := (pc_bd ⟨hv0, hv1⟩).1; omega
        by_cases hp : 0 < v
        · go_wp2_with fail
          go_round
          case rel => exact ⟨u + v % 2, v / 2, by go_num, by go_num, by omega, by omega, by omega, Lib.hid (by have := HR.out; have := pc_half hv0 hv1; omega)⟩
          case measure => simp [intOf]; omega
        · have hv : v = 0 := by omega
          have hu : u = pc a0 + pc a1 := by have := HR.out; rw [hv, pc_zero] at this; omega
          subst hv
          clear HR hu0 hub hv0 hv1
          subst hu
          go_wp2_with fail
          rw [rounds_succ]
          go_wp2_with fail
          go_loop [3, 5] (fun m r => ∃ (u v : Int), m = .int .i64 u ∧ r = .int .i64 v ∧ 0 ≤ v ∧ v ≤ 63 ∧ 0 ≤ u ∧ Hid (u + pc v = pc a0 + pc a1 + pc a2)) (fun _ r => (intOf r).toNat)
          case atStart => exact ⟨_, a2, rfl, rfl, h2.1, h2.2, by omega, Lib.hid (by omega)⟩
          case round =>
            obtain ⟨u, v, rfl, rfl, hv0, hv1, hu0, HR⟩ := hrel
            have hub : u ≤ 36 := by have := HR.out; have := (pc_bd ⟨hv0, hv1⟩).1; omega
            by_cases hp : 0 < v
            · go_wp2_with fail
              go_round
              case rel => exact ⟨u + v % 2, v / 2, by go_num, by go_num, by omega, by omega, by omega, Lib.hid (by have := HR.out; have := pc_half hv0 hv1; omega)⟩
              case measure => simp [intOf]; omega
            · have hv : v = 0 := by omega
              have hu : u = pc a0 + pc a1 + pc a2 := by have := HR.out; rw [hv, pc_zero] at this; omega
              subst hv
              clear HR hu0 hub hv0 hv1
              subst hu
              go_wp2_with fail
              rw [rounds_succ]
              go_wp2_with fail
              go_loop [3, 5] (fun m r => ∃ (u v : Int), m = .int .i64 u ∧ r = .int .i64 v ∧ 0 ≤ v ∧ v ≤ 63 ∧ 0 ≤ u ∧ Hid (u + pc v = pc a0 + pc a1 + pc a2 + pc a3)) (fun _ r => (intOf r).toNat)
              case atStart => exact ⟨_, a3, rfl, rfl, h3.1, h3.2, by omega, Lib.hid (by omega)⟩
              case round =>
                obtain ⟨u, v, rfl, rfl, hv0, hv1, hu0, HR⟩ := hrel
                have hub : u ≤ 36 := by have := HR.out; have := (pc_bd ⟨hv0, hv1⟩).1; omega
                by_cases hp : 0 < v
                · go_wp2_with fail
                  go_round
                  case rel => exact ⟨u + v % 2, v / 2, by go_num, by go_num, by omega, by omega, by omega, Lib.hid (by have := HR.out; have := pc_half hv0 hv1; omega)⟩
                  case measure => simp [intOf]; omega
                · have hv : v = 0 := by omega
                  have hu : u = pc a0 + pc a1 + pc a2 + pc a3 := by have := HR.out; rw [hv, pc_zero] at this; omega
                  subst hv
                  clear HR hu0 hub hv0 hv1
                  subst hu
                  go_wp2_with fail
                  rw [rounds_succ]
                  go_wp2_with fail
                  go_loop [3, 5] (fun m r => ∃ (u v : Int), m = .int .i64 u ∧ r = .int .i64 v ∧ 0 ≤ v ∧ v ≤ 63 ∧ 0 ≤ u ∧ Hid (u + pc v = pc a0 + pc a1 + pc a2 + pc a3 + pc a4)) (fun _ r => (intOf r).toNat)
                  case atStart => exact ⟨_, a4, rfl, rfl, h4.1, h4.2, by omega, Lib.hid (by omega)⟩
                  case round =>
                    obtain ⟨u, v, rfl, rfl, hv0, hv1, hu0, HR⟩ := hrel
                    have hub : u ≤ 36 := by have := HR.out; have := (pc_bd ⟨hv0, hv1⟩).1; omega
                    by_cases hp : 0 < v
                    · go_wp2_with fail
                      go_round
                      case rel => exact ⟨u + v % 2, v / 2, by go_num, by go_num, by omega, by omega, by omega, Lib.hid (by have := HR.out; have := pc_half hv0 hv1; omega)⟩
                      case measure => simp [intOf]; omega
                    · have hv : v = 0 := by omega
                      have hu : u = pc a0 + pc a1 + pc a2 + pc a3 + pc a4 := by have := HR.out; rw [hv, pc_zero] at this; omega
                      subst hv
                      clear HR hu0 hub hv0 hv1
                      subst hu
                      go_wp2_with fail
                      rw [rounds_succ]
                      go_wp2_with fail
                      go_loop [3, 5] (fun m r => ∃ (u v : Int), m = .int .i64 u ∧ r = .int .i64 v ∧ 0 ≤ v ∧ v ≤ 63 ∧ 0 ≤ u ∧ Hid (u + pc v = pc a0 + pc a1 + pc a2 + pc a3 + pc a4 + pc a5)) (fun _ r => (intOf r).toNat)
                      case atStart => exact ⟨_, a5, rfl, rfl, h5.1, h5.2, by omega, Lib.hid (by omega)⟩
                      case round =>
                        obtain ⟨u, v, rfl, rfl, hv0, hv1, hu0, HR⟩ := hrel
                        have hub : u ≤ 36 := by have := HR.out; have := (pc_bd ⟨hv0, hv1⟩).1; omega
                        by_cases hp : 0 < v
                        · go_wp2_with fail
                          go_round
                          case rel => exact ⟨u + v % 2, v / 2, by go_num, by go_num, by omega, by omega, by omega, Lib.hid (by have := HR.out; have := pc_half hv0 hv1; omega)⟩
                          case measure => simp [intOf]; omega
                        · have hv : v = 0 := by omega
                          have hu : u = pc a0 + pc a1 + pc a2 + pc a3 + pc a4 + pc a5 := by have := HR.out; rw [hv, pc_zero] at this; omega
                          subst hv
                          clear HR hu0 hub hv0 hv1
                          subst hu
                          go_wp2_with fail
                          rw [rounds_succ]
                          go_wp2_with fail
                          go_ret
                          exact ⟨rfl, by (repeat (first | exact Below.refl _ _ | assumption | refine Below.setCell ?_ (by first | (simp; done) | (simp; omega)) _ | refine Below.alloc ?_ (by first | (simp; done) | (simp; omega)) _ | refine Below.drew ?_))⟩
set_option maxHeartbeats 1000000 in
theorem isize_no0 (a0 a1 a2 a3 a4 a5 : Int) (H0 : Hid (∀ w, Calls Try.prog 147 #[.agg #[.int .i64 a0, .int .i64 a1, .int .i64 a2, .int .i64 a3, .int .i64 a4, .int .i64 a5]] w fun e w' => e = .returned (.bool false) ∧ Below w.heap.size w w')) (w : World) : Calls Try.prog 56 #[.agg #[.int .i64 a0, .int .i64 a1, .int .i64 a2, .int .i64 a3, .int .i64 a4, .int .i64 a5]] w fun e w' => e = .returned (.tuple #[.int .i64 0, .bool false]) ∧ Below w.heap.size w w' := by
  go_enter Try.func56, Try.ntmps56
  go_wp2_with fail
  generalize hW : (World.alloc _ _ : World) = W0
  have hB0 : Below w.heap.size w W0 := by rw [← hW]; (repeat (first | exact Below.refl _ _ | assumption | refine Below.setCell ?_ (by first | (simp; done) | (simp; omega)) _ | refine Below.alloc ?_ (by first | (simp; done) | (simp; omega)) _ | refine Below.drew ?_))
  have qa : W0.heap[(w.heap.size : Nat)]? = some (Obj.cells (#[.int .i64 a0, .int .i64 a1, .int .i64 a2, .int .i64 a3, .int .i64 a4, .int .i64 a5]) 28 (0, 0)) := by
    rw [← hW]
    repeat (first | (refine alloc_at ?_; first | (simp; done) | (simp; omega)) | refine drew_row ?_ | refine alloc_past ?_ | assumption)
  clear hW
  refine (H0.out _).mono ?_
  rintro e W1 ⟨rfl, hb⟩
  have nqa := rowk qa hb rfl
  have hB1 := below_of hB0 hb hB0.size
  clear hb hB0 qa
  have qa := nqa
  clear nqa
  have qa_c := fun j => cell_of_row W1 _ j _ _ _ qa
  have qa_f := fun j => frozen_of_row W1 _ j _ _ qa
  go_wp2_with fail
  go_ret2
  exact ⟨rfl, hB1⟩
set_option maxHeartbeats 2000000 in
theorem isize_yes (a0 a1 a2 a3 a4 a5 : Int) (hv : (0 ≤ a0 ∧ a0 ≤ 63) ∧ (0 ≤ a1 ∧ a1 ≤ 63) ∧ (0 ≤ a2 ∧ a2 ≤ 63) ∧ (0 ≤ a3 ∧ a3 ≤ 63) ∧ (0 ≤ a4 ∧ a4 ≤ 63) ∧ (0 ≤ a5 ∧ a5 ≤ 63)) (H0 : Hid (∀ w, Calls Try.prog 147 #[.agg #[.int .i64 a0, .int .i64 a1, .int .i64 a2, .int .i64 a3, .int .i64 a4, .int .i64 a5]] w fun e w' => e = .returned (.bool true) ∧ Below w.heap.size w w')) (w : World) : Calls Try.prog 56 #[.agg #[.int .i64 a0, .int .i64 a1, .int .i64 a2, .int .i64 a3, .int .i64 a4, .int .i64 a5]] w fun e w' => e = .returned (.tuple #[.int .i64 (pc a0 + pc a1 + pc a2 + pc a3 + pc a4 + pc a5), .bool true]) ∧ Below w.heap.size w w' := by
  obtain ⟨h0, h1, h2, h3, h4, h5⟩ := hv
  have b0 := pc_bd h0; have b1 := pc_bd h1; have b2 := pc_bd h2; have b3 := pc_bd h3; have b4 := pc_bd h4; have b5 := pc_bd h5
  have i0 := ix0 a0 a1 a2 a3 a4 a5; have i1 := ix1 a0 a1 a2 a3 a4 a5; have i2 := ix2 a0 a1 a2 a3 a4 a5; have i3 := ix3 a0 a1 a2 a3 a4 a5; have i4 := ix4 a0 a1 a2 a3 a4 a5; have i5 := ix5 a0 a1 a2 a3 a4 a5
  have u0 : IntKind.u64.wrap a0 = a0 := (by rw [IntKind.wrap_u64]; exact Int.emod_eq_of_lt (by omega) (by omega)); have u1 : IntKind.u64.wrap a1 = a1 := (by rw [IntKind.wrap_u64]; exact Int.emod_eq_of_lt (by omega) (by omega)); have u2 : IntKind.u64.wrap a2 = a2 := (by rw [IntKind.wrap_u64]; exact Int.emod_eq_of_lt (by omega) (by omega)); have u3 : IntKind.u64.wrap a3 = a3 := (by rw [IntKind.wrap_u64]; exact Int.emod_eq_of_lt (by omega) (by omega)); have u4 : IntKind.u64.wrap a4 = a4 := (by rw [IntKind.wrap_u64]; exact Int.emod_eq_of_lt (by omega) (by omega)); have u5 : IntKind.u64.wrap a5 = a5 := (by rw [IntKind.wrap_u64]; exact Int.emod_eq_of_lt (by omega) (by omega))
  have O0 := Lib.hid (oc_any a0 h0); have O1 := Lib.hid (oc_any a1 h1); have O2 := Lib.hid (oc_any a2 h2); have O3 := Lib.hid (oc_any a3 h3); have O4 := Lib.hid (oc_any a4 h4); have O5 := Lib.hid (oc_any a5 h5)
  generalize pc a0 = p0 at b0 O0 ⊢; generalize pc a1 = p1 at b1 O1 ⊢; generalize pc a2 = p2 at b2 O2 ⊢; generalize pc a3 = p3 at b3 O3 ⊢; generalize pc a4 = p4 at b4 O4 ⊢; generalize pc a5 = p5 at b5 O5 ⊢
  go_enter Try.func56, Try.ntmps56
  go_wp2_with fail
  generalize hW : (World.alloc _ _ : World) = W0
  have hB0 : Below w.heap.size w W0 := by rw [← hW]; (repeat (first | exact Below.refl _ _ | assumption | refine Below.setCell ?_ (by first | (simp; done) | (simp; omega)) _ | refine Below.alloc ?_ (by first | (simp; done) | (simp; omega)) _ | refine Below.drew ?_))
  have qa : W0.heap[(w.heap.size : Nat)]? = some (Obj.cells (#[.int .i64 a0, .int .i64 a1, .int .i64 a2, .int .i64 a3, .int .i64 a4, .int .i64 a5]) 28 (0, 0)) := by
    rw [← hW]
    repeat (first | (refine alloc_at ?_; first | (simp; done) | (simp; omega)) | refine drew_row ?_ | refine alloc_past ?_ | assumption)
  clear hW
  refine (H0.out _).mono ?_
  rintro e W1 ⟨rfl, hb⟩
  have nqa := rowk qa hb rfl
  have hB1 := below_of hB0 hb hB0.size
  clear hb hB0 qa
  have qa := nqa
  clear nqa
  have qa_c := fun j => cell_of_row W1 _ j _ _ _ qa
  have qa_f := fun j => frozen_of_row W1 _ j _ _ qa
  go_wp2_with fail
  refine wp_loop_rounds 7 ?_
  rw [rounds_succ]
  go_wp2_with fail
  refine (O0.out _).mono ?_
  rintro e w' ⟨rfl, rfl⟩
  go_wp2_with fail
  rw [rounds_succ]
  go_wp2_with fail
  refine (O1.out _).mono ?_
  rintro e w' ⟨rfl, rfl⟩
  go_wp2_with fail
  rw [rounds_succ]
  go_wp2_with fail
  refine (O2.out _).mono ?_
  rintro e w' ⟨rfl, rfl⟩
  go_wp2_with fail
  rw [rounds_succ]
  go_wp2_with fail
  refine (O3.out _).mono ?_
  rintro e w' ⟨rfl, rfl⟩
  go_wp2_with fail
  rw [rounds_succ]
  go_wp2_with fail
  refine (O4.out _).mono ?_
  rintro e w' ⟨rfl, rfl⟩
  go_wp2_with fail
  rw [rounds_succ]
  go_wp2_with fail
  refine (O5.out _).mono ?_
  rintro e w' ⟨rfl, rfl⟩
  go_wp2_with fail
  rw [rounds_succ]
  go_wp2_with fail
  go_ret2
  exact ⟨rfl, hB1⟩
/- Bz -/
theorem rows_ok (f : Fn6) : (ok (rowv (f 0)) && ok (rowv (f 1)) && ok (rowv (f 2)) && ok (rowv (f 3)) && ok (rowv (f 4)) && ok (rowv (f 5))) = true := by simp only [rowv_ok, Bool.and_self]
theorem itimes_c (s p : Fn6) (n : Nat) (hn : n ≤ 12) (w : World) : Calls Try.prog 76 #[.agg #[.int .i64 (rowv (s 0)), .int .i64 (rowv (s 1)), .int .i64 (rowv (s 2)), .int .i64 (rowv (s 3)), .int .i64 (rowv (s 4)), .int .i64 (rowv (s 5))], .agg #[.int .i64 (rowv (p 0)), .int .i64 (rowv (p 1)), .int .i64 (rowv (p 2)), .int .i64 (rowv (p 3)), .int .i64 (rowv (p 4)), .int .i64 (rowv (p 5))], .int .i64 (n : Int)] w fun e w' => e = .returned (.tuple #[.agg #[.int .i64 (rowv (spn5 s p n 0)), .int .i64 (rowv (spn5 s p n 1)), .int .i64 (rowv (spn5 s p n 2)), .int .i64 (rowv (spn5 s p n 3)), .int .i64 (rowv (spn5 s p n 4)), .int .i64 (rowv (spn5 s p n 5))], .bool true]) ∧ Below w.heap.size w w' :=
  iti_any (rowv (s 0)) (rowv (s 1)) (rowv (s 2)) (rowv (s 3)) (rowv (s 4)) (rowv (s 5)) (rowv (p 0)) (rowv (p 1)) (rowv (p 2)) (rowv (p 3)) (rowv (p 4)) (rowv (p 5)) _ _ _ _ _ _ true n hn (Lib.hid fun w g hg => behind_g (List.replicate n false) n List.length_replicate hn _ (rr5_map n) _ s p (be_rep s p n) w g hg) w
theorem isum_c (s p : Fn6) (w : World) : Calls Try.prog 82 #[.agg #[.int .i64 (rowv (s 0)), .int .i64 (rowv (s 1)), .int .i64 (rowv (s 2)), .int .i64 (rowv (s 3)), .int .i64 (rowv (s 4)), .int .i64 (rowv (s 5))], .agg #[.int .i64 (rowv (p 0)), .int .i64 (rowv (p 1)), .int .i64 (rowv (p 2)), .int .i64 (rowv (p 3)), .int .i64 (rowv (p 4)), .int .i64 (rowv (p 5))]] w fun e w' => e = .returned (.tuple #[.agg #[.int .i64 (rowv (spd s p 0)), .int .i64 (rowv (spd s p 1)), .int .i64 (rowv (spd s p 2)), .int .i64 (rowv (spd s p 3)), .int .i64 (rowv (spd s p 4)), .int .i64 (rowv (spd s p 5))], .bool true]) ∧ Below w.heap.size w w' := isu_any (rowv (s 0)) (rowv (s 1)) (rowv (s 2)) (rowv (s 3)) (rowv (s 4)) (rowv (s 5)) (rowv (p 0)) (rowv (p 1)) (rowv (p 2)) (rowv (p 3)) (rowv (p 4)) (rowv (p 5)) _ _ _ _ _ _ true (Lib.hid (ispread_c s p)) w
theorem row_le (f : Nat → Bool) : 0 ≤ rowv f ∧ rowv f ≤ 63 := by
  have h := rowv_ok f
  simpa [ok] using h
def szf (f : Fn6) : Int := pc (rowv (f 0)) + pc (rowv (f 1)) + pc (rowv (f 2)) + pc (rowv (f 3)) + pc (rowv (f 4)) + pc (rowv (f 5))
theorem isize_c (f : Fn6) (w : World) : Calls Try.prog 56 #[.agg #[.int .i64 (rowv (f 0)), .int .i64 (rowv (f 1)), .int .i64 (rowv (f 2)), .int .i64 (rowv (f 3)), .int .i64 (rowv (f 4)), .int .i64 (rowv (f 5))]] w fun e w' => e = .returned (.tuple #[.int .i64 (szf f), .bool true]) ∧ Below w.heap.size w w' := isize_yes (rowv (f 0)) (rowv (f 1)) (rowv (f 2)) (rowv (f 3)) (rowv (f 4)) (rowv (f 5)) ⟨row_le (f 0), row_le (f 1), row_le (f 2), row_le (f 3), row_le (f 4), row_le (f 5)⟩ (sh_ai _ _ _ _ _ _ (rows_ok f)) w
theorem pc_six : ∀ x : Fin 64, (pc ((x.val : Nat) : Int) == 6) = (((x.val : Nat) : Int) == 63) := by decide +kernel
theorem pc_full (f : Nat → Bool) : (pc (rowv f) = 6) ↔ rowv f = 63 := by
  obtain ⟨h0, h1⟩ := row_le f
  obtain ⟨n, hn⟩ := Int.eq_ofNat_of_zero_le h0
  rw [hn]
  have h := pc_six ⟨n, by omega⟩
  have h2 : (pc (n : Int) == 6) = ((n : Int) == 63) := h
  constructor
  · intro e; rw [e] at h2; simpa using h2.symm
  · intro e; rw [e] at h2 ⊢; simpa using h2
theorem szf_full (f : Fn6) : szf f = 36 ↔ fl5 f = true := by
  have b0 := pc_bd (row_le (f 0)); have b1 := pc_bd (row_le (f 1)); have b2 := pc_bd (row_le (f 2)); have b3 := pc_bd (row_le (f 3)); have b4 := pc_bd (row_le (f 4)); have b5 := pc_bd (row_le (f 5))
  unfold szf fl5
  simp only [Bool.and_eq_true, beq_iff_eq, ← pc_full]
  omega
theorem spd_rows {s s' p p' : Fn6} (h : Ag (spd s p) (spd s' p')) {j : Nat} (hj : j < 6) : rowv (spd s p j) = rowv (spd s' p' j) := rowv_congr fun i hi => h j i hj hi
theorem times_all (a0 a1 a2 a3 a4 a5 : Int) (b0 b1 b2 b3 b4 b5 : Int) (k : Int) : ∃ (r0 r1 r2 r3 r4 r5 : Int) (t : Bool), (∀ w, Calls Try.prog 77 #[.agg #[.int .i64 a0, .int .i64 a1, .int .i64 a2, .int .i64 a3, .int .i64 a4, .int .i64 a5], .agg #[.int .i64 b0, .int .i64 b1, .int .i64 b2, .int .i64 b3, .int .i64 b4, .int .i64 b5], .int .i64 k] w fun e w' => e = .returned (.tuple #[.agg #[.int .i64 r0, .int .i64 r1, .int .i64 r2, .int .i64 r3, .int .i64 r4, .int .i64 r5], .bool t]) ∧ Below w.heap.size w w') ∧ (∀ w, Calls Try.prog 76 #[.agg #[.int .i64 a0, .int .i64 a1, .int .i64 a2, .int .i64 a3, .int .i64 a4, .int .i64 a5], .agg #[.int .i64 b0, .int .i64 b1, .int .i64 b2, .int .i64 b3, .int .i64 b4, .int .i64 b5], .int .i64 k] w fun e w' => e = .returned (.tuple #[.agg #[.int .i64 r0, .int .i64 r1, .int .i64 r2, .int .i64 r3, .int .i64 r4, .int .i64 r5], .bool t]) ∧ Below w.heap.size w w') ∧ (t = true → ∃ (s p : Fn6) (n : Nat), n ≤ 12 ∧ k = n ∧ (a0 = rowv (s 0) ∧ a1 = rowv (s 1) ∧ a2 = rowv (s 2) ∧ a3 = rowv (s 3) ∧ a4 = rowv (s 4) ∧ a5 = rowv (s 5)) ∧ (b0 = rowv (p 0) ∧ b1 = rowv (p 1) ∧ b2 = rowv (p 2) ∧ b3 = rowv (p 3) ∧ b4 = rowv (p 4) ∧ b5 = rowv (p 5)) ∧ (r0 = rowv (spn5 s p n 0) ∧ r1 = rowv (spn5 s p n 1) ∧ r2 = rowv (spn5 s p n 2) ∧ r3 = rowv (spn5 s p n 3) ∧ r4 = rowv (spn5 s p n 4) ∧ r5 = rowv (spn5 s p n 5))) := by
  by_cases hk : 0 ≤ k ∧ k ≤ 12
  · obtain ⟨n, rfl⟩ := Int.eq_ofNat_of_zero_le hk.1
    have hn : n ≤ 12 := by omega
    cases hv : (ok a0 && ok a1 && ok a2 && ok a3 && ok a4 && ok a5)
    · exact ⟨0, 0, 0, 0, 0, 0, false, fun w => stm_no0 a0 a1 a2 a3 a4 a5 b0 b1 b2 b3 b4 b5 n (sh_as a0 a1 a2 a3 a4 a5 hv) w, fun w => iti_any a0 a1 a2 a3 a4 a5 b0 b1 b2 b3 b4 b5 0 0 0 0 0 0 false n hn (Lib.hid fun w g _ => behind_no0 a0 a1 a2 a3 a4 a5 b0 b1 b2 b3 b4 b5 _ (sh_ai a0 a1 a2 a3 a4 a5 hv) w) w, fun h => by cases h⟩
    · cases hc : (ok b0 && ok b1 && ok b2 && ok b3 && ok b4 && ok b5)
      · exact ⟨0, 0, 0, 0, 0, 0, false, fun w => stm_no1 a0 a1 a2 a3 a4 a5 b0 b1 b2 b3 b4 b5 n (sh_as a0 a1 a2 a3 a4 a5 hv) (sh_as b0 b1 b2 b3 b4 b5 hc) w, fun w => iti_any a0 a1 a2 a3 a4 a5 b0 b1 b2 b3 b4 b5 0 0 0 0 0 0 false n hn (Lib.hid fun w g _ => behind_no1 a0 a1 a2 a3 a4 a5 b0 b1 b2 b3 b4 b5 _ (sh_ai a0 a1 a2 a3 a4 a5 hv) (sh_ai b0 b1 b2 b3 b4 b5 hc) w) w, fun h => by cases h⟩
      · have Hs := sh_as a0 a1 a2 a3 a4 a5 hv
        have Ks := sh_as b0 b1 b2 b3 b4 b5 hc
        obtain ⟨s, rfl, rfl, rfl, rfl, rfl, rfl⟩ := sheet_bits a0 a1 a2 a3 a4 a5 hv
        obtain ⟨p, rfl, rfl, rfl, rfl, rfl, rfl⟩ := sheet_bits b0 b1 b2 b3 b4 b5 hc
        exact ⟨_, _, _, _, _, _, true, fun w => stm_yes s p n hn Hs Ks w, fun w => itimes_c s p n hn w, fun _ => ⟨s, p, n, hn, rfl, ⟨rfl, rfl, rfl, rfl, rfl, rfl⟩, ⟨rfl, rfl, rfl, rfl, rfl, rfl⟩, ⟨rfl, rfl, rfl, rfl, rfl, rfl⟩⟩⟩
  · have HN : Hid (∀ w, Calls Try.prog 177 #[.int .i64 k, .int .i64 0, .int .i64 12] w fun e w' => e = .returned (.bool false) ∧ Below w.heap.size w w') := Lib.hid (fun w => (l1in_any k 0 12 w).mono (by
      rintro e w' ⟨rfl, rfl⟩
      refine ⟨?_, Below.refl _ _⟩
      have : (decide ((0 : Int) ≤ k) && decide (k ≤ 12)) = false := by
        cases hc : (decide ((0 : Int) ≤ k) && decide (k ≤ 12))
        · rfl
        · simp at hc; omega
      rw [this]))
    cases hv : (ok a0 && ok a1 && ok a2 && ok a3 && ok a4 && ok a5)
    · exact ⟨0, 0, 0, 0, 0, 0, false, fun w => stm_no0 a0 a1 a2 a3 a4 a5 b0 b1 b2 b3 b4 b5 k (sh_as a0 a1 a2 a3 a4 a5 hv) w, fun w => iti_no a0 a1 a2 a3 a4 a5 b0 b1 b2 b3 b4 b5 k hk w, fun h => by cases h⟩
    · cases hc : (ok b0 && ok b1 && ok b2 && ok b3 && ok b4 && ok b5)
      · exact ⟨0, 0, 0, 0, 0, 0, false, fun w => stm_no1 a0 a1 a2 a3 a4 a5 b0 b1 b2 b3 b4 b5 k (sh_as a0 a1 a2 a3 a4 a5 hv) (sh_as b0 b1 b2 b3 b4 b5 hc) w, fun w => iti_no a0 a1 a2 a3 a4 a5 b0 b1 b2 b3 b4 b5 k hk w, fun h => by cases h⟩
      · exact ⟨0, 0, 0, 0, 0, 0, false, fun w => stm_no2 a0 a1 a2 a3 a4 a5 b0 b1 b2 b3 b4 b5 k (sh_as a0 a1 a2 a3 a4 a5 hv) (sh_as b0 b1 b2 b3 b4 b5 hc) HN w, fun w => iti_no a0 a1 a2 a3 a4 a5 b0 b1 b2 b3 b4 b5 k hk w, fun h => by cases h⟩
theorem fill_all (a0 a1 a2 a3 a4 a5 : Int) (b0 b1 b2 b3 b4 b5 : Int) : ∃ (r : Int) (t : Bool), (∀ w, Calls Try.prog 80 #[.agg #[.int .i64 a0, .int .i64 a1, .int .i64 a2, .int .i64 a3, .int .i64 a4, .int .i64 a5], .agg #[.int .i64 b0, .int .i64 b1, .int .i64 b2, .int .i64 b3, .int .i64 b4, .int .i64 b5]] w fun e w' => e = .returned (.tuple #[.int .i64 r, .bool t]) ∧ Below w.heap.size w w') ∧ (∀ w, Calls Try.prog 79 #[.agg #[.int .i64 a0, .int .i64 a1, .int .i64 a2, .int .i64 a3, .int .i64 a4, .int .i64 a5], .agg #[.int .i64 b0, .int .i64 b1, .int .i64 b2, .int .i64 b3, .int .i64 b4, .int .i64 b5]] w fun e w' => e = .returned (.tuple #[.int .i64 r, .bool t]) ∧ Below w.heap.size w w') ∧ (t = true → ∃ (s p : Fn6) (n : Nat), n ≤ 12 ∧ r = n ∧ (a0 = rowv (s 0) ∧ a1 = rowv (s 1) ∧ a2 = rowv (s 2) ∧ a3 = rowv (s 3) ∧ a4 = rowv (s 4) ∧ a5 = rowv (s 5)) ∧ (b0 = rowv (p 0) ∧ b1 = rowv (p 1) ∧ b2 = rowv (p 2) ∧ b3 = rowv (p 3) ∧ b4 = rowv (p 4) ∧ b5 = rowv (p 5)) ∧ fl5 (spn5 s p n) = true ∧ ∀ m, m < n → fl5 (spn5 s p m) = false) := by
  cases hv : (ok a0 && ok a1 && ok a2 && ok a3 && ok a4 && ok a5)
  · exact ⟨0, false, fun w => stf_no0 a0 a1 a2 a3 a4 a5 b0 b1 b2 b3 b4 b5 (sh_as a0 a1 a2 a3 a4 a5 hv) w, fun w => itf_no0 a0 a1 a2 a3 a4 a5 b0 b1 b2 b3 b4 b5 (sh_ai a0 a1 a2 a3 a4 a5 hv) w, fun h => by cases h⟩
  · cases hc : (ok b0 && ok b1 && ok b2 && ok b3 && ok b4 && ok b5)
    · exact ⟨0, false, fun w => stf_no1 a0 a1 a2 a3 a4 a5 b0 b1 b2 b3 b4 b5 (sh_as a0 a1 a2 a3 a4 a5 hv) (sh_as b0 b1 b2 b3 b4 b5 hc) w, fun w => itf_no1 a0 a1 a2 a3 a4 a5 b0 b1 b2 b3 b4 b5 (sh_ai a0 a1 a2 a3 a4 a5 hv) (sh_ai b0 b1 b2 b3 b4 b5 hc) w, fun h => by cases h⟩
    · have Hs0 := sh_as a0 a1 a2 a3 a4 a5 hv
      have Hi0 := sh_ai a0 a1 a2 a3 a4 a5 hv
      have Hs1 := sh_as b0 b1 b2 b3 b4 b5 hc
      have Hi1 := sh_ai b0 b1 b2 b3 b4 b5 hc
      obtain ⟨s, rfl, rfl, rfl, rfl, rfl, rfl⟩ := sheet_bits a0 a1 a2 a3 a4 a5 hv
      obtain ⟨p, rfl, rfl, rfl, rfl, rfl, rfl⟩ := sheet_bits b0 b1 b2 b3 b4 b5 hc
      obtain ⟨N, h1, h2, h3⟩ := first13 (fun n => fl5 (spn5 s p n))
      refine ⟨_, _, fun w => stf_yes s p N h1 h2 h3 Hs0 Hs1 w, fun w => itf_yes s p N h1 h2 h3 Hi0 Hi1 w, fun ht => ?_⟩
      have hN : N < 13 := by simpa using ht
      exact ⟨s, p, N, by omega, by rw [if_pos hN], ⟨rfl, rfl, rfl, rfl, rfl, rfl⟩, ⟨rfl, rfl, rfl, rfl, rfl, rfl⟩, h3 hN, h2⟩
theorem sum_all (a0 a1 a2 a3 a4 a5 : Int) (b0 b1 b2 b3 b4 b5 : Int) : ∃ (r0 r1 r2 r3 r4 r5 : Int) (t : Bool), (∀ w, Calls Try.prog 83 #[.agg #[.int .i64 a0, .int .i64 a1, .int .i64 a2, .int .i64 a3, .int .i64 a4, .int .i64 a5], .agg #[.int .i64 b0, .int .i64 b1, .int .i64 b2, .int .i64 b3, .int .i64 b4, .int .i64 b5]] w fun e w' => e = .returned (.tuple #[.agg #[.int .i64 r0, .int .i64 r1, .int .i64 r2, .int .i64 r3, .int .i64 r4, .int .i64 r5], .bool t]) ∧ Below w.heap.size w w') ∧ (∀ w, Calls Try.prog 82 #[.agg #[.int .i64 a0, .int .i64 a1, .int .i64 a2, .int .i64 a3, .int .i64 a4, .int .i64 a5], .agg #[.int .i64 b0, .int .i64 b1, .int .i64 b2, .int .i64 b3, .int .i64 b4, .int .i64 b5]] w fun e w' => e = .returned (.tuple #[.agg #[.int .i64 r0, .int .i64 r1, .int .i64 r2, .int .i64 r3, .int .i64 r4, .int .i64 r5], .bool t]) ∧ Below w.heap.size w w') ∧ (t = true → ∃ (s p : Fn6), (a0 = rowv (s 0) ∧ a1 = rowv (s 1) ∧ a2 = rowv (s 2) ∧ a3 = rowv (s 3) ∧ a4 = rowv (s 4) ∧ a5 = rowv (s 5)) ∧ (b0 = rowv (p 0) ∧ b1 = rowv (p 1) ∧ b2 = rowv (p 2) ∧ b3 = rowv (p 3) ∧ b4 = rowv (p 4) ∧ b5 = rowv (p 5)) ∧ (r0 = rowv (spd s p 0) ∧ r1 = rowv (spd s p 1) ∧ r2 = rowv (spd s p 2) ∧ r3 = rowv (spd s p 3) ∧ r4 = rowv (spd s p 4) ∧ r5 = rowv (spd s p 5))) := by
  cases hv : (ok a0 && ok a1 && ok a2 && ok a3 && ok a4 && ok a5)
  · exact ⟨0, 0, 0, 0, 0, 0, false, fun w => ssu_no0 a0 a1 a2 a3 a4 a5 b0 b1 b2 b3 b4 b5 (sh_as a0 a1 a2 a3 a4 a5 hv) w, fun w => isu_any a0 a1 a2 a3 a4 a5 b0 b1 b2 b3 b4 b5 0 0 0 0 0 0 false (Lib.hid (ispread_n0 a0 a1 a2 a3 a4 a5 b0 b1 b2 b3 b4 b5 hv)) w, fun h => by cases h⟩
  · cases hc : (ok b0 && ok b1 && ok b2 && ok b3 && ok b4 && ok b5)
    · exact ⟨0, 0, 0, 0, 0, 0, false, fun w => ssu_no1 a0 a1 a2 a3 a4 a5 b0 b1 b2 b3 b4 b5 (sh_as a0 a1 a2 a3 a4 a5 hv) (sh_as b0 b1 b2 b3 b4 b5 hc) w, fun w => isu_any a0 a1 a2 a3 a4 a5 b0 b1 b2 b3 b4 b5 0 0 0 0 0 0 false (Lib.hid (ispread_n1 a0 a1 a2 a3 a4 a5 b0 b1 b2 b3 b4 b5 hv hc)) w, fun h => by cases h⟩
    · have Hs := sh_as a0 a1 a2 a3 a4 a5 hv
      have Ks := sh_as b0 b1 b2 b3 b4 b5 hc
      obtain ⟨s, rfl, rfl, rfl, rfl, rfl, rfl⟩ := sheet_bits a0 a1 a2 a3 a4 a5 hv
      obtain ⟨p, rfl, rfl, rfl, rfl, rfl, rfl⟩ := sheet_bits b0 b1 b2 b3 b4 b5 hc
      exact ⟨_, _, _, _, _, _, true, fun w => ssu_yes (rowv (s 0)) (rowv (s 1)) (rowv (s 2)) (rowv (s 3)) (rowv (s 4)) (rowv (s 5)) (rowv (p 0)) (rowv (p 1)) (rowv (p 2)) (rowv (p 3)) (rowv (p 4)) (rowv (p 5)) _ _ _ _ _ _ Hs Ks (Lib.hid (lspread_f s p)) w, fun w => isum_c s p w, fun _ => ⟨s, p, ⟨rfl, rfl, rfl, rfl, rfl, rfl⟩, ⟨rfl, rfl, rfl, rfl, rfl, rfl⟩, ⟨rfl, rfl, rfl, rfl, rfl, rfl⟩⟩⟩
/- By -/
def RS (f : Nat) (xs : Array Value) (r0 r1 r2 r3 r4 r5 : Int) (t : Bool) : Prop := ∀ w, Calls Try.prog f xs w fun e w' => e = .returned (.tuple #[.agg #[.int .i64 r0, .int .i64 r1, .int .i64 r2, .int .i64 r3, .int .i64 r4, .int .i64 r5], .bool t]) ∧ Below w.heap.size w w'
def RI (f : Nat) (xs : Array Value) (r : Int) (t : Bool) : Prop := ∀ w, Calls Try.prog f xs w fun e w' => e = .returned (.tuple #[.int .i64 r, .bool t]) ∧ Below w.heap.size w w'
theorem times_more (a0 a1 a2 a3 a4 a5 : Int) (b0 b1 b2 b3 b4 b5 : Int) (k : Int) : ∃ (r0 r1 r2 r3 r4 r5 : Int) (t : Bool), RS 77 #[.agg #[.int .i64 a0, .int .i64 a1, .int .i64 a2, .int .i64 a3, .int .i64 a4, .int .i64 a5], .agg #[.int .i64 b0, .int .i64 b1, .int .i64 b2, .int .i64 b3, .int .i64 b4, .int .i64 b5], .int .i64 k] r0 r1 r2 r3 r4 r5 t ∧ RS 76 #[.agg #[.int .i64 a0, .int .i64 a1, .int .i64 a2, .int .i64 a3, .int .i64 a4, .int .i64 a5], .agg #[.int .i64 b0, .int .i64 b1, .int .i64 b2, .int .i64 b3, .int .i64 b4, .int .i64 b5], .int .i64 k] r0 r1 r2 r3 r4 r5 t ∧ (t = true → (∃ s : Fn6, a0 = rowv (s 0) ∧ a1 = rowv (s 1) ∧ a2 = rowv (s 2) ∧ a3 = rowv (s 3) ∧ a4 = rowv (s 4) ∧ a5 = rowv (s 5)) ∧ (0 < k → ∃ (h0 h1 h2 h3 h4 h5 : Int), RS 76 #[.agg #[.int .i64 a0, .int .i64 a1, .int .i64 a2, .int .i64 a3, .int .i64 a4, .int .i64 a5], .agg #[.int .i64 b0, .int .i64 b1, .int .i64 b2, .int .i64 b3, .int .i64 b4, .int .i64 b5], .int .i64 (k - 1)] h0 h1 h2 h3 h4 h5 true ∧ RS 84 #[.agg #[.int .i64 h0, .int .i64 h1, .int .i64 h2, .int .i64 h3, .int .i64 h4, .int .i64 h5], .agg #[.int .i64 b0, .int .i64 b1, .int .i64 b2, .int .i64 b3, .int .i64 b4, .int .i64 b5]] r0 r1 r2 r3 r4 r5 true)) := by
  obtain ⟨r0, r1, r2, r3, r4, r5, t, h1, h2, h3⟩ := times_all a0 a1 a2 a3 a4 a5 b0 b1 b2 b3 b4 b5 k
  refine ⟨r0, r1, r2, r3, r4, r5, t, h1, h2, fun ht => ?_⟩
  obtain ⟨s, p, n, hn, hk, hs, hp, hr⟩ := h3 ht
  refine ⟨⟨s, hs⟩, fun hk0 => ?_⟩
  clear h1 h2 h3
  obtain ⟨m, rfl⟩ : ∃ m, n = m + 1 := ⟨n - 1, by omega⟩
  subst hk
  obtain ⟨rfl, rfl, rfl, rfl, rfl, rfl⟩ := hs
  obtain ⟨rfl, rfl, rfl, rfl, rfl, rfl⟩ := hp
  have e : (((m + 1 : Nat) : Int) - 1) = (m : Int) := by omega
  rw [e]
  have hm : m ≤ 12 := by omega
  have hI := Lib.hid (itimes_c s p m hm)
  have hS := Lib.hid (ispread_c (spn5 s p m) p)
  have e2 : spn5 s p (m + 1) = spd (spn5 s p m) p := rfl
  rw [e2] at hr
  clear e2 e ht hk0 hn
  generalize spn5 s p m = q at hI hS hr
  generalize spd q p = z at hS hr
  obtain ⟨rfl, rfl, rfl, rfl, rfl, rfl⟩ := hr
  exact ⟨rowv (q 0), rowv (q 1), rowv (q 2), rowv (q 3), rowv (q 4), rowv (q 5), hI.out, hS.out⟩
set_option maxHeartbeats 4000000 in
theorem fill_more (a0 a1 a2 a3 a4 a5 : Int) (b0 b1 b2 b3 b4 b5 : Int) : ∃ (r : Int) (t : Bool), RI 80 #[.agg #[.int .i64 a0, .int .i64 a1, .int .i64 a2, .int .i64 a3, .int .i64 a4, .int .i64 a5], .agg #[.int .i64 b0, .int .i64 b1, .int .i64 b2, .int .i64 b3, .int .i64 b4, .int .i64 b5]] r t ∧ RI 79 #[.agg #[.int .i64 a0, .int .i64 a1, .int .i64 a2, .int .i64 a3, .int .i64 a4, .int .i64 a5], .agg #[.int .i64 b0, .int .i64 b1, .int .i64 b2, .int .i64 b3, .int .i64 b4, .int .i64 b5]] r t ∧ (t = true → (0 ≤ r ∧ r ≤ 12) ∧ (∃ (g0 g1 g2 g3 g4 g5 : Int), RS 76 #[.agg #[.int .i64 a0, .int .i64 a1, .int .i64 a2, .int .i64 a3, .int .i64 a4, .int .i64 a5], .agg #[.int .i64 b0, .int .i64 b1, .int .i64 b2, .int .i64 b3, .int .i64 b4, .int .i64 b5], .int .i64 r] g0 g1 g2 g3 g4 g5 true ∧ RI 56 #[.agg #[.int .i64 g0, .int .i64 g1, .int .i64 g2, .int .i64 g3, .int .i64 g4, .int .i64 g5]] 36 true) ∧ (0 < r → ∃ (h0 h1 h2 h3 h4 h5 m : Int), RS 76 #[.agg #[.int .i64 a0, .int .i64 a1, .int .i64 a2, .int .i64 a3, .int .i64 a4, .int .i64 a5], .agg #[.int .i64 b0, .int .i64 b1, .int .i64 b2, .int .i64 b3, .int .i64 b4, .int .i64 b5], .int .i64 (r - 1)] h0 h1 h2 h3 h4 h5 true ∧ RI 56 #[.agg #[.int .i64 h0, .int .i64 h1, .int .i64 h2, .int .i64 h3, .int .i64 h4, .int .i64 h5]] m true ∧ m ≠ 36)) := by
  obtain ⟨r, t, h1, h2, h3⟩ := fill_all a0 a1 a2 a3 a4 a5 b0 b1 b2 b3 b4 b5
  refine ⟨r, t, h1, h2, fun ht => ?_⟩
  obtain ⟨s, p, n, hn, hk, hs, hp, hf, hq⟩ := h3 ht
  clear h1 h2 h3
  subst hk
  obtain ⟨rfl, rfl, rfl, rfl, rfl, rfl⟩ := hs
  obtain ⟨rfl, rfl, rfl, rfl, rfl, rfl⟩ := hp
  refine ⟨by omega, ?_, fun hk0 => ?_⟩
  · have hI := Lib.hid (itimes_c s p n hn)
    have hS := Lib.hid (isize_c (spn5 s p n))
    rw [(szf_full _).mpr hf] at hS
    clear hf hq
    generalize spn5 s p n = q at hI hS
    exact ⟨rowv (q 0), rowv (q 1), rowv (q 2), rowv (q 3), rowv (q 4), rowv (q 5), hI.out, hS.out⟩
  · obtain ⟨m, rfl⟩ : ∃ m, n = m + 1 := ⟨n - 1, by omega⟩
    have e : (((m + 1 : Nat) : Int) - 1) = (m : Int) := by omega
    rw [e]
    have hI := Lib.hid (itimes_c s p m (by omega))
    have hS := Lib.hid (isize_c (spn5 s p m))
    have hN : szf (spn5 s p m) ≠ 36 := fun h => by have h2 := (szf_full _).mp h; rw [hq m (by omega)] at h2; cases h2
    generalize spn5 s p m = q at hI hS hN ⊢
    exact ⟨rowv (q 0), rowv (q 1), rowv (q 2), rowv (q 3), rowv (q 4), rowv (q 5), szf q, hI.out, hS.out, hN⟩
set_option maxHeartbeats 4000000 in
theorem sum_more (a0 a1 a2 a3 a4 a5 : Int) (b0 b1 b2 b3 b4 b5 : Int) : ∃ (r0 r1 r2 r3 r4 r5 : Int) (t : Bool), RS 83 #[.agg #[.int .i64 a0, .int .i64 a1, .int .i64 a2, .int .i64 a3, .int .i64 a4, .int .i64 a5], .agg #[.int .i64 b0, .int .i64 b1, .int .i64 b2, .int .i64 b3, .int .i64 b4, .int .i64 b5]] r0 r1 r2 r3 r4 r5 t ∧ RS 82 #[.agg #[.int .i64 a0, .int .i64 a1, .int .i64 a2, .int .i64 a3, .int .i64 a4, .int .i64 a5], .agg #[.int .i64 b0, .int .i64 b1, .int .i64 b2, .int .i64 b3, .int .i64 b4, .int .i64 b5]] r0 r1 r2 r3 r4 r5 t ∧ (t = true → RS 82 #[.agg #[.int .i64 b0, .int .i64 b1, .int .i64 b2, .int .i64 b3, .int .i64 b4, .int .i64 b5], .agg #[.int .i64 a0, .int .i64 a1, .int .i64 a2, .int .i64 a3, .int .i64 a4, .int .i64 a5]] r0 r1 r2 r3 r4 r5 true ∧ ∀ (c0 c1 c2 c3 c4 c5 : Int), (∃ s : Fn6, c0 = rowv (s 0) ∧ c1 = rowv (s 1) ∧ c2 = rowv (s 2) ∧ c3 = rowv (s 3) ∧ c4 = rowv (s 4) ∧ c5 = rowv (s 5)) → ∃ (d0 d1 d2 d3 d4 d5 e0 e1 e2 e3 e4 e5 : Int), RS 84 #[.agg #[.int .i64 c0, .int .i64 c1, .int .i64 c2, .int .i64 c3, .int .i64 c4, .int .i64 c5], .agg #[.int .i64 r0, .int .i64 r1, .int .i64 r2, .int .i64 r3, .int .i64 r4, .int .i64 r5]] d0 d1 d2 d3 d4 d5 true ∧ RS 84 #[.agg #[.int .i64 c0, .int .i64 c1, .int .i64 c2, .int .i64 c3, .int .i64 c4, .int .i64 c5], .agg #[.int .i64 a0, .int .i64 a1, .int .i64 a2, .int .i64 a3, .int .i64 a4, .int .i64 a5]] e0 e1 e2 e3 e4 e5 true ∧ RS 84 #[.agg #[.int .i64 e0, .int .i64 e1, .int .i64 e2, .int .i64 e3, .int .i64 e4, .int .i64 e5], .agg #[.int .i64 b0, .int .i64 b1, .int .i64 b2, .int .i64 b3, .int .i64 b4, .int .i64 b5]] d0 d1 d2 d3 d4 d5 true) := by
  obtain ⟨r0, r1, r2, r3, r4, r5, t, h1, h2, h3⟩ := sum_all a0 a1 a2 a3 a4 a5 b0 b1 b2 b3 b4 b5
  refine ⟨r0, r1, r2, r3, r4, r5, t, h1, h2, fun ht => ?_⟩
  obtain ⟨s, p, hs, hp, hr⟩ := h3 ht
  clear h1 h2 h3
  obtain ⟨rfl, rfl, rfl, rfl, rfl, rfl⟩ := hs
  obtain ⟨rfl, rfl, rfl, rfl, rfl, rfl⟩ := hp
  refine ⟨?_, fun c0 c1 c2 c3 c4 c5 hc => ?_⟩
  · have h := Lib.hid (isum_c p s)
    have e := spd_comm p s
    rw [e.row (r := 0) (by decide), e.row (r := 1) (by decide), e.row (r := 2) (by decide), e.row (r := 3) (by decide), e.row (r := 4) (by decide), e.row (r := 5) (by decide)] at h
    generalize spd s p = z at h hr
    obtain ⟨rfl, rfl, rfl, rfl, rfl, rfl⟩ := hr
    exact h.out
  · obtain ⟨f, hf⟩ := hc
    obtain ⟨rfl, rfl, rfl, rfl, rfl, rfl⟩ := hf
    have h1 := Lib.hid (ispread_c f (spd s p))
    have h2 := Lib.hid (ispread_c f s)
    have h := Lib.hid (ispread_c (spd f s) p)
    have e := spd_assoc f s p
    rw [e.row (r := 0) (by decide), e.row (r := 1) (by decide), e.row (r := 2) (by decide), e.row (r := 3) (by decide), e.row (r := 4) (by decide), e.row (r := 5) (by decide)] at h
    clear e
    generalize spd f (spd s p) = z at h1 h
    generalize spd f s = y at h2 h
    generalize spd s p = u at h1 hr
    obtain ⟨rfl, rfl, rfl, rfl, rfl, rfl⟩ := hr
    exact ⟨rowv (z 0), rowv (z 1), rowv (z 2), rowv (z 3), rowv (z 4), rowv (z 5), rowv (y 0), rowv (y 1), rowv (y 2), rowv (y 3), rowv (y 4), rowv (y 5), h1.out, h2.out, h.out⟩
/- Lm5 -/
theorem neq26 (a0 a1 a2 a3 a4 a5 : Int) (b0 b1 b2 b3 b4 b5 : Int) (w : World) : (binOp .neq 28 (.agg #[.int .i64 a0, .int .i64 a1, .int .i64 a2, .int .i64 a3, .int .i64 a4, .int .i64 a5]) (.agg #[.int .i64 b0, .int .i64 b1, .int .i64 b2, .int .i64 b3, .int .i64 b4, .int .i64 b5])).run Try.prog w = .ok (.bool (!(a0 == b0 && a1 == b1 && a2 == b2 && a3 == b3 && a4 == b4 && a5 == b5))) w := by
  have h := eq26 a0 a1 a2 a3 a4 a5 b0 b1 b2 b3 b4 b5 w
  rw [run_eql_struct] at h
  rw [run_neq_struct]
  generalize (Op.equalIn 10000 28 (.agg #[.int .i64 a0, .int .i64 a1, .int .i64 a2, .int .i64 a3, .int .i64 a4, .int .i64 a5]) (.agg #[.int .i64 b0, .int .i64 b1, .int .i64 b2, .int .i64 b3, .int .i64 b4, .int .i64 b5])).run Try.prog w = x at h ⊢
  cases x with
  | ok v w' =>
    simp only [Result.andThen_ok, Result.ok.injEq, Value.bool.injEq] at h ⊢
    exact ⟨by rw [h.1], h.2⟩
  | halt e w' => cases h
theorem neq_white (F : Fn6) (w : World) : (binOp .neq 28 (.agg #[.int .i64 (rowv (F 0)), .int .i64 (rowv (F 1)), .int .i64 (rowv (F 2)), .int .i64 (rowv (F 3)), .int .i64 (rowv (F 4)), .int .i64 (rowv (F 5))]) (.agg #[.int .i64 0, .int .i64 0, .int .i64 0, .int .i64 0, .int .i64 0, .int .i64 0])).run Try.prog w = .ok (.bool (!wh5 F)) w := neq26 (rowv (F 0)) (rowv (F 1)) (rowv (F 2)) (rowv (F 3)) (rowv (F 4)) (rowv (F 5)) 0 0 0 0 0 0 w
/-- Shrunk n times. -/
def shn5 (s p : Fn6) : Nat → Fn6
  | 0 => s
  | n + 1 => shr (shn5 s p n) p
/-- How often a sheet is shrunk: the first round at which it, or what would come of it, is white, or 12. -/
def lft5 (s p : Fn6) (N : Nat) : Prop := N ≤ 12 ∧ (∀ m, m < N → wh5 (shn5 s p m) = false ∧ wh5 (shn5 s p (m + 1)) = false) ∧ (N < 12 → wh5 (shn5 s p N) = true ∨ wh5 (shn5 s p (N + 1)) = true)
theorem lft5_ex (s p : Fn6) : ∃ N, lft5 s p N := by
  obtain ⟨N, h1, h2, h3⟩ := first13 (fun n => n == 12 || wh5 (shn5 s p n) || wh5 (shn5 s p (n + 1)))
  have h13 : N < 13 := by
    rcases Nat.lt_or_ge N 13 with h | h
    · exact h
    · have := h2 12 (by omega)
      simp at this
  refine ⟨N, by omega, fun m hm => ?_, fun h => ?_⟩
  · have := h2 m hm
    simp only [Bool.or_eq_false_iff] at this
    exact ⟨this.1.2, this.2⟩
  · have := h3 h13
    have hne : (N == 12) = false := by simp; omega
    simp only [hne, Bool.false_or, Bool.or_eq_true] at this
    exact this
/-- Midway: the sheet, the stamp and the result in their blocks, what comes next in a block of its own. -/
def Bn5 (w : World) (p F G : Fn6) (g : Nat) (W : World) : Prop := Bh5 w p F W ∧ W.heap[g]? = some (o6 G) ∧ w.heap.size + 3 ≤ g
theorem Bn5.far {w W V : World} {p F G : Fn6} {g M : Nat} (h : Bn5 w p F G g W) (hb : Below M W V) (hM : M = W.heap.size) : Bn5 w p F G g V := ⟨h.1.far hb hM, rowk h.2.1 hb hM, h.2.2⟩
theorem Bn5_g {w W : World} {p F G : Fn6} {g : Nat} (h : Bn5 w p F G g W) : ∀ j, W.cell? ⟨g, j, none⟩ = (#[.int .i64 (rowv (G 0)), .int .i64 (rowv (G 1)), .int .i64 (rowv (G 2)), .int .i64 (rowv (G 3)), .int .i64 (rowv (G 4)), .int .i64 (rowv (G 5))] : Array Value)[j]? := fun j => cell_of_row W _ j _ _ _ h.2.1
theorem Bn5.put {w W : World} {p F G : Fn6} {g : Nat} (H : Fn6) (h : Bn5 w p F G g W) : Bn5 w p H G g ((((((W.setCell ⟨w.heap.size, 0, none⟩ (.int .i64 (rowv (H 0)))).setCell ⟨w.heap.size, 1, none⟩ (.int .i64 (rowv (H 1)))).setCell ⟨w.heap.size, 2, none⟩ (.int .i64 (rowv (H 2)))).setCell ⟨w.heap.size, 3, none⟩ (.int .i64 (rowv (H 3)))).setCell ⟨w.heap.size, 4, none⟩ (.int .i64 (rowv (H 4)))).setCell ⟨w.heap.size, 5, none⟩ (.int .i64 (rowv (H 5)))) := ⟨h.1.put H, set6o _ _ _ _ _ _ (by have := h.2.2; omega) h.2.1, h.2.2⟩
theorem Bh5.set {w W : World} {p F : Fn6} {g : Nat} (v0 v1 v2 v3 v4 v5 : Value) (hg : w.heap.size + 3 ≤ g) (h : Bh5 w p F W) : Bh5 w p F ((((((W.setCell ⟨g, 0, none⟩ v0).setCell ⟨g, 1, none⟩ v1).setCell ⟨g, 2, none⟩ v2).setCell ⟨g, 3, none⟩ v3).setCell ⟨g, 4, none⟩ v4).setCell ⟨g, 5, none⟩ v5) :=
  ⟨set6o _ _ _ _ _ _ (by omega) h.1, set6o _ _ _ _ _ _ (by omega) h.2.1, set6o _ _ _ _ _ _ (by omega) h.2.2.1, by simpa using h.2.2.2.1, below6 h.2.2.2.2 (by omega)⟩
theorem Bn5.putn {w W : World} {p F G : Fn6} {g : Nat} (H : Fn6) (h : Bn5 w p F G g W) : Bn5 w p F H g ((((((W.setCell ⟨g, 0, none⟩ (.int .i64 (rowv (H 0)))).setCell ⟨g, 1, none⟩ (.int .i64 (rowv (H 1)))).setCell ⟨g, 2, none⟩ (.int .i64 (rowv (H 2)))).setCell ⟨g, 3, none⟩ (.int .i64 (rowv (H 3)))).setCell ⟨g, 4, none⟩ (.int .i64 (rowv (H 4)))).setCell ⟨g, 5, none⟩ (.int .i64 (rowv (H 5)))) := ⟨h.1.set _ _ _ _ _ _ h.2.2, set6a _ _ _ _ _ _ h.2.1, h.2.2⟩
theorem Bn5.new {w W : World} {p F G : Fn6} (h : Bh5 w p F W) : Bn5 w p F G W.heap.size (W.alloc (.cells #[.int .i64 (rowv (G 0)), .int .i64 (rowv (G 1)), .int .i64 (rowv (G 2)), .int .i64 (rowv (G 3)), .int .i64 (rowv (G 4)), .int .i64 (rowv (G 5))] 28)) := ⟨h.far (M := W.heap.size) ((Below.refl _ _).alloc (Nat.le_refl _) _) rfl, alloc_at rfl, h.2.2.2.1⟩
theorem Bh5_f0 {w W : World} {p F : Fn6} (h : Bh5 w p F W) : ∀ j, W.frozen? ⟨w.heap.size, j, none⟩ = false := Bh5_sf h
set_option maxHeartbeats 1000000 in
theorem ssl_yes (s p : Fn6) (N : Nat) (hN : lft5 s p N) (K0 : Hid (∀ w, Calls Try.prog 121 #[.agg #[.int .i64 (rowv (s 0)), .int .i64 (rowv (s 1)), .int .i64 (rowv (s 2)), .int .i64 (rowv (s 3)), .int .i64 (rowv (s 4)), .int .i64 (rowv (s 5))]] w fun e w' => e = .returned (.bool true) ∧ Below w.heap.size w w')) (K1 : Hid (∀ w, Calls Try.prog 121 #[.agg #[.int .i64 (rowv (p 0)), .int .i64 (rowv (p 1)), .int .i64 (rowv (p 2)), .int .i64 (rowv (p 3)), .int .i64 (rowv (p 4)), .int .i64 (rowv (p 5))]] w fun e w' => e = .returned (.bool true) ∧ Below w.heap.size w w')) (w : World) : Calls Try.prog 73 #[.agg #[.int .i64 (rowv (s 0)), .int .i64 (rowv (s 1)), .int .i64 (rowv (s 2)), .int .i64 (rowv (s 3)), .int .i64 (rowv (s 4)), .int .i64 (rowv (s 5))], .agg #[.int .i64 (rowv (p 0)), .int .i64 (rowv (p 1)), .int .i64 (rowv (p 2)), .int .i64 (rowv (p 3)), .int .i64 (rowv (p 4)), .int .i64 (rowv (p 5))]] w fun e w' => e = .returned (.tuple #[.int .i64 (N : Int), .agg #[.int .i64 (rowv (shn5 s p N 0)), .int .i64 (rowv (shn5 s p N 1)), .int .i64 (rowv (shn5 s p N 2)), .int .i64 (rowv (shn5 s p N 3)), .int .i64 (rowv (shn5 s p N 4)), .int .i64 (rowv (shn5 s p N 5))], .bool true]) ∧ Below w.heap.size w w' := by
  have h12 := hN.1
  have Hno := Lib.hid hN.2.1
  have Hyes := Lib.hid hN.2.2
  clear hN
  go_enter Try.func73, Try.ntmps73
  go_wp2_with fail
  generalize hW : (World.alloc _ _ : World) = W0
  have hB0 : Below w.heap.size w W0 := by rw [← hW]; (repeat (first | exact Below.refl _ _ | assumption | refine Below.setCell ?_ (by first | (simp; done) | (simp; omega)) _ | refine Below.alloc ?_ (by first | (simp; done) | (simp; omega)) _ | refine Below.drew ?_))
  have q0 : W0.heap[(w.heap.size : Nat)]? = some (o6 s) := by
    rw [← hW]
    repeat (first | (refine alloc_at ?_; first | (simp; done) | (simp; omega)) | refine drew_row ?_ | refine alloc_past ?_ | assumption)
  have q1 : W0.heap[(w.heap.size + 1 : Nat)]? = some (o6 p) := by
    rw [← hW]
    repeat (first | (refine alloc_at ?_; first | (simp; done) | (simp; omega)) | refine drew_row ?_ | refine alloc_past ?_ | assumption)
  have q2 : W0.heap[(w.heap.size + 2 : Nat)]? = some (oz) := by
    rw [← hW]
    repeat (first | (refine alloc_at ?_; first | (simp; done) | (simp; omega)) | refine drew_row ?_ | refine alloc_past ?_ | assumption)
  have hk : KR 2 [(w.heap.size, o6 s), (w.heap.size + 1, o6 p)] w W0 := ⟨by simp [q0, q1], by rw [← hW]; simp, hB0⟩
  have hq := q2
  clear hW hB0 q0 q1 q2
  have HS : Hid (Bh5 w p s W0) := Lib.hid ⟨hk.row (g := w.heap.size) (o := o6 s) (by simp), hk.row (g := w.heap.size + 1) (o := o6 p) (by simp), hq, row_lt hq, hk.2.2⟩
  clear hk hq
  have s_c := Bh5_s HS.out
  go_wp2_with fail
  refine (K0.out _).mono ?_
  rintro e V0 ⟨rfl, hb⟩
  have HS := Lib.hid (HS.out.far hb rfl)
  clear hb s_c
  have p_c := Bh5_p HS.out
  go_wp2_with fail
  refine (K1.out _).mono ?_
  rintro e V1 ⟨rfl, hb⟩
  have HS := Lib.hid (HS.out.far hb rfl)
  clear hb p_c K0 K1
  have HL := Lib.hid (lshrink_f s p)
  have s_c := Bh5_s HS.out
  have p_c := Bh5_p HS.out
  go_wp2_with fail
  refine (HL.out _).mono ?_
  rintro e V2 ⟨rfl, hb⟩
  have HB := HS.out.far hb rfl
  clear hb HS s_c p_c HL
  have S0 : Hid (Bn5 w p (shn5 s p 0) (shn5 s p 1) V2.heap.size (V2.alloc (.cells #[.int .i64 (rowv (shr s p 0)), .int .i64 (rowv (shr s p 1)), .int .i64 (rowv (shr s p 2)), .int .i64 (rowv (shr s p 3)), .int .i64 (rowv (shr s p 4)), .int .i64 (rowv (shr s p 5))] 28))) := Lib.hid (Bn5.new HB)
  clear HB
  go_wp2_with fail
  generalize (World.alloc _ _ : World) = V3 at S0 ⊢
  generalize V2.heap.size = g0 at S0 ⊢
  go_loopw [7, 8] (fun c d wr => ∃ n g : Nat, n ≤ N ∧ c = .int .i64 n ∧ d = .pointer (some ⟨g, 0, none⟩) ∧ Hid (Bn5 w p (shn5 s p n) (shn5 s p (n + 1)) g wr)) (fun c _ _ => 12 - (intOf c).toNat)
  case atStart => exact ⟨0, g0, by omega, rfl, rfl, S0⟩
  case round =>
    obtain ⟨n, g, hn, rfl, rfl, HS⟩ := hrel
    obtain ⟨F, hF⟩ : ∃ F, F = shn5 s p n := ⟨_, rfl⟩
    have hG : shn5 s p (n + 1) = shr F p := by rw [hF]; rfl
    rw [← hF, hG] at HS
    have HF := Lib.hid hF
    have HG := Lib.hid hG
    clear hF hG
    have e1 := neq_white F
    have e2 := neq_white (shr F p)
    have s_c := Bh5_s HS.out.1
    have g_c := Bn5_g HS.out
    by_cases hgo : n < N
    · have h1 := (Hno.out n hgo).1
      have h2 := (Hno.out n hgo).2
      rw [← HF.out] at h1
      rw [HG.out] at h2
      simp only [h1, h2, Bool.not_false] at e1 e2
      have hlt' : (n : Int) < 12 := by omega
      clear h1 h2
      have s_f := Bh5_sf HS.out.1
      have gne : g ≠ w.heap.size := by have := HS.out.2.2; omega
      have gne2 : w.heap.size ≠ g := Ne.symm gne
      have glt := row_lt HS.out.2.1
      have glt2 := Nat.ne_of_lt glt
      have slt : w.heap.size < wr.heap.size := by have := HS.out.1.2.2.2.1; omega
      have slt2 := Nat.ne_of_lt slt
      go_upto_region 8 with (fail)
      have HX := Lib.hid (HS.out.put (shr F p))
      clear HS s_c g_c s_f gne gne2 glt glt2 slt slt2 e1 e2
      generalize hX : (World.setCell _ _ _ : World) = X at HX ⊢
      clear hX
      have g_c := Bn5_g HX.out
      have s_c := Bh5_s HX.out.1
      have p_c := Bh5_p HX.out.1
      have glt := row_lt HX.out.2.1
      have glt2 := Nat.ne_of_lt glt
      have slt : w.heap.size < X.heap.size := by have := HX.out.1.2.2.2.1; omega
      have slt2 := Nat.ne_of_lt slt
      have plt : w.heap.size + 1 < X.heap.size := by have := HX.out.1.2.2.2.1; omega
      have plt2 := Nat.ne_of_lt plt
      have slt3 := Nat.lt_succ_of_lt slt
      have plt3 := Nat.lt_succ_of_lt plt
      go_wp2_with fail
      have HY := Bn5.new (G := shr F p) HX.out.1
      clear HX g_c s_c p_c glt glt2 slt slt2 plt plt2 slt3 plt3
      generalize (World.alloc _ _ : World) = Y at HY ⊢
      generalize X.heap.size = g2 at HY ⊢
      refine (lshrink_f (shr F p) p _).mono ?_
      rintro e Z ⟨rfl, hb⟩
      have HZ := Lib.hid (HY.far hb rfl)
      clear hb HY
      have g_c := Bn5_g HZ.out
      have g_f := fun j => frozen_of_row Z _ j _ _ HZ.out.2.1
      go_wp2_with fail
      have HI := Lib.hid (HZ.out.putn (shr (shr F p) p))
      clear HZ g_c g_f
      go_roundw
      case rel => exact ⟨n + 1, g2, by omega, by go_num, rfl, by have hF := HF.out; subst hF; exact HI⟩
      case measure => simp [intOf]; omega
    · have hnN : n = N := by omega
      have HNn := Lib.hid hnN
      have HBX := HS.out.1
      by_cases h12n : n < 12
      · have hlt' : (n : Int) < 12 := by omega
        have hor := Hyes.out (by omega)
        rw [← hnN, ← HF.out, HG.out] at hor
        clear hnN
        cases hw : wh5 F
        · rw [hw] at hor
          simp only [Bool.false_eq_true, false_or] at hor
          simp only [hw, hor, Bool.not_false, Bool.not_true] at e1 e2
          clear hor
          go_wp2_with fail
          clear g_c
          have z_c : ∀ j, wr.cell? ⟨w.heap.size + 1 + 1, j, none⟩ = (#[.int .i64 0, .int .i64 0, .int .i64 0, .int .i64 0, .int .i64 0, .int .i64 0] : Array Value)[j]? := oz_c HBX.2.2.1
          have z_f : ∀ j, wr.frozen? ⟨w.heap.size + 1 + 1, j, none⟩ = false := oz_f HBX.2.2.1
          have hBB := HBX.2.2.2.2
          go_region
          all_goals
            go_wp2_with fail
            refine bodyPost_ret (v := .tuple #[.int .i64 (n : Int), .agg #[.int .i64 (rowv (F 0)), .int .i64 (rowv (F 1)), .int .i64 (rowv (F 2)), .int .i64 (rowv (F 3)), .int .i64 (rowv (F 4)), .int .i64 (rowv (F 5))], .bool true]) (by simp [results, Try.results73, go_sem, z_c]) rfl ⟨by rw [HF.out, HNn.out], ?_⟩
            first | with_reducible exact below6 hBB (by omega) | with_reducible exact (below6 hBB (by omega)).drew | with_reducible exact below6 hBB.drew (by omega)
        · simp only [hw, Bool.not_true] at e1
          clear hor
          go_wp2_with fail
          clear g_c
          have z_c : ∀ j, wr.cell? ⟨w.heap.size + 1 + 1, j, none⟩ = (#[.int .i64 0, .int .i64 0, .int .i64 0, .int .i64 0, .int .i64 0, .int .i64 0] : Array Value)[j]? := oz_c HBX.2.2.1
          have z_f : ∀ j, wr.frozen? ⟨w.heap.size + 1 + 1, j, none⟩ = false := oz_f HBX.2.2.1
          have hBB := HBX.2.2.2.2
          go_region
          all_goals
            go_wp2_with fail
            refine bodyPost_ret (v := .tuple #[.int .i64 (n : Int), .agg #[.int .i64 (rowv (F 0)), .int .i64 (rowv (F 1)), .int .i64 (rowv (F 2)), .int .i64 (rowv (F 3)), .int .i64 (rowv (F 4)), .int .i64 (rowv (F 5))], .bool true]) (by simp [results, Try.results73, go_sem, z_c]) rfl ⟨by rw [HF.out, HNn.out], ?_⟩
            first | with_reducible exact below6 hBB (by omega) | with_reducible exact (below6 hBB (by omega)).drew | with_reducible exact below6 hBB.drew (by omega)
      · have hge : ¬ ((n : Int) < 12) := by omega
        clear hnN
        go_wp2_with fail
        clear g_c
        have z_c : ∀ j, wr.cell? ⟨w.heap.size + 1 + 1, j, none⟩ = (#[.int .i64 0, .int .i64 0, .int .i64 0, .int .i64 0, .int .i64 0, .int .i64 0] : Array Value)[j]? := oz_c HBX.2.2.1
        have z_f : ∀ j, wr.frozen? ⟨w.heap.size + 1 + 1, j, none⟩ = false := oz_f HBX.2.2.1
        have hBB := HBX.2.2.2.2
        go_region
        all_goals
          go_wp2_with fail
          refine bodyPost_ret (v := .tuple #[.int .i64 (n : Int), .agg #[.int .i64 (rowv (F 0)), .int .i64 (rowv (F 1)), .int .i64 (rowv (F 2)), .int .i64 (rowv (F 3)), .int .i64 (rowv (F 4)), .int .i64 (rowv (F 5))], .bool true]) (by simp [results, Try.results73, go_sem, z_c]) rfl ⟨by rw [HF.out, HNn.out], ?_⟩
          first | with_reducible exact below6 hBB (by omega) | with_reducible exact (below6 hBB (by omega)).drew | with_reducible exact below6 hBB.drew (by omega)
/- Li5 -/
set_option maxHeartbeats 600000 in
theorem isl_yes (s p : Fn6) (N : Nat) (hN : lft5 s p N) (K0 : Hid (∀ w, Calls Try.prog 147 #[.agg #[.int .i64 (rowv (s 0)), .int .i64 (rowv (s 1)), .int .i64 (rowv (s 2)), .int .i64 (rowv (s 3)), .int .i64 (rowv (s 4)), .int .i64 (rowv (s 5))]] w fun e w' => e = .returned (.bool true) ∧ Below w.heap.size w w')) (K1 : Hid (∀ w, Calls Try.prog 147 #[.agg #[.int .i64 (rowv (p 0)), .int .i64 (rowv (p 1)), .int .i64 (rowv (p 2)), .int .i64 (rowv (p 3)), .int .i64 (rowv (p 4)), .int .i64 (rowv (p 5))]] w fun e w' => e = .returned (.bool true) ∧ Below w.heap.size w w')) (w : World) : Calls Try.prog 72 #[.agg #[.int .i64 (rowv (s 0)), .int .i64 (rowv (s 1)), .int .i64 (rowv (s 2)), .int .i64 (rowv (s 3)), .int .i64 (rowv (s 4)), .int .i64 (rowv (s 5))], .agg #[.int .i64 (rowv (p 0)), .int .i64 (rowv (p 1)), .int .i64 (rowv (p 2)), .int .i64 (rowv (p 3)), .int .i64 (rowv (p 4)), .int .i64 (rowv (p 5))]] w fun e w' => e = .returned (.tuple #[.int .i64 (N : Int), .agg #[.int .i64 (rowv (shn5 s p N 0)), .int .i64 (rowv (shn5 s p N 1)), .int .i64 (rowv (shn5 s p N 2)), .int .i64 (rowv (shn5 s p N 3)), .int .i64 (rowv (shn5 s p N 4)), .int .i64 (rowv (shn5 s p N 5))], .bool true]) ∧ Below w.heap.size w w' := by
  have h12 := hN.1
  have Hno := Lib.hid hN.2.1
  have Hyes := Lib.hid hN.2.2
  clear hN
  have hmf : ∀ (fn : Fn) (first cap : Array Value) (w : World), (Instr.makeFunc fn first cap).run Try.prog w = .ok (.func fn first cap) w := fun _ _ _ _ => rfl
  have HSP := Lib.hid (shrinking_g p)
  go_enter Try.func72, Try.ntmps72
  go_wp2_with fail
  generalize hW : (World.alloc _ _ : World) = W0
  have hB0 : Below w.heap.size w W0 := by rw [← hW]; (repeat (first | exact Below.refl _ _ | assumption | refine Below.setCell ?_ (by first | (simp; done) | (simp; omega)) _ | refine Below.alloc ?_ (by first | (simp; done) | (simp; omega)) _ | refine Below.drew ?_))
  have q0 : W0.heap[(w.heap.size : Nat)]? = some (o6 s) := by
    rw [← hW]
    repeat (first | (refine alloc_at ?_; first | (simp; done) | (simp; omega)) | refine drew_row ?_ | refine alloc_past ?_ | assumption)
  have q1 : W0.heap[(w.heap.size + 1 : Nat)]? = some (o6 p) := by
    rw [← hW]
    repeat (first | (refine alloc_at ?_; first | (simp; done) | (simp; omega)) | refine drew_row ?_ | refine alloc_past ?_ | assumption)
  have q2 : W0.heap[(w.heap.size + 2 : Nat)]? = some (oz) := by
    rw [← hW]
    repeat (first | (refine alloc_at ?_; first | (simp; done) | (simp; omega)) | refine drew_row ?_ | refine alloc_past ?_ | assumption)
  have hk : KR 2 [(w.heap.size, o6 s), (w.heap.size + 1, o6 p)] w W0 := ⟨by simp [q0, q1], by rw [← hW]; simp, hB0⟩
  have hq := q2
  clear hW hB0 q0 q1 q2
  have HS : Hid (Bh5 w p s W0) := Lib.hid ⟨hk.row (g := w.heap.size) (o := o6 s) (by simp), hk.row (g := w.heap.size + 1) (o := o6 p) (by simp), hq, row_lt hq, hk.2.2⟩
  clear hk hq
  have s_c := Bh5_s HS.out
  go_wp2_with fail
  refine (K0.out _).mono ?_
  rintro e V0 ⟨rfl, hb⟩
  have HS := Lib.hid (HS.out.far hb rfl)
  clear hb s_c
  have p_c := Bh5_p HS.out
  go_wp2_with fail
  refine (K1.out _).mono ?_
  rintro e V1 ⟨rfl, hb⟩
  have HS := Lib.hid (HS.out.far hb rfl)
  clear hb p_c K0 K1
  have p_c := Bh5_p HS.out
  go_wp2_with fail
  refine (HSP.out _).mono ?_
  rintro e V2 ⟨gc, rfl, hgc, hge, hb⟩
  have S0 : Hid (Bh5 w p (shn5 s p 0) V2 ∧ V2.heap[gc]? = some (o6 (rf p)) ∧ w.heap.size + 3 ≤ gc) := Lib.hid ⟨HS.out.far hb rfl, hgc, Nat.le_trans HS.out.2.2.2.1 hge⟩
  clear hb HS p_c HSP hgc hge
  go_wp2_with fail
  go_loopw [8] (fun c wr => ∃ n : Nat, n ≤ N ∧ c = .int .i64 n ∧ Hid (Bh5 w p (shn5 s p n) wr ∧ wr.heap[gc]? = some (o6 (rf p)) ∧ w.heap.size + 3 ≤ gc)) (fun c _ => 12 - (intOf c).toNat)
  case atStart => exact ⟨0, by omega, rfl, S0⟩
  case round =>
    obtain ⟨n, hn, rfl, HS⟩ := hrel
    obtain ⟨F, hF⟩ : ∃ F, F = shn5 s p n := ⟨_, rfl⟩
    have hG : shn5 s p (n + 1) = shr F p := by rw [hF]; rfl
    rw [← hF] at HS
    have HF := Lib.hid hF
    have HG := Lib.hid hG
    clear hF hG
    have e1 := neq_white F
    have e2 := eq_white (shr F p)
    have s_c := Bh5_s HS.out.1
    by_cases hgo : n < N
    · have h1 := (Hno.out n hgo).1
      have h2 := (Hno.out n hgo).2
      rw [← HF.out] at h1
      rw [HG.out] at h2
      simp only [h1, Bool.not_false] at e1
      simp only [h2] at e2
      have hlt' : (n : Int) < 12 := by omega
      clear h1 h2
      have HL := Lib.hid (fun (w2 : World) h => shrink_1 F p gc w2 h)
      have hgr := HS.out.2.1
      go_wp2_with fail
      refine (HL.out _ hgr).mono ?_
      rintro e Y ⟨rfl, hb⟩
      have HSY := HS.out.1.far hb rfl
      have hgrY := rowk hgr hb rfl
      clear hb s_c HL
      have hcge := HS.out.2.2
      have HZ := Lib.hid (Bn5.new (G := shr F p) HSY)
      have hgZ : (Y.alloc (.cells #[.int .i64 (rowv (shr F p 0)), .int .i64 (rowv (shr F p 1)), .int .i64 (rowv (shr F p 2)), .int .i64 (rowv (shr F p 3)), .int .i64 (rowv (shr F p 4)), .int .i64 (rowv (shr F p 5))] 28)).heap[gc]? = some (o6 (rf p)) := alloc_past hgrY
      have y_c := Bh5_s HSY
      have y_f := Bh5_sf HSY
      have slt : w.heap.size < Y.heap.size := by have := HSY.2.2.2.1; omega
      have slt2 := Nat.ne_of_lt slt
      go_wp2_with fail
      have HI := Lib.hid ((HSY.put (shr F p)).far (M := _) ((Below.refl _ _).alloc (Nat.le_refl _) (.cells #[.int .i64 (rowv (shr F p 0)), .int .i64 (rowv (shr F p 1)), .int .i64 (rowv (shr F p 2)), .int .i64 (rowv (shr F p 3)), .int .i64 (rowv (shr F p 4)), .int .i64 (rowv (shr F p 5))] 28)) rfl)
      have HJ := Lib.hid (alloc_past (o := .cells #[.int .i64 (rowv (shr F p 0)), .int .i64 (rowv (shr F p 1)), .int .i64 (rowv (shr F p 2)), .int .i64 (rowv (shr F p 3)), .int .i64 (rowv (shr F p 4)), .int .i64 (rowv (shr F p 5))] 28) (set6o (.int .i64 (rowv (shr F p 0))) (.int .i64 (rowv (shr F p 1))) (.int .i64 (rowv (shr F p 2))) (.int .i64 (rowv (shr F p 3))) (.int .i64 (rowv (shr F p 4))) (.int .i64 (rowv (shr F p 5))) (show gc ≠ w.heap.size by omega) hgrY))
      have HC := Lib.hid hcge
      clear HZ y_c y_f slt slt2 hgZ HSY hgrY hgr hcge e1 e2
      go_roundw
      case rel => exact ⟨n + 1, by omega, by go_num, by have hF := HF.out; subst hF; exact Lib.hid ⟨HI.out, HJ.out, HC.out⟩⟩
      case measure => simp [intOf]; omega
    · have hnN : n = N := by omega
      have HNn := Lib.hid hnN
      have HBX := HS.out.1
      by_cases h12n : n < 12
      · have hlt' : (n : Int) < 12 := by omega
        have hor := Hyes.out (by omega)
        rw [← hnN, ← HF.out, HG.out] at hor
        clear hnN
        cases hw : wh5 F
        · rw [hw] at hor
          simp only [Bool.false_eq_true, false_or] at hor
          simp only [hw, Bool.not_false] at e1
          simp only [hor] at e2
          clear hor
          have HL := Lib.hid (fun (w2 : World) h => shrink_1 F p gc w2 h)
          have hgr := HS.out.2.1
          go_wp2_with fail
          refine (HL.out _ hgr).mono ?_
          rintro e Y ⟨rfl, hb⟩
          have HSY := HS.out.1.far hb rfl
          have hgrY := rowk hgr hb rfl
          clear hb s_c HL
          have hcge := HS.out.2.2
          have HZ := Lib.hid (Bn5.new (G := shr F p) HSY)
          have hgZ : (Y.alloc (.cells #[.int .i64 (rowv (shr F p 0)), .int .i64 (rowv (shr F p 1)), .int .i64 (rowv (shr F p 2)), .int .i64 (rowv (shr F p 3)), .int .i64 (rowv (shr F p 4)), .int .i64 (rowv (shr F p 5))] 28)).heap[gc]? = some (o6 (rf p)) := alloc_past hgrY
          have y_c := Bh5_s HSY
          have y_f := Bh5_sf HSY
          have slt : w.heap.size < Y.heap.size := by have := HSY.2.2.2.1; omega
          have slt2 := Nat.ne_of_lt slt
          have HBZ := HZ.out.1
          clear HZ hgZ hgrY hgr hcge HBX
          have zlt : w.heap.size + 1 + 1 < Y.heap.size := by have := HSY.2.2.2.1; omega
          have zlt2 := Nat.ne_of_lt zlt
          go_wp2_with fail
          have z_c : ∀ j, Y.cell? ⟨w.heap.size + 1 + 1, j, none⟩ = (#[.int .i64 0, .int .i64 0, .int .i64 0, .int .i64 0, .int .i64 0, .int .i64 0] : Array Value)[j]? := oz_c HSY.2.2.1
          have z_f : ∀ j, Y.frozen? ⟨w.heap.size + 1 + 1, j, none⟩ = false := oz_f HSY.2.2.1
          have hBB := HBZ.2.2.2.2
          go_region
          all_goals
            go_wp2_with fail
            generalize hX : (World.alloc _ _ : World) = X
            have qx : X.heap[w.heap.size + 1 + 1]? = some (.cells #[.int .i64 (rowv (F 0)), .int .i64 (rowv (F 1)), .int .i64 (rowv (F 2)), .int .i64 (rowv (F 3)), .int .i64 (rowv (F 4)), .int .i64 (rowv (F 5))] 28 (0, 0)) := by rw [← hX]; exact alloc_past (set6a _ _ _ _ _ _ HSY.2.2.1)
            have hB : Below w.heap.size w X := by rw [← hX]; exact (below6 HSY.2.2.2.2 (by omega)).alloc (by have := HSY.2.2.2.2.size; simpa using this) _
            clear hX z_c z_f
            have x_c := fun j => cell_of_row X _ j _ _ _ qx
            exact bodyPost_ret (v := .tuple #[.int .i64 (n : Int), .agg #[.int .i64 (rowv (F 0)), .int .i64 (rowv (F 1)), .int .i64 (rowv (F 2)), .int .i64 (rowv (F 3)), .int .i64 (rowv (F 4)), .int .i64 (rowv (F 5))], .bool true]) (by simp [results, Try.results72, go_sem, x_c]) rfl ⟨by rw [HF.out, HNn.out], by first | with_reducible exact hB | with_reducible exact hB.drew⟩
        · simp only [hw, Bool.not_true] at e1
          clear hor
          go_wp2_with fail
          have z_c : ∀ j, wr.cell? ⟨w.heap.size + 1 + 1, j, none⟩ = (#[.int .i64 0, .int .i64 0, .int .i64 0, .int .i64 0, .int .i64 0, .int .i64 0] : Array Value)[j]? := oz_c HBX.2.2.1
          have z_f : ∀ j, wr.frozen? ⟨w.heap.size + 1 + 1, j, none⟩ = false := oz_f HBX.2.2.1
          have hBB := HBX.2.2.2.2
          go_region
          all_goals
            go_wp2_with fail
            refine bodyPost_ret (v := .tuple #[.int .i64 (n : Int), .agg #[.int .i64 (rowv (F 0)), .int .i64 (rowv (F 1)), .int .i64 (rowv (F 2)), .int .i64 (rowv (F 3)), .int .i64 (rowv (F 4)), .int .i64 (rowv (F 5))], .bool true]) (by simp [results, Try.results72, go_sem, z_c]) rfl ⟨by rw [HF.out, HNn.out], ?_⟩
            first | with_reducible exact below6 hBB (by omega) | with_reducible exact (below6 hBB (by omega)).drew | with_reducible exact below6 hBB.drew (by omega)
      · have hge : ¬ ((n : Int) < 12) := by omega
        clear hnN
        cases hw : wh5 F
        · simp only [hw, Bool.not_false] at e1
          go_wp2_with fail
          have z_c : ∀ j, wr.cell? ⟨w.heap.size + 1 + 1, j, none⟩ = (#[.int .i64 0, .int .i64 0, .int .i64 0, .int .i64 0, .int .i64 0, .int .i64 0] : Array Value)[j]? := oz_c HBX.2.2.1
          have z_f : ∀ j, wr.frozen? ⟨w.heap.size + 1 + 1, j, none⟩ = false := oz_f HBX.2.2.1
          have hBB := HBX.2.2.2.2
          go_region
          all_goals
            go_wp2_with fail
            refine bodyPost_ret (v := .tuple #[.int .i64 (n : Int), .agg #[.int .i64 (rowv (F 0)), .int .i64 (rowv (F 1)), .int .i64 (rowv (F 2)), .int .i64 (rowv (F 3)), .int .i64 (rowv (F 4)), .int .i64 (rowv (F 5))], .bool true]) (by simp [results, Try.results72, go_sem, z_c]) rfl ⟨by rw [HF.out, HNn.out], ?_⟩
            first | with_reducible exact below6 hBB (by omega) | with_reducible exact (below6 hBB (by omega)).drew | with_reducible exact below6 hBB.drew (by omega)
        · simp only [hw, Bool.not_true] at e1
          go_wp2_with fail
          have z_c : ∀ j, wr.cell? ⟨w.heap.size + 1 + 1, j, none⟩ = (#[.int .i64 0, .int .i64 0, .int .i64 0, .int .i64 0, .int .i64 0, .int .i64 0] : Array Value)[j]? := oz_c HBX.2.2.1
          have z_f : ∀ j, wr.frozen? ⟨w.heap.size + 1 + 1, j, none⟩ = false := oz_f HBX.2.2.1
          have hBB := HBX.2.2.2.2
          go_region
          all_goals
            go_wp2_with fail
            refine bodyPost_ret (v := .tuple #[.int .i64 (n : Int), .agg #[.int .i64 (rowv (F 0)), .int .i64 (rowv (F 1)), .int .i64 (rowv (F 2)), .int .i64 (rowv (F 3)), .int .i64 (rowv (F 4)), .int .i64 (rowv (F 5))], .bool true]) (by simp [results, Try.results72, go_sem, z_c]) rfl ⟨by rw [HF.out, HNn.out], ?_⟩
            first | with_reducible exact below6 hBB (by omega) | with_reducible exact (below6 hBB (by omega)).drew | with_reducible exact below6 hBB.drew (by omega)
/- Sk7 -/
set_option maxHeartbeats 1000000 in
theorem ipart_yes (a0 a1 a2 a3 a4 a5 : Int) (b0 b1 b2 b3 b4 b5 : Int) (H0 : Hid (∀ w, Calls Try.prog 147 #[.agg #[.int .i64 a0, .int .i64 a1, .int .i64 a2, .int .i64 a3, .int .i64 a4, .int .i64 a5]] w fun e w' => e = .returned (.bool true) ∧ Below w.heap.size w w')) (H1 : Hid (∀ w, Calls Try.prog 147 #[.agg #[.int .i64 b0, .int .i64 b1, .int .i64 b2, .int .i64 b3, .int .i64 b4, .int .i64 b5]] w fun e w' => e = .returned (.bool true) ∧ Below w.heap.size w w')) (w : World) : Calls Try.prog 74 #[.agg #[.int .i64 a0, .int .i64 a1, .int .i64 a2, .int .i64 a3, .int .i64 a4, .int .i64 a5], .agg #[.int .i64 b0, .int .i64 b1, .int .i64 b2, .int .i64 b3, .int .i64 b4, .int .i64 b5]] w fun e w' => e = .returned (.tuple #[.bool (bits .and .i64 a0 b0 == a0 && bits .and .i64 a1 b1 == a1 && bits .and .i64 a2 b2 == a2 && bits .and .i64 a3 b3 == a3 && bits .and .i64 a4 b4 == a4 && bits .and .i64 a5 b5 == a5), .bool true]) ∧ Below w.heap.size w w' := by
  have E := eq26 (bits .and .i64 a0 b0) (bits .and .i64 a1 b1) (bits .and .i64 a2 b2) (bits .and .i64 a3 b3) (bits .and .i64 a4 b4) (bits .and .i64 a5 b5) a0 a1 a2 a3 a4 a5
  go_enter Try.func74, Try.ntmps74
  go_wp2_with fail
  generalize hW : (World.alloc _ _ : World) = W0
  have hB0 : Below w.heap.size w W0 := by rw [← hW]; (repeat (first | exact Below.refl _ _ | assumption | refine Below.setCell ?_ (by first | (simp; done) | (simp; omega)) _ | refine Below.alloc ?_ (by first | (simp; done) | (simp; omega)) _ | refine Below.drew ?_))
  have qa : W0.heap[(w.heap.size : Nat)]? = some (Obj.cells (#[.int .i64 a0, .int .i64 a1, .int .i64 a2, .int .i64 a3, .int .i64 a4, .int .i64 a5]) 28 (0, 0)) := by
    rw [← hW]
    exact alloc_past (alloc_at rfl)
  have qb : W0.heap[(w.heap.size + 1 : Nat)]? = some (Obj.cells (#[.int .i64 b0, .int .i64 b1, .int .i64 b2, .int .i64 b3, .int .i64 b4, .int .i64 b5]) 28 (0, 0)) := by
    rw [← hW]
    exact alloc_at (by simp)
  clear hW
  refine (H0.out _).mono ?_
  rintro e W1 ⟨rfl, hb⟩
  have nqa := rowk qa hb rfl
  have nqb := rowk qb hb rfl
  have hB1 := below_of hB0 hb hB0.size
  clear hb hB0 qa qb
  have qa := nqa
  have qb := nqb
  clear nqa nqb
  have qa_c := fun j => cell_of_row W1 _ j _ _ _ qa
  have qa_f := fun j => frozen_of_row W1 _ j _ _ qa
  have qb_c := fun j => cell_of_row W1 _ j _ _ _ qb
  have qb_f := fun j => frozen_of_row W1 _ j _ _ qb
  go_wp2_with fail
  refine (H1.out _).mono ?_
  rintro e W2 ⟨rfl, hb⟩
  have nqa := rowk qa hb rfl
  have nqb := rowk qb hb rfl
  have hB2 := below_of hB1 hb hB1.size
  clear hb hB1 qa qb qa_c qa_f qb_c qb_f
  have qa := nqa
  have qb := nqb
  clear nqa nqb
  have qa_c := fun j => cell_of_row W2 _ j _ _ _ qa
  have qa_f := fun j => frozen_of_row W2 _ j _ _ qa
  have qb_c := fun j => cell_of_row W2 _ j _ _ _ qb
  have qb_f := fun j => frozen_of_row W2 _ j _ _ qb
  go_wp2_with fail
  have k0 : W2.cell? ⟨w.heap.size, 0, none⟩ = some (.int .i64 a0) ∧ W2.cell? ⟨w.heap.size, 1, none⟩ = some (.int .i64 a1) ∧ W2.cell? ⟨w.heap.size, 2, none⟩ = some (.int .i64 a2) ∧ W2.cell? ⟨w.heap.size, 3, none⟩ = some (.int .i64 a3) ∧ W2.cell? ⟨w.heap.size, 4, none⟩ = some (.int .i64 a4) ∧ W2.cell? ⟨w.heap.size, 5, none⟩ = some (.int .i64 a5) ∧ W2.cell? ⟨w.heap.size + 1, 0, none⟩ = some (.int .i64 b0) ∧ W2.cell? ⟨w.heap.size + 1, 1, none⟩ = some (.int .i64 b1) ∧ W2.cell? ⟨w.heap.size + 1, 2, none⟩ = some (.int .i64 b2) ∧ W2.cell? ⟨w.heap.size + 1, 3, none⟩ = some (.int .i64 b3) ∧ W2.cell? ⟨w.heap.size + 1, 4, none⟩ = some (.int .i64 b4) ∧ W2.cell? ⟨w.heap.size + 1, 5, none⟩ = some (.int .i64 b5) ∧ Below w.heap.size w W2 := ⟨qa_c 0, qa_c 1, qa_c 2, qa_c 3, qa_c 4, qa_c 5, qb_c 0, qb_c 1, qb_c 2, qb_c 3, qb_c 4, qb_c 5, hB2⟩
  clear qa qb qa_c qa_f qb_c qb_f hB2
  go_region_held3 (fun U => U.cell? ⟨w.heap.size, 0, none⟩ = some (.int .i64 a0) ∧ U.cell? ⟨w.heap.size, 1, none⟩ = some (.int .i64 a1) ∧ U.cell? ⟨w.heap.size, 2, none⟩ = some (.int .i64 a2) ∧ U.cell? ⟨w.heap.size, 3, none⟩ = some (.int .i64 a3) ∧ U.cell? ⟨w.heap.size, 4, none⟩ = some (.int .i64 a4) ∧ U.cell? ⟨w.heap.size, 5, none⟩ = some (.int .i64 a5) ∧ U.cell? ⟨w.heap.size + 1, 0, none⟩ = some (.int .i64 b0) ∧ U.cell? ⟨w.heap.size + 1, 1, none⟩ = some (.int .i64 b1) ∧ U.cell? ⟨w.heap.size + 1, 2, none⟩ = some (.int .i64 b2) ∧ U.cell? ⟨w.heap.size + 1, 3, none⟩ = some (.int .i64 b3) ∧ U.cell? ⟨w.heap.size + 1, 4, none⟩ = some (.int .i64 b4) ∧ U.cell? ⟨w.heap.size + 1, 5, none⟩ = some (.int .i64 b5) ∧ Below w.heap.size w U) (first | exact drewc12 k0 | assumption) (first | (go_at_call 165; refine (shared_any _ _ _ _ _ _ _ _ _ _ _ _ _).mono ?_; rintro e w' ⟨rfl, hb'⟩; have hk := keepc12 (by assumption) hb' rfl))
  have hB := hk.2.2.2.2.2.2.2.2.2.2.2.2
  clear hk k0
  go_wp2_with fail
  go_ret2
  exact ⟨rfl, hB⟩
/- Bo5 -/
def RB (f : Nat) (xs : Array Value) (r t : Bool) : Prop := ∀ w, Calls Try.prog f xs w fun e w' => e = .returned (.tuple #[.bool r, .bool t]) ∧ Below w.heap.size w w'
def RL (f : Nat) (xs : Array Value) (n : Int) (r0 r1 r2 r3 r4 r5 : Int) (t : Bool) : Prop := ∀ w, Calls Try.prog f xs w fun e w' => e = .returned (.tuple #[.int .i64 n, .agg #[.int .i64 r0, .int .i64 r1, .int .i64 r2, .int .i64 r3, .int .i64 r4, .int .i64 r5], .bool t]) ∧ Below w.heap.size w w'
theorem opn5_le (s p : Fn6) : Le (spd (shr s p) p) s := (adj _ _ _).mpr (Le.refl _)
theorem le_cls5 (s p : Fn6) : Le s (shr (spd s p) p) := (adj _ _ _).mp (Le.refl _)
theorem opn_idem (s p : Fn6) : Ag (spd (shr (spd (shr s p) p) p) p) (spd (shr s p) p) := Le.ag (opn5_le _ _) (spd_mono (le_cls5 _ _) (Le.refl _))
theorem cls_idem (s p : Fn6) : Ag (shr (spd (shr (spd s p) p) p) p) (shr (spd s p) p) := Le.ag (shr_mono (opn5_le _ _) (Le.refl _)) (le_cls5 _ _)
theorem le_part {f g : Fn6} (h : Le f g) {r : Nat} (hr : r < 6) : (bits .and .i64 (rowv (f r)) (rowv (g r)) == rowv (f r)) = true := by
  rw [row_af]
  have e : rowv (af f g r) = rowv (f r) := rowv_congr fun i hi => by
    unfold af
    cases hf : f r i
    · rfl
    · rw [h r i hr hi hf]; rfl
  rw [e]
  exact beq_self_eq_true _
theorem ipart_c {f g : Fn6} (h : Le f g) : RB 74 #[.agg #[.int .i64 (rowv (f 0)), .int .i64 (rowv (f 1)), .int .i64 (rowv (f 2)), .int .i64 (rowv (f 3)), .int .i64 (rowv (f 4)), .int .i64 (rowv (f 5))], .agg #[.int .i64 (rowv (g 0)), .int .i64 (rowv (g 1)), .int .i64 (rowv (g 2)), .int .i64 (rowv (g 3)), .int .i64 (rowv (g 4)), .int .i64 (rowv (g 5))]] true true := fun w => by
  have H := ipart_yes (rowv (f 0)) (rowv (f 1)) (rowv (f 2)) (rowv (f 3)) (rowv (f 4)) (rowv (f 5)) (rowv (g 0)) (rowv (g 1)) (rowv (g 2)) (rowv (g 3)) (rowv (g 4)) (rowv (g 5)) (sh_ai (rowv (f 0)) (rowv (f 1)) (rowv (f 2)) (rowv (f 3)) (rowv (f 4)) (rowv (f 5)) (rows_ok f)) (sh_ai (rowv (g 0)) (rowv (g 1)) (rowv (g 2)) (rowv (g 3)) (rowv (g 4)) (rowv (g 5)) (rows_ok g)) w
  rw [le_part h (r := 0) (by decide), le_part h (r := 1) (by decide), le_part h (r := 2) (by decide), le_part h (r := 3) (by decide), le_part h (r := 4) (by decide), le_part h (r := 5) (by decide)] at H
  exact H
theorem pc_zro : ∀ x : Fin 64, (pc ((x.val : Nat) : Int) == 0) = (((x.val : Nat) : Int) == 0) := by decide +kernel
theorem pc_none (f : Nat → Bool) : (pc (rowv f) = 0) ↔ rowv f = 0 := by
  obtain ⟨h0, h1⟩ := row_le f
  obtain ⟨n, hn⟩ := Int.eq_ofNat_of_zero_le h0
  rw [hn]
  have h := pc_zro ⟨n, by omega⟩
  have h2 : (pc (n : Int) == 0) = ((n : Int) == 0) := h
  constructor
  · intro e; rw [e] at h2; simpa using h2.symm
  · intro e; rw [e] at h2 ⊢; simpa using h2
theorem szf_none (f : Fn6) : szf f = 0 ↔ wh5 f = true := by
  have b0 := pc_bd (row_le (f 0)); have b1 := pc_bd (row_le (f 1)); have b2 := pc_bd (row_le (f 2)); have b3 := pc_bd (row_le (f 3)); have b4 := pc_bd (row_le (f 4)); have b5 := pc_bd (row_le (f 5))
  unfold szf wh5
  simp only [Bool.and_eq_true, beq_iff_eq, ← pc_none]
  omega
theorem left_wh {s p : Fn6} {N : Nat} (h : lft5 s p N) : wh5 (shn5 s p N) = wh5 s := by
  cases N with
  | zero => rfl
  | succ N => rw [(h.2.1 N (by omega)).2]; exact (h.2.1 0 (by omega)).1.symm
set_option maxHeartbeats 4000000 in
theorem opened_all (a0 a1 a2 a3 a4 a5 : Int) (b0 b1 b2 b3 b4 b5 : Int) : ∃ (o0 o1 o2 o3 o4 o5 c0 c1 c2 c3 c4 c5 : Int) (iso : Bool) (n l0 l1 l2 l3 l4 l5 : Int) (t : Bool), RS 63 #[.agg #[.int .i64 a0, .int .i64 a1, .int .i64 a2, .int .i64 a3, .int .i64 a4, .int .i64 a5], .agg #[.int .i64 b0, .int .i64 b1, .int .i64 b2, .int .i64 b3, .int .i64 b4, .int .i64 b5]] o0 o1 o2 o3 o4 o5 t ∧ RS 62 #[.agg #[.int .i64 a0, .int .i64 a1, .int .i64 a2, .int .i64 a3, .int .i64 a4, .int .i64 a5], .agg #[.int .i64 b0, .int .i64 b1, .int .i64 b2, .int .i64 b3, .int .i64 b4, .int .i64 b5]] o0 o1 o2 o3 o4 o5 t ∧ RS 65 #[.agg #[.int .i64 a0, .int .i64 a1, .int .i64 a2, .int .i64 a3, .int .i64 a4, .int .i64 a5], .agg #[.int .i64 b0, .int .i64 b1, .int .i64 b2, .int .i64 b3, .int .i64 b4, .int .i64 b5]] c0 c1 c2 c3 c4 c5 t ∧ RS 64 #[.agg #[.int .i64 a0, .int .i64 a1, .int .i64 a2, .int .i64 a3, .int .i64 a4, .int .i64 a5], .agg #[.int .i64 b0, .int .i64 b1, .int .i64 b2, .int .i64 b3, .int .i64 b4, .int .i64 b5]] c0 c1 c2 c3 c4 c5 t ∧ RB 67 #[.agg #[.int .i64 a0, .int .i64 a1, .int .i64 a2, .int .i64 a3, .int .i64 a4, .int .i64 a5], .agg #[.int .i64 b0, .int .i64 b1, .int .i64 b2, .int .i64 b3, .int .i64 b4, .int .i64 b5]] iso t ∧ RB 66 #[.agg #[.int .i64 a0, .int .i64 a1, .int .i64 a2, .int .i64 a3, .int .i64 a4, .int .i64 a5], .agg #[.int .i64 b0, .int .i64 b1, .int .i64 b2, .int .i64 b3, .int .i64 b4, .int .i64 b5]] iso t ∧ RL 73 #[.agg #[.int .i64 a0, .int .i64 a1, .int .i64 a2, .int .i64 a3, .int .i64 a4, .int .i64 a5], .agg #[.int .i64 b0, .int .i64 b1, .int .i64 b2, .int .i64 b3, .int .i64 b4, .int .i64 b5]] n l0 l1 l2 l3 l4 l5 t ∧ RL 72 #[.agg #[.int .i64 a0, .int .i64 a1, .int .i64 a2, .int .i64 a3, .int .i64 a4, .int .i64 a5], .agg #[.int .i64 b0, .int .i64 b1, .int .i64 b2, .int .i64 b3, .int .i64 b4, .int .i64 b5]] n l0 l1 l2 l3 l4 l5 t ∧ (t = true → RS 62 #[.agg #[.int .i64 o0, .int .i64 o1, .int .i64 o2, .int .i64 o3, .int .i64 o4, .int .i64 o5], .agg #[.int .i64 b0, .int .i64 b1, .int .i64 b2, .int .i64 b3, .int .i64 b4, .int .i64 b5]] o0 o1 o2 o3 o4 o5 true ∧ RS 64 #[.agg #[.int .i64 c0, .int .i64 c1, .int .i64 c2, .int .i64 c3, .int .i64 c4, .int .i64 c5], .agg #[.int .i64 b0, .int .i64 b1, .int .i64 b2, .int .i64 b3, .int .i64 b4, .int .i64 b5]] c0 c1 c2 c3 c4 c5 true ∧ RB 74 #[.agg #[.int .i64 o0, .int .i64 o1, .int .i64 o2, .int .i64 o3, .int .i64 o4, .int .i64 o5], .agg #[.int .i64 a0, .int .i64 a1, .int .i64 a2, .int .i64 a3, .int .i64 a4, .int .i64 a5]] true true ∧ RB 74 #[.agg #[.int .i64 a0, .int .i64 a1, .int .i64 a2, .int .i64 a3, .int .i64 a4, .int .i64 a5], .agg #[.int .i64 c0, .int .i64 c1, .int .i64 c2, .int .i64 c3, .int .i64 c4, .int .i64 c5]] true true ∧ (∃ y z : Int, RI 56 #[.agg #[.int .i64 l0, .int .i64 l1, .int .i64 l2, .int .i64 l3, .int .i64 l4, .int .i64 l5]] z true ∧ RI 56 #[.agg #[.int .i64 a0, .int .i64 a1, .int .i64 a2, .int .i64 a3, .int .i64 a4, .int .i64 a5]] y true ∧ ((y = 0 ∧ z = 0) ∨ (y ≠ 0 ∧ z ≠ 0))) ∧ (∀ w, (binOp .eql 28 (.agg #[.int .i64 o0, .int .i64 o1, .int .i64 o2, .int .i64 o3, .int .i64 o4, .int .i64 o5]) (.agg #[.int .i64 a0, .int .i64 a1, .int .i64 a2, .int .i64 a3, .int .i64 a4, .int .i64 a5])).run Try.prog w = .ok (.bool iso) w) ∧ n ≤ 12) := by
  cases hv : (ok a0 && ok a1 && ok a2 && ok a3 && ok a4 && ok a5)
  · exact ⟨0, 0, 0, 0, 0, 0, 0, 0, 0, 0, 0, 0, false, 0, 0, 0, 0, 0, 0, 0, false, fun w => sop_no0 a0 a1 a2 a3 a4 a5 b0 b1 b2 b3 b4 b5 (sh_as a0 a1 a2 a3 a4 a5 hv) w, fun w => iope_any a0 a1 a2 a3 a4 a5 b0 b1 b2 b3 b4 b5 0 0 0 0 0 0 false (Lib.hid fun w g _ => behind_no0 a0 a1 a2 a3 a4 a5 b0 b1 b2 b3 b4 b5 _ (sh_ai a0 a1 a2 a3 a4 a5 hv) w) w, fun w => scl_no0 a0 a1 a2 a3 a4 a5 b0 b1 b2 b3 b4 b5 (sh_as a0 a1 a2 a3 a4 a5 hv) w, fun w => iclo_any a0 a1 a2 a3 a4 a5 b0 b1 b2 b3 b4 b5 0 0 0 0 0 0 false (Lib.hid fun w g _ => behind_no0 a0 a1 a2 a3 a4 a5 b0 b1 b2 b3 b4 b5 _ (sh_ai a0 a1 a2 a3 a4 a5 hv) w) w, fun w => sio_no0 a0 a1 a2 a3 a4 a5 b0 b1 b2 b3 b4 b5 (sh_as a0 a1 a2 a3 a4 a5 hv) w, fun w => iio_no a0 a1 a2 a3 a4 a5 b0 b1 b2 b3 b4 b5 (Lib.hid (iopen_n0 a0 a1 a2 a3 a4 a5 b0 b1 b2 b3 b4 b5 hv)) w, fun w => ssl_no0 a0 a1 a2 a3 a4 a5 b0 b1 b2 b3 b4 b5 (sh_as a0 a1 a2 a3 a4 a5 hv) w, fun w => isl_no0 a0 a1 a2 a3 a4 a5 b0 b1 b2 b3 b4 b5 (sh_ai a0 a1 a2 a3 a4 a5 hv) w, fun h => by cases h⟩
  · cases hc : (ok b0 && ok b1 && ok b2 && ok b3 && ok b4 && ok b5)
    · exact ⟨0, 0, 0, 0, 0, 0, 0, 0, 0, 0, 0, 0, false, 0, 0, 0, 0, 0, 0, 0, false, fun w => sop_no1 a0 a1 a2 a3 a4 a5 b0 b1 b2 b3 b4 b5 (sh_as a0 a1 a2 a3 a4 a5 hv) (sh_as b0 b1 b2 b3 b4 b5 hc) w, fun w => iope_any a0 a1 a2 a3 a4 a5 b0 b1 b2 b3 b4 b5 0 0 0 0 0 0 false (Lib.hid fun w g _ => behind_no1 a0 a1 a2 a3 a4 a5 b0 b1 b2 b3 b4 b5 _ (sh_ai a0 a1 a2 a3 a4 a5 hv) (sh_ai b0 b1 b2 b3 b4 b5 hc) w) w, fun w => scl_no1 a0 a1 a2 a3 a4 a5 b0 b1 b2 b3 b4 b5 (sh_as a0 a1 a2 a3 a4 a5 hv) (sh_as b0 b1 b2 b3 b4 b5 hc) w, fun w => iclo_any a0 a1 a2 a3 a4 a5 b0 b1 b2 b3 b4 b5 0 0 0 0 0 0 false (Lib.hid fun w g _ => behind_no1 a0 a1 a2 a3 a4 a5 b0 b1 b2 b3 b4 b5 _ (sh_ai a0 a1 a2 a3 a4 a5 hv) (sh_ai b0 b1 b2 b3 b4 b5 hc) w) w, fun w => sio_no1 a0 a1 a2 a3 a4 a5 b0 b1 b2 b3 b4 b5 (sh_as a0 a1 a2 a3 a4 a5 hv) (sh_as b0 b1 b2 b3 b4 b5 hc) w, fun w => iio_no a0 a1 a2 a3 a4 a5 b0 b1 b2 b3 b4 b5 (Lib.hid (iopen_n1 a0 a1 a2 a3 a4 a5 b0 b1 b2 b3 b4 b5 hv hc)) w, fun w => ssl_no1 a0 a1 a2 a3 a4 a5 b0 b1 b2 b3 b4 b5 (sh_as a0 a1 a2 a3 a4 a5 hv) (sh_as b0 b1 b2 b3 b4 b5 hc) w, fun w => isl_no1 a0 a1 a2 a3 a4 a5 b0 b1 b2 b3 b4 b5 (sh_ai a0 a1 a2 a3 a4 a5 hv) (sh_ai b0 b1 b2 b3 b4 b5 hc) w, fun h => by cases h⟩
    · have Hs := sh_as a0 a1 a2 a3 a4 a5 hv
      have Ks := sh_as b0 b1 b2 b3 b4 b5 hc
      have Hi := sh_ai a0 a1 a2 a3 a4 a5 hv
      have Ki := sh_ai b0 b1 b2 b3 b4 b5 hc
      obtain ⟨s, rfl, rfl, rfl, rfl, rfl, rfl⟩ := sheet_bits a0 a1 a2 a3 a4 a5 hv
      obtain ⟨p, rfl, rfl, rfl, rfl, rfl, rfl⟩ := sheet_bits b0 b1 b2 b3 b4 b5 hc
      obtain ⟨N, hN⟩ := lft5_ex s p
      have k1 : RS 63 #[.agg #[.int .i64 (rowv (s 0)), .int .i64 (rowv (s 1)), .int .i64 (rowv (s 2)), .int .i64 (rowv (s 3)), .int .i64 (rowv (s 4)), .int .i64 (rowv (s 5))], .agg #[.int .i64 (rowv (p 0)), .int .i64 (rowv (p 1)), .int .i64 (rowv (p 2)), .int .i64 (rowv (p 3)), .int .i64 (rowv (p 4)), .int .i64 (rowv (p 5))]] (rowv (spd (shr s p) p 0)) (rowv (spd (shr s p) p 1)) (rowv (spd (shr s p) p 2)) (rowv (spd (shr s p) p 3)) (rowv (spd (shr s p) p 4)) (rowv (spd (shr s p) p 5)) true := fun w => sop_yes (rowv (s 0)) (rowv (s 1)) (rowv (s 2)) (rowv (s 3)) (rowv (s 4)) (rowv (s 5)) (rowv (p 0)) (rowv (p 1)) (rowv (p 2)) (rowv (p 3)) (rowv (p 4)) (rowv (p 5)) _ _ _ _ _ _ Hs Ks (Lib.hid (lopen_f s p)) w
      have k2 : RS 62 #[.agg #[.int .i64 (rowv (s 0)), .int .i64 (rowv (s 1)), .int .i64 (rowv (s 2)), .int .i64 (rowv (s 3)), .int .i64 (rowv (s 4)), .int .i64 (rowv (s 5))], .agg #[.int .i64 (rowv (p 0)), .int .i64 (rowv (p 1)), .int .i64 (rowv (p 2)), .int .i64 (rowv (p 3)), .int .i64 (rowv (p 4)), .int .i64 (rowv (p 5))]] (rowv (spd (shr s p) p 0)) (rowv (spd (shr s p) p 1)) (rowv (spd (shr s p) p 2)) (rowv (spd (shr s p) p 3)) (rowv (spd (shr s p) p 4)) (rowv (spd (shr s p) p 5)) true := iopen_c s p
      have k3 : RS 65 #[.agg #[.int .i64 (rowv (s 0)), .int .i64 (rowv (s 1)), .int .i64 (rowv (s 2)), .int .i64 (rowv (s 3)), .int .i64 (rowv (s 4)), .int .i64 (rowv (s 5))], .agg #[.int .i64 (rowv (p 0)), .int .i64 (rowv (p 1)), .int .i64 (rowv (p 2)), .int .i64 (rowv (p 3)), .int .i64 (rowv (p 4)), .int .i64 (rowv (p 5))]] (rowv (shr (spd s p) p 0)) (rowv (shr (spd s p) p 1)) (rowv (shr (spd s p) p 2)) (rowv (shr (spd s p) p 3)) (rowv (shr (spd s p) p 4)) (rowv (shr (spd s p) p 5)) true := fun w => scl_yes (rowv (s 0)) (rowv (s 1)) (rowv (s 2)) (rowv (s 3)) (rowv (s 4)) (rowv (s 5)) (rowv (p 0)) (rowv (p 1)) (rowv (p 2)) (rowv (p 3)) (rowv (p 4)) (rowv (p 5)) _ _ _ _ _ _ Hs Ks (Lib.hid (lclose_f s p)) w
      have k4 : RS 64 #[.agg #[.int .i64 (rowv (s 0)), .int .i64 (rowv (s 1)), .int .i64 (rowv (s 2)), .int .i64 (rowv (s 3)), .int .i64 (rowv (s 4)), .int .i64 (rowv (s 5))], .agg #[.int .i64 (rowv (p 0)), .int .i64 (rowv (p 1)), .int .i64 (rowv (p 2)), .int .i64 (rowv (p 3)), .int .i64 (rowv (p 4)), .int .i64 (rowv (p 5))]] (rowv (shr (spd s p) p 0)) (rowv (shr (spd s p) p 1)) (rowv (shr (spd s p) p 2)) (rowv (shr (spd s p) p 3)) (rowv (shr (spd s p) p 4)) (rowv (shr (spd s p) p 5)) true := iclose_c s p
      have k5 := sio_yes s p Hs Ks
      have k6 := iio_yes (rowv (s 0)) (rowv (s 1)) (rowv (s 2)) (rowv (s 3)) (rowv (s 4)) (rowv (s 5)) (rowv (p 0)) (rowv (p 1)) (rowv (p 2)) (rowv (p 3)) (rowv (p 4)) (rowv (p 5)) (rowv (spd (shr s p) p 0)) (rowv (spd (shr s p) p 1)) (rowv (spd (shr s p) p 2)) (rowv (spd (shr s p) p 3)) (rowv (spd (shr s p) p 4)) (rowv (spd (shr s p) p 5)) (Lib.hid (iopen_c s p))
      have k7 := ssl_yes s p N hN Hs Ks
      have k8 := isl_yes s p N hN Hi Ki
      have k9 := iopen_c (spd (shr s p) p) p
      have e := opn_idem s p
      rw [e.row (r := 0) (by decide), e.row (r := 1) (by decide), e.row (r := 2) (by decide), e.row (r := 3) (by decide), e.row (r := 4) (by decide), e.row (r := 5) (by decide)] at k9
      have k10 := iclose_c (shr (spd s p) p) p
      have e := cls_idem s p
      rw [e.row (r := 0) (by decide), e.row (r := 1) (by decide), e.row (r := 2) (by decide), e.row (r := 3) (by decide), e.row (r := 4) (by decide), e.row (r := 5) (by decide)] at k10
      have k11 := ipart_c (opn5_le s p)
      have k12 := ipart_c (le_cls5 s p)
      have k13 := isize_c (shn5 s p N)
      have k14 := isize_c s
      have k15 : (szf s = 0 ∧ szf (shn5 s p N) = 0) ∨ (szf s ≠ 0 ∧ szf (shn5 s p N) ≠ 0) := by
        have h1 := szf_none s
        have h2 := szf_none (shn5 s p N)
        rw [left_wh hN] at h2
        by_cases h : wh5 s = true
        · exact .inl ⟨h1.mpr h, h2.mpr h⟩
        · exact .inr ⟨fun q => h (h1.mp q), fun q => h (h2.mp q)⟩
      have k16 := eq26 (rowv (spd (shr s p) p 0)) (rowv (spd (shr s p) p 1)) (rowv (spd (shr s p) p 2)) (rowv (spd (shr s p) p 3)) (rowv (spd (shr s p) p 4)) (rowv (spd (shr s p) p 5)) (rowv (s 0)) (rowv (s 1)) (rowv (s 2)) (rowv (s 3)) (rowv (s 4)) (rowv (s 5))
      have hN12 := hN.1
      clear e hN
      generalize spd (shr s p) p = o at k1 k2 k5 k6 k9 k11 k16
      generalize shr (spd s p) p = c at k3 k4 k10 k12
      generalize shn5 s p N = l at k7 k8 k13 k15
      generalize szf l = z at k13 k15
      generalize szf s = y at k14 k15
      generalize (rowv (o 0) == rowv (s 0) && rowv (o 1) == rowv (s 1) && rowv (o 2) == rowv (s 2) && rowv (o 3) == rowv (s 3) && rowv (o 4) == rowv (s 4) && rowv (o 5) == rowv (s 5)) = iso at k5 k6 k16
      refine ⟨rowv (o 0), rowv (o 1), rowv (o 2), rowv (o 3), rowv (o 4), rowv (o 5), rowv (c 0), rowv (c 1), rowv (c 2), rowv (c 3), rowv (c 4), rowv (c 5), iso, (N : Int), rowv (l 0), rowv (l 1), rowv (l 2), rowv (l 3), rowv (l 4), rowv (l 5), true, ?_, ?_, ?_, ?_, ?_, ?_, ?_, ?_, fun _ => ⟨?_, ?_, ?_, ?_, ⟨y, z, ?_, ?_, ?_⟩, ?_, ?_⟩⟩
      · exact k1
      · exact k2
      · exact k3
      · exact k4
      · exact k5
      · exact k6
      · exact k7
      · exact k8
      · exact k9
      · exact k10
      · exact k11
      · exact k12
      · exact k13
      · exact k14
      · exact k15
      · exact k16
      · omega
set_option maxHeartbeats 4000000 in
theorem closed_all (a0 a1 a2 a3 a4 a5 : Int) (b0 b1 b2 b3 b4 b5 : Int) : ∃ (be t : Bool), RB 71 #[.agg #[.int .i64 a0, .int .i64 a1, .int .i64 a2, .int .i64 a3, .int .i64 a4, .int .i64 a5], .agg #[.int .i64 b0, .int .i64 b1, .int .i64 b2, .int .i64 b3, .int .i64 b4, .int .i64 b5]] be t ∧ RB 70 #[.agg #[.int .i64 a0, .int .i64 a1, .int .i64 a2, .int .i64 a3, .int .i64 a4, .int .i64 a5], .agg #[.int .i64 b0, .int .i64 b1, .int .i64 b2, .int .i64 b3, .int .i64 b4, .int .i64 b5]] be t ∧ (t = true → ∃ (d0 d1 d2 d3 d4 d5 : Int), RS 64 #[.agg #[.int .i64 a0, .int .i64 a1, .int .i64 a2, .int .i64 a3, .int .i64 a4, .int .i64 a5], .agg #[.int .i64 b0, .int .i64 b1, .int .i64 b2, .int .i64 b3, .int .i64 b4, .int .i64 b5]] d0 d1 d2 d3 d4 d5 true ∧ ∀ w, (binOp .eql 28 (.agg #[.int .i64 d0, .int .i64 d1, .int .i64 d2, .int .i64 d3, .int .i64 d4, .int .i64 d5]) (.agg #[.int .i64 a0, .int .i64 a1, .int .i64 a2, .int .i64 a3, .int .i64 a4, .int .i64 a5])).run Try.prog w = .ok (.bool be) w) := by
  cases hv : (ok a0 && ok a1 && ok a2 && ok a3 && ok a4 && ok a5)
  · exact ⟨false, false, fun w => sic_no0 a0 a1 a2 a3 a4 a5 b0 b1 b2 b3 b4 b5 (sh_as a0 a1 a2 a3 a4 a5 hv) w, fun w => iic_no a0 a1 a2 a3 a4 a5 b0 b1 b2 b3 b4 b5 (Lib.hid (iclose_n0 a0 a1 a2 a3 a4 a5 b0 b1 b2 b3 b4 b5 hv)) w, fun h => by cases h⟩
  · cases hc : (ok b0 && ok b1 && ok b2 && ok b3 && ok b4 && ok b5)
    · exact ⟨false, false, fun w => sic_no1 a0 a1 a2 a3 a4 a5 b0 b1 b2 b3 b4 b5 (sh_as a0 a1 a2 a3 a4 a5 hv) (sh_as b0 b1 b2 b3 b4 b5 hc) w, fun w => iic_no a0 a1 a2 a3 a4 a5 b0 b1 b2 b3 b4 b5 (Lib.hid (iclose_n1 a0 a1 a2 a3 a4 a5 b0 b1 b2 b3 b4 b5 hv hc)) w, fun h => by cases h⟩
    · have Hs := sh_as a0 a1 a2 a3 a4 a5 hv
      have Ks := sh_as b0 b1 b2 b3 b4 b5 hc
      obtain ⟨s, rfl, rfl, rfl, rfl, rfl, rfl⟩ := sheet_bits a0 a1 a2 a3 a4 a5 hv
      obtain ⟨p, rfl, rfl, rfl, rfl, rfl, rfl⟩ := sheet_bits b0 b1 b2 b3 b4 b5 hc
      have k1 := sic_yes s p Hs Ks
      have k2 := iic_yes (rowv (s 0)) (rowv (s 1)) (rowv (s 2)) (rowv (s 3)) (rowv (s 4)) (rowv (s 5)) (rowv (p 0)) (rowv (p 1)) (rowv (p 2)) (rowv (p 3)) (rowv (p 4)) (rowv (p 5)) (rowv (shr (spd s p) p 0)) (rowv (shr (spd s p) p 1)) (rowv (shr (spd s p) p 2)) (rowv (shr (spd s p) p 3)) (rowv (shr (spd s p) p 4)) (rowv (shr (spd s p) p 5)) (Lib.hid (iclose_c s p))
      have k3 := iclose_c s p
      have k4 := eq26 (rowv (shr (spd s p) p 0)) (rowv (shr (spd s p) p 1)) (rowv (shr (spd s p) p 2)) (rowv (shr (spd s p) p 3)) (rowv (shr (spd s p) p 4)) (rowv (shr (spd s p) p 5)) (rowv (s 0)) (rowv (s 1)) (rowv (s 2)) (rowv (s 3)) (rowv (s 4)) (rowv (s 5))
      generalize shr (spd s p) p = c at k1 k2 k3 k4
      generalize (rowv (c 0) == rowv (s 0) && rowv (c 1) == rowv (s 1) && rowv (c 2) == rowv (s 2) && rowv (c 3) == rowv (s 3) && rowv (c 4) == rowv (s 4) && rowv (c 5) == rowv (s 5)) = be at k1 k2 k4
      exact ⟨be, true, k1, k2, fun _ => ⟨rowv (c 0), rowv (c 1), rowv (c 2), rowv (c 3), rowv (c 4), rowv (c 5), k3, k4⟩⟩
end Go.Proofs.Ytbmfjcmlgndofaa
