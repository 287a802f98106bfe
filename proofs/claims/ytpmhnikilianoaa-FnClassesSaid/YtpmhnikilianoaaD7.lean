/- CONTRACTS: CountKept, CountClasses and OrderOf, the model's and the code's; pairs. -/
import Derived.Test.YtpmhnikilianoaaC7
import Derived.Test.YtpmhnikilianoaaAv7
import Derived.Test.YtpmhnikilianoaaKa7
import Derived.WalkKit
import Derived.ProofKit
import Derived.OpenShut
import Derived.Lib.Hide
import Derived.WalkSpells
import Derived.Below
import Derived.BigQuiet
import Derived.LoopN
namespace Go.Proofs.Ytpmhnikilianoaa
open Go.ChangeShapes Go.WideShapes Go.ChangeAt Go.RowKit
set_option linter.unusedVariables false
/-- The sum over the first k vectors. -/
def sk (s : Nat) : Nat → Nat
  | 0 => 0
  | k + 1 => sk s k + kz (k / 6) (k % 6) s
theorem sk_fin : ∀ s : Fin 37, sk s.val 36 < 2 ^ 62 := by decide +kernel
theorem sk_mono (s : Nat) : ∀ a b, a ≤ b → sk s a ≤ sk s b
  | a, 0, h => by obtain rfl : a = 0 := by omega
                  exact Nat.le_refl _
  | a, b + 1, h => by
    rcases Nat.lt_or_ge a (b + 1) with h1 | h1
    · exact Nat.le_trans (sk_mono s a b (by omega)) (Nat.le_add_right _ _)
    · obtain rfl : a = b + 1 := by omega
      exact Nat.le_refl _
theorem sk_lt {s k : Nat} (hs : s ≤ 36) (hk : k ≤ 36) : sk s k < 4611686018427387904 := Nat.lt_of_le_of_lt (sk_mono s k 36 hk) (sk_fin ⟨s, by omega⟩)
theorem sk_xy {s x y : Nat} (hy : y < 6) : sk s (6 * x + y + 1) = sk s (6 * x + y) + kz x y s := by
  have e1 : (6 * x + y) / 6 = x := by omega
  have e2 : (6 * x + y) % 6 = y := by omega
  show sk s (6 * x + y) + kz ((6 * x + y) / 6) ((6 * x + y) % 6) s = _
  rw [e1, e2]
theorem in36 (s : Int) (w : World) : Calls Try.prog 131 #[.int .i64 s, .int .i64 0, .int .i64 36] w fun e w' => e = .returned (.bool (decide (0 ≤ s) && decide (s ≤ 36))) ∧ w' = w := l1in_any s 0 36 w
theorem size36 (s : Int) (w : World) : Calls Try.prog 143 #[.int .i64 s] w fun e w' => e = .returned (.bool (decide (0 ≤ s) && decide (s ≤ 36))) ∧ w' = w := by
  by_cases h : 0 ≤ s
  · have hd : decide (0 ≤ s) = true := decide_eq_true h
    rw [hd]
    go_enter Try.func143, Try.ntmps143
    go_wp2_with fail
    go_ret
    exact ⟨rfl, rfl⟩
  · have hd : decide (0 ≤ s) = false := decide_eq_false h
    rw [hd]
    go_enter Try.func143, Try.ntmps143
    go_wp2_with fail
    go_ret
    exact ⟨rfl, rfl⟩
set_option maxHeartbeats 1000000 in
theorem sclasses_yes (s : Nat) (hs : s ≤ 36) (w : World) : Calls Try.prog 59 #[.int .i64 (s : Int)] w fun e w' => e = .returned (.tuple #[.int .i64 ((sk s 36 / 36 : Nat) : Int), .bool true]) ∧ Below w.heap.size w w' := by
  have HI := Lib.hid (show ∀ w, Calls Try.prog 131 #[.int .i64 (s : Int), .int .i64 0, .int .i64 36] w fun e w' => e = .returned (.bool true) ∧ w' = w from fun w => by
    have := in36 (s : Int) w
    rwa [show (decide (0 ≤ (s : Int)) && decide ((s : Int) ≤ 36)) = true by simp; omega] at this)
  have HK := fun x y hx hy => lkept_f x y s hx hy hs
  have HK := Lib.hid HK
  have HLT := fun k hk => @sk_lt s k hs hk
  have HLT := Lib.hid HLT
  go_enter Try.func59, Try.ntmps59
  go_wp2_with fail
  refine (HI.out _).mono ?_
  rintro e w1 ⟨rfl, hw⟩
  obtain rfl := hw.symm
  clear hw
  go_wp2_with fail
  go_loopw [4, 5] (fun v c wr => ∃ x : Nat, x ≤ 6 ∧ c = .int .i64 x ∧ v = .int .i64 ((sk s (6 * x) : Nat) : Int) ∧ Hid (Below w.heap.size w wr)) (fun _ c _ => 6 - (intOf c).toNat)
  case atStart => exact ⟨0, by omega, rfl, rfl, Lib.hid (Below.refl _ _)⟩
  case round =>
    obtain ⟨x, hx, rfl, rfl, HX⟩ := hrel
    by_cases hlx : x < 6
    · have hlx' : (x : Int) < 6 := by omega
      have hlx2 : decide ((x : Int) < (6 : Int)) = true := decide_eq_true hlx'
      go_wp2_with fail
      try rw [hlx2]
      clear hlx2
      go_loopw [4, 6] (fun v c wr => ∃ y : Nat, y ≤ 6 ∧ c = .int .i64 y ∧ v = .int .i64 ((sk s (6 * x + y) : Nat) : Int) ∧ Hid (Below w.heap.size w wr)) (fun _ c _ => 6 - (intOf c).toNat)
      case atStart => exact ⟨0, by omega, rfl, rfl, HX⟩
      case round =>
        obtain ⟨y, hy, rfl, rfl, HY⟩ := hrel
        by_cases hly : y < 6
        · have hly' : (y : Int) < 6 := by omega
          have HKxy := Lib.hid (HK.out x y hlx hly)
          have h1 := @sk_xy s x y hly
          have h2 := HLT.out (6 * x + y + 1) (by omega)
          rw [h1] at h2
          have HE := Lib.hid h1
          generalize sk s (6 * x + y) = c at h2 HE ⊢
          generalize kz x y s = d at h2 HE HKxy ⊢
          clear h1
          go_wp2_with fail
          refine (HKxy.out _).mono ?_
          rintro e w' ⟨rfl, hb⟩
          have HZ := Lib.hid (below_of HY.out hb HY.out.size)
          clear hb HY
          go_wp2_with fail
          go_roundw
          case rel => exact ⟨y + 1, by omega, by go_num, by rw [show 6 * x + (y + 1) = 6 * x + y + 1 from rfl, HE.out]; go_num, HZ⟩
          case measure => simp [intOf]; omega
        · obtain rfl : y = 6 := by omega
          go_wp2_with fail
          go_roundw
          case rel => exact ⟨x + 1, by omega, by go_num, rfl, HY⟩
          case measure => simp [intOf]; omega
    · obtain rfl : x = 6 := by omega
      have hl := HLT.out 36 (by omega)
      have E : wrap64 (((sk s 36 : Nat) : Int) / 36) = ((sk s 36 / 36 : Nat) : Int) := by unfold wrap64; omega
      have HE := Lib.hid E
      clear E hl
      go_wp2_with fail
      go_ret2
      exact ⟨by rw [← HE.out]; rfl, HX.out⟩
theorem sclasses_no (s : Int) (hs : (decide (0 ≤ s) && decide (s ≤ 36)) = false) (w : World) : Calls Try.prog 59 #[.int .i64 s] w fun e w' => e = .returned (.tuple #[.int .i64 0, .bool false]) ∧ Below w.heap.size w w' := by
  have HI := Lib.hid (show ∀ w, Calls Try.prog 131 #[.int .i64 s, .int .i64 0, .int .i64 36] w fun e w' => e = .returned (.bool false) ∧ w' = w from fun w => by
    have := in36 s w
    rwa [hs] at this)
  clear hs
  go_enter Try.func59, Try.ntmps59
  go_wp2_with fail
  refine (HI.out _).mono ?_
  rintro e w' ⟨rfl, rfl⟩
  go_wp2_with fail
  go_ret2
  exact ⟨rfl, Below.refl _ _⟩
theorem iclasses_no (s : Int) (hs : (decide (0 ≤ s) && decide (s ≤ 36)) = false) (w : World) : Calls Try.prog 60 #[.int .i64 s] w fun e w' => e = .returned (.tuple #[.int .i64 0, .bool false]) ∧ Below w.heap.size w w' := by
  have HI := Lib.hid (show ∀ w, Calls Try.prog 143 #[.int .i64 s] w fun e w' => e = .returned (.bool false) ∧ w' = w from fun w => by
    have := size36 s w
    rwa [hs] at this)
  clear hs
  go_enter Try.func60, Try.ntmps60
  go_wp2_with fail
  refine (HI.out _).mono ?_
  rintro e w' ⟨rfl, rfl⟩
  go_wp2_with fail
  go_ret2
  exact ⟨rfl, Below.refl _ _⟩
set_option maxHeartbeats 4000000 in
theorem iclasses_yes (s : Nat) (hs : s ≤ 36) (w : World) : Calls Try.prog 60 #[.int .i64 (s : Int)] w fun e w' => e = .returned (.tuple #[.int .i64 ((sk s 36 / 36 : Nat) : Int), .bool true]) ∧ Below w.heap.size w w' := by
  have HI := Lib.hid (show ∀ w, Calls Try.prog 143 #[.int .i64 (s : Int)] w fun e w' => e = .returned (.bool true) ∧ w' = w from fun w => by
    have := size36 (s : Int) w
    rwa [show (decide (0 ≤ (s : Int)) && decide ((s : Int) ≤ 36)) = true by simp; omega] at this)
  have HK := fun x y hx hy => ikept_f x y s hx hy hs
  have HK := Lib.hid HK
  have HLT := fun k hk => @sk_lt s k hs hk
  have HLT := Lib.hid HLT
  have HV := Lib.hid vectors_f
  go_enter Try.func60, Try.ntmps60
  go_wp2_with fail
  refine (HI.out _).mono ?_
  rintro e w1 ⟨rfl, hw⟩
  obtain rfl := hw.symm
  clear hw
  go_wp2_with fail
  refine (HV.out _).mono ?_
  intro e W4 hp
  obtain ⟨gl, cl, rfl, ho, hb⟩ := LP.out hp
  have S4 : Hid (Below w.heap.size w W4 ∧ W4.ownsRow 0 37 2 (.slice (some ⟨gl, 0, none⟩) (vl 36).length cl) (vl 36).length (cv (vl 36))) := Lib.hid ⟨hb, own_mono ho (Nat.zero_le _)⟩
  clear hp hb HV ho
  have h36 : (vl 36).length = 36 := vl_len 36
  go_wp2_with fail
  go_loopw [5, 14] (fun v n wr => ∃ k : Nat, k ≤ 36 ∧ n = .int .i64 k ∧ v = .int .i64 ((sk s k : Nat) : Int) ∧ Hid (Below w.heap.size w wr ∧ wr.ownsRow 0 37 2 (.slice (some ⟨gl, 0, none⟩) (vl 36).length cl) (vl 36).length (cv (vl 36)))) (fun _ n _ => 36 - (intOf n).toNat)
  case atStart => exact ⟨0, by omega, rfl, rfl, S4⟩
  case round =>
    obtain ⟨k, hk, rfl, rfl, HS⟩ := hrel
    by_cases hlt : k < 36
    · have hlt' : (k : Int) < 36 := by omega
      have hltv : k < (vl 36).length := by rw [vl_len]; exact hlt
      have hltv2 : (k : Int) < ((vl 36).length : Int) := by omega
      have hk0 : (0 : Int) ≤ k := by omega
      have hx : k / 6 < 6 := by omega
      have hy : k % 6 < 6 := Nat.mod_lt _ (by decide)
      have HKxy := Lib.hid (HK.out (k / 6) (k % 6) hx hy)
      obtain ⟨p1, p2⟩ := cv_at (vl 36) k hltv
      rw [vl_get 36 k hltv] at p1 p2
      have a1 := own_at HS.out.2 p1
      have a2 := own_at HS.out.2 p2
      dsimp only at a1 a2
      clear p1 p2
      have h2 := HLT.out (k + 1) (by omega)
      have h1 : sk s (k + 1) = sk s k + kz (k / 6) (k % 6) s := rfl
      rw [h1] at h2
      have HE := Lib.hid h1
      clear h1
      generalize kz (k / 6) (k % 6) s = d at *
      generalize k / 6 = x at *
      generalize k % 6 = y at *
      obtain ⟨c, hc⟩ : ∃ c, c = sk s k := ⟨_, rfl⟩
      rw [← hc] at h2 HE ⊢
      clear hc
      go_wp2_with fail
      refine (HKxy.out _).mono ?_
      rintro e W5 ⟨rfl, hb⟩
      have hb1 := (Below.refl wr.heap.size wr).alloc (Nat.le_refl _) (.cells #[.int .i64 (x : Int), .int .i64 (y : Int)] 37)
      have hb2 := below_of hb1 hb (by simp)
      have HZ := Lib.hid (show Below w.heap.size w W5 ∧ W5.ownsRow 0 37 2 (.slice (some ⟨gl, 0, none⟩) (vl 36).length cl) (vl 36).length (cv (vl 36)) from ⟨below_of HS.out.1 hb2 HS.out.1.size, HS.out.2.kept (grown_below hb2 rfl) (.inr (by simp [Value.ownBlock]))⟩)
      clear hb hb1 hb2 HS a1 a2
      go_wp2_with fail
      go_roundw
      case rel => exact ⟨k + 1, by omega, by go_num, by rw [HE.out]; go_num, HZ⟩
      case measure => simp [intOf]; omega
    · obtain rfl : k = 36 := by omega
      have hl := HLT.out 36 (by omega)
      have E : wrap64 (((sk s 36 : Nat) : Int) / 36) = ((sk s 36 / 36 : Nat) : Int) := by unfold wrap64; omega
      have HE := Lib.hid E
      clear E hl
      go_wp2_with fail
      go_ret2
      exact ⟨by rw [← HE.out]; rfl, HS.out.1⟩
def o7d (x y : Int) : Obj := .cells #[.int .i64 x, .int .i64 y] 37 (0, 0)
set_option maxHeartbeats 1000000 in
theorem lvec_any (x y : Int) (w : World) : Calls Try.prog 138 #[.agg #[.int .i64 x, .int .i64 y]] w fun e w' => e = .returned (.bool (okc x y)) ∧ Below w.heap.size w w' := by
  have HC := Lib.hid (l2cell_any x y)
  go_enter Try.func138, Try.ntmps138
  go_wp2_with fail
  generalize hW : (World.alloc _ _ : World) = W0
  have K0 : KR 1 [(w.heap.size, o7d x y)] w W0 := hW ▸ kr1 w _
  clear hW
  have c_c := fun j => cell_of_row W0 _ j _ _ _ (K0.row (g := w.heap.size) (o := o7d x y) (by simp))
  go_wp2_with fail
  refine (HC.out _).mono ?_
  rintro e W1 ⟨rfl, hb⟩
  have K1 := K0.far hb rfl
  clear hb K0 c_c
  go_wp2_with fail
  go_ret
  exact ⟨rfl, K1.2.2⟩
set_option maxHeartbeats 1000000 in
theorem ivec_any (x y : Int) (hx : (Lit.int .i64 x).wf = true) (hy : (Lit.int .i64 y).wf = true) (w : World) : Calls Try.prog 140 #[.agg #[.int .i64 x, .int .i64 y]] w fun e w' => e = .returned (.bool (okc x y)) ∧ Below w.heap.size w w' := by
  have HC := Lib.hid (iscell_any x y hx hy)
  go_enter Try.func140, Try.ntmps140
  go_wp2_with fail
  generalize hW : (World.alloc _ _ : World) = W0
  have K0 : KR 1 [(w.heap.size, o7d x y)] w W0 := hW ▸ kr1 w _
  clear hW
  have c_c := fun j => cell_of_row W0 _ j _ _ _ (K0.row (g := w.heap.size) (o := o7d x y) (by simp))
  go_wp2_with fail
  refine (HC.out _).mono ?_
  rintro e W1 ⟨rfl, hb⟩
  have K1 := K0.far hb rfl
  clear hb K0 c_c
  go_wp2_with fail
  go_ret
  exact ⟨rfl, K1.2.2⟩
set_option maxHeartbeats 1000000 in
theorem sorder_yes (x y : Nat) (hx : x < 6) (hy : y < 6) (w : World) : Calls Try.prog 54 #[.agg #[.int .i64 (x : Int), .int .i64 (y : Int)]] w fun e w' => e = .returned (.tuple #[.int .i64 (vo x y : Int), .bool true]) ∧ Below w.heap.size w w' := by
  have HV := Lib.hid (show ∀ w, Calls Try.prog 138 #[.agg #[.int .i64 (x : Int), .int .i64 (y : Int)]] w fun e w' => e = .returned (.bool true) ∧ Below w.heap.size w w' from fun w => by
    have h := lvec_any (x : Int) (y : Int) w
    rwa [show okc (x : Int) (y : Int) = true by unfold okc; simp; omega] at h)
  have HB := Lib.hid (lorder_f x y hx hy)
  generalize vo x y = r at HB ⊢
  go_enter Try.func54, Try.ntmps54
  go_wp2_with fail
  generalize hW : (World.alloc _ _ : World) = W0
  have K0 : KR 1 [(w.heap.size, o7d x y)] w W0 := hW ▸ kr1 w _
  clear hW
  have c_c := fun j => cell_of_row W0 _ j _ _ _ (K0.row (g := w.heap.size) (o := o7d x y) (by simp))
  go_wp2_with fail
  refine (HV.out _).mono ?_
  rintro e W1 ⟨rfl, hb⟩
  have K1 := K0.far hb rfl
  clear hb K0 c_c
  have c_c := fun j => cell_of_row W1 _ j _ _ _ (K1.row (g := w.heap.size) (o := o7d x y) (by simp))
  go_wp2_with fail
  refine (HB.out _).mono ?_
  rintro e W2 ⟨rfl, hb⟩
  have K2 := K1.far hb rfl
  clear hb K1 c_c
  go_wp2_with fail
  go_ret2
  exact ⟨rfl, K2.2.2⟩
set_option maxHeartbeats 1000000 in
theorem sorder_no0 (x y : Int) (hx : (Lit.int .i64 x).wf = true) (hy : (Lit.int .i64 y).wf = true) (hv : okc x y = false) (w : World) : Calls Try.prog 54 #[.agg #[.int .i64 x, .int .i64 y]] w fun e w' => e = .returned (.tuple #[.int .i64 0, .bool false]) ∧ Below w.heap.size w w' := by
  have HV := Lib.hid (show ∀ w, Calls Try.prog 138 #[.agg #[.int .i64 x, .int .i64 y]] w fun e w' => e = .returned (.bool false) ∧ Below w.heap.size w w' from fun w => by
    have h := lvec_any x y w
    rwa [hv] at h)
  clear hv
  go_enter Try.func54, Try.ntmps54
  go_wp2_with fail
  generalize hW : (World.alloc _ _ : World) = W0
  have K0 : KR 1 [(w.heap.size, o7d x y)] w W0 := hW ▸ kr1 w _
  clear hW
  have c_c := fun j => cell_of_row W0 _ j _ _ _ (K0.row (g := w.heap.size) (o := o7d x y) (by simp))
  go_wp2_with fail
  refine (HV.out _).mono ?_
  rintro e W1 ⟨rfl, hb⟩
  have K1 := K0.far hb rfl
  clear hb K0 c_c
  go_wp2_with fail
  go_ret2
  exact ⟨rfl, K1.2.2⟩
set_option maxHeartbeats 1000000 in
theorem iorderof_yes (x y : Nat) (hx : x < 6) (hy : y < 6) (w : World) : Calls Try.prog 56 #[.agg #[.int .i64 (x : Int), .int .i64 (y : Int)]] w fun e w' => e = .returned (.tuple #[.int .i64 (vo x y : Int), .bool true]) ∧ Below w.heap.size w w' := by
  have HV := Lib.hid (show ∀ w, Calls Try.prog 140 #[.agg #[.int .i64 (x : Int), .int .i64 (y : Int)]] w fun e w' => e = .returned (.bool true) ∧ Below w.heap.size w w' from fun w => by
    have h := ivec_any (x : Int) (y : Int) (WalkArith.wf_i64 (by omega)) (WalkArith.wf_i64 (by omega)) w
    rwa [show okc (x : Int) (y : Int) = true by unfold okc; simp; omega] at h)
  have HB := Lib.hid (iorder_f x y hx hy)
  generalize vo x y = r at HB ⊢
  go_enter Try.func56, Try.ntmps56
  go_wp2_with fail
  generalize hW : (World.alloc _ _ : World) = W0
  have K0 : KR 1 [(w.heap.size, o7d x y)] w W0 := hW ▸ kr1 w _
  clear hW
  have c_c := fun j => cell_of_row W0 _ j _ _ _ (K0.row (g := w.heap.size) (o := o7d x y) (by simp))
  go_wp2_with fail
  refine (HV.out _).mono ?_
  rintro e W1 ⟨rfl, hb⟩
  have K1 := K0.far hb rfl
  clear hb K0 c_c
  have c_c := fun j => cell_of_row W1 _ j _ _ _ (K1.row (g := w.heap.size) (o := o7d x y) (by simp))
  go_wp2_with fail
  refine (HB.out _).mono ?_
  rintro e W2 ⟨rfl, hb⟩
  have K2 := K1.far hb rfl
  clear hb K1 c_c
  go_wp2_with fail
  go_ret2
  exact ⟨rfl, K2.2.2⟩
set_option maxHeartbeats 1000000 in
theorem iorderof_no0 (x y : Int) (hx : (Lit.int .i64 x).wf = true) (hy : (Lit.int .i64 y).wf = true) (hv : okc x y = false) (w : World) : Calls Try.prog 56 #[.agg #[.int .i64 x, .int .i64 y]] w fun e w' => e = .returned (.tuple #[.int .i64 0, .bool false]) ∧ Below w.heap.size w w' := by
  have HV := Lib.hid (show ∀ w, Calls Try.prog 140 #[.agg #[.int .i64 x, .int .i64 y]] w fun e w' => e = .returned (.bool false) ∧ Below w.heap.size w w' from fun w => by
    have h := ivec_any x y hx hy w
    rwa [hv] at h)
  clear hv
  go_enter Try.func56, Try.ntmps56
  go_wp2_with fail
  generalize hW : (World.alloc _ _ : World) = W0
  have K0 : KR 1 [(w.heap.size, o7d x y)] w W0 := hW ▸ kr1 w _
  clear hW
  have c_c := fun j => cell_of_row W0 _ j _ _ _ (K0.row (g := w.heap.size) (o := o7d x y) (by simp))
  go_wp2_with fail
  refine (HV.out _).mono ?_
  rintro e W1 ⟨rfl, hb⟩
  have K1 := K0.far hb rfl
  clear hb K0 c_c
  go_wp2_with fail
  go_ret2
  exact ⟨rfl, K1.2.2⟩
set_option maxHeartbeats 1000000 in
theorem skept_yes (x y s : Nat) (hx : x < 6) (hy : y < 6) (hs : s ≤ 36) (w : World) : Calls Try.prog 57 #[.agg #[.int .i64 (x : Int), .int .i64 (y : Int)], .int .i64 (s : Int)] w fun e w' => e = .returned (.tuple #[.int .i64 (kz x y s : Int), .bool true]) ∧ Below w.heap.size w w' := by
  have HV := Lib.hid (show ∀ w, Calls Try.prog 138 #[.agg #[.int .i64 (x : Int), .int .i64 (y : Int)]] w fun e w' => e = .returned (.bool true) ∧ Below w.heap.size w w' from fun w => by
    have h := lvec_any (x : Int) (y : Int) w
    rwa [show okc (x : Int) (y : Int) = true by unfold okc; simp; omega] at h)
  have HB := Lib.hid (lkept_f x y s hx hy hs)
  have HI := Lib.hid (show ∀ w, Calls Try.prog 131 #[.int .i64 (s : Int), .int .i64 0, .int .i64 36] w fun e w' => e = .returned (.bool true) ∧ w' = w from fun w => by
    have := in36 (s : Int) w
    rwa [show (decide (0 ≤ (s : Int)) && decide ((s : Int) ≤ 36)) = true by simp; omega] at this)
  generalize kz x y s = r at HB ⊢
  go_enter Try.func57, Try.ntmps57
  go_wp2_with fail
  generalize hW : (World.alloc _ _ : World) = W0
  have K0 : KR 1 [(w.heap.size, o7d x y)] w W0 := hW ▸ kr1 w _
  clear hW
  have c_c := fun j => cell_of_row W0 _ j _ _ _ (K0.row (g := w.heap.size) (o := o7d x y) (by simp))
  go_wp2_with fail
  refine (HV.out _).mono ?_
  rintro e W1 ⟨rfl, hb⟩
  have K1 := K0.far hb rfl
  clear hb K0 c_c
  have c_c := fun j => cell_of_row W1 _ j _ _ _ (K1.row (g := w.heap.size) (o := o7d x y) (by simp))
  go_wp2_with fail
  refine (HI.out _).mono ?_
  rintro e w1 ⟨rfl, rfl⟩
  go_wp2_with fail
  refine (HB.out _).mono ?_
  rintro e W2 ⟨rfl, hb⟩
  have K2 := K1.far hb rfl
  clear hb K1 c_c
  go_wp2_with fail
  go_ret2
  exact ⟨rfl, K2.2.2⟩
set_option maxHeartbeats 1000000 in
theorem skept_no0 (x y : Int) (s : Int) (hx : (Lit.int .i64 x).wf = true) (hy : (Lit.int .i64 y).wf = true) (hv : okc x y = false) (w : World) : Calls Try.prog 57 #[.agg #[.int .i64 x, .int .i64 y], .int .i64 s] w fun e w' => e = .returned (.tuple #[.int .i64 0, .bool false]) ∧ Below w.heap.size w w' := by
  have HV := Lib.hid (show ∀ w, Calls Try.prog 138 #[.agg #[.int .i64 x, .int .i64 y]] w fun e w' => e = .returned (.bool false) ∧ Below w.heap.size w w' from fun w => by
    have h := lvec_any x y w
    rwa [hv] at h)
  clear hv
  go_enter Try.func57, Try.ntmps57
  go_wp2_with fail
  generalize hW : (World.alloc _ _ : World) = W0
  have K0 : KR 1 [(w.heap.size, o7d x y)] w W0 := hW ▸ kr1 w _
  clear hW
  have c_c := fun j => cell_of_row W0 _ j _ _ _ (K0.row (g := w.heap.size) (o := o7d x y) (by simp))
  go_wp2_with fail
  refine (HV.out _).mono ?_
  rintro e W1 ⟨rfl, hb⟩
  have K1 := K0.far hb rfl
  clear hb K0 c_c
  go_wp2_with fail
  go_ret2
  exact ⟨rfl, K1.2.2⟩
set_option maxHeartbeats 1000000 in
theorem skept_no1 (x y : Int) (s : Int) (hx : (Lit.int .i64 x).wf = true) (hy : (Lit.int .i64 y).wf = true) (hv : okc x y = true) (hs : (decide (0 ≤ s) && decide (s ≤ 36)) = false) (w : World) : Calls Try.prog 57 #[.agg #[.int .i64 x, .int .i64 y], .int .i64 s] w fun e w' => e = .returned (.tuple #[.int .i64 0, .bool false]) ∧ Below w.heap.size w w' := by
  have HV := Lib.hid (show ∀ w, Calls Try.prog 138 #[.agg #[.int .i64 x, .int .i64 y]] w fun e w' => e = .returned (.bool true) ∧ Below w.heap.size w w' from fun w => by
    have h := lvec_any x y w
    rwa [hv] at h)
  have HI := Lib.hid (show ∀ w, Calls Try.prog 131 #[.int .i64 s, .int .i64 0, .int .i64 36] w fun e w' => e = .returned (.bool false) ∧ w' = w from fun w => by
    have := in36 s w
    rwa [hs] at this)
  clear hs
  clear hv
  go_enter Try.func57, Try.ntmps57
  go_wp2_with fail
  generalize hW : (World.alloc _ _ : World) = W0
  have K0 : KR 1 [(w.heap.size, o7d x y)] w W0 := hW ▸ kr1 w _
  clear hW
  have c_c := fun j => cell_of_row W0 _ j _ _ _ (K0.row (g := w.heap.size) (o := o7d x y) (by simp))
  go_wp2_with fail
  refine (HV.out _).mono ?_
  rintro e W1 ⟨rfl, hb⟩
  have K1 := K0.far hb rfl
  clear hb K0 c_c
  go_wp2_with fail
  refine (HI.out _).mono ?_
  rintro e w1 ⟨rfl, rfl⟩
  go_wp2_with fail
  go_ret2
  exact ⟨rfl, K1.2.2⟩
set_option maxHeartbeats 1000000 in
theorem ikeptof_yes (x y s : Nat) (hx : x < 6) (hy : y < 6) (hs : s ≤ 36) (w : World) : Calls Try.prog 58 #[.agg #[.int .i64 (x : Int), .int .i64 (y : Int)], .int .i64 (s : Int)] w fun e w' => e = .returned (.tuple #[.int .i64 (kz x y s : Int), .bool true]) ∧ Below w.heap.size w w' := by
  have HV := Lib.hid (show ∀ w, Calls Try.prog 140 #[.agg #[.int .i64 (x : Int), .int .i64 (y : Int)]] w fun e w' => e = .returned (.bool true) ∧ Below w.heap.size w w' from fun w => by
    have h := ivec_any (x : Int) (y : Int) (WalkArith.wf_i64 (by omega)) (WalkArith.wf_i64 (by omega)) w
    rwa [show okc (x : Int) (y : Int) = true by unfold okc; simp; omega] at h)
  have HB := Lib.hid (ikept_f x y s hx hy hs)
  have HI := Lib.hid (show ∀ w, Calls Try.prog 143 #[.int .i64 (s : Int)] w fun e w' => e = .returned (.bool true) ∧ w' = w from fun w => by
    have := size36 (s : Int) w
    rwa [show (decide (0 ≤ (s : Int)) && decide ((s : Int) ≤ 36)) = true by simp; omega] at this)
  generalize kz x y s = r at HB ⊢
  go_enter Try.func58, Try.ntmps58
  go_wp2_with fail
  generalize hW : (World.alloc _ _ : World) = W0
  have K0 : KR 1 [(w.heap.size, o7d x y)] w W0 := hW ▸ kr1 w _
  clear hW
  have c_c := fun j => cell_of_row W0 _ j _ _ _ (K0.row (g := w.heap.size) (o := o7d x y) (by simp))
  go_wp2_with fail
  refine (HV.out _).mono ?_
  rintro e W1 ⟨rfl, hb⟩
  have K1 := K0.far hb rfl
  clear hb K0 c_c
  have c_c := fun j => cell_of_row W1 _ j _ _ _ (K1.row (g := w.heap.size) (o := o7d x y) (by simp))
  go_wp2_with fail
  refine (HI.out _).mono ?_
  rintro e w1 ⟨rfl, rfl⟩
  go_wp2_with fail
  refine (HB.out _).mono ?_
  rintro e W2 ⟨rfl, hb⟩
  have K2 := K1.far hb rfl
  clear hb K1 c_c
  go_wp2_with fail
  go_ret2
  exact ⟨rfl, K2.2.2⟩
set_option maxHeartbeats 1000000 in
theorem ikeptof_no0 (x y : Int) (s : Int) (hx : (Lit.int .i64 x).wf = true) (hy : (Lit.int .i64 y).wf = true) (hv : okc x y = false) (w : World) : Calls Try.prog 58 #[.agg #[.int .i64 x, .int .i64 y], .int .i64 s] w fun e w' => e = .returned (.tuple #[.int .i64 0, .bool false]) ∧ Below w.heap.size w w' := by
  have HV := Lib.hid (show ∀ w, Calls Try.prog 140 #[.agg #[.int .i64 x, .int .i64 y]] w fun e w' => e = .returned (.bool false) ∧ Below w.heap.size w w' from fun w => by
    have h := ivec_any x y hx hy w
    rwa [hv] at h)
  clear hv
  go_enter Try.func58, Try.ntmps58
  go_wp2_with fail
  generalize hW : (World.alloc _ _ : World) = W0
  have K0 : KR 1 [(w.heap.size, o7d x y)] w W0 := hW ▸ kr1 w _
  clear hW
  have c_c := fun j => cell_of_row W0 _ j _ _ _ (K0.row (g := w.heap.size) (o := o7d x y) (by simp))
  go_wp2_with fail
  refine (HV.out _).mono ?_
  rintro e W1 ⟨rfl, hb⟩
  have K1 := K0.far hb rfl
  clear hb K0 c_c
  go_wp2_with fail
  go_ret2
  exact ⟨rfl, K1.2.2⟩
set_option maxHeartbeats 1000000 in
theorem ikeptof_no1 (x y : Int) (s : Int) (hx : (Lit.int .i64 x).wf = true) (hy : (Lit.int .i64 y).wf = true) (hv : okc x y = true) (hs : (decide (0 ≤ s) && decide (s ≤ 36)) = false) (w : World) : Calls Try.prog 58 #[.agg #[.int .i64 x, .int .i64 y], .int .i64 s] w fun e w' => e = .returned (.tuple #[.int .i64 0, .bool false]) ∧ Below w.heap.size w w' := by
  have HV := Lib.hid (show ∀ w, Calls Try.prog 140 #[.agg #[.int .i64 x, .int .i64 y]] w fun e w' => e = .returned (.bool true) ∧ Below w.heap.size w w' from fun w => by
    have h := ivec_any x y hx hy w
    rwa [hv] at h)
  have HI := Lib.hid (show ∀ w, Calls Try.prog 143 #[.int .i64 s] w fun e w' => e = .returned (.bool false) ∧ w' = w from fun w => by
    have := size36 s w
    rwa [hs] at this)
  clear hs
  clear hv
  go_enter Try.func58, Try.ntmps58
  go_wp2_with fail
  generalize hW : (World.alloc _ _ : World) = W0
  have K0 : KR 1 [(w.heap.size, o7d x y)] w W0 := hW ▸ kr1 w _
  clear hW
  have c_c := fun j => cell_of_row W0 _ j _ _ _ (K0.row (g := w.heap.size) (o := o7d x y) (by simp))
  go_wp2_with fail
  refine (HV.out _).mono ?_
  rintro e W1 ⟨rfl, hb⟩
  have K1 := K0.far hb rfl
  clear hb K0 c_c
  go_wp2_with fail
  refine (HI.out _).mono ?_
  rintro e w1 ⟨rfl, rfl⟩
  go_wp2_with fail
  go_ret2
  exact ⟨rfl, K1.2.2⟩
theorem okc_nat {x y : Int} (h : okc x y = true) : ∃ a b : Nat, x = a ∧ y = b ∧ a < 6 ∧ b < 6 := by
  unfold okc at h
  simp at h
  exact ⟨x.toNat, y.toNat, by omega, by omega, by omega, by omega⟩
theorem ord_pair (x y : Int) (hx : (Lit.int .i64 x).wf = true) (hy : (Lit.int .i64 y).wf = true) : ∃ (r : Int) (t : Bool), (∀ w, Calls Try.prog 54 #[.agg #[.int .i64 x, .int .i64 y]] w fun e w' => e = .returned (.tuple #[.int .i64 r, .bool t]) ∧ Below w.heap.size w w') ∧ (∀ w, Calls Try.prog 56 #[.agg #[.int .i64 x, .int .i64 y]] w fun e w' => e = .returned (.tuple #[.int .i64 r, .bool t]) ∧ Below w.heap.size w w') := by
  cases hv : okc x y
  · exact ⟨0, false, sorder_no0 x y hx hy hv, iorderof_no0 x y hx hy hv⟩
  · obtain ⟨a, b, rfl, rfl, ha, hb⟩ := okc_nat hv
    exact ⟨_, true, sorder_yes a b ha hb, iorderof_yes a b ha hb⟩
theorem s36_nat {s : Int} (h : (decide (0 ≤ s) && decide (s ≤ 36)) = true) : ∃ a : Nat, s = a ∧ a ≤ 36 := by
  simp at h
  exact ⟨s.toNat, by omega, by omega⟩
theorem kept_pair (x y s : Int) (hx : (Lit.int .i64 x).wf = true) (hy : (Lit.int .i64 y).wf = true) : ∃ (r : Int) (t : Bool), (∀ w, Calls Try.prog 57 #[.agg #[.int .i64 x, .int .i64 y], .int .i64 s] w fun e w' => e = .returned (.tuple #[.int .i64 r, .bool t]) ∧ Below w.heap.size w w') ∧ (∀ w, Calls Try.prog 58 #[.agg #[.int .i64 x, .int .i64 y], .int .i64 s] w fun e w' => e = .returned (.tuple #[.int .i64 r, .bool t]) ∧ Below w.heap.size w w') := by
  cases hv : okc x y
  · exact ⟨0, false, skept_no0 x y s hx hy hv, ikeptof_no0 x y s hx hy hv⟩
  · cases hs : (decide (0 ≤ s) && decide (s ≤ 36))
    · exact ⟨0, false, skept_no1 x y s hx hy hv hs, ikeptof_no1 x y s hx hy hv hs⟩
    · obtain ⟨a, b, rfl, rfl, ha, hb⟩ := okc_nat hv
      obtain ⟨s, rfl, h36⟩ := s36_nat hs
      exact ⟨_, true, skept_yes a b s ha hb h36, ikeptof_yes a b s ha hb h36⟩
theorem classes_pair (s : Int) : ∃ (r : Int) (t : Bool), (∀ w, Calls Try.prog 59 #[.int .i64 s] w fun e w' => e = .returned (.tuple #[.int .i64 r, .bool t]) ∧ Below w.heap.size w w') ∧ (∀ w, Calls Try.prog 60 #[.int .i64 s] w fun e w' => e = .returned (.tuple #[.int .i64 r, .bool t]) ∧ Below w.heap.size w w') := by
  cases hs : (decide (0 ≤ s) && decide (s ≤ 36))
  · exact ⟨0, false, sclasses_no s hs, iclasses_no s hs⟩
  · obtain ⟨s, rfl, h36⟩ := s36_nat hs
    exact ⟨_, true, sclasses_yes s h36, iclasses_yes s h36⟩
end Go.Proofs.Ytpmhnikilianoaa
