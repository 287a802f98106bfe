/- MERGED, for one claim's sake: Sz, Gm0, Gm1, Sf, Gm2. -/
import Derived.Test.YtkjaaaefcmpokaaSc
import Derived.Test.YtkjaaaefcmpokaaKp
import Derived.Test.YtkjaaaefcmpokaaRk
import Derived.Test.YtkjaaaefcmpokaaPb
import Derived.Test.YtkjaaaefcmpokaaEq
import Derived.Test.YtkjaaaefcmpokaaBt
import Derived.Test.YtkjaaaefcmpokaaMc10
import Derived.Test.YtkjaaaefcmpokaaSb
import Derived.Test.YtkjaaaefcmpokaaSd
import Derived.Test.YtkjaaaefcmpokaaRg
import Derived.WalkKit
import Derived.ProofKit
import Derived.OpenShut
import Derived.Lib.Hide
import Derived.WalkSpells
import Derived.Below
import Derived.BigQuiet
import Derived.LoopN
import Derived.Deep.RegionHeld3
import Derived.RegionTactic
namespace Go.Proofs.Ytkjaaaefcmpokaa
open Go.ChangeShapes Go.WideShapes Go.ChangeAt Go.RowKit
set_option linter.unusedVariables false
/- Sz -/
def pc (x : Int) : Int := x % 2 + x / 2 % 2 + x / 4 % 2 + x / 8 % 2 + x / 16 % 2 + x / 32 % 2
def oc1 (x : Int) : Int := IntKind.u64.wrap (bits .and .u64 (x / 2) 6148914691236517205 + bits .and .u64 x 6148914691236517205)
def oc2 (t : Int) : Int := IntKind.u64.wrap (bits .and .u64 (t / 4) 3689348814741910323 + bits .and .u64 t 3689348814741910323)
def oc3 (t : Int) : Int := bits .and .u64 (IntKind.u64.wrap (t / 16 + t)) 1085102592571150095
def oc4 (t : Int) : Int := IntKind.u64.wrap (t + t / 256)
def oc5 (t : Int) : Int := IntKind.u64.wrap (t + t / 65536)
def oc6 (t : Int) : Int := IntKind.u64.wrap (t + t / 4294967296)
def ocF (x : Int) : Int := bits .and .i64 (wrap64 (oc6 (oc5 (oc4 (oc3 (oc2 (oc1 x))))))) 127
theorem oc_fin : ∀ n : Fin 64, ocF ((n.val : Nat) : Int) = pc ((n.val : Nat) : Int) := by decide +kernel
theorem oc_pc {x : Int} (hx : 0 ≤ x ∧ x ≤ 63) : ocF x = pc x := by
  obtain ⟨n, rfl⟩ := Int.eq_ofNat_of_zero_le hx.1
  exact oc_fin ⟨n, by omega⟩
theorem pc_bd {x : Int} (hx : 0 ≤ x ∧ x ≤ 63) : 0 ≤ pc x ∧ pc x ≤ 6 := by unfold pc; omega
theorem pc_zero : pc 0 = 0 := rfl
theorem pc_half {v : Int} (h0 : 0 ≤ v) (h1 : v ≤ 63) : v % 2 + pc (v / 2) = pc v := by unfold pc; omega
theorem oc64 (x : Int) (hx : 0 ≤ x ∧ x ≤ 63) (w : World) : Calls Try.prog 270 #[.int .u64 x] w fun e w' => e = .returned (.int .i64 (pc x)) ∧ w' = w := by
  rw [← oc_pc hx]
  go_enter Try.func270, Try.ntmps270
  go_wp2_with fail
  go_ret
  exact ⟨rfl, rfl⟩
theorem oc_any (x : Int) (hx : 0 ≤ x ∧ x ≤ 63) (w : World) : Calls Try.prog 191 #[.int .u64 x] w fun e w' => e = .returned (.int .i64 (pc x)) ∧ w' = w := by
  have H := Lib.hid (oc64 x hx)
  go_enter Try.func191, Try.ntmps191
  go_wp2_with fail
  refine (H.out _).mono ?_
  rintro e w' ⟨rfl, rfl⟩
  go_wp2_with fail
  go_ret
  exact ⟨rfl, rfl⟩
set_option maxHeartbeats 2000000 in
theorem l2count_any (a0 a1 a2 a3 a4 a5 : Int) (hv : (0 ≤ a0 ∧ a0 ≤ 63) ∧ (0 ≤ a1 ∧ a1 ≤ 63) ∧ (0 ≤ a2 ∧ a2 ≤ 63) ∧ (0 ≤ a3 ∧ a3 ≤ 63) ∧ (0 ≤ a4 ∧ a4 ≤ 63) ∧ (0 ≤ a5 ∧ a5 ≤ 63)) (w : World) : Calls Try.prog 186 #[.agg #[.int .i64 a0, .int .i64 a1, .int .i64 a2, .int .i64 a3, .int .i64 a4, .int .i64 a5]] w fun e w' => e = .returned (.int .i64 (pc a0 + pc a1 + pc a2 + pc a3 + pc a4 + pc a5)) ∧ Below w.heap.size w w' := by
  obtain ⟨h0, h1, h2, h3, h4, h5⟩ := hv
  have b0 := pc_bd h0; have b1 := pc_bd h1; have b2 := pc_bd h2; have b3 := pc_bd h3; have b4 := pc_bd h4; have b5 := pc_bd h5
  go_enter Try.func186, Try.ntmps186
  go_wp2_with fail
  refine wp_loop_rounds 7 ?_
  rw [rounds_succ]
  go_wp2_with fail
  go_loop [3, 5] (fun m r => ∃ (u v : Int), m = .int .i64 u ∧ r = .int .i64 v ∧ 0 ≤ v ∧ v ≤ 63 ∧ 0 ≤ u ∧ Hid (u + pc v = pc a0)) (fun _ r => (intOf r).toNat)
  case atStart => exact ⟨0, a0, rfl, rfl, h0.1, h0.2, by omega, Lib.hid (by omega)⟩
  case round =>
    obtain ⟨u, v, rfl, rfl, hv0, hv1, hu0, HR⟩ := hrel
    have hub : u ≤ 36 := by have := HR.out; have := (pc_bd ⟨hv0, hv1⟩).1; omega
    by_cases hp : 0 < v
    · go_wp2_with fail
      go_round
      case rel => exact ⟨u + v % 2, v / 2, by go_num, by go_num, by omega, by omega, by omega, Lib.hid (by have := HR.out; have := pc_half hv0 hv1; omega)⟩
      case measure => simp [intOf]; omega
    · have hv : v = 0 := by omega
      have hu : u = pc a0 := by have := HR.out; rw [hv, pc_zero] at this; omega
      subst hv
      clear HR hu0 hub hv0 hv1
      subst hu
      go_wp2_with fail
      rw [rounds_succ]
      go_wp2_with fail
      go_loop [3, 5] (fun m r => ∃ (u v : Int), m = .int .i64 u ∧ r = .int .i64 v ∧ 0 ≤ v ∧ v ≤ 63 ∧ 0 ≤ u ∧ Hid (u + pc v = pc a0 + pc a1)) (fun _ r => (intOf r).toNat)
      case atStart => exact ⟨_, a1, rfl, rfl, h1.1, h1.2, by omega, Lib.hid (by omega)⟩
      case round =>
        obtain ⟨u, v, rfl, rfl, hv0, hv1, hu0, HR⟩ := hrel
        have hub : u ≤ 36 := by have := HR.out; have := (pc_bd ⟨hv0, hv1⟩).1; omega
        by_cases hp : 0 < v
        · go_wp2_with fail
          go_round
          case rel => exact ⟨u + v % 2, v / 2, by go_num, by go_num, by omega, by omega, by omega, Lib.hid (by have := HR.out; have := pc_half hv0 hv1; omega)⟩
          case measure => simp [intOf]; omega
        · have hv : v = 0 := by omega
          have hu : u = pc a0 + pc a1 := by have := HR.out; rw [hv, pc_zero] at this; omega
          subst hv
          clear HR hu0 hub hv0 hv1
          subst hu
          go_wp2_with fail
          rw [rounds_succ]
          go_wp2_with fail
          go_loop [3, 5] (fun m r => ∃ (u v : Int), m = .int .i64 u ∧ r = .int .i64 v ∧ 0 ≤ v ∧ v ≤ 63 ∧ 0 ≤ u ∧ Hid (u + pc v = pc a0 + pc a1 + pc a2)) (fun _ r => (intOf r).toNat)
          case atStart => exact ⟨_, a2, rfl, rfl, h2.1, h2.2, by omega, Lib.hid (by omega)⟩
          case round =>
            obtain ⟨u, v, rfl, rfl, hv0, hv1, hu0, HR⟩ := hrel
            have hub : u ≤ 36 := by have := HR.out; have := (pc_bd ⟨hv0, hv1⟩).1; omega
            by_cases hp : 0 < v
            · go_wp2_with fail
              go_round
              case rel => exact ⟨u + v % 2, v / 2, by go_num, by go_num, by omega, by omega, by omega, Lib.hid (by have := HR.out; have := pc_half hv0 hv1; omega)⟩
              case measure => simp [intOf]; omega
            · have hv : v = 0 := by omega
              have hu : u = pc a0 + pc a1 + pc a2 := by have := HR.out; rw [hv, pc_zero] at this; omega
              subst hv
              clear HR hu0 hub hv0 hv1
              subst hu
              go_wp2_with fail
              rw [rounds_succ]
              go_wp2_with fail
              go_loop [3, 5] (fun m r => ∃ (u v : Int), m = .int .i64 u ∧ r = .int .i64 v ∧ 0 ≤ v ∧ v ≤ 63 ∧ 0 ≤ u ∧ Hid (u + pc v = pc a0 + pc a1 + pc a2 + pc a3)) (fun _ r => (intOf r).toNat)
              case atStart => exact ⟨_, a3, rfl, rfl, h3.1, h3.2, by omega, Lib.hid (by omega)⟩
              case round =>
                obtain ⟨u, v, rfl, rfl, hv0, hv1, hu0, HR⟩ := hrel
                have hub : u ≤ 36 := by have := HR.out; have := (pc_bd ⟨hv0, hv1⟩).1; omega
                by_cases hp : 0 < v
                · go_wp2_with fail
                  go_round
                  case rel => exact ⟨u + v % 2, v / 2, by go_num, by go_num, by omega, by omega, by omega, Lib.hid (by have := HR.out; have := pc_half hv0 hv1; omega)⟩
                  case measure => simp [intOf]; omega
                · have hv : v = 0 := by omega
                  have hu : u = pc a0 + pc a1 + pc a2 + pc a3 := by have := HR.out; rw [hv, pc_zero] at this; omega
                  subst hv
                  clear HR hu0 hub hv0 hv1
                  subst hu
                  go_wp2_with fail
                  rw [rounds_succ]
                  go_wp2_with fail
                  go_loop [3, 5] (fun m r => ∃ (u v : Int), m = .int .i64 u ∧ r = .int .i64 v ∧ 0 ≤ v ∧ v ≤ 63 ∧ 0 ≤ u ∧ Hid (u + pc v = pc a0 + pc a1 + pc a2 + pc a3 + pc a4)) (fun _ r => (intOf r).toNat)
                  case atStart => exact ⟨_, a4, rfl, rfl, h4.1, h4.2, by omega, Lib.hid (by omega)⟩
                  case round =>
                    obtain ⟨u, v, rfl, rfl, hv0, hv1, hu0, HR⟩ := hrel
                    have hub : u ≤ 36 := by have := HR.out; have := (pc_bd ⟨hv0, hv1⟩).1; omega
                    by_cases hp : 0 < v
                    · go_wp2_with fail
                      go_round
                      case rel => exact ⟨u + v % 2, v / 2, by go_num, by go_num, by omega, by omega, by omega, Lib.hid (by have := HR.out; have := pc_half hv0 hv1; omega)⟩
                      case measure => simp [intOf]; omega
                    · have hv : v = 0 := by omega
                      have hu : u = pc a0 + pc a1 + pc a2 + pc a3 + pc a4 := by have := HR.out; rw [hv, pc_zero] at this; omega
                      subst hv
                      clear HR hu0 hub hv0 hv1
                      subst hu
                      go_wp2_with fail
                      rw [rounds_succ]
                      go_wp2_with fail
                      go_loop [3, 5] (fun m r => ∃ (u v : Int), m = .int .i64 u ∧ r = .int .i64 v ∧ 0 ≤ v ∧ v ≤ 63 ∧ 0 ≤ u ∧ Hid (u + pc v = pc a0 + pc a1 + pc a2 + pc a3 + pc a4 + pc a5)) (fun _ r => (intOf r).toNat)
                      case atStart => exact ⟨_, a5, rfl, rfl, h5.1, h5.2, by omega, Lib.hid (by omega)⟩
                      case round =>
                        obtain ⟨u, v, rfl, rfl, hv0, hv1, hu0, HR⟩ := hrel
                        have hub : u ≤ 36 := by have := HR.out; have := (pc_bd ⟨hv0, hv1⟩).1; omega
                        by_cases hp : 0 < v
                        · go_wp2_with fail
                          go_round
                          case rel => exact ⟨u + v % 2, v / 2, by go_num, by go_num, by omega, by omega, by omega, Lib.hid (by have := HR.out; have := pc_half hv0 hv1; omega)⟩
                          case measure => simp [intOf]; omega
                        · have hv : v = 0 := by omega
                          have hu : u = pc a0 + pc a1 + pc a2 + pc a3 + pc a4 + pc a5 := by have := HR.out; rw [hv, pc_zero] at this; omega
                          subst hv
                          clear HR hu0 hub hv0 hv1
                          subst hu
                          go_wp2_with fail
                          rw [rounds_succ]
                          go_wp2_with fail
                          go_ret
                          exact ⟨rfl, by (repeat (first | exact Below.refl _ _ | assumption | refine Below.setCell ?_ (by first | (simp; done) | (simp; omega)) _ | refine Below.alloc ?_ (by first | (simp; done) | (simp; omega)) _ | refine Below.drew ?_))⟩
set_option maxHeartbeats 1000000 in
theorem isize_no0 (a0 a1 a2 a3 a4 a5 : Int) (H0 : Hid (∀ w, Calls Try.prog 144 #[.agg #[.int .i64 a0, .int .i64 a1, .int .i64 a2, .int .i64 a3, .int .i64 a4, .int .i64 a5]] w fun e w' => e = .returned (.bool false) ∧ Below w.heap.size w w')) (w : World) : Calls Try.prog 79 #[.agg #[.int .i64 a0, .int .i64 a1, .int .i64 a2, .int .i64 a3, .int .i64 a4, .int .i64 a5]] w fun e w' => e = .returned (.tuple #[.int .i64 0, .bool false]) ∧ Below w.heap.size w w' := by
  go_enter Try.func79, Try.ntmps79
  go_wp2_with fail
  generalize hW : (World.alloc _ _ : World) = W0
  have hB0 : Below w.heap.size w W0 := by rw [← hW]; (repeat (first | exact Below.refl _ _ | assumption | refine Below.setCell ?_ (by first | (simp; done) | (simp; omega)) _ | refine Below.alloc ?_ (by first | (simp; done) | (simp; omega)) _ | refine Below.drew ?_))
  have qa : W0.heap[(w.heap.size : Nat)]? = some (Obj.cells (#[.int .i64 a0, .int .i64 a1, .int .i64 a2, .int .i64 a3, .int .i64 a4, .int .i64 a5]) 28 (0, 0)) := by
    rw [← hW]
    repeat (first | (refine alloc_at ?_; first | (simp; done) | (simp; omega)) | refine drew_row ?_ | refine alloc_past ?_ | assumption)
  clear hW
  refine (H0.out _).mono ?_
  rintro e W1 ⟨rfl, hb⟩
  have nqa := rowk qa hb rfl
  have hB1 := below_of hB0 hb hB0.size
  clear hb hB0 qa
  have qa := nqa
  clear nqa
  have qa_c := fun j => cell_of_row W1 _ j _ _ _ qa
  have qa_f := fun j => frozen_of_row W1 _ j _ _ qa
  go_wp2_with fail
  go_ret2
  exact ⟨rfl, hB1⟩
set_option maxHeartbeats 2000000 in
theorem isize_yes (a0 a1 a2 a3 a4 a5 : Int) (hv : (0 ≤ a0 ∧ a0 ≤ 63) ∧ (0 ≤ a1 ∧ a1 ≤ 63) ∧ (0 ≤ a2 ∧ a2 ≤ 63) ∧ (0 ≤ a3 ∧ a3 ≤ 63) ∧ (0 ≤ a4 ∧ a4 ≤ 63) ∧ (0 ≤ a5 ∧ a5 ≤ 63)) (H0 : Hid (∀ w, Calls Try.prog 144 #[.agg #[.int .i64 a0, .int .i64 a1, .int .i64 a2, .int .i64 a3, .int .i64 a4, .int .i64 a5]] w fun e w' => e = .returned (.bool true) ∧ Below w.heap.size w w')) (w : World) : Calls Try.prog 79 #[.agg #[.int .i64 a0, .int .i64 a1, .int .i64 a2, .int .i64 a3, .int .i64 a4, .int .i64 a5]] w fun e w' => e = .returned (.tuple #[.int .i64 (pc a0 + pc a1 + pc a2 + pc a3 + pc a4 + pc a5), .bool true]) ∧ Below w.heap.size w w' := by
  obtain ⟨h0, h1, h2, h3, h4, h5⟩ := hv
  have b0 := pc_bd h0; have b1 := pc_bd h1; have b2 := pc_bd h2; have b3 := pc_bd h3; have b4 := pc_bd h4; have b5 := pc_bd h5
  have i0 := ix0 a0 a1 a2 a3 a4 a5; have i1 := ix1 a0 a1 a2 a3 a4 a5; have i2 := ix2 a0 a1 a2 a3 a4 a5; have i3 := ix3 a0 a1 a2 a3 a4 a5; have i4 := ix4 a0 a1 a2 a3 a4 a5; have i5 := ix5 a0 a1 a2 a3 a4 a5
  have u0 : IntKind.u64.wrap a0 = a0 := (by rw [IntKind.wrap_u64]; exact Int.emod_eq_of_lt (by omega) (by omega)); have u1 : IntKind.u64.wrap a1 = a1 := (by rw [IntKind.wrap_u64]; exact Int.emod_eq_of_lt (by omega) (by omega)); have u2 : IntKind.u64.wrap a2 = a2 := (by rw [IntKind.wrap_u64]; exact Int.emod_eq_of_lt (by omega) (by omega)); have u3 : IntKind.u64.wrap a3 = a3 := (by rw [IntKind.wrap_u64]; exact Int.emod_eq_of_lt (by omega) (by omega)); have u4 : IntKind.u64.wrap a4 = a4 := (by rw [IntKind.wrap_u64]; exact Int.emod_eq_of_lt (by omega) (by omega)); have u5 : IntKind.u64.wrap a5 = a5 := (by rw [IntKind.wrap_u64]; exact Int.emod_eq_of_lt (by omega) (by omega))
  have O0 := Lib.hid (oc_any a0 h0); have O1 := Lib.hid (oc_any a1 h1); have O2 := Lib.hid (oc_any a2 h2); have O3 := Lib.hid (oc_any a3 h3); have O4 := Lib.hid (oc_any a4 h4); have O5 := Lib.hid (oc_any a5 h5)
  generalize pc a0 = p0 at b0 O0 ⊢; generalize pc a1 = p1 at b1 O1 ⊢; generalize pc a2 = p2 at b2 O2 ⊢; generalize pc a3 = p3 at b3 O3 ⊢; generalize pc a4 = p4 at b4 O4 ⊢; generalize pc a5 = p5 at b5 O5 ⊢
  go_enter Try.func79, Try.ntmps79
  go_wp2_with fail
  generalize hW : (World.alloc _ _ : World) = W0
  have hB0 : Below w.heap.size w W0 := by rw [← hW]; (repeat (first | exact Below.refl _ _ | assumption | refine Below.setCell ?_ (by first | (simp; done) | (simp; omega)) _ | refine Below.alloc ?_ (by first | (simp; done) | (simp; omega)) _ | refine Below.drew ?_))
  have qa : W0.heap[(w.heap.size : Nat)]? = some (Obj.cells (#[.int .i64 a0, .int .i64 a1, .int .i64 a2, .int .i64 a3, .int .i64 a4, .int .i64 a5]) 28 (0, 0)) := by
    rw [← hW]
    repeat (first | (refine alloc_at ?_; first | (simp; done) | (simp; omega)) | refine drew_row ?_ | refine alloc_past ?_ | assumption)
  clear hW
  refine (H0.out _).mono ?_
  rintro e W1 ⟨rfl, hb⟩
  have nqa := rowk qa hb rfl
  have hB1 := below_of hB0 hb hB0.size
  clear hb hB0 qa
  have qa := nqa
  clear nqa
  have qa_c := fun j => cell_of_row W1 _ j _ _ _ qa
  have qa_f := fun j => frozen_of_row W1 _ j _ _ qa
  go_wp2_with fail
  refine wp_loop_rounds 7 ?_
  rw [rounds_succ]
  go_wp2_with fail
  refine (O0.out _).mono ?_
  rintro e w' ⟨rfl, rfl⟩
  go_wp2_with fail
  rw [rounds_succ]
  go_wp2_with fail
  refine (O1.out _).mono ?_
  rintro e w' ⟨rfl, rfl⟩
  go_wp2_with fail
  rw [rounds_succ]
  go_wp2_with fail
  refine (O2.out _).mono ?_
  rintro e w' ⟨rfl, rfl⟩
  go_wp2_with fail
  rw [rounds_succ]
  go_wp2_with fail
  refine (O3.out _).mono ?_
  rintro e w' ⟨rfl, rfl⟩
  go_wp2_with fail
  rw [rounds_succ]
  go_wp2_with fail
  refine (O4.out _).mono ?_
  rintro e w' ⟨rfl, rfl⟩
  go_wp2_with fail
  rw [rounds_succ]
  go_wp2_with fail
  refine (O5.out _).mono ?_
  rintro e w' ⟨rfl, rfl⟩
  go_wp2_with fail
  rw [rounds_succ]
  go_wp2_with fail
  go_ret2
  exact ⟨rfl, hB1⟩
/- Gm0 -/
theorem two_b (w : World) (o o2 : Obj) {W0 : World} (hB0 : Below w.heap.size w W0) (q0 : W0.heap[w.heap.size]? = some o) (q1 : W0.heap[w.heap.size + 1]? = some o2) (hs : w.heap.size + 2 ≤ W0.heap.size) : KR 2 [(w.heap.size, o), (w.heap.size + 1, o2)] w W0 := ⟨by simp [q0, q1], hs, hB0⟩
def bx6 (a0 a1 a2 a3 a4 a5 : Int) : Obj := .cells #[.int .i64 a0, .int .i64 a1, .int .i64 a2, .int .i64 a3, .int .i64 a4, .int .i64 a5] 28 (0, 0)
/-- Not white. -/
def nz6 (b0 b1 b2 b3 b4 b5 : Int) : Bool := !(b0 == 0 && b1 == 0 && b2 == 0 && b3 == 0 && b4 == 0 && b5 == 0)
theorem pc_fin : ∀ n : Fin 64, 0 ≤ pc ((n.val : Nat) : Int) ∧ (pc ((n.val : Nat) : Int) = 0 ↔ ((n.val : Nat) : Int) = 0) := by decide +kernel
theorem pc_pos {x : Int} (hx : 0 ≤ x ∧ x ≤ 63) : 0 ≤ pc x ∧ (pc x = 0 ↔ x = 0) := by
  obtain ⟨n, rfl⟩ := Int.eq_ofNat_of_zero_le hx.1
  exact pc_fin ⟨n, by omega⟩
theorem nz_pc {b0 b1 b2 b3 b4 b5 : Int} (hv : (0 ≤ b0 ∧ b0 ≤ 63) ∧ (0 ≤ b1 ∧ b1 ≤ 63) ∧ (0 ≤ b2 ∧ b2 ≤ 63) ∧ (0 ≤ b3 ∧ b3 ≤ 63) ∧ (0 ≤ b4 ∧ b4 ≤ 63) ∧ (0 ≤ b5 ∧ b5 ≤ 63)) : decide (0 < pc b0 + pc b1 + pc b2 + pc b3 + pc b4 + pc b5) = nz6 b0 b1 b2 b3 b4 b5 := by
  obtain ⟨h0, h1, h2, h3, h4, h5⟩ := hv
  have k0 := pc_pos h0
  have k1 := pc_pos h1
  have k2 := pc_pos h2
  have k3 := pc_pos h3
  have k4 := pc_pos h4
  have k5 := pc_pos h5
  rw [Bool.eq_iff_iff]
  unfold nz6
  simp only [decide_eq_true_eq, Bool.not_eq_true', Bool.and_eq_false_iff, beq_eq_false_iff_ne, ne_eq]
  omega
theorem neq_z (a0 a1 a2 a3 a4 a5 : Int) (w : World) : (binOp .neq 28 (.agg #[.int .i64 a0, .int .i64 a1, .int .i64 a2, .int .i64 a3, .int .i64 a4, .int .i64 a5]) (.agg #[.int .i64 0, .int .i64 0, .int .i64 0, .int .i64 0, .int .i64 0, .int .i64 0])).run Try.prog w = .ok (.bool (nz6 a0 a1 a2 a3 a4 a5)) w := by
  have h := eq26 a0 a1 a2 a3 a4 a5 0 0 0 0 0 0 w
  rw [run_eql_struct] at h
  rw [run_neq_struct]
  generalize (Op.equalIn 10000 28 (.agg #[.int .i64 a0, .int .i64 a1, .int .i64 a2, .int .i64 a3, .int .i64 a4, .int .i64 a5]) (.agg #[.int .i64 0, .int .i64 0, .int .i64 0, .int .i64 0, .int .i64 0, .int .i64 0])).run Try.prog w = x at h ⊢
  cases x with
  | ok v w' =>
    simp only [Result.andThen_ok, Result.ok.injEq, Value.bool.injEq] at h ⊢
    exact ⟨by rw [h.1]; rfl, h.2⟩
  | halt e w' => cases h
theorem lgood_no0 (a0 a1 a2 a3 a4 a5 : Int) (b0 b1 b2 b3 b4 b5 : Int) (H0 : Hid (∀ w, Calls Try.prog 181 #[.agg #[.int .i64 a0, .int .i64 a1, .int .i64 a2, .int .i64 a3, .int .i64 a4, .int .i64 a5]] w fun e w' => e = .returned (.bool false) ∧ Below w.heap.size w w')) (w : World) : Calls Try.prog 137 #[.agg #[.int .i64 a0, .int .i64 a1, .int .i64 a2, .int .i64 a3, .int .i64 a4, .int .i64 a5], .agg #[.int .i64 b0, .int .i64 b1, .int .i64 b2, .int .i64 b3, .int .i64 b4, .int .i64 b5]] w fun e w' => e = .returned (.bool false) ∧ Below w.heap.size w w' := by
  go_enter Try.func137, Try.ntmps137
  go_wp2_with fail
  generalize hW : (World.alloc _ _ : World) = W0
  have K0 : KR 2 [(w.heap.size, bx6 a0 a1 a2 a3 a4 a5), (w.heap.size + 1, bx6 b0 b1 b2 b3 b4 b5)] w W0 := by
    rw [← hW]
    exact two_b w _ _ (by (repeat (first | exact Below.refl _ _ | assumption | refine Below.setCell ?_ (by first | (simp; done) | (simp; omega)) _ | refine Below.alloc ?_ (by first | (simp; done) | (simp; omega)) _ | refine Below.drew ?_))) (alloc_past (alloc_at rfl)) (alloc_at (by simp)) (by simp)
  clear hW
  have a_c := fun j => cell_of_row W0 _ j _ _ _ (K0.row (g := w.heap.size) (o := bx6 a0 a1 a2 a3 a4 a5) (by simp))
  go_wp2_with fail
  refine (H0.out _).mono ?_
  rintro e W1 ⟨rfl, hb⟩
  have HB := Lib.hid (K0.far hb rfl).2.2
  clear hb K0 a_c
  go_wp2_with fail
  go_ret
  exact ⟨rfl, HB.out⟩
theorem lgood_no1 (a0 a1 a2 a3 a4 a5 : Int) (b0 b1 b2 b3 b4 b5 : Int) (H0 : Hid (∀ w, Calls Try.prog 181 #[.agg #[.int .i64 a0, .int .i64 a1, .int .i64 a2, .int .i64 a3, .int .i64 a4, .int .i64 a5]] w fun e w' => e = .returned (.bool true) ∧ Below w.heap.size w w')) (H1 : Hid (∀ w, Calls Try.prog 181 #[.agg #[.int .i64 b0, .int .i64 b1, .int .i64 b2, .int .i64 b3, .int .i64 b4, .int .i64 b5]] w fun e w' => e = .returned (.bool false) ∧ Below w.heap.size w w')) (w : World) : Calls Try.prog 137 #[.agg #[.int .i64 a0, .int .i64 a1, .int .i64 a2, .int .i64 a3, .int .i64 a4, .int .i64 a5], .agg #[.int .i64 b0, .int .i64 b1, .int .i64 b2, .int .i64 b3, .int .i64 b4, .int .i64 b5]] w fun e w' => e = .returned (.bool false) ∧ Below w.heap.size w w' := by
  go_enter Try.func137, Try.ntmps137
  go_wp2_with fail
  generalize hW : (World.alloc _ _ : World) = W0
  have K0 : KR 2 [(w.heap.size, bx6 a0 a1 a2 a3 a4 a5), (w.heap.size + 1, bx6 b0 b1 b2 b3 b4 b5)] w W0 := by
    rw [← hW]
    exact two_b w _ _ (by (repeat (first | exact Below.refl _ _ | assumption | refine Below.setCell ?_ (by first | (simp; done) | (simp; omega)) _ | refine Below.alloc ?_ (by first | (simp; done) | (simp; omega)) _ | refine Below.drew ?_))) (alloc_past (alloc_at rfl)) (alloc_at (by simp)) (by simp)
  clear hW
  have a_c := fun j => cell_of_row W0 _ j _ _ _ (K0.row (g := w.heap.size) (o := bx6 a0 a1 a2 a3 a4 a5) (by simp))
  go_wp2_with fail
  refine (H0.out _).mono ?_
  rintro e W1 ⟨rfl, hb⟩
  have K1 := K0.far hb rfl
  clear hb K0 a_c
  have b_c := fun j => cell_of_row W1 _ j _ _ _ (K1.row (g := w.heap.size + 1) (o := bx6 b0 b1 b2 b3 b4 b5) (by simp))
  go_wp2_with fail
  refine (H1.out _).mono ?_
  rintro e W2 ⟨rfl, hb⟩
  have HB := Lib.hid (K1.far hb rfl).2.2
  clear hb K1 b_c
  go_wp2_with fail
  go_ret
  exact ⟨rfl, HB.out⟩
theorem lgood_yes (a0 a1 a2 a3 a4 a5 : Int) (b0 b1 b2 b3 b4 b5 : Int) (n : Int) (H0 : Hid (∀ w, Calls Try.prog 181 #[.agg #[.int .i64 a0, .int .i64 a1, .int .i64 a2, .int .i64 a3, .int .i64 a4, .int .i64 a5]] w fun e w' => e = .returned (.bool true) ∧ Below w.heap.size w w')) (H1 : Hid (∀ w, Calls Try.prog 181 #[.agg #[.int .i64 b0, .int .i64 b1, .int .i64 b2, .int .i64 b3, .int .i64 b4, .int .i64 b5]] w fun e w' => e = .returned (.bool true) ∧ Below w.heap.size w w')) (H2 : Hid (∀ w, Calls Try.prog 186 #[.agg #[.int .i64 b0, .int .i64 b1, .int .i64 b2, .int .i64 b3, .int .i64 b4, .int .i64 b5]] w fun e w' => e = .returned (.int .i64 n) ∧ Below w.heap.size w w')) (w : World) : Calls Try.prog 137 #[.agg #[.int .i64 a0, .int .i64 a1, .int .i64 a2, .int .i64 a3, .int .i64 a4, .int .i64 a5], .agg #[.int .i64 b0, .int .i64 b1, .int .i64 b2, .int .i64 b3, .int .i64 b4, .int .i64 b5]] w fun e w' => e = .returned (.bool (decide (0 < n))) ∧ Below w.heap.size w w' := by
  go_enter Try.func137, Try.ntmps137
  go_wp2_with fail
  generalize hW : (World.alloc _ _ : World) = W0
  have K0 : KR 2 [(w.heap.size, bx6 a0 a1 a2 a3 a4 a5), (w.heap.size + 1, bx6 b0 b1 b2 b3 b4 b5)] w W0 := by
    rw [← hW]
    exact two_b w _ _ (by (repeat (first | exact Below.refl _ _ | assumption | refine Below.setCell ?_ (by first | (simp; done) | (simp; omega)) _ | refine Below.alloc ?_ (by first | (simp; done) | (simp; omega)) _ | refine Below.drew ?_))) (alloc_past (alloc_at rfl)) (alloc_at (by simp)) (by simp)
  clear hW
  have a_c := fun j => cell_of_row W0 _ j _ _ _ (K0.row (g := w.heap.size) (o := bx6 a0 a1 a2 a3 a4 a5) (by simp))
  go_wp2_with fail
  refine (H0.out _).mono ?_
  rintro e W1 ⟨rfl, hb⟩
  have K1 := K0.far hb rfl
  clear hb K0 a_c
  have b_c := fun j => cell_of_row W1 _ j _ _ _ (K1.row (g := w.heap.size + 1) (o := bx6 b0 b1 b2 b3 b4 b5) (by simp))
  go_wp2_with fail
  refine (H1.out _).mono ?_
  rintro e W2 ⟨rfl, hb⟩
  have K2 := K1.far hb rfl
  clear hb K1 b_c
  have b_c := fun j => cell_of_row W2 _ j _ _ _ (K2.row (g := w.heap.size + 1) (o := bx6 b0 b1 b2 b3 b4 b5) (by simp))
  go_wp2_with fail
  refine (H2.out _).mono ?_
  rintro e W3 ⟨rfl, hb⟩
  have HB := Lib.hid (K2.far hb rfl).2.2
  clear hb K2 b_c
  go_wp2_with fail
  go_ret
  exact ⟨by simp, HB.out⟩
/-- Both valid, the stamp not white. -/
def gd6 (a0 a1 a2 a3 a4 a5 : Int) (b0 b1 b2 b3 b4 b5 : Int) : Bool := (ok a0 && ok a1 && ok a2 && ok a3 && ok a4 && ok a5) && (ok b0 && ok b1 && ok b2 && ok b3 && ok b4 && ok b5) && nz6 b0 b1 b2 b3 b4 b5
theorem lgood_any (a0 a1 a2 a3 a4 a5 : Int) (b0 b1 b2 b3 b4 b5 : Int) (w : World) : Calls Try.prog 137 #[.agg #[.int .i64 a0, .int .i64 a1, .int .i64 a2, .int .i64 a3, .int .i64 a4, .int .i64 a5], .agg #[.int .i64 b0, .int .i64 b1, .int .i64 b2, .int .i64 b3, .int .i64 b4, .int .i64 b5]] w fun e w' => e = .returned (.bool (gd6 a0 a1 a2 a3 a4 a5 b0 b1 b2 b3 b4 b5)) ∧ Below w.heap.size w w' := by
  unfold gd6
  cases hv : (ok a0 && ok a1 && ok a2 && ok a3 && ok a4 && ok a5)
  · exact lgood_no0 a0 a1 a2 a3 a4 a5 b0 b1 b2 b3 b4 b5 (sh_as a0 a1 a2 a3 a4 a5 hv) w
  · cases hc : (ok b0 && ok b1 && ok b2 && ok b3 && ok b4 && ok b5)
    · exact lgood_no1 a0 a1 a2 a3 a4 a5 b0 b1 b2 b3 b4 b5 (sh_as a0 a1 a2 a3 a4 a5 hv) (sh_as b0 b1 b2 b3 b4 b5 hc) w
    · rw [← nz_pc (ok_all b0 b1 b2 b3 b4 b5 hc)]
      exact lgood_yes a0 a1 a2 a3 a4 a5 b0 b1 b2 b3 b4 b5 _ (sh_as a0 a1 a2 a3 a4 a5 hv) (sh_as b0 b1 b2 b3 b4 b5 hc) (Lib.hid (l2count_any b0 b1 b2 b3 b4 b5 (ok_all b0 b1 b2 b3 b4 b5 hc))) w
theorem istamp_no (a0 a1 a2 a3 a4 a5 : Int) (H0 : Hid (∀ w, Calls Try.prog 144 #[.agg #[.int .i64 a0, .int .i64 a1, .int .i64 a2, .int .i64 a3, .int .i64 a4, .int .i64 a5]] w fun e w' => e = .returned (.bool false) ∧ Below w.heap.size w w')) (w : World) : Calls Try.prog 141 #[.agg #[.int .i64 a0, .int .i64 a1, .int .i64 a2, .int .i64 a3, .int .i64 a4, .int .i64 a5]] w fun e w' => e = .returned (.bool false) ∧ Below w.heap.size w w' := by
  go_enter Try.func141, Try.ntmps141
  go_wp2_with fail
  generalize hW : (World.alloc _ _ : World) = W0
  have K0 : KR 1 [(w.heap.size, bx6 a0 a1 a2 a3 a4 a5)] w W0 := by
    have q0 : W0.heap[w.heap.size]? = some (bx6 a0 a1 a2 a3 a4 a5) := by rw [← hW]; exact alloc_at rfl
    exact ⟨by simp [q0], by rw [← hW]; simp, by rw [← hW]; (repeat (first | exact Below.refl _ _ | assumption | refine Below.setCell ?_ (by first | (simp; done) | (simp; omega)) _ | refine Below.alloc ?_ (by first | (simp; done) | (simp; omega)) _ | refine Below.drew ?_))⟩
  clear hW
  have a_c := fun j => cell_of_row W0 _ j _ _ _ (K0.row (g := w.heap.size) (o := bx6 a0 a1 a2 a3 a4 a5) (by simp))
  go_wp2_with fail
  refine (H0.out _).mono ?_
  rintro e W1 ⟨rfl, hb⟩
  have HB := Lib.hid (K0.far hb rfl).2.2
  clear hb K0 a_c
  go_wp2_with fail
  go_ret
  exact ⟨rfl, HB.out⟩
theorem istamp_yes (a0 a1 a2 a3 a4 a5 : Int) (H0 : Hid (∀ w, Calls Try.prog 144 #[.agg #[.int .i64 a0, .int .i64 a1, .int .i64 a2, .int .i64 a3, .int .i64 a4, .int .i64 a5]] w fun e w' => e = .returned (.bool true) ∧ Below w.heap.size w w')) (w : World) : Calls Try.prog 141 #[.agg #[.int .i64 a0, .int .i64 a1, .int .i64 a2, .int .i64 a3, .int .i64 a4, .int .i64 a5]] w fun e w' => e = .returned (.bool (nz6 a0 a1 a2 a3 a4 a5)) ∧ Below w.heap.size w w' := by
  go_enter Try.func141, Try.ntmps141
  go_wp2_with fail
  generalize hW : (World.alloc _ _ : World) = W0
  have K0 : KR 1 [(w.heap.size, bx6 a0 a1 a2 a3 a4 a5)] w W0 := by
    have q0 : W0.heap[w.heap.size]? = some (bx6 a0 a1 a2 a3 a4 a5) := by rw [← hW]; exact alloc_at rfl
    exact ⟨by simp [q0], by rw [← hW]; simp, by rw [← hW]; (repeat (first | exact Below.refl _ _ | assumption | refine Below.setCell ?_ (by first | (simp; done) | (simp; omega)) _ | refine Below.alloc ?_ (by first | (simp; done) | (simp; omega)) _ | refine Below.drew ?_))⟩
  clear hW
  have a_c := fun j => cell_of_row W0 _ j _ _ _ (K0.row (g := w.heap.size) (o := bx6 a0 a1 a2 a3 a4 a5) (by simp))
  go_wp2_with fail
  refine (H0.out _).mono ?_
  rintro e W1 ⟨rfl, hb⟩
  have K1 := K0.far hb rfl
  clear hb K0 a_c
  have a_c := fun j => cell_of_row W1 _ j _ _ _ (K1.row (g := w.heap.size) (o := bx6 a0 a1 a2 a3 a4 a5) (by simp))
  have hn := neq_z a0 a1 a2 a3 a4 a5
  go_wp2_with fail
  go_ret
  exact ⟨rfl, K1.2.2⟩
theorem istamp_any (a0 a1 a2 a3 a4 a5 : Int) (w : World) : Calls Try.prog 141 #[.agg #[.int .i64 a0, .int .i64 a1, .int .i64 a2, .int .i64 a3, .int .i64 a4, .int .i64 a5]] w fun e w' => e = .returned (.bool ((ok a0 && ok a1 && ok a2 && ok a3 && ok a4 && ok a5) && nz6 a0 a1 a2 a3 a4 a5)) ∧ Below w.heap.size w w' := by
  cases hv : (ok a0 && ok a1 && ok a2 && ok a3 && ok a4 && ok a5)
  · exact istamp_no a0 a1 a2 a3 a4 a5 (sh_ai a0 a1 a2 a3 a4 a5 hv) w
  · exact istamp_yes a0 a1 a2 a3 a4 a5 (sh_ai a0 a1 a2 a3 a4 a5 hv) w
/- Gm1 -/
def eqf (f g : Fn6) : Bool := rowv (f 0) == rowv (g 0) && rowv (f 1) == rowv (g 1) && rowv (f 2) == rowv (g 2) && rowv (f 3) == rowv (g 3) && rowv (f 4) == rowv (g 4) && rowv (f 5) == rowv (g 5)
theorem eqf_iff (f g : Fn6) : eqf f g = true ↔ Ag f g := by
  unfold eqf
  simp only [Bool.and_eq_true, beq_iff_eq]
  constructor
  · rintro ⟨⟨⟨⟨⟨h0, h1⟩, h2⟩, h3⟩, h4⟩, h5⟩ j i hj hi
    rcases six_n hj with rfl | rfl | rfl | rfl | rfl | rfl
    · exact rowv_inj h0 i hi
    · exact rowv_inj h1 i hi
    · exact rowv_inj h2 i hi
    · exact rowv_inj h3 i hi
    · exact rowv_inj h4 i hi
    · exact rowv_inj h5 i hi
  · intro h
    exact ⟨⟨⟨⟨⟨rowv_congr fun i hi => h 0 i (by decide) hi, rowv_congr fun i hi => h 1 i (by decide) hi⟩, rowv_congr fun i hi => h 2 i (by decide) hi⟩, rowv_congr fun i hi => h 3 i (by decide) hi⟩, rowv_congr fun i hi => h 4 i (by decide) hi⟩, rowv_congr fun i hi => h 5 i (by decide) hi⟩
theorem eqf_ag {f f' g g' : Fn6} (h : Ag f f') (k : Ag g g') : eqf f g = eqf f' g' := by
  rw [Bool.eq_iff_iff, eqf_iff, eqf_iff]
  exact ⟨fun q => h.symm.trans (q.trans k), fun q => h.trans (q.trans k.symm)⟩
/-- Where a press is free. -/
def frf (f p : Fn6) : Fn6 := fun j i => eqf (af f (sf i j p)) zf
theorem frf_ag (f p : Fn6) : Ag (frf f p) (shr (nf f) p) := by
  intro j i hj hi
  rw [Bool.eq_iff_iff, shr_iff]
  unfold frf
  rw [eqf_iff]
  constructor
  · intro h b a hb ha hp
    have := h ((j + b) % 6) ((i + a) % 6) (Nat.mod_lt _ (by decide)) (Nat.mod_lt _ (by decide))
    unfold af sf zf at this
    rw [show ((j + b) % 6 + 6 - j) % 6 = b by omega, show ((i + a) % 6 + 6 - i) % 6 = a by omega, hp, Bool.and_true] at this
    unfold nf
    rw [this]
    rfl
  · intro h b a hb ha
    unfold af sf zf
    cases hp : p ((b + 6 - j) % 6) ((a + 6 - i) % 6)
    · simp
    · have := h _ _ (Nat.mod_lt _ (by decide)) (Nat.mod_lt _ (by decide)) hp
      rw [show (j + (b + 6 - j) % 6) % 6 = b by omega, show (i + (a + 6 - i) % 6) % 6 = a by omega] at this
      unfold nf at this
      simpa using this
theorem bl_cong {f g : Fn6} (h : Ag f g) : ∀ k, k ≤ 36 → bl f k = bl g k
  | 0, _ => rfl
  | k + 1, hk => by rw [bl_k, bl_k, bl_cong h k (by omega), h (k / 6) (k % 6) (by omega) (Nat.mod_lt _ (by decide))]
theorem frf_zero (f p : Fn6) (x y : Nat) : (rowv (af f (sf x y p) 0) == 0 && rowv (af f (sf x y p) 1) == 0 && rowv (af f (sf x y p) 2) == 0 && rowv (af f (sf x y p) 3) == 0 && rowv (af f (sf x y p) 4) == 0 && rowv (af f (sf x y p) 5) == 0) = frf f p y x := rfl
theorem SKg {w U : World} {f p : Fn6} {x y : Nat} (h : KR 3 [(w.heap.size, o6 f), (w.heap.size + 1, o6 p), (w.heap.size + 2, oc x y)] w U) : U.cell? ⟨w.heap.size, 0, none⟩ = some (.int .i64 (rowv (f 0))) ∧ U.cell? ⟨w.heap.size, 1, none⟩ = some (.int .i64 (rowv (f 1))) ∧ U.cell? ⟨w.heap.size, 2, none⟩ = some (.int .i64 (rowv (f 2))) ∧ U.cell? ⟨w.heap.size, 3, none⟩ = some (.int .i64 (rowv (f 3))) ∧ U.cell? ⟨w.heap.size, 4, none⟩ = some (.int .i64 (rowv (f 4))) ∧ U.cell? ⟨w.heap.size, 5, none⟩ = some (.int .i64 (rowv (f 5))) ∧ U.cell? ⟨w.heap.size + 1, 0, none⟩ = some (.int .i64 (rowv (p 0))) ∧ U.cell? ⟨w.heap.size + 1, 1, none⟩ = some (.int .i64 (rowv (p 1))) ∧ U.cell? ⟨w.heap.size + 1, 2, none⟩ = some (.int .i64 (rowv (p 2))) ∧ U.cell? ⟨w.heap.size + 1, 3, none⟩ = some (.int .i64 (rowv (p 3))) ∧ U.cell? ⟨w.heap.size + 1, 4, none⟩ = some (.int .i64 (rowv (p 4))) ∧ U.cell? ⟨w.heap.size + 1, 5, none⟩ = some (.int .i64 (rowv (p 5))) ∧ U.cell? ⟨w.heap.size + 2, 0, none⟩ = some (.int .i64 (x : Int)) ∧ U.cell? ⟨w.heap.size + 2, 1, none⟩ = some (.int .i64 (y : Int)) ∧ KR 3 [(w.heap.size, o6 f), (w.heap.size + 1, o6 p), (w.heap.size + 2, oc x y)] w U :=
  have h0 := fun j => cell_of_row U _ j _ _ _ (h.row (g := w.heap.size) (o := o6 f) (List.mem_cons_self ..))
  have h1 := fun j => cell_of_row U _ j _ _ _ (h.row (g := w.heap.size + 1) (o := o6 p) (List.mem_cons_of_mem _ (List.mem_cons_self ..)))
  have h2 := fun j => cell_of_row U _ j _ _ _ (h.row (g := w.heap.size + 2) (o := oc x y) (List.mem_cons_of_mem _ (List.mem_cons_of_mem _ (List.mem_cons_self ..))))
  ⟨h0 0, h0 1, h0 2, h0 3, h0 4, h0 5, h1 0, h1 1, h1 2, h1 3, h1 4, h1 5, h2 0, h2 1, h⟩
set_option maxHeartbeats 4000000 in
theorem lisfree_f (f p : Fn6) {x y : Nat} (hx : x < 6) (hy : y < 6) (w : World) : Calls Try.prog 162 #[.agg #[.int .i64 (rowv (f 0)), .int .i64 (rowv (f 1)), .int .i64 (rowv (f 2)), .int .i64 (rowv (f 3)), .int .i64 (rowv (f 4)), .int .i64 (rowv (f 5))], .agg #[.int .i64 (rowv (p 0)), .int .i64 (rowv (p 1)), .int .i64 (rowv (p 2)), .int .i64 (rowv (p 3)), .int .i64 (rowv (p 4)), .int .i64 (rowv (p 5))], .agg #[.int .i64 (x : Int), .int .i64 (y : Int)]] w fun e w' => e = .returned (.bool (frf f p y x)) ∧ Below w.heap.size w w' := by
  have HF := Lib.hid (l2at_n p hx hy)
  have HA := Lib.hid (land_f f (sf x y p))
  have HE := Lib.hid (eq26 (rowv (af f (sf x y p) 0)) (rowv (af f (sf x y p) 1)) (rowv (af f (sf x y p) 2)) (rowv (af f (sf x y p) 3)) (rowv (af f (sf x y p) 4)) (rowv (af f (sf x y p) 5)) 0 0 0 0 0 0)
  simp only [frf_zero] at HE
  generalize frf f p y x = r at HE ⊢
  go_enter Try.func162, Try.ntmps162
  go_wp2_with fail
  generalize hW : (World.alloc _ _ : World) = W0
  have hk : KR 3 [(w.heap.size, o6 f), (w.heap.size + 1, o6 p), (w.heap.size + 2, oc x y)] w W0 := by
    rw [← hW]
    refine ⟨?_, by simp, by (repeat (first | exact Below.refl _ _ | assumption | refine Below.setCell ?_ (by first | (simp; done) | (simp; omega)) _ | refine Below.alloc ?_ (by first | (simp; done) | (simp; omega)) _ | refine Below.drew ?_))⟩
    have q0 : (((w.alloc (o6 f)).alloc (o6 p)).alloc (oc x y)).heap[w.heap.size]? = some (o6 f) := alloc_past (alloc_past (alloc_at rfl))
    have q1 : (((w.alloc (o6 f)).alloc (o6 p)).alloc (oc x y)).heap[w.heap.size + 1]? = some (o6 p) := alloc_past (alloc_at (by simp))
    have q2 : (((w.alloc (o6 f)).alloc (o6 p)).alloc (oc x y)).heap[w.heap.size + 2]? = some (oc x y) := alloc_at (by simp)
    intro q hq
    simp only [List.mem_cons, List.not_mem_nil, or_false] at hq
    rcases hq with rfl | rfl | rfl
    · exact ⟨by dsimp only; omega, q0⟩
    · exact ⟨by dsimp only; omega, q1⟩
    · exact ⟨by dsimp only; omega, q2⟩
  clear hW
  have hz0 := KR.le hk
  have he := HE.out
  set_option maxRecDepth 8000 in
  go_region_held3 (fun U => U.cell? ⟨w.heap.size, 0, none⟩ = some (.int .i64 (rowv (f 0))) ∧ U.cell? ⟨w.heap.size, 1, none⟩ = some (.int .i64 (rowv (f 1))) ∧ U.cell? ⟨w.heap.size, 2, none⟩ = some (.int .i64 (rowv (f 2))) ∧ U.cell? ⟨w.heap.size, 3, none⟩ = some (.int .i64 (rowv (f 3))) ∧ U.cell? ⟨w.heap.size, 4, none⟩ = some (.int .i64 (rowv (f 4))) ∧ U.cell? ⟨w.heap.size, 5, none⟩ = some (.int .i64 (rowv (f 5))) ∧ U.cell? ⟨w.heap.size + 1, 0, none⟩ = some (.int .i64 (rowv (p 0))) ∧ U.cell? ⟨w.heap.size + 1, 1, none⟩ = some (.int .i64 (rowv (p 1))) ∧ U.cell? ⟨w.heap.size + 1, 2, none⟩ = some (.int .i64 (rowv (p 2))) ∧ U.cell? ⟨w.heap.size + 1, 3, none⟩ = some (.int .i64 (rowv (p 3))) ∧ U.cell? ⟨w.heap.size + 1, 4, none⟩ = some (.int .i64 (rowv (p 4))) ∧ U.cell? ⟨w.heap.size + 1, 5, none⟩ = some (.int .i64 (rowv (p 5))) ∧ U.cell? ⟨w.heap.size + 2, 0, none⟩ = some (.int .i64 (x : Int)) ∧ U.cell? ⟨w.heap.size + 2, 1, none⟩ = some (.int .i64 (y : Int)) ∧ KR 3 [(w.heap.size, o6 f), (w.heap.size + 1, o6 p), (w.heap.size + 2, oc x y)] w U) (with_reducible refine SKg ?_; (repeat (first | with_reducible assumption | with_reducible refine KR.al ?_ | with_reducible refine KR.drew ?_))) (first | (go_at_call 153; with_reducible refine (HF.out _).mono ?_; rintro e w' ⟨rfl, hb'⟩; have hk : KR 3 [(w.heap.size, o6 f), (w.heap.size + 1, o6 p), (w.heap.size + 2, oc x y)] w w' := KR.far (by (repeat (first | with_reducible assumption | with_reducible refine KR.al ?_ | with_reducible refine KR.drew ?_))) hb' rfl) | (go_at_call 168; with_reducible refine (HA.out _).mono ?_; rintro e w' ⟨rfl, hb'⟩; have hk : KR 3 [(w.heap.size, o6 f), (w.heap.size + 1, o6 p), (w.heap.size + 2, oc x y)] w w' := KR.far (by (repeat (first | with_reducible assumption | with_reducible refine KR.al ?_ | with_reducible refine KR.drew ?_))) hb' rfl))
  all_goals
    go_wp2_with fail
    go_ret
    exact ⟨rfl, hk.2.2⟩
/- Sf -/
set_option maxHeartbeats 1000000 in
theorem iother_no0 (a0 a1 a2 a3 a4 a5 : Int) (H0 : Hid (∀ w, Calls Try.prog 144 #[.agg #[.int .i64 a0, .int .i64 a1, .int .i64 a2, .int .i64 a3, .int .i64 a4, .int .i64 a5]] w fun e w' => e = .returned (.bool false) ∧ Below w.heap.size w w')) (w : World) : Calls Try.prog 140 #[.agg #[.int .i64 a0, .int .i64 a1, .int .i64 a2, .int .i64 a3, .int .i64 a4, .int .i64 a5]] w fun e w' => e = .returned (.tuple #[.agg #[.int .i64 0, .int .i64 0, .int .i64 0, .int .i64 0, .int .i64 0, .int .i64 0], .bool false]) ∧ Below w.heap.size w w' := by
  go_enter Try.func140, Try.ntmps140
  go_wp2_with fail
  generalize hW : (World.alloc _ _ : World) = W0
  have hB0 : Below w.heap.size w W0 := by rw [← hW]; (repeat (first | exact Below.refl _ _ | assumption | refine Below.setCell ?_ (by first | (simp; done) | (simp; omega)) _ | refine Below.alloc ?_ (by first | (simp; done) | (simp; omega)) _ | refine Below.drew ?_))
  have qa : W0.heap[(w.heap.size : Nat)]? = some (Obj.cells (#[.int .i64 a0, .int .i64 a1, .int .i64 a2, .int .i64 a3, .int .i64 a4, .int .i64 a5]) 28 (0, 0)) := by
    rw [← hW]
    repeat (first | (refine alloc_at ?_; first | (simp; done) | (simp; omega)) | refine drew_row ?_ | refine alloc_past ?_ | assumption)
  have qz : W0.heap[(w.heap.size + 1 : Nat)]? = some (Obj.cells (#[.int .i64 0, .int .i64 0, .int .i64 0, .int .i64 0, .int .i64 0, .int .i64 0]) 28 (0, 0)) := by
    rw [← hW]
    repeat (first | (refine alloc_at ?_; first | (simp; done) | (simp; omega)) | refine drew_row ?_ | refine alloc_past ?_ | assumption)
  clear hW
  refine (H0.out _).mono ?_
  rintro e W1 ⟨rfl, hb⟩
  have nqa := rowk qa hb rfl
  have nqz := rowk qz hb rfl
  have hB1 := below_of hB0 hb hB0.size
  clear hb hB0 qa qz
  have qa := nqa
  have qz := nqz
  clear nqa nqz
  have qa_c := fun j => cell_of_row W1 _ j _ _ _ qa
  have qa_f := fun j => frozen_of_row W1 _ j _ _ qa
  have qz_c := fun j => cell_of_row W1 _ j _ _ _ qz
  have qz_f := fun j => frozen_of_row W1 _ j _ _ qz
  go_wp2_with fail
  refine bodyPost_ret (v := .tuple #[.agg #[.int .i64 0, .int .i64 0, .int .i64 0, .int .i64 0, .int .i64 0, .int .i64 0], .bool false]) (by simp [results, Try.results140, go_sem, qz_c]) rfl ⟨rfl, ?_⟩
  exact below6 hB1 (by omega)
set_option maxHeartbeats 1000000 in
theorem iother_yes (a0 a1 a2 a3 a4 a5 : Int) (r0 r1 r2 r3 r4 r5 : Int) (H0 : Hid (∀ w, Calls Try.prog 144 #[.agg #[.int .i64 a0, .int .i64 a1, .int .i64 a2, .int .i64 a3, .int .i64 a4, .int .i64 a5]] w fun e w' => e = .returned (.bool true) ∧ Below w.heap.size w w')) (HF : Hid (∀ w, Calls Try.prog 254 #[.agg #[.int .i64 (63), .int .i64 (63), .int .i64 (63), .int .i64 (63), .int .i64 (63), .int .i64 (63)], .agg #[.int .i64 a0, .int .i64 a1, .int .i64 a2, .int .i64 a3, .int .i64 a4, .int .i64 a5]] w fun e w' => e = .returned (.agg #[.int .i64 r0, .int .i64 r1, .int .i64 r2, .int .i64 r3, .int .i64 r4, .int .i64 r5]) ∧ Below w.heap.size w w')) (w : World) : Calls Try.prog 140 #[.agg #[.int .i64 a0, .int .i64 a1, .int .i64 a2, .int .i64 a3, .int .i64 a4, .int .i64 a5]] w fun e w' => e = .returned (.tuple #[.agg #[.int .i64 r0, .int .i64 r1, .int .i64 r2, .int .i64 r3, .int .i64 r4, .int .i64 r5], .bool true]) ∧ Below w.heap.size w w' := by
  go_enter Try.func140, Try.ntmps140
  go_wp2_with fail
  generalize hW : (World.alloc _ _ : World) = W0
  have hB0 : Below w.heap.size w W0 := by rw [← hW]; (repeat (first | exact Below.refl _ _ | assumption | refine Below.setCell ?_ (by first | (simp; done) | (simp; omega)) _ | refine Below.alloc ?_ (by first | (simp; done) | (simp; omega)) _ | refine Below.drew ?_))
  have qa : W0.heap[(w.heap.size : Nat)]? = some (Obj.cells (#[.int .i64 a0, .int .i64 a1, .int .i64 a2, .int .i64 a3, .int .i64 a4, .int .i64 a5]) 28 (0, 0)) := by
    rw [← hW]
    repeat (first | (refine alloc_at ?_; first | (simp; done) | (simp; omega)) | refine drew_row ?_ | refine alloc_past ?_ | assumption)
  have qz : W0.heap[(w.heap.size + 1 : Nat)]? = some (Obj.cells (#[.int .i64 0, .int .i64 0, .int .i64 0, .int .i64 0, .int .i64 0, .int .i64 0]) 28 (0, 0)) := by
    rw [← hW]
    repeat (first | (refine alloc_at ?_; first | (simp; done) | (simp; omega)) | refine drew_row ?_ | refine alloc_past ?_ | assumption)
  clear hW
  refine (H0.out _).mono ?_
  rintro e W1 ⟨rfl, hb⟩
  have nqa := rowk qa hb rfl
  have nqz := rowk qz hb rfl
  have hB1 := below_of hB0 hb hB0.size
  clear hb hB0 qa qz
  have qa := nqa
  have qz := nqz
  clear nqa nqz
  have qa_c := fun j => cell_of_row W1 _ j _ _ _ qa
  have qa_f := fun j => frozen_of_row W1 _ j _ _ qa
  have qz_c := fun j => cell_of_row W1 _ j _ _ _ qz
  have qz_f := fun j => frozen_of_row W1 _ j _ _ qz
  go_wp2_with fail
  have k0 : (fun U => U.cell? ⟨w.heap.size, 0, none⟩ = some (.int .i64 a0) ∧ U.cell? ⟨w.heap.size, 1, none⟩ = some (.int .i64 a1) ∧ U.cell? ⟨w.heap.size, 2, none⟩ = some (.int .i64 a2) ∧ U.cell? ⟨w.heap.size, 3, none⟩ = some (.int .i64 a3) ∧ U.cell? ⟨w.heap.size, 4, none⟩ = some (.int .i64 a4) ∧ U.cell? ⟨w.heap.size, 5, none⟩ = some (.int .i64 a5) ∧ Below w.heap.size w U) W1 := ⟨qa_c 0, qa_c 1, qa_c 2, qa_c 3, qa_c 4, qa_c 5, hB1⟩
  have qz2 : W1.drew.heap[(w.heap.size + 1 : Nat)]? = _ := qz
  dsimp only at k0
  clear qa qa_c qa_f qz qz_c qz_f hB1
  go_region_held3 (fun U => U.cell? ⟨w.heap.size, 0, none⟩ = some (.int .i64 a0) ∧ U.cell? ⟨w.heap.size, 1, none⟩ = some (.int .i64 a1) ∧ U.cell? ⟨w.heap.size, 2, none⟩ = some (.int .i64 a2) ∧ U.cell? ⟨w.heap.size, 3, none⟩ = some (.int .i64 a3) ∧ U.cell? ⟨w.heap.size, 4, none⟩ = some (.int .i64 a4) ∧ U.cell? ⟨w.heap.size, 5, none⟩ = some (.int .i64 a5) ∧ Below w.heap.size w U) (first | with_reducible exact drewc6 k0 | with_reducible assumption | (with_reducible refine storec6 (m := w.heap.size) ?_ ⟨Nat.le_refl _, Nat.le_refl _, Nat.le_refl _, Nat.le_refl _, Nat.le_refl _, Nat.le_refl _⟩ (by omega) (by omega); with_reducible assumption)) (first | (go_at_call 203; refine (full_any _).mono ?_; rintro e w' ⟨rfl, hb'⟩; have hk := keepc6 (by assumption) hb' rfl; have hq := rowk qz2 hb' rfl) | (go_at_call 254; refine (HF.out _).mono ?_; rintro e w' ⟨rfl, hb'⟩; have hk := keepc6 (by assumption) hb' rfl; have hq2 := rowk hq hb' rfl; obtain ⟨z0, z1, z2, z3, z4, z5, f0, f1, f2, f3, f4, f5⟩ := zero6 hq2; clear hq2 hq qz2))
  have hBe := hk.2.2.2.2.2.2
  clear hk k0
  go_wp2_with fail
  refine bodyPost_ret (v := .tuple #[.agg #[.int .i64 r0, .int .i64 r1, .int .i64 r2, .int .i64 r3, .int .i64 r4, .int .i64 r5], .bool true]) (by simp [results, Try.results140, go_sem, z0, z1, z2, z3, z4, z5]) rfl ⟨rfl, ?_⟩
  exact below6 hBe (by omega)
/- Gm2 -/
theorem wfull_f (s : Fn6) (w : World) : Calls Try.prog 254 #[.agg #[.int .i64 63, .int .i64 63, .int .i64 63, .int .i64 63, .int .i64 63, .int .i64 63], .agg #[.int .i64 (rowv (s 0)), .int .i64 (rowv (s 1)), .int .i64 (rowv (s 2)), .int .i64 (rowv (s 3)), .int .i64 (rowv (s 4)), .int .i64 (rowv (s 5))]] w fun e w' => e = .returned (.agg #[.int .i64 (rowv (nf s 0)), .int .i64 (rowv (nf s 1)), .int .i64 (rowv (nf s 2)), .int .i64 (rowv (nf s 3)), .int .i64 (rowv (nf s 4)), .int .i64 (rowv (nf s 5))]) ∧ Below w.heap.size w w' := by
  have h := without_any 63 63 63 63 63 63 (rowv (s 0)) (rowv (s 1)) (rowv (s 2)) (rowv (s 3)) (rowv (s 4)) (rowv (s 5)) w
  simp only [row_no] at h
  exact h
theorem ishared_f (s p : Fn6) (w : World) : Calls Try.prog 170 #[.agg #[.int .i64 (rowv (s 0)), .int .i64 (rowv (s 1)), .int .i64 (rowv (s 2)), .int .i64 (rowv (s 3)), .int .i64 (rowv (s 4)), .int .i64 (rowv (s 5))], .agg #[.int .i64 (rowv (p 0)), .int .i64 (rowv (p 1)), .int .i64 (rowv (p 2)), .int .i64 (rowv (p 3)), .int .i64 (rowv (p 4)), .int .i64 (rowv (p 5))]] w fun e w' => e = .returned (.agg #[.int .i64 (rowv (af s p 0)), .int .i64 (rowv (af s p 1)), .int .i64 (rowv (af s p 2)), .int .i64 (rowv (af s p 3)), .int .i64 (rowv (af s p 4)), .int .i64 (rowv (af s p 5))]) ∧ Below w.heap.size w w' := by
  have h := shared_any (rowv (s 0)) (rowv (s 1)) (rowv (s 2)) (rowv (s 3)) (rowv (s 4)) (rowv (s 5)) (rowv (p 0)) (rowv (p 1)) (rowv (p 2)) (rowv (p 3)) (rowv (p 4)) (rowv (p 5)) w
  simp only [row_af] at h
  exact h
theorem ijoin_f (s p : Fn6) (w : World) : Calls Try.prog 156 #[.agg #[.int .i64 (rowv (s 0)), .int .i64 (rowv (s 1)), .int .i64 (rowv (s 2)), .int .i64 (rowv (s 3)), .int .i64 (rowv (s 4)), .int .i64 (rowv (s 5))], .agg #[.int .i64 (rowv (p 0)), .int .i64 (rowv (p 1)), .int .i64 (rowv (p 2)), .int .i64 (rowv (p 3)), .int .i64 (rowv (p 4)), .int .i64 (rowv (p 5))]] w fun e w' => e = .returned (.agg #[.int .i64 (rowv (jf s p 0)), .int .i64 (rowv (jf s p 1)), .int .i64 (rowv (jf s p 2)), .int .i64 (rowv (jf s p 3)), .int .i64 (rowv (jf s p 4)), .int .i64 (rowv (jf s p 5))]) ∧ Below w.heap.size w w' := by
  have h := or_any (rowv (s 0)) (rowv (s 1)) (rowv (s 2)) (rowv (s 3)) (rowv (s 4)) (rowv (s 5)) (rowv (p 0)) (rowv (p 1)) (rowv (p 2)) (rowv (p 3)) (rowv (p 4)) (rowv (p 5)) w
  simp only [row_jf] at h
  exact h
theorem lor_f (s p : Fn6) (w : World) : Calls Try.prog 152 #[.agg #[.int .i64 (rowv (s 0)), .int .i64 (rowv (s 1)), .int .i64 (rowv (s 2)), .int .i64 (rowv (s 3)), .int .i64 (rowv (s 4)), .int .i64 (rowv (s 5))], .agg #[.int .i64 (rowv (p 0)), .int .i64 (rowv (p 1)), .int .i64 (rowv (p 2)), .int .i64 (rowv (p 3)), .int .i64 (rowv (p 4)), .int .i64 (rowv (p 5))]] w fun e w' => e = .returned (.agg #[.int .i64 (rowv (jf s p 0)), .int .i64 (rowv (jf s p 1)), .int .i64 (rowv (jf s p 2)), .int .i64 (rowv (jf s p 3)), .int .i64 (rowv (jf s p 4)), .int .i64 (rowv (jf s p 5))]) ∧ Below w.heap.size w w' := by
  have h := l2or_any (rowv (s 0)) (rowv (s 1)) (rowv (s 2)) (rowv (s 3)) (rowv (s 4)) (rowv (s 5)) (rowv (p 0)) (rowv (p 1)) (rowv (p 2)) (rowv (p 3)) (rowv (p 4)) (rowv (p 5)) w
  simp only [row_jf] at h
  exact h
theorem shby_f (f : Nat → Nat → Bool) {x y : Nat} (hx : x < 6) (hy : y < 6) (w : World) : Calls Try.prog 157 #[.agg #[.int .i64 (rowv (f 0)), .int .i64 (rowv (f 1)), .int .i64 (rowv (f 2)), .int .i64 (rowv (f 3)), .int .i64 (rowv (f 4)), .int .i64 (rowv (f 5))], .agg #[.int .i64 (x : Int), .int .i64 (y : Int)]] w fun e w' => e = .returned (.agg #[.int .i64 (rowv (sf x y f 0)), .int .i64 (rowv (sf x y f 1)), .int .i64 (rowv (sf x y f 2)), .int .i64 (rowv (sf x y f 3)), .int .i64 (rowv (sf x y f 4)), .int .i64 (rowv (sf x y f 5))]) ∧ Below w.heap.size w w' := by
  have HF := Lib.hid (shifted_m f hx hy)
  go_enter Try.func157, Try.ntmps157
  go_wp2_with fail
  generalize hW : (World.alloc _ _ : World) = W0
  have hB0 : Below w.heap.size w W0 := by rw [← hW]; (repeat (first | exact Below.refl _ _ | assumption | refine Below.setCell ?_ (by first | (simp; done) | (simp; omega)) _ | refine Below.alloc ?_ (by first | (simp; done) | (simp; omega)) _ | refine Below.drew ?_))
  have qz : W0.heap[(w.heap.size + 1 + 1 : Nat)]? = some oz := by
    rw [← hW]
    repeat (first | (refine alloc_at ?_; first | (simp; done) | (simp; omega)) | refine drew_row ?_ | refine alloc_past ?_ | assumption)
  clear hW
  refine (HF.out _).mono ?_
  rintro e W1 ⟨rfl, hb⟩
  have qz1 := rowk qz hb rfl
  have hB1 := below_of hB0 hb hB0.size
  clear hb hB0 qz
  unfold oz at qz1
  have z_c := fun j => cell_of_row W1 _ j _ _ _ qz1
  have z_f := fun j => frozen_of_row W1 _ j _ _ qz1
  go_wp2_with fail
  have qr := set6a (.int .i64 (rowv (sf x y f 0))) (.int .i64 (rowv (sf x y f 1))) (.int .i64 (rowv (sf x y f 2))) (.int .i64 (rowv (sf x y f 3))) (.int .i64 (rowv (sf x y f 4))) (.int .i64 (rowv (sf x y f 5))) qz1
  have hB2 := below6 (v0 := .int .i64 (rowv (sf x y f 0))) (v1 := .int .i64 (rowv (sf x y f 1))) (v2 := .int .i64 (rowv (sf x y f 2))) (v3 := .int .i64 (rowv (sf x y f 3))) (v4 := .int .i64 (rowv (sf x y f 4))) (v5 := .int .i64 (rowv (sf x y f 5))) hB1 (show w.heap.size ≤ w.heap.size + 1 + 1 by omega)
  clear z_c z_f qz1 hB1
  generalize (World.setCell _ _ _ : World) = X at qr hB2 ⊢
  have x_c := fun j => cell_of_row X _ j _ _ _ qr
  exact bodyPost_ret (v := .agg #[.int .i64 (rowv (sf x y f 0)), .int .i64 (rowv (sf x y f 1)), .int .i64 (rowv (sf x y f 2)), .int .i64 (rowv (sf x y f 3)), .int .i64 (rowv (sf x y f 4)), .int .i64 (rowv (sf x y f 5))]) (by simp [results, Try.results157, go_sem, x_c]) rfl ⟨rfl, hB2⟩
set_option maxHeartbeats 1000000 in
set_option maxHeartbeats 4000000 in
theorem lfree_f (f p : Fn6) (w : World) : Calls Try.prog 138 #[.agg #[.int .i64 (rowv (f 0)), .int .i64 (rowv (f 1)), .int .i64 (rowv (f 2)), .int .i64 (rowv (f 3)), .int .i64 (rowv (f 4)), .int .i64 (rowv (f 5))], .agg #[.int .i64 (rowv (p 0)), .int .i64 (rowv (p 1)), .int .i64 (rowv (p 2)), .int .i64 (rowv (p 3)), .int .i64 (rowv (p 4)), .int .i64 (rowv (p 5))]] w (LP (bl (frf f p) 36) w) := by
  obtain ⟨i0, hi, hz0, hz1, hz2⟩ := info_parts info44
  go_enter Try.func138, Try.ntmps138
  go_wp2_with fail
  generalize hW : (World.alloc (World.alloc w _) _ : World) = W0
  have hsz : W0.heap.size = w.heap.size + 1 + 1 := by rw [← hW]; simp
  have K0 : KR 2 [(w.heap.size, o6 f), (w.heap.size + 1, o6 p)] w W0 := by
    rw [← hW]
    exact two_boxes w _ _ (by (repeat (first | exact Below.refl _ _ | assumption | refine Below.setCell ?_ (by first | (simp; done) | (simp; omega)) _ | refine Below.alloc ?_ (by first | (simp; done) | (simp; omega)) _ | refine Below.drew ?_))) (alloc_past (alloc_at rfl)) (alloc_at (by simp)) (by simp)
  have S0 := Lib.hid (Rl.start K0)
  rw [hsz] at S0
  clear hsz
  clear hW K0
  generalize (World.alloc _ _ : World) = W1 at S0 ⊢
  generalize hv0 : (Value.slice (some ⟨_, 0, none⟩) 0 0) = v0 at S0 ⊢
  clear hv0
  go_loopw [5, 6] (fun v n wr => ∃ k : Nat, k ≤ 36 ∧ n = .int .i64 k ∧ Hid (Rl 2 [(w.heap.size, o6 f), (w.heap.size + 1, o6 p)] w (bl (frf f p) k) v wr)) (fun _ n _ => 36 - (intOf n).toNat)
  case atStart => exact ⟨0, by omega, rfl, S0⟩
  case round =>
    obtain ⟨k, hk, rfl, HS⟩ := hrel
    by_cases hlt : k < 36
    · have hlt' : (k : Int) < 36 := by omega
      have hk0 : (0 : Int) ≤ k := by omega
      have hx : k % 6 < 6 := Nat.mod_lt _ (by decide)
      have hy : k / 6 < 6 := by omega
      have HF := Lib.hid (lisfree_f f p hx hy)
      have HX := Lib.hid (show (k : Int) % 6 = ((k % 6 : Nat) : Int) by omega)
      have HY := Lib.hid (show (k : Int) / 6 = ((k / 6 : Nat) : Int) by omega)
      have H0 := Lib.hid (@bl_k0 (frf f p) k)
      have H1 := Lib.hid (@bl_k1 (frf f p) k)
      have c0 := fun (o : Obj) j => cell_of_row (wr.alloc o) _ j _ _ _ (alloc_past (HS.out.1.row (g := w.heap.size) (o := o6 f) (by simp)))
      have c1 := fun (o : Obj) j => cell_of_row (wr.alloc o) _ j _ _ _ (alloc_past (HS.out.1.row (g := w.heap.size + 1) (o := o6 p) (by simp)))
      go_wp2_with fail
      rw [HX.out, HY.out]
      clear HX HY
      generalize k % 6 = x at *
      generalize k / 6 = y at *
      obtain ⟨g, cap, rfl, ho⟩ := HS.out.2
      clear ho
      refine (HF.out _).mono ?_
      rintro e W2 ⟨rfl, hb⟩
      have HS2 := Lib.hid ((HS.out.alloc (oc x y)).below hb rfl)
      have hq : W2.heap[wr.heap.size]? = some (oc x y) := rowk (alloc_at rfl) hb rfl
      clear hb HS HF c0 c1
      generalize wr.heap.size = gc at hq ⊢
      obtain ⟨u, hu⟩ : ∃ u, u = frf f p y x := ⟨_, rfl⟩
      rw [← hu] at H0 H1 ⊢
      clear hu
      cases u
      · go_wp2_with fail
        go_roundw
        case rel => exact ⟨k + 1, by omega, by go_num, by rw [H0.out (by first | rfl | trivial)]; exact HS2⟩
        case measure => simp [intOf]; omega
      · obtain ⟨hK, _, _, hv, ho⟩ := HS2.out
        have HO := ho.kept (grown_below ((Below.refl _ _).alloc (Nat.le_refl _) (.cells #[.int .i64 (x : Int), .int .i64 (y : Int)] 47)) rfl) (.inr (by simp [Value.ownBlock]))
        have HY := Lib.hid (HS2.out.alloc (.cells #[.int .i64 (x : Int), .int .i64 (y : Int)] 47))
        have HL := bl_len (frf f p) k
        have hks := hK.2.1
        have g_c := fun j => cell_of_row W2 _ j _ _ _ hq
        clear ho HS2 hv hK
        go_wp2_with (at_builtin; refine wpList_append_own _ rfl _ _ 25 rfl (w.heap.size + 2) 47 i0 (.agg #[.int .i64 0, .int .i64 0]) 2 16 Try.underlying25 hi hz0 hz1 hz2 rfl (by decide) _ _ _ rfl HO ⟨W2.heap.size, 0, none⟩ 1 1 [.int .i64 (x : Int), .int .i64 (y : Int)] rfl rfl (two_new _ _ _ _) (ints_one _ _) (by have := HL; unfold maxLen; omega) (by have := HL; omega) (by have := hks; simp; omega) ?_; intro v' w1 hown' hgrow hnn; have R := Lib.hid (HY.out.snoc hown' hgrow hnn); clear hown' hgrow hnn HY HO HL hks g_c)
        go_roundw
        case rel => exact ⟨k + 1, by omega, by go_num, by rw [H1.out (by first | rfl | trivial)]; exact R⟩
        case measure => simp [intOf]; omega
    · obtain rfl : k = 36 := by omega
      obtain ⟨g, cap, rfl, h2, h3⟩ := HS.out.post
      have H2 := Lib.hid h2
      have H3 := Lib.hid h3
      clear h2 h3 HS
      go_wp2_with fail
      go_ret
      exact ⟨g, cap, rfl, H2.out, H3.out⟩
set_option maxHeartbeats 1000000 in
theorem sfree_no (a0 a1 a2 a3 a4 a5 : Int) (b0 b1 b2 b3 b4 b5 : Int) (H0 : Hid (∀ w, Calls Try.prog 137 #[.agg #[.int .i64 a0, .int .i64 a1, .int .i64 a2, .int .i64 a3, .int .i64 a4, .int .i64 a5], .agg #[.int .i64 b0, .int .i64 b1, .int .i64 b2, .int .i64 b3, .int .i64 b4, .int .i64 b5]] w fun e w' => e = .returned (.bool false) ∧ Below w.heap.size w w')) (w : World) : Calls Try.prog 22 #[.agg #[.int .i64 a0, .int .i64 a1, .int .i64 a2, .int .i64 a3, .int .i64 a4, .int .i64 a5], .agg #[.int .i64 b0, .int .i64 b1, .int .i64 b2, .int .i64 b3, .int .i64 b4, .int .i64 b5]] w (LPb [] false w) := by
  go_enter Try.func22, Try.ntmps22
  go_wp2_with fail
  generalize hW : (World.alloc _ _ : World) = W0
  have K0 : KR 2 [(w.heap.size, os a0 a1 a2 a3 a4 a5), (w.heap.size + 1, os b0 b1 b2 b3 b4 b5)] w W0 := by
    rw [← hW]
    exact two_boxes w _ _ (by (repeat (first | exact Below.refl _ _ | assumption | refine Below.setCell ?_ (by first | (simp; done) | (simp; omega)) _ | refine Below.alloc ?_ (by first | (simp; done) | (simp; omega)) _ | refine Below.drew ?_))) (alloc_past (alloc_at rfl)) (alloc_at (by simp)) (by simp)
  clear hW
  have a_c := fun j => cell_of_row W0 _ j _ _ _ (K0.row (g := w.heap.size) (o := os a0 a1 a2 a3 a4 a5) (by simp))
  have b_c := fun j => cell_of_row W0 _ j _ _ _ (K0.row (g := w.heap.size + 1) (o := os b0 b1 b2 b3 b4 b5) (by simp))
  go_wp2_with fail
  refine (H0.out _).mono ?_
  rintro e W1 ⟨rfl, hb⟩
  have K1 := K0.far hb rfl
  clear hb K0 a_c b_c
  go_wp2_with fail
  go_ret2
  exact ⟨W1.heap.size, 0, rfl, World.ownsRow_lit (base := w.heap.size) (e := 47) (size := 2) W1 #[] 0 K1.2.2.size (by unfold maxLen; omega) rfl, K1.2.2.alloc K1.2.2.size _⟩
set_option maxHeartbeats 1000000 in
theorem sfree_yes (f p : Fn6) (H0 : Hid (∀ w, Calls Try.prog 137 #[.agg #[.int .i64 (rowv (f 0)), .int .i64 (rowv (f 1)), .int .i64 (rowv (f 2)), .int .i64 (rowv (f 3)), .int .i64 (rowv (f 4)), .int .i64 (rowv (f 5))], .agg #[.int .i64 (rowv (p 0)), .int .i64 (rowv (p 1)), .int .i64 (rowv (p 2)), .int .i64 (rowv (p 3)), .int .i64 (rowv (p 4)), .int .i64 (rowv (p 5))]] w fun e w' => e = .returned (.bool true) ∧ Below w.heap.size w w')) (w : World) : Calls Try.prog 22 #[.agg #[.int .i64 (rowv (f 0)), .int .i64 (rowv (f 1)), .int .i64 (rowv (f 2)), .int .i64 (rowv (f 3)), .int .i64 (rowv (f 4)), .int .i64 (rowv (f 5))], .agg #[.int .i64 (rowv (p 0)), .int .i64 (rowv (p 1)), .int .i64 (rowv (p 2)), .int .i64 (rowv (p 3)), .int .i64 (rowv (p 4)), .int .i64 (rowv (p 5))]] w (LPb (bl (frf f p) 36) true w) := by
  have HF := Lib.hid (lfree_f f p)
  go_enter Try.func22, Try.ntmps22
  go_wp2_with fail
  generalize hW : (World.alloc _ _ : World) = W0
  have K0 : KR 2 [(w.heap.size, o6 f), (w.heap.size + 1, o6 p)] w W0 := by
    rw [← hW]
    exact two_boxes w _ _ (by (repeat (first | exact Below.refl _ _ | assumption | refine Below.setCell ?_ (by first | (simp; done) | (simp; omega)) _ | refine Below.alloc ?_ (by first | (simp; done) | (simp; omega)) _ | refine Below.drew ?_))) (alloc_past (alloc_at rfl)) (alloc_at (by simp)) (by simp)
  clear hW
  have a_c := fun j => cell_of_row W0 _ j _ _ _ (K0.row (g := w.heap.size) (o := o6 f) (by simp))
  have b_c := fun j => cell_of_row W0 _ j _ _ _ (K0.row (g := w.heap.size + 1) (o := o6 p) (by simp))
  go_wp2_with fail
  refine (H0.out _).mono ?_
  rintro e W1 ⟨rfl, hb⟩
  have K1 := K0.far hb rfl
  clear hb K0 a_c b_c
  have a_c := fun j => cell_of_row W1 _ j _ _ _ (K1.row (g := w.heap.size) (o := o6 f) (by simp))
  have b_c := fun j => cell_of_row W1 _ j _ _ _ (K1.row (g := w.heap.size + 1) (o := o6 p) (by simp))
  go_wp2_with fail
  refine (HF.out _).mono ?_
  rintro e W3 ⟨g, cap, rfl, ho, hb⟩
  have HO := Lib.hid (own_mono ho (K1.2.2.size))
  have HB := Lib.hid (below_of K1.2.2 hb K1.2.2.size)
  clear hb ho K1 a_c b_c
  go_wp2_with fail
  go_ret2
  exact ⟨g, cap, rfl, HO.out, HB.out⟩
theorem other_f (f : Fn6) (w : World) : Calls Try.prog 140 #[.agg #[.int .i64 (rowv (f 0)), .int .i64 (rowv (f 1)), .int .i64 (rowv (f 2)), .int .i64 (rowv (f 3)), .int .i64 (rowv (f 4)), .int .i64 (rowv (f 5))]] w fun e w' => e = .returned (.tuple #[.agg #[.int .i64 (rowv (nf f 0)), .int .i64 (rowv (nf f 1)), .int .i64 (rowv (nf f 2)), .int .i64 (rowv (nf f 3)), .int .i64 (rowv (nf f 4)), .int .i64 (rowv (nf f 5))], .bool true]) ∧ Below w.heap.size w w' := iother_yes (rowv (f 0)) (rowv (f 1)) (rowv (f 2)) (rowv (f 3)) (rowv (f 4)) (rowv (f 5)) (rowv (nf f 0)) (rowv (nf f 1)) (rowv (nf f 2)) (rowv (nf f 3)) (rowv (nf f 4)) (rowv (nf f 5)) (sh_ai _ _ _ _ _ _ (sh_of f)) (Lib.hid (wfull_f f)) w
set_option maxHeartbeats 1000000 in
theorem ifree_yes (f p : Fn6) (HS : Hid (∀ w, Calls Try.prog 141 #[.agg #[.int .i64 (rowv (p 0)), .int .i64 (rowv (p 1)), .int .i64 (rowv (p 2)), .int .i64 (rowv (p 3)), .int .i64 (rowv (p 4)), .int .i64 (rowv (p 5))]] w fun e w' => e = .returned (.bool true) ∧ Below w.heap.size w w')) (w : World) : Calls Try.prog 24 #[.agg #[.int .i64 (rowv (f 0)), .int .i64 (rowv (f 1)), .int .i64 (rowv (f 2)), .int .i64 (rowv (f 3)), .int .i64 (rowv (f 4)), .int .i64 (rowv (f 5))], .agg #[.int .i64 (rowv (p 0)), .int .i64 (rowv (p 1)), .int .i64 (rowv (p 2)), .int .i64 (rowv (p 3)), .int .i64 (rowv (p 4)), .int .i64 (rowv (p 5))]] w (LPb (bl (frf f p) 36) true w) := by
  have HO := Lib.hid (other_f f)
  have HG := iopen6_yes p (nf f)
  rw [← bl_cong (frf_ag f p) 36 (Nat.le_refl _)] at HG
  have HG := Lib.hid HG
  go_enter Try.func24, Try.ntmps24
  go_wp2_with fail
  generalize hW : (World.alloc _ _ : World) = W0
  have K0 : KR 2 [(w.heap.size, o6 f), (w.heap.size + 1, o6 p)] w W0 := by
    rw [← hW]
    exact two_boxes w _ _ (by (repeat (first | exact Below.refl _ _ | assumption | refine Below.setCell ?_ (by first | (simp; done) | (simp; omega)) _ | refine Below.alloc ?_ (by first | (simp; done) | (simp; omega)) _ | refine Below.drew ?_))) (alloc_past (alloc_at rfl)) (alloc_at (by simp)) (by simp)
  clear hW
  have a_c := fun j => cell_of_row W0 _ j _ _ _ (K0.row (g := w.heap.size) (o := o6 f) (by simp))
  go_wp2_with fail
  refine (HO.out _).mono ?_
  rintro e W1 ⟨rfl, hb⟩
  have K1 := K0.far hb rfl
  clear hb K0 a_c
  have K2 := K1.al (o := .cells #[.int .i64 (rowv (nf f 0)), .int .i64 (rowv (nf f 1)), .int .i64 (rowv (nf f 2)), .int .i64 (rowv (nf f 3)), .int .i64 (rowv (nf f 4)), .int .i64 (rowv (nf f 5))] 28)
  have b_c := fun j => cell_of_row (W1.alloc (.cells #[.int .i64 (rowv (nf f 0)), .int .i64 (rowv (nf f 1)), .int .i64 (rowv (nf f 2)), .int .i64 (rowv (nf f 3)), .int .i64 (rowv (nf f 4)), .int .i64 (rowv (nf f 5))] 28)) _ j _ _ _ (K2.row (g := w.heap.size + 1) (o := o6 p) (by simp))
  have hq : (W1.alloc (.cells #[.int .i64 (rowv (nf f 0)), .int .i64 (rowv (nf f 1)), .int .i64 (rowv (nf f 2)), .int .i64 (rowv (nf f 3)), .int .i64 (rowv (nf f 4)), .int .i64 (rowv (nf f 5))] 28)).heap[W1.heap.size]? = some (o6 (nf f)) := alloc_at rfl
  have HQ := Lib.hid hq
  clear hq
  go_wp2_with fail
  generalize W1.heap.size = gn at HQ ⊢
  generalize hX : (World.alloc _ _ : World) = W2 at HQ K2 b_c ⊢
  clear hX
  refine (HS.out _).mono ?_
  rintro e W3 ⟨rfl, hb⟩
  have K3 := K2.far hb rfl
  have HQ3 := Lib.hid (rowk HQ.out hb rfl)
  clear hb K2 b_c HQ
  have b_c := fun j => cell_of_row W3 _ j _ _ _ (K3.row (g := w.heap.size + 1) (o := o6 p) (by simp))
  have n_c := fun j => cell_of_row W3 _ j _ _ _ HQ3.out
  go_wp2_with fail
  refine (HG.out _).mono ?_
  rintro e W4 ⟨g, cap, rfl, ho, hb⟩
  have HO2 := Lib.hid (own_mono ho K3.2.2.size)
  have HB3 := Lib.hid (below_of K3.2.2 hb K3.2.2.size)
  clear hb ho K3 b_c n_c
  go_wp2_with fail
  go_ret2
  exact ⟨g, cap, rfl, HO2.out, HB3.out⟩
set_option maxHeartbeats 1000000 in
theorem ifree_no0 (a0 a1 a2 a3 a4 a5 : Int) (b0 b1 b2 b3 b4 b5 : Int) (HF : Hid (∀ w, Calls Try.prog 140 #[.agg #[.int .i64 a0, .int .i64 a1, .int .i64 a2, .int .i64 a3, .int .i64 a4, .int .i64 a5]] w fun e w' => e = .returned (.tuple #[.agg #[.int .i64 0, .int .i64 0, .int .i64 0, .int .i64 0, .int .i64 0, .int .i64 0], .bool false]) ∧ Below w.heap.size w w')) (w : World) : Calls Try.prog 24 #[.agg #[.int .i64 a0, .int .i64 a1, .int .i64 a2, .int .i64 a3, .int .i64 a4, .int .i64 a5], .agg #[.int .i64 b0, .int .i64 b1, .int .i64 b2, .int .i64 b3, .int .i64 b4, .int .i64 b5]] w (LPb [] false w) := by
  go_enter Try.func24, Try.ntmps24
  go_wp2_with fail
  generalize hW : (World.alloc _ _ : World) = W0
  have K0 : KR 2 [(w.heap.size, os a0 a1 a2 a3 a4 a5), (w.heap.size + 1, os b0 b1 b2 b3 b4 b5)] w W0 := by
    rw [← hW]
    exact two_boxes w _ _ (by (repeat (first | exact Below.refl _ _ | assumption | refine Below.setCell ?_ (by first | (simp; done) | (simp; omega)) _ | refine Below.alloc ?_ (by first | (simp; done) | (simp; omega)) _ | refine Below.drew ?_))) (alloc_past (alloc_at rfl)) (alloc_at (by simp)) (by simp)
  clear hW
  have a_c := fun j => cell_of_row W0 _ j _ _ _ (K0.row (g := w.heap.size) (o := os a0 a1 a2 a3 a4 a5) (by simp))
  go_wp2_with fail
  refine (HF.out _).mono ?_
  rintro e W1 ⟨rfl, hb⟩
  have HB := Lib.hid (K0.far hb rfl).2.2
  clear hb K0 a_c
  go_wp2_with fail
  have HB2 := HB.out.alloc HB.out.size (.cells #[.int .i64 0, .int .i64 0, .int .i64 0, .int .i64 0, .int .i64 0, .int .i64 0] 28)
  go_ret2
  have h := World.ownsRow_lit (base := w.heap.size) (e := 47) (size := 2) (W1.alloc (.cells #[.int .i64 0, .int .i64 0, .int .i64 0, .int .i64 0, .int .i64 0, .int .i64 0] 28)) #[] 0 HB2.size (by unfold maxLen; omega) rfl
  rw [show (W1.alloc (.cells #[.int .i64 0, .int .i64 0, .int .i64 0, .int .i64 0, .int .i64 0, .int .i64 0] 28)).heap.size = W1.heap.size + 1 by simp] at h
  exact ⟨W1.heap.size + 1, 0, rfl, h, HB2.alloc HB2.size _⟩
set_option maxHeartbeats 1000000 in
theorem ifree_no1 (f : Fn6) (b0 b1 b2 b3 b4 b5 : Int) (HS : Hid (∀ w, Calls Try.prog 141 #[.agg #[.int .i64 b0, .int .i64 b1, .int .i64 b2, .int .i64 b3, .int .i64 b4, .int .i64 b5]] w fun e w' => e = .returned (.bool false) ∧ Below w.heap.size w w')) (w : World) : Calls Try.prog 24 #[.agg #[.int .i64 (rowv (f 0)), .int .i64 (rowv (f 1)), .int .i64 (rowv (f 2)), .int .i64 (rowv (f 3)), .int .i64 (rowv (f 4)), .int .i64 (rowv (f 5))], .agg #[.int .i64 b0, .int .i64 b1, .int .i64 b2, .int .i64 b3, .int .i64 b4, .int .i64 b5]] w (LPb [] false w) := by
  have HO := Lib.hid (other_f f)
  go_enter Try.func24, Try.ntmps24
  go_wp2_with fail
  generalize hW : (World.alloc _ _ : World) = W0
  have K0 : KR 2 [(w.heap.size, o6 f), (w.heap.size + 1, os b0 b1 b2 b3 b4 b5)] w W0 := by
    rw [← hW]
    exact two_boxes w _ _ (by (repeat (first | exact Below.refl _ _ | assumption | refine Below.setCell ?_ (by first | (simp; done) | (simp; omega)) _ | refine Below.alloc ?_ (by first | (simp; done) | (simp; omega)) _ | refine Below.drew ?_))) (alloc_past (alloc_at rfl)) (alloc_at (by simp)) (by simp)
  clear hW
  have a_c := fun j => cell_of_row W0 _ j _ _ _ (K0.row (g := w.heap.size) (o := o6 f) (by simp))
  go_wp2_with fail
  refine (HO.out _).mono ?_
  rintro e W1 ⟨rfl, hb⟩
  have K1 := K0.far hb rfl
  clear hb K0 a_c
  have K2 := K1.al (o := .cells #[.int .i64 (rowv (nf f 0)), .int .i64 (rowv (nf f 1)), .int .i64 (rowv (nf f 2)), .int .i64 (rowv (nf f 3)), .int .i64 (rowv (nf f 4)), .int .i64 (rowv (nf f 5))] 28)
  have b_c := fun j => cell_of_row (W1.alloc (.cells #[.int .i64 (rowv (nf f 0)), .int .i64 (rowv (nf f 1)), .int .i64 (rowv (nf f 2)), .int .i64 (rowv (nf f 3)), .int .i64 (rowv (nf f 4)), .int .i64 (rowv (nf f 5))] 28)) _ j _ _ _ (K2.row (g := w.heap.size + 1) (o := os b0 b1 b2 b3 b4 b5) (by simp))
  go_wp2_with fail
  generalize hX : (World.alloc _ _ : World) = W2 at K2 b_c ⊢
  clear hX
  refine (HS.out _).mono ?_
  rintro e W3 ⟨rfl, hb⟩
  have K3 := K2.far hb rfl
  clear hb K2 b_c
  go_wp2_with fail
  go_ret2
  exact ⟨W3.heap.size, 0, rfl, World.ownsRow_lit (base := w.heap.size) (e := 47) (size := 2) W3 #[] 0 K3.2.2.size (by unfold maxLen; omega) rfl, K3.2.2.alloc K3.2.2.size _⟩
/-- A game's sheet and stamp: not valid, or rows of bits with a black cell. -/
theorem good_ways (a0 a1 a2 a3 a4 a5 : Int) (b0 b1 b2 b3 b4 b5 : Int) : (gd6 a0 a1 a2 a3 a4 a5 b0 b1 b2 b3 b4 b5 = false ∧ (ok a0 && ok a1 && ok a2 && ok a3 && ok a4 && ok a5) = false) ∨ (gd6 a0 a1 a2 a3 a4 a5 b0 b1 b2 b3 b4 b5 = false ∧ (ok a0 && ok a1 && ok a2 && ok a3 && ok a4 && ok a5) = true ∧ ((ok b0 && ok b1 && ok b2 && ok b3 && ok b4 && ok b5) && nz6 b0 b1 b2 b3 b4 b5) = false) ∨ (gd6 a0 a1 a2 a3 a4 a5 b0 b1 b2 b3 b4 b5 = true ∧ (ok a0 && ok a1 && ok a2 && ok a3 && ok a4 && ok a5) = true ∧ (ok b0 && ok b1 && ok b2 && ok b3 && ok b4 && ok b5) = true ∧ nz6 b0 b1 b2 b3 b4 b5 = true) := by
  unfold gd6
  cases hv : (ok a0 && ok a1 && ok a2 && ok a3 && ok a4 && ok a5)
  · exact .inl ⟨rfl, rfl⟩
  · cases hc : (ok b0 && ok b1 && ok b2 && ok b3 && ok b4 && ok b5)
    · exact .inr (.inl ⟨rfl, rfl, rfl⟩)
    · cases hn : nz6 b0 b1 b2 b3 b4 b5
      · exact .inr (.inl ⟨rfl, rfl, rfl⟩)
      · exact .inr (.inr ⟨rfl, rfl, rfl, rfl⟩)
theorem free_pair (a0 a1 a2 a3 a4 a5 : Int) (b0 b1 b2 b3 b4 b5 : Int) : ∃ (l : List (Nat × Nat)) (t : Bool), l.length ≤ 36 ∧ (∀ w, Calls Try.prog 22 #[.agg #[.int .i64 a0, .int .i64 a1, .int .i64 a2, .int .i64 a3, .int .i64 a4, .int .i64 a5], .agg #[.int .i64 b0, .int .i64 b1, .int .i64 b2, .int .i64 b3, .int .i64 b4, .int .i64 b5]] w (LPb l t w)) ∧ (∀ w, Calls Try.prog 24 #[.agg #[.int .i64 a0, .int .i64 a1, .int .i64 a2, .int .i64 a3, .int .i64 a4, .int .i64 a5], .agg #[.int .i64 b0, .int .i64 b1, .int .i64 b2, .int .i64 b3, .int .i64 b4, .int .i64 b5]] w (LPb l t w)) := by
  have HG := lgood_any a0 a1 a2 a3 a4 a5 b0 b1 b2 b3 b4 b5
  have HS := istamp_any b0 b1 b2 b3 b4 b5
  rcases good_ways a0 a1 a2 a3 a4 a5 b0 b1 b2 b3 b4 b5 with ⟨h, hv⟩ | ⟨h, hv, hs⟩ | ⟨h, hv, hc, hn⟩
  · rw [h] at HG
    exact ⟨[], false, by simp, sfree_no a0 a1 a2 a3 a4 a5 b0 b1 b2 b3 b4 b5 (Lib.hid HG), ifree_no0 a0 a1 a2 a3 a4 a5 b0 b1 b2 b3 b4 b5 (Lib.hid (iother_no0 a0 a1 a2 a3 a4 a5 (sh_ai a0 a1 a2 a3 a4 a5 hv)))⟩
  · rw [h] at HG
    rw [hs] at HS
    obtain ⟨f, rfl, rfl, rfl, rfl, rfl, rfl⟩ := sheet_bits a0 a1 a2 a3 a4 a5 hv
    exact ⟨[], false, by simp, sfree_no _ _ _ _ _ _ b0 b1 b2 b3 b4 b5 (Lib.hid HG), ifree_no1 f b0 b1 b2 b3 b4 b5 (Lib.hid HS)⟩
  · rw [h] at HG
    rw [hc, hn] at HS
    obtain ⟨f, rfl, rfl, rfl, rfl, rfl, rfl⟩ := sheet_bits a0 a1 a2 a3 a4 a5 hv
    obtain ⟨p, rfl, rfl, rfl, rfl, rfl, rfl⟩ := sheet_bits b0 b1 b2 b3 b4 b5 hc
    exact ⟨bl (frf f p) 36, true, bl_len _ 36, sfree_yes f p (Lib.hid HG), ifree_yes f p (Lib.hid HS)⟩
end Go.Proofs.Ytkjaaaefcmpokaa
