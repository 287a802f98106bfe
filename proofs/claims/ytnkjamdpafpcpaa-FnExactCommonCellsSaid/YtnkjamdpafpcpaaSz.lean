/- CONTRACTS: the size of a sheet, in the model and in the code. -/
import Derived.Test.YtnkjamdpafpcpaaSc
import Derived.Test.YtnkjamdpafpcpaaKp
import Derived.WalkKit
import Derived.ProofKit
import Derived.OpenShut
import Derived.Lib.Hide
import Derived.WalkSpells
import Derived.Below
import Derived.BigQuiet
import Derived.LoopN
namespace Go.Proofs.Ytnkjamdpafpcpaa
open Go.ChangeShapes Go.WideShapes Go.ChangeAt Go.RowKit
set_option linter.unusedVariables false
def pc (x : Int) : Int := x % 2 + x / 2 % 2 + x / 4 % 2 + x / 8 % 2 + x / 16 % 2 + x / 32 % 2
def oc1 (x : Int) : Int := IntKind.u64.wrap (bits .and .u64 (x / 2) 6148914691236517205 + bits .and .u64 x 6148914691236517205)
def oc2 (t : Int) : Int := IntKind.u64.wrap (bits .and .u64 (t / 4) 3689348814741910323 + bits .and .u64 t 3689348814741910323)
def oc3 (t : Int) : Int := bits .and .u64 (IntKind.u64.wrap (t / 16 + t)) 1085102592571150095
def oc4 (t : Int) : Int := IntKind.u64.wrap (t + t / 256)
def oc5 (t : Int) : Int := IntKind.u64.wrap (t + t / 65536)
def oc6 (t : Int) : Int := IntKind.u64.wrap (t + t / 4294967296)
def ocF (x : Int) : Int := bits .and .i64 (wrap64 (oc6 (oc5 (oc4 (oc3 (oc2 (oc1 x))))))) 127
theorem oc_fin : ∀ n : Fin 64, ocF ((n.val : Nat) : Int) = pc ((n.val : Nat) : Int) := by decide +kernel
theorem oc_pc {x : Int} (hx : 0 ≤ x ∧ x ≤ 63) : ocF x = pc x := by
  obtain ⟨n, rfl⟩ := Int.eq_ofNat_of_zero_le hx.1
  exact oc_fin ⟨n, by omega⟩
theorem pc_bd {x : Int} (hx : 0 ≤ x ∧ x ≤ 63) : 0 ≤ pc x ∧ pc x ≤ 6 := by unfold pc; omega
theorem pc_zero : pc 0 = 0 := rfl
theorem pc_half {v : Int} (h0 : 0 ≤ v) (h1 : v ≤ 63) : v % 2 + pc (v / 2) = pc v := by unfold pc; omega
theorem oc64 (x : Int) (hx : 0 ≤ x ∧ x ≤ 63) (w : World) : Calls Try.prog 215 #[.int .u64 x] w fun e w' => e = .returned (.int .i64 (pc x)) ∧ w' = w := by
  rw [← oc_pc hx]
  go_enter Try.func215, Try.ntmps215
  go_wp2_with fail
  go_ret
  exact ⟨rfl, rfl⟩
theorem oc_any (x : Int) (hx : 0 ≤ x ∧ x ≤ 63) (w : World) : Calls Try.prog 164 #[.int .u64 x] w fun e w' => e = .returned (.int .i64 (pc x)) ∧ w' = w := by
  have H := Lib.hid (oc64 x hx)
  go_enter Try.func164, Try.ntmps164
  go_wp2_with fail
  refine (H.out _).mono ?_
  rintro e w' ⟨rfl, rfl⟩
  go_wp2_with fail
  go_ret
  exact ⟨rfl, rfl⟩
set_option maxHeartbeats 2000000 in
theorem l2count_any (a0 a1 a2 a3 a4 a5 : Int) (hv : (0 ≤ a0 ∧ a0 ≤ 63) ∧ (0 ≤ a1 ∧ a1 ≤ 63) ∧ (0 ≤ a2 ∧ a2 ≤ 63) ∧ (0 ≤ a3 ∧ a3 ≤ 63) ∧ (0 ≤ a4 ∧ a4 ≤ 63) ∧ (0 ≤ a5 ∧ a5 ≤ 63)) (w : World) : Calls Try.prog 108 #[.agg #[.int .i64 a0, .int .i64 a1, .int .i64 a2, .int .i64 a3, .int .i64 a4, .int .i64 a5]] w fun e w' => e = .returned (.int .i64 (pc a0 + pc a1 + pc a2 + pc a3 + pc a4 + pc a5)) ∧ Below w.heap.size w w' := by
  obtain ⟨h0, h1, h2, h3, h4, h5⟩ := hv
  have b0 := pc_bd h0; have b1 := pc_bd h1; have b2 := pc_bd h2; have b3 := pc_bd h3; have b4 := pc_bd h4; have b5 := pc_bd h5
  go_enter Try.func108, Try.ntmps108
  go_wp2_with fail
  refine wp_loop_rounds 7 ?_
  rw [rounds_succ]
  go_wp2_with fail
  go_loop [3, 5] (fun m r => ∃ (u v : Int), m = .int .i64 u ∧ r = .int .i64 v ∧ 0 ≤ v ∧ v ≤ 63 ∧ 0 ≤ u ∧ Hid (u + pc v = pc a0)) (fun _ r => (intOf r).toNat)
  case atStart => exact ⟨0, a0, rfl, rfl, h0.1, h0.2, by omega, Lib.hid (by omega)⟩
  case round =>
    obtain ⟨u, v, rfl, rfl, hv0, hv1, hu0, HR⟩ := hrel
    have hub : u ≤ 36 := by have := HR.out; have := (pc_bd ⟨hv0, hv1⟩).1; omega
    by_cases hp : 0 < v
    · go_wp2_with fail
      go_round
      case rel => exact ⟨u + v % 2, v / 2, by go_num, by go_num, by omega, by omega, by omega, Lib.hid (by have := HR.out; have := pc_half hv0 hv1; omega)⟩
      case measure => simp [intOf]; omega
    · have hv : v = 0 := by omega
      have hu : u = pc a0 := by have := HR.out; rw [hv, pc_zero] at this; omega
      subst hv
      clear HR hu0 hub hv0 hv1
      subst hu
      go_wp2_with fail
      rw [rounds_succ]
      go_wp2_with fail
      go_loop [3, 5] (fun m r => ∃ (u v : Int), m = .int .i64 u ∧ r = .int .i64 v ∧ 0 ≤ v ∧ v ≤ 63 ∧ 0 ≤ u ∧ Hid (u + pc v = pc a0 + pc a1)) (fun _ r => (intOf r).toNat)
      case atStart => exact ⟨_, a1, rfl, rfl, h1.1, h1.2, by omega, Lib.hid (by omega)⟩
      case round =>
        obtain ⟨u, v, rfl, rfl, hv0, hv1, hu0, HR⟩ := hrel
        have hub : u ≤ 36 := by have := HR.out; have := (pc_bd ⟨hv0, hv1⟩).1; omega
        by_cases hp : 0 < v
        · go_wp2_with fail
          go_round
          case rel => exact ⟨u + v % 2, v / 2, by go_num, by go_num, by omega, by omega, by omega, Lib.hid (by have := HR.out; have := pc_half hv0 hv1; omega)⟩
          case measure => simp [intOf]; omega
        · have hv : v = 0 := by omega
          have hu : u = pc a0 + pc a1 := by have := HR.out; rw [hv, pc_zero] at this; omega
          subst hv
          clear HR hu0 hub hv0 hv1
          subst hu
          go_wp2_with fail
          rw [rounds_succ]
          go_wp2_with fail
          go_loop [3, 5] (fun m r => ∃ (u v : Int), m = .int .i64 u ∧ r = .int .i64 v ∧ 0 ≤ v ∧ v ≤ 63 ∧ 0 ≤ u ∧ Hid (u + pc v = pc a0 + pc a1 + pc a2)) (fun _ r => (intOf r).toNat)
          case atStart => exact ⟨_, a2, rfl, rfl, h2.1, h2.2, by omega, Lib.hid (by omega)⟩
          case round =>
            obtain ⟨u, v, rfl, rfl, hv0, hv1, hu0, HR⟩ := hrel
            have hub : u ≤ 36 := by have := HR.out; have := (pc_bd ⟨hv0, hv1⟩).1; omega
            by_cases hp : 0 < v
            · go_wp2_with fail
              go_round
              case rel => exact ⟨u + v % 2, v / 2, by go_num, by go_num, by omega, by omega, by omega, Lib.hid (by have := HR.out; have := pc_half hv0 hv1; omega)⟩
              case measure => simp [intOf]; omega
            · have hv : v = 0 := by omega
              have hu : u = pc a0 + pc a1 + pc a2 := by have := HR.out; rw [hv, pc_zero] at this; omega
              subst hv
              clear HR hu0 hub hv0 hv1
              subst hu
              go_wp2_with fail
              rw [rounds_succ]
              go_wp2_with fail
              go_loop [3, 5] (fun m r => ∃ (u v : Int), m = .int .i64 u ∧ r = .int .i64 v ∧ 0 ≤ v ∧ v ≤ 63 ∧ 0 ≤ u ∧ Hid (u + pc v = pc a0 + pc a1 + pc a2 + pc a3)) (fun _ r => (intOf r).toNat)
              case atStart => exact ⟨_, a3, rfl, rfl, h3.1, h3.2, by omega, Lib.hid (by omega)⟩
              case round =>
                obtain ⟨u, v, rfl, rfl, hv0, hv1, hu0, HR⟩ := hrel
                have hub : u ≤ 36 := by have := HR.out; have := (pc_bd ⟨hv0, hv1⟩).1; omega
                by_cases hp : 0 < v
                · go_wp2_with fail
                  go_round
                  case rel => exact ⟨u + v % 2, v / 2, by go_num, by go_num, by omega, by omega, by omega, Lib.hid (by have := HR.out; have := pc_half hv0 hv1; omega)⟩
                  case measure => simp [intOf]; omega
                · have hv : v = 0 := by omega
                  have hu : u = pc a0 + pc a1 + pc a2 + pc a3 := by have := HR.out; rw [hv, pc_zero] at this; omega
                  subst hv
                  clear HR hu0 hub hv0 hv1
                  subst hu
                  go_wp2_with fail
                  rw [rounds_succ]
                  go_wp2_with fail
                  go_loop [3, 5] (fun m r => ∃ (u v : Int), m = .int .i64 u ∧ r = .int .i64 v ∧ 0 ≤ v ∧ v ≤ 63 ∧ 0 ≤ u ∧ Hid (u + pc v = pc a0 + pc a1 + pc a2 + pc a3 + pc a4)) (fun _ r => (intOf r).toNat)
                  case atStart => exact ⟨_, a4, rfl, rfl, h4.1, h4.2, by omega, Lib.hid (by omega)⟩
                  case round =>
                    obtain ⟨u, v, rfl, rfl, hv0, hv1, hu0, HR⟩ := hrel
                    have hub : u ≤ 36 := by have := HR.out; have := (pc_bd ⟨hv0, hv1⟩).1; omega
                    by_cases hp : 0 < v
                    · go_wp2_with fail
                      go_round
                      case rel => exact ⟨u + v % 2, v / 2, by go_num, by go_num, by omega, by omega, by omega, Lib.hid (by have := HR.out; have := pc_half hv0 hv1; omega)⟩
                      case measure => simp [intOf]; omega
                    · have hv : v = 0 := by omega
                      have hu : u = pc a0 + pc a1 + pc a2 + pc a3 + pc a4 := by have := HR.out; rw [hv, pc_zero] at this; omega
                      subst hv
                      clear HR hu0 hub hv0 hv1
                      subst hu
                      go_wp2_with fail
                      rw [rounds_succ]
                      go_wp2_with fail
                      go_loop [3, 5] (fun m r => ∃ (u v : Int), m = .int .i64 u ∧ r = .int .i64 v ∧ 0 ≤ v ∧ v ≤ 63 ∧ 0 ≤ u ∧ Hid (u + pc v = pc a0 + pc a1 + pc a2 + pc a3 + pc a4 + pc a5)) (fun _ r => (intOf r).toNat)
                      case atStart => exact ⟨_, a5, rfl, rfl, h5.1, h5.2, by omega, Lib.hid (by omega)⟩
                      case round =>
                        obtain ⟨u, v, rfl, rfl, hv0, hv1, hu0, HR⟩ := hrel
                        have hub : u ≤ 36 := by have := HR.out; have := (pc_bd ⟨hv0, hv1⟩).1; omega
                        by_cases hp : 0 < v
                        · go_wp2_with fail
                          go_round
                          case rel => exact ⟨u + v % 2, v / 2, by go_num, by go_num, by omega, by omega, by omega, Lib.hid (by have := HR.out; have := pc_half hv0 hv1; omega)⟩
                          case measure => simp [intOf]; omega
                        · have hv : v = 0 := by omega
                          have hu : u = pc a0 + pc a1 + pc a2 + pc a3 + pc a4 + pc a5 := by have := HR.out; rw [hv, pc_zero] at this; omega
                          subst hv
                          clear HR hu0 hub hv0 hv1
                          subst hu
                          go_wp2_with fail
                          rw [rounds_succ]
                          go_wp2_with fail
                          go_ret
                          exact ⟨rfl, by (repeat (first | exact Below.refl _ _ | assumption | refine Below.setCell ?_ (by first | (simp; done) | (simp; omega)) _ | refine Below.alloc ?_ (by first | (simp; done) | (simp; omega)) _ | refine Below.drew ?_))⟩
set_option maxHeartbeats 1000000 in
theorem isize_no0 (a0 a1 a2 a3 a4 a5 : Int) (H0 : Hid (∀ w, Calls Try.prog 75 #[.agg #[.int .i64 a0, .int .i64 a1, .int .i64 a2, .int .i64 a3, .int .i64 a4, .int .i64 a5]] w fun e w' => e = .returned (.bool false) ∧ Below w.heap.size w w')) (w : World) : Calls Try.prog 73 #[.agg #[.int .i64 a0, .int .i64 a1, .int .i64 a2, .int .i64 a3, .int .i64 a4, .int .i64 a5]] w fun e w' => e = .returned (.tuple #[.int .i64 0, .bool false]) ∧ Below w.heap.size w w' := by
  go_enter Try.func73, Try.ntmps73
  go_wp2_with fail
  generalize hW : (World.alloc _ _ : World) = W0
  have hB0 : Below w.heap.size w W0 := by rw [← hW]; (repeat (first | exact Below.refl _ _ | assumption | refine Below.setCell ?_ (by first | (simp; done) | (simp; omega)) _ | refine Below.alloc ?_ (by first | (simp; done) | (simp; omega)) _ | refine Below.drew ?_))
  have qa : W0.heap[(w.heap.size : Nat)]? = some (Obj.cells (#[.int .i64 a0, .int .i64 a1, .int .i64 a2, .int .i64 a3, .int .i64 a4, .int .i64 a5]) 28 (0, 0)) := by
    rw [← hW]
    repeat (first | (refine alloc_at ?_; first | (simp; done) | (simp; omega)) | refine drew_row ?_ | refine alloc_past ?_ | assumption)
  clear hW
  refine (H0.out _).mono ?_
  rintro e W1 ⟨rfl, hb⟩
  have nqa := rowk qa hb rfl
  have hB1 := below_of hB0 hb hB0.size
  clear hb hB0 qa
  have qa := nqa
  clear nqa
  have qa_c := fun j => cell_of_row W1 _ j _ _ _ qa
  have qa_f := fun j => frozen_of_row W1 _ j _ _ qa
  go_wp2_with fail
  go_ret2
  exact ⟨rfl, hB1⟩
set_option maxHeartbeats 2000000 in
theorem isize_yes (a0 a1 a2 a3 a4 a5 : Int) (hv : (0 ≤ a0 ∧ a0 ≤ 63) ∧ (0 ≤ a1 ∧ a1 ≤ 63) ∧ (0 ≤ a2 ∧ a2 ≤ 63) ∧ (0 ≤ a3 ∧ a3 ≤ 63) ∧ (0 ≤ a4 ∧ a4 ≤ 63) ∧ (0 ≤ a5 ∧ a5 ≤ 63)) (H0 : Hid (∀ w, Calls Try.prog 75 #[.agg #[.int .i64 a0, .int .i64 a1, .int .i64 a2, .int .i64 a3, .int .i64 a4, .int .i64 a5]] w fun e w' => e = .returned (.bool true) ∧ Below w.heap.size w w')) (w : World) : Calls Try.prog 73 #[.agg #[.int .i64 a0, .int .i64 a1, .int .i64 a2, .int .i64 a3, .int .i64 a4, .int .i64 a5]] w fun e w' => e = .returned (.tuple #[.int .i64 (pc a0 + pc a1 + pc a2 + pc a3 + pc a4 + pc a5), .bool true]) ∧ Below w.heap.size w w' := by
  obtain ⟨h0, h1, h2, h3, h4, h5⟩ := hv
  have b0 := pc_bd h0; have b1 := pc_bd h1; have b2 := pc_bd h2; have b3 := pc_bd h3; have b4 := pc_bd h4; have b5 := pc_bd h5
  have i0 := ix0 a0 a1 a2 a3 a4 a5; have i1 := ix1 a0 a1 a2 a3 a4 a5; have i2 := ix2 a0 a1 a2 a3 a4 a5; have i3 := ix3 a0 a1 a2 a3 a4 a5; have i4 := ix4 a0 a1 a2 a3 a4 a5; have i5 := ix5 a0 a1 a2 a3 a4 a5
  have u0 : IntKind.u64.wrap a0 = a0 := (by rw [IntKind.wrap_u64]; exact Int.emod_eq_of_lt (by omega) (by omega)); have u1 : IntKind.u64.wrap a1 = a1 := (by rw [IntKind.wrap_u64]; exact Int.emod_eq_of_lt (by omega) (by omega)); have u2 : IntKind.u64.wrap a2 = a2 := (by rw [IntKind.wrap_u64]; exact Int.emod_eq_of_lt (by omega) (by omega)); have u3 : IntKind.u64.wrap a3 = a3 := (by rw [IntKind.wrap_u64]; exact Int.emod_eq_of_lt (by omega) (by omega)); have u4 : IntKind.u64.wrap a4 = a4 := (by rw [IntKind.wrap_u64]; exact Int.emod_eq_of_lt (by omega) (by omega)); have u5 : IntKind.u64.wrap a5 = a5 := (by rw [IntKind.wrap_u64]; exact Int.emod_eq_of_lt (by omega) (by omega))
  have O0 := Lib.hid (oc_any a0 h0); have O1 := Lib.hid (oc_any a1 h1); have O2 := Lib.hid (oc_any a2 h2); have O3 := Lib.hid (oc_any a3 h3); have O4 := Lib.hid (oc_any a4 h4); have O5 := Lib.hid (oc_any a5 h5)
  generalize pc a0 = p0 at b0 O0 ⊢; generalize pc a1 = p1 at b1 O1 ⊢; generalize pc a2 = p2 at b2 O2 ⊢; generalize pc a3 = p3 at b3 O3 ⊢; generalize pc a4 = p4 at b4 O4 ⊢; generalize pc a5 = p5 at b5 O5 ⊢
  go_enter Try.func73, Try.ntmps73
  go_wp2_with fail
  generalize hW : (World.alloc _ _ : World) = W0
  have hB0 : Below w.heap.size w W0 := by rw [← hW]; (repeat (first | exact Below.refl _ _ | assumption | refine Below.setCell ?_ (by first | (simp; done) | (simp; omega)) _ | refine Below.alloc ?_ (by first | (simp; done) | (simp; omega)) _ | refine Below.drew ?_))
  have qa : W0.heap[(w.heap.size : Nat)]? = some (Obj.cells (#[.int .i64 a0, .int .i64 a1, .int .i64 a2, .int .i64 a3, .int .i64 a4, .int .i64 a5]) 28 (0, 0)) := by
    rw [← hW]
    repeat (first | (refine alloc_at ?_; first | (simp; done) | (simp; omega)) | refine drew_row ?_ | refine alloc_past ?_ | assumption)
  clear hW
  refine (H0.out _).mono ?_
  rintro e W1 ⟨rfl, hb⟩
  have nqa := rowk qa hb rfl
  have hB1 := below_of hB0 hb hB0.size
  clear hb hB0 qa
  have qa := nqa
  clear nqa
  have qa_c := fun j => cell_of_row W1 _ j _ _ _ qa
  have qa_f := fun j => frozen_of_row W1 _ j _ _ qa
  go_wp2_with fail
  refine wp_loop_rounds 7 ?_
  rw [rounds_succ]
  go_wp2_with fail
  refine (O0.out _).mono ?_
  rintro e w' ⟨rfl, rfl⟩
  go_wp2_with fail
  rw [rounds_succ]
  go_wp2_with fail
  refine (O1.out _).mono ?_
  rintro e w' ⟨rfl, rfl⟩
  go_wp2_with fail
  rw [rounds_succ]
  go_wp2_with fail
  refine (O2.out _).mono ?_
  rintro e w' ⟨rfl, rfl⟩
  go_wp2_with fail
  rw [rounds_succ]
  go_wp2_with fail
  refine (O3.out _).mono ?_
  rintro e w' ⟨rfl, rfl⟩
  go_wp2_with fail
  rw [rounds_succ]
  go_wp2_with fail
  refine (O4.out _).mono ?_
  rintro e w' ⟨rfl, rfl⟩
  go_wp2_with fail
  rw [rounds_succ]
  go_wp2_with fail
  refine (O5.out _).mono ?_
  rintro e w' ⟨rfl, rfl⟩
  go_wp2_with fail
  rw [rounds_succ]
  go_wp2_with fail
  go_ret2
  exact ⟨rfl, hB1⟩
end Go.Proofs.Ytnkjamdpafpcpaa
