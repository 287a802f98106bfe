/- CONTRACTS: equal Consoles; the walk of NewConsole's law. -/
import Derived.Test.YtnkjamdpafpcpaaLs12
import Derived.Test.YtnkjamdpafpcpaaNc12
import Derived.WalkKit
import Derived.ProofKit
import Derived.OpenShut
import Derived.Lib.Hide
import Derived.WalkSpells
import Derived.Below
import Derived.BigQuiet
import Derived.LoopN
namespace Go.Proofs.Ytnkjamdpafpcpaa
open Go.ChangeShapes Go.WideShapes Go.ChangeAt Go.RowKit
set_option linter.unusedVariables false
set_option maxRecDepth 8000 in
set_option maxHeartbeats 2000000 in
theorem eqlog_12 (n : Int) (x y : ByteArray) (w : World) : Calls Try.prog 111 #[.agg #[.string x, .string y, .int .i64 n], .agg #[.string x, .string y, .int .i64 n]] w fun e w' => e = .returned (.bool true) ∧ Below w.heap.size w w' := by
  go_enter Try.func111, Try.ntmps111
  go_wp2_with fail
  go_ret
  exact ⟨rfl, by (repeat (first | exact Below.refl _ _ | assumption | refine Below.setCell ?_ (by first | (simp; done) | (simp; omega)) _ | refine Below.alloc ?_ (by first | (simp; done) | (simp; omega)) _ | refine Below.drew ?_))⟩
set_option maxRecDepth 8000 in
set_option maxHeartbeats 4000000 in
theorem eqcon_12 (r0 r1 r2 r3 r4 r5 s0 s1 s2 s3 s4 s5 m n : Int) (w : World) : Calls Try.prog 29 #[.agg #[.int .i64 r0, .int .i64 r1, .int .i64 r2, .int .i64 r3, .int .i64 r4, .int .i64 r5, .int .i64 s0, .int .i64 s1, .int .i64 s2, .int .i64 s3, .int .i64 s4, .int .i64 s5, .int .i64 m, .int .i64 n, .string ⟨#[]⟩, .string ⟨#[]⟩, .int .i64 0], .agg #[.int .i64 r0, .int .i64 r1, .int .i64 r2, .int .i64 r3, .int .i64 r4, .int .i64 r5, .int .i64 s0, .int .i64 s1, .int .i64 s2, .int .i64 s3, .int .i64 s4, .int .i64 s5, .int .i64 m, .int .i64 n, .string ⟨#[]⟩, .string ⟨#[]⟩, .int .i64 0]] w fun e w' => e = .returned (.bool true) ∧ Below w.heap.size w w' := by
  have H1 := Lib.hid (eqshop_same r0 r1 r2 r3 r4 r5 s0 s1 s2 s3 s4 s5 m n)
  have H2 := Lib.hid (eqlog_12 0 ⟨#[]⟩ ⟨#[]⟩)
  go_enter Try.func29, Try.ntmps29
  go_wp2_with fail
  have K0 := kr12_2 w (.cells #[.int .i64 r0, .int .i64 r1, .int .i64 r2, .int .i64 r3, .int .i64 r4, .int .i64 r5, .int .i64 s0, .int .i64 s1, .int .i64 s2, .int .i64 s3, .int .i64 s4, .int .i64 s5, .int .i64 m, .int .i64 n, .string ⟨#[]⟩, .string ⟨#[]⟩, .int .i64 0] 43 (0, 0)) (.cells #[.int .i64 r0, .int .i64 r1, .int .i64 r2, .int .i64 r3, .int .i64 r4, .int .i64 r5, .int .i64 s0, .int .i64 s1, .int .i64 s2, .int .i64 s3, .int .i64 s4, .int .i64 s5, .int .i64 m, .int .i64 n, .string ⟨#[]⟩, .string ⟨#[]⟩, .int .i64 0] 43 (0, 0))
  generalize (World.alloc _ _ : World) = W0 at K0 ⊢
  have AC := Lib.hid (fun (U : World) (h : KR 2 [(w.heap.size, .cells #[.int .i64 r0, .int .i64 r1, .int .i64 r2, .int .i64 r3, .int .i64 r4, .int .i64 r5, .int .i64 s0, .int .i64 s1, .int .i64 s2, .int .i64 s3, .int .i64 s4, .int .i64 s5, .int .i64 m, .int .i64 n, .string ⟨#[]⟩, .string ⟨#[]⟩, .int .i64 0] 43 (0, 0)), (w.heap.size + 1, .cells #[.int .i64 r0, .int .i64 r1, .int .i64 r2, .int .i64 r3, .int .i64 r4, .int .i64 r5, .int .i64 s0, .int .i64 s1, .int .i64 s2, .int .i64 s3, .int .i64 s4, .int .i64 s5, .int .i64 m, .int .i64 n, .string ⟨#[]⟩, .string ⟨#[]⟩, .int .i64 0] 43 (0, 0))] w U) j => And.intro (h.cell (g := w.heap.size) (cs := #[.int .i64 r0, .int .i64 r1, .int .i64 r2, .int .i64 r3, .int .i64 r4, .int .i64 r5, .int .i64 s0, .int .i64 s1, .int .i64 s2, .int .i64 s3, .int .i64 s4, .int .i64 s5, .int .i64 m, .int .i64 n, .string ⟨#[]⟩, .string ⟨#[]⟩, .int .i64 0]) (t := 43) (List.mem_cons_self ..) j) (h.cell (g := w.heap.size + 1) (cs := #[.int .i64 r0, .int .i64 r1, .int .i64 r2, .int .i64 r3, .int .i64 r4, .int .i64 r5, .int .i64 s0, .int .i64 s1, .int .i64 s2, .int .i64 s3, .int .i64 s4, .int .i64 s5, .int .i64 m, .int .i64 n, .string ⟨#[]⟩, .string ⟨#[]⟩, .int .i64 0]) (t := 43) (List.mem_cons_of_mem _ (List.mem_cons_self ..)) j))
  refine (H1.out _).mono ?_
  rintro e W1 ⟨rfl, hb⟩
  have K1 := K0.far hb rfl
  clear hb K0
  have c0 := fun j => (AC.out _ K1 j).1
  have c1 := fun j => (AC.out _ K1 j).2
  go_wp2_with fail
  refine (H2.out _).mono ?_
  rintro e W2 ⟨rfl, hb⟩
  have K2 := K1.far hb rfl
  clear hb K1 c0 c1
  go_wp2_with fail
  go_ret
  exact ⟨rfl, K2.2.2⟩
theorem alC (W : World) : (Instr.alloc 43 true (.tuple #[])).run Try.prog W = .ok (.pointer (some ⟨W.heap.size, 0, none⟩)) (W.alloc (.cells #[.int .i64 0, .int .i64 0, .int .i64 0, .int .i64 0, .int .i64 0, .int .i64 0, .int .i64 0, .int .i64 0, .int .i64 0, .int .i64 0, .int .i64 0, .int .i64 0, .int .i64 0, .int .i64 0, .string ⟨#[]⟩, .string ⟨#[]⟩, .int .i64 0] 43)) := by kernel_rfl
section
variable {ops : Array Oper} {rest : List Oper} {a : Act} {w : World} {Q : Exit → Act → World → Prop} {dst : Option Tmp} {type : TypeId} {pos : String} {after : Array Edge}
theorem wpAlC (h : wpList Try.prog ops Q rest (a.put dst (.pointer (some ⟨w.heap.size, 0, none⟩))) (w.alloc (.cells #[.int .i64 0, .int .i64 0, .int .i64 0, .int .i64 0, .int .i64 0, .int .i64 0, .int .i64 0, .int .i64 0, .int .i64 0, .int .i64 0, .int .i64 0, .int .i64 0, .int .i64 0, .int .i64 0, .string ⟨#[]⟩, .string ⟨#[]⟩, .int .i64 0] 43))) : wpList Try.prog ops Q (⟨dst, .alloc 43, type, pos, after, none⟩ :: rest) a w := by
  refine wpList_plain rfl fun K hK => ?_
  unfold Oper.wp execOp
  simp only [Sem.run_bind, Sem.run_pure, Result.andThen_ok, alC]
  exact hK _ _ h
end
theorem KR.sets12 {n g : Nat} {l : List (Nat × Obj)} {w : World} : ∀ (vs : List Value) (o : Nat) {U : World}, KR n l w U → w.heap.size + n ≤ g → KR n l w (U.setCells g o vs)
  | [], _, _, h, _ => h
  | v :: r, o, U, h, hg => by
    rw [World.setCells]
    exact KR.sets12 r (o + 1) (h.set hg) hg
set_option maxRecDepth 8000 in
set_option maxHeartbeats 4000000 in
theorem newcon_go (a0 a1 a2 a3 a4 a5 : Int) (b0 b1 b2 b3 b4 b5 : Int) (p c : Int) (V9 : Array Value) (HV : Hid (V9.size = 17)) (H1 : Hid (V9.all (·.oneCell') = true)) (HQ : Hid (∀ w, Calls Try.prog 29 #[.agg V9, .agg V9] w fun e w' => e = .returned (.bool true) ∧ Below w.heap.size w w')) (t : Bool) (HS : Hid (∀ w, Calls Try.prog 27 #[.agg #[.int .i64 a0, .int .i64 a1, .int .i64 a2, .int .i64 a3, .int .i64 a4, .int .i64 a5, .int .i64 b0, .int .i64 b1, .int .i64 b2, .int .i64 b3, .int .i64 b4, .int .i64 b5, .int .i64 p, .int .i64 c]] w fun e w' => e = .returned (.tuple #[.agg V9, .bool t]) ∧ Below w.heap.size w w')) (HI : Hid (∀ w, Calls Try.prog 28 #[.agg #[.int .i64 a0, .int .i64 a1, .int .i64 a2, .int .i64 a3, .int .i64 a4, .int .i64 a5, .int .i64 b0, .int .i64 b1, .int .i64 b2, .int .i64 b3, .int .i64 b4, .int .i64 b5, .int .i64 p, .int .i64 c]] w fun e w' => e = .returned (.tuple #[.agg V9, .bool t]) ∧ Below w.heap.size w w')) (w : World) : Calls Try.prog 6 #[.agg #[.int .i64 a0, .int .i64 a1, .int .i64 a2, .int .i64 a3, .int .i64 a4, .int .i64 a5, .int .i64 b0, .int .i64 b1, .int .i64 b2, .int .i64 b3, .int .i64 b4, .int .i64 b5, .int .i64 p, .int .i64 c]] w fun e w' => e = .returned (.bool true) ∧ Below w.heap.size w w' := by
  have HT := Lib.hid (to_shop a0 a1 a2 a3 a4 a5 b0 b1 b2 b3 b4 b5 p c)
  go_enter Try.func6, Try.ntmps6
  go_wp2_with fail
  have K0 := kr12 w (.cells #[.int .i64 a0, .int .i64 a1, .int .i64 a2, .int .i64 a3, .int .i64 a4, .int .i64 a5, .int .i64 b0, .int .i64 b1, .int .i64 b2, .int .i64 b3, .int .i64 b4, .int .i64 b5, .int .i64 p, .int .i64 c] 26 (0, 0))
  generalize (World.alloc _ _ : World) = W0 at K0 ⊢
  have AC := Lib.hid (fun (U : World) (h : KR 1 [(w.heap.size, .cells #[.int .i64 a0, .int .i64 a1, .int .i64 a2, .int .i64 a3, .int .i64 a4, .int .i64 a5, .int .i64 b0, .int .i64 b1, .int .i64 b2, .int .i64 b3, .int .i64 b4, .int .i64 b5, .int .i64 p, .int .i64 c] 26 (0, 0))] w U) j => h.cell (g := w.heap.size) (cs := #[.int .i64 a0, .int .i64 a1, .int .i64 a2, .int .i64 a3, .int .i64 a4, .int .i64 a5, .int .i64 b0, .int .i64 b1, .int .i64 b2, .int .i64 b3, .int .i64 b4, .int .i64 b5, .int .i64 p, .int .i64 c]) (t := 26) (List.mem_cons_self ..) j)
  refine (HT.out _).mono ?_
  rintro e W2 ⟨rfl, hb⟩
  have K1 := K0.far hb rfl
  clear hb K0
  go_wp2_with fail
  refine (HS.out _).mono ?_
  rintro e W3 ⟨rfl, hb⟩
  have K2 := K1.far hb rfl
  clear hb K1
  have Z1 : Hid ((W3.alloc (.cells #[.int .i64 0, .int .i64 0, .int .i64 0, .int .i64 0, .int .i64 0, .int .i64 0, .int .i64 0, .int .i64 0, .int .i64 0, .int .i64 0, .int .i64 0, .int .i64 0, .int .i64 0, .int .i64 0, .string ⟨#[]⟩, .string ⟨#[]⟩, .int .i64 0] 43)).heap[W3.heap.size]? = some (.cells #[.int .i64 0, .int .i64 0, .int .i64 0, .int .i64 0, .int .i64 0, .int .i64 0, .int .i64 0, .int .i64 0, .int .i64 0, .int .i64 0, .int .i64 0, .int .i64 0, .int .i64 0, .int .i64 0, .string ⟨#[]⟩, .string ⟨#[]⟩, .int .i64 0] 43 (0, 0))) := Lib.hid (alloc_at rfl)
  have HR1 := Lib.hid (row_sets12 (cs' := V9) Z1.out (by rw [HV.out]; rfl))
  have K3 := Lib.hid (KR.sets12 V9.toList 0 (K2.al (o := .cells #[.int .i64 0, .int .i64 0, .int .i64 0, .int .i64 0, .int .i64 0, .int .i64 0, .int .i64 0, .int .i64 0, .int .i64 0, .int .i64 0, .int .i64 0, .int .i64 0, .int .i64 0, .int .i64 0, .string ⟨#[]⟩, .string ⟨#[]⟩, .int .i64 0] 43)) (g := W3.heap.size) (by have := K2.le; omega))
  have GE := Lib.hid K2.le
  have c0 := AC.out _ K3.out
  clear K2
  go_wp2_with (first | ((with_reducible refine wpAlC ?_)) | ((with_reducible refine wpRow12 W3.heap.size V9 Z1.out ?_ ?_ ?_ ?_ ?_ ?_); (rw [HV.out]; rfl); exact H1.out; rfl; rfl; (rw [HV.out]; kernel_rfl)))
  clear c0 Z1
  generalize (World.setCells _ _ _ _ : World) = V0 at K3 HR1 ⊢
  generalize W3.heap.size = g1 at HR1 GE ⊢
  refine (HT.out _).mono ?_
  rintro e W4 ⟨rfl, hb⟩
  have K4 := Lib.hid (K3.out.far hb rfl)
  have HR2 := Lib.hid (rowk HR1.out hb rfl)
  clear hb K3 HR1
  go_wp2_with fail
  refine (HI.out _).mono ?_
  rintro e W5 ⟨rfl, hb⟩
  have K5 := Lib.hid (K4.out.far hb rfl)
  have HR3 := Lib.hid (rowk HR2.out hb rfl)
  clear hb K4 HR2
  have hlt := (Array.getElem?_eq_some_iff.1 HR3.out).1
  have Z2 : Hid ((W5.alloc (.cells #[.int .i64 0, .int .i64 0, .int .i64 0, .int .i64 0, .int .i64 0, .int .i64 0, .int .i64 0, .int .i64 0, .int .i64 0, .int .i64 0, .int .i64 0, .int .i64 0, .int .i64 0, .int .i64 0, .string ⟨#[]⟩, .string ⟨#[]⟩, .int .i64 0] 43)).heap[W5.heap.size]? = some (.cells #[.int .i64 0, .int .i64 0, .int .i64 0, .int .i64 0, .int .i64 0, .int .i64 0, .int .i64 0, .int .i64 0, .int .i64 0, .int .i64 0, .int .i64 0, .int .i64 0, .int .i64 0, .int .i64 0, .string ⟨#[]⟩, .string ⟨#[]⟩, .int .i64 0] 43 (0, 0))) := Lib.hid (alloc_at rfl)
  have HR4 := Lib.hid (row_sets12 (cs' := V9) Z2.out (by rw [HV.out]; rfl))
  have HR5 := Lib.hid ((setCells_other (g := W5.heap.size) (h := g1) (by omega) V9.toList 0 (W5.alloc (.cells #[.int .i64 0, .int .i64 0, .int .i64 0, .int .i64 0, .int .i64 0, .int .i64 0, .int .i64 0, .int .i64 0, .int .i64 0, .int .i64 0, .int .i64 0, .int .i64 0, .int .i64 0, .int .i64 0, .string ⟨#[]⟩, .string ⟨#[]⟩, .int .i64 0] 43))).trans (alloc_past HR3.out))
  have K6 := Lib.hid (KR.sets12 V9.toList 0 (K5.out.al (o := .cells #[.int .i64 0, .int .i64 0, .int .i64 0, .int .i64 0, .int .i64 0, .int .i64 0, .int .i64 0, .int .i64 0, .int .i64 0, .int .i64 0, .int .i64 0, .int .i64 0, .int .i64 0, .int .i64 0, .string ⟨#[]⟩, .string ⟨#[]⟩, .int .i64 0] 43)) (g := W5.heap.size) (by have := K5.out.le; omega))
  clear K5 HR3 hlt GE
  go_wp2_with (first | ((with_reducible refine wpAlC ?_)) | ((with_reducible refine wpRow12 W5.heap.size V9 Z2.out ?_ ?_ ?_ ?_ ?_ ?_); (rw [HV.out]; rfl); exact H1.out; rfl; rfl; (rw [HV.out]; kernel_rfl)) | ((with_reducible refine wpGet12 W5.heap.size HR4.out _ Try.underlying43 ?_ ?_ ?_ ?_); rfl; rfl; (rw [HV.out]; kernel_rfl)) | ((with_reducible refine wpGet12 g1 HR5.out _ Try.underlying43 ?_ ?_ ?_ ?_); rfl; rfl; (rw [HV.out]; kernel_rfl)))
  clear Z2 HR4 HR5
  generalize (World.setCells _ _ _ _ : World) = V1 at K6 ⊢
  refine (HQ.out _).mono ?_
  rintro e W7 ⟨rfl, hb⟩
  have K7 := K6.out.far hb rfl
  clear hb K6
  cases t
  all_goals
    go_wp2_with fail
    go_ret
    exact ⟨rfl, K7.2.2⟩
theorem newcon_core (a0 a1 a2 a3 a4 a5 : Int) (b0 b1 b2 b3 b4 b5 : Int) (p c : Int) (w : World) : Calls Try.prog 6 #[.agg #[.int .i64 a0, .int .i64 a1, .int .i64 a2, .int .i64 a3, .int .i64 a4, .int .i64 a5, .int .i64 b0, .int .i64 b1, .int .i64 b2, .int .i64 b3, .int .i64 b4, .int .i64 b5, .int .i64 p, .int .i64 c]] w fun e w' => e = .returned (.bool true) ∧ Below w.heap.size w w' := by
  obtain ⟨r0, r1, r2, r3, r4, r5, s0, s1, s2, s3, s4, s5, m, n, t, h1, h2⟩ := newcon_pair a0 a1 a2 a3 a4 a5 b0 b1 b2 b3 b4 b5 p c
  exact newcon_go a0 a1 a2 a3 a4 a5 b0 b1 b2 b3 b4 b5 p c _ (Lib.hid rfl) (Lib.hid (by simp [Value.oneCell'])) (Lib.hid (eqcon_12 r0 r1 r2 r3 r4 r5 s0 s1 s2 s3 s4 s5 m n)) t (Lib.hid h1) (Lib.hid h2) w
end Go.Proofs.Ytnkjamdpafpcpaa
