/- THE WALK of FnExactEndOf. -/
import Derived.Test.YtkbpfdmmjpmbmaaRt11
import Derived.Test.YtkbpfdmmjpmbmaaPm11
import Derived.BigQuiet
import Derived.WalkKit
import Derived.ProofKit
import Derived.OpenShut
import Derived.Lib.Hide
import Derived.WalkSpells
import Derived.Below
import Derived.BigQuiet
import Derived.LoopN
namespace Go.Proofs.Ytkbpfdmmjpmbmaa
open Go.ChangeShapes Go.WideShapes Go.ChangeAt Go.RowKit
set_option linter.unusedVariables false
theorem SK_endof {w U : World} {m0 m1 m2 m3 m4 m5 : Int} {a1 a2 : Option Addr} {k1 k2 bp lo hi p1 p2 : Nat} {z1 : List H11} {z2 : List S11} {r0 r1 r2 r3 r4 r5 : Int} {bs bt : Nat} (h : Lw w [bx bt (.cells #[.int .i64 r0, .int .i64 r1, .int .i64 r2, .int .i64 r3, .int .i64 r4, .int .i64 r5] 31 (0, 0)), bx bp (.cells #[.int .i64 m0, .int .i64 m1, .int .i64 m2, .int .i64 m3, .int .i64 m4, .int .i64 m5, .slice (some ⟨p1, 0, none⟩) z1.length z1.length, .slice (some ⟨p2, 0, none⟩) z2.length z2.length] 35 (0, 0)), pr lo hi (.slice (some ⟨p1, 0, none⟩) z1.length z1.length) (.slice (some ⟨p2, 0, none⟩) z2.length z2.length) z1 z2, bx bs (.cells #[.int .i64 r0, .int .i64 r1, .int .i64 r2, .int .i64 r3, .int .i64 r4, .int .i64 r5] 31 (0, 0)), bx w.heap.size (Obj.cells #[.int .i64 m0, .int .i64 m1, .int .i64 m2, .int .i64 m3, .int .i64 m4, .int .i64 m5, .slice a1 z1.length k1, .slice a2 z2.length k2] 28 (0, 0))] U) : U.cell? ⟨bp, 0, none⟩ = some (.int .i64 m0) ∧ U.cell? ⟨bp, 1, none⟩ = some (.int .i64 m1) ∧ U.cell? ⟨bp, 2, none⟩ = some (.int .i64 m2) ∧ U.cell? ⟨bp, 3, none⟩ = some (.int .i64 m3) ∧ U.cell? ⟨bp, 4, none⟩ = some (.int .i64 m4) ∧ U.cell? ⟨bp, 5, none⟩ = some (.int .i64 m5) ∧ U.cell? ⟨bp, 6, none⟩ = some (.slice (some ⟨p1, 0, none⟩) z1.length z1.length) ∧ U.cell? ⟨bp, 7, none⟩ = some (.slice (some ⟨p2, 0, none⟩) z2.length z2.length) ∧ U.cell? ⟨w.heap.size, 0, none⟩ = some (.int .i64 m0) ∧ U.cell? ⟨w.heap.size, 1, none⟩ = some (.int .i64 m1) ∧ U.cell? ⟨w.heap.size, 2, none⟩ = some (.int .i64 m2) ∧ U.cell? ⟨w.heap.size, 3, none⟩ = some (.int .i64 m3) ∧ U.cell? ⟨w.heap.size, 4, none⟩ = some (.int .i64 m4) ∧ U.cell? ⟨w.heap.size, 5, none⟩ = some (.int .i64 m5) ∧ U.cell? ⟨w.heap.size, 6, none⟩ = some (.slice a1 z1.length k1) ∧ U.cell? ⟨w.heap.size, 7, none⟩ = some (.slice a2 z2.length k2) ∧ Lw w [bx bt (.cells #[.int .i64 r0, .int .i64 r1, .int .i64 r2, .int .i64 r3, .int .i64 r4, .int .i64 r5] 31 (0, 0)), bx bp (.cells #[.int .i64 m0, .int .i64 m1, .int .i64 m2, .int .i64 m3, .int .i64 m4, .int .i64 m5, .slice (some ⟨p1, 0, none⟩) z1.length z1.length, .slice (some ⟨p2, 0, none⟩) z2.length z2.length] 35 (0, 0)), pr lo hi (.slice (some ⟨p1, 0, none⟩) z1.length z1.length) (.slice (some ⟨p2, 0, none⟩) z2.length z2.length) z1 z2, bx bs (.cells #[.int .i64 r0, .int .i64 r1, .int .i64 r2, .int .i64 r3, .int .i64 r4, .int .i64 r5] 31 (0, 0)), bx w.heap.size (Obj.cells #[.int .i64 m0, .int .i64 m1, .int .i64 m2, .int .i64 m3, .int .i64 m4, .int .i64 m5, .slice a1 z1.length k1, .slice a2 z2.length k2] 28 (0, 0))] U := by
  have x := fun j => h.cell (List.mem_cons_of_mem _ (List.mem_cons_self ..)) j
  have a := fun j => h.cell (List.mem_cons_of_mem _ (List.mem_cons_of_mem _ (List.mem_cons_of_mem _ (List.mem_cons_of_mem _ (List.mem_cons_self ..))))) j
  exact ⟨x 0, x 1, x 2, x 3, x 4, x 5, x 6, x 7, a 0, a 1, a 2, a 3, a 4, a 5, a 6, a 7, h⟩
theorem EX_endof {w U : World} {m0 m1 m2 m3 m4 m5 : Int} {a1 a2 : Option Addr} {k1 k2 bp lo hi p1 p2 : Nat} {z1 : List H11} {z2 : List S11} {r0 r1 r2 r3 r4 r5 : Int} {bs bt : Nat} (h : Lw w [bx bt (.cells #[.int .i64 r0, .int .i64 r1, .int .i64 r2, .int .i64 r3, .int .i64 r4, .int .i64 r5] 31 (0, 0)), bx bp (.cells #[.int .i64 m0, .int .i64 m1, .int .i64 m2, .int .i64 m3, .int .i64 m4, .int .i64 m5, .slice (some ⟨p1, 0, none⟩) z1.length z1.length, .slice (some ⟨p2, 0, none⟩) z2.length z2.length] 35 (0, 0)), pr lo hi (.slice (some ⟨p1, 0, none⟩) z1.length z1.length) (.slice (some ⟨p2, 0, none⟩) z2.length z2.length) z1 z2, bx bs (.cells #[.int .i64 r0, .int .i64 r1, .int .i64 r2, .int .i64 r3, .int .i64 r4, .int .i64 r5] 31 (0, 0)), bx w.heap.size (Obj.cells #[.int .i64 m0, .int .i64 m1, .int .i64 m2, .int .i64 m3, .int .i64 m4, .int .i64 m5, .slice a1 z1.length k1, .slice a2 z2.length k2] 28 (0, 0))] U) : Rv11 (.slice (some ⟨p1, 0, none⟩) z1.length z1.length) z1.length (hv11 z1) U ∧ Rv11 (.slice (some ⟨p2, 0, none⟩) z2.length z2.length) z2.length (sv11 z2) U :=
  ⟨Rv11.own (h.get (List.mem_cons_of_mem _ (List.mem_cons_of_mem _ (List.mem_cons_self ..)))).1, Rv11.own (h.get (List.mem_cons_of_mem _ (List.mem_cons_of_mem _ (List.mem_cons_self ..)))).2.1⟩
theorem IB_endof {w U : World} {m0 m1 m2 m3 m4 m5 : Int} {a1 a2 : Option Addr} {k1 k2 bp lo hi p1 p2 : Nat} {z1 : List H11} {z2 : List S11} {r0 r1 r2 r3 r4 r5 : Int} {bs bt : Nat} (h : Lw w [bx bt (.cells #[.int .i64 r0, .int .i64 r1, .int .i64 r2, .int .i64 r3, .int .i64 r4, .int .i64 r5] 31 (0, 0)), bx bp (.cells #[.int .i64 m0, .int .i64 m1, .int .i64 m2, .int .i64 m3, .int .i64 m4, .int .i64 m5, .slice (some ⟨p1, 0, none⟩) z1.length z1.length, .slice (some ⟨p2, 0, none⟩) z2.length z2.length] 35 (0, 0)), pr lo hi (.slice (some ⟨p1, 0, none⟩) z1.length z1.length) (.slice (some ⟨p2, 0, none⟩) z2.length z2.length) z1 z2, bx bs (.cells #[.int .i64 r0, .int .i64 r1, .int .i64 r2, .int .i64 r3, .int .i64 r4, .int .i64 r5] 31 (0, 0)), bx w.heap.size (Obj.cells #[.int .i64 m0, .int .i64 m1, .int .i64 m2, .int .i64 m3, .int .i64 m4, .int .i64 m5, .slice a1 z1.length k1, .slice a2 z2.length k2] 28 (0, 0))] U) (I : Is11 ch11 6 w a1 z1 ∧ Is11 cs11 4 w a2 z2) : Is11 ch11 6 U a1 z1 ∧ Is11 cs11 4 U a2 z2 := ⟨I.1.below h.below, I.2.below h.below⟩
set_option maxRecDepth 20000 in
set_option maxHeartbeats 4000000 in
theorem endof_core (m0 m1 m2 m3 m4 m5 : Int) (a1 : Option Addr) (k1 : Nat) (z1 : List H11) (a2 : Option Addr) (k2 : Nat) (z2 : List S11) (l0 : z1.length ≤ maxLen) (h0 : z2.length ≤ maxLen) (r0 r1 r2 r3 r4 r5 : Int) (t : Bool) (HS : (Hid (∀ (g01 c01 g02 c02 : Nat) (W : World), W.rangeAt g01 0 (hv11 z1) → W.rangeAt g02 0 (sv11 z2) → Calls Try.prog 26 #[.agg #[.int .i64 m0, .int .i64 m1, .int .i64 m2, .int .i64 m3, .int .i64 m4, .int .i64 m5, .slice (some ⟨g01, 0, none⟩) z1.length c01, .slice (some ⟨g02, 0, none⟩) z2.length c02]] W fun e w' => e = .returned (.tuple #[.agg #[.int .i64 r0, .int .i64 r1, .int .i64 r2, .int .i64 r3, .int .i64 r4, .int .i64 r5], .bool t]) ∧ Below W.heap.size W w'))) (HI : (Hid (∀ (g01 c01 g02 c02 : Nat) (W : World), W.rangeAt g01 0 (hv11 z1) → W.rangeAt g02 0 (sv11 z2) → Calls Try.prog 27 #[.agg #[.int .i64 m0, .int .i64 m1, .int .i64 m2, .int .i64 m3, .int .i64 m4, .int .i64 m5, .slice (some ⟨g01, 0, none⟩) z1.length c01, .slice (some ⟨g02, 0, none⟩) z2.length c02]] W fun e w' => e = .returned (.tuple #[.agg #[.int .i64 r0, .int .i64 r1, .int .i64 r2, .int .i64 r3, .int .i64 r4, .int .i64 r5], .bool t]) ∧ Below W.heap.size W w'))) (hz : z1.length + z2.length ≤ 1048576) (w : World) (I0 : Is11 ch11 6 w a1 z1) (J0 : Is11 cs11 4 w a2 z2) : Calls Try.prog 5 #[.agg #[.int .i64 m0, .int .i64 m1, .int .i64 m2, .int .i64 m3, .int .i64 m4, .int .i64 m5, .slice a1 z1.length k1, .slice a2 z2.length k2]] w fun e w' => e = .returned (.bool true) ∧ Below w.heap.size w w' := by
  have HZ := Lib.hid (size_plan11 m0 m1 m2 m3 m4 m5 a1 z1.length k1 a2 z2.length k2 l0 h0)
  rw [if_neg (by omega)] at HZ
  have hq : ¬ ((1048576 : Int) - ((z1.length + z2.length : Nat) : Int) < 0) := by omega
  obtain ⟨Lq, hLq⟩ : ∃ Lq : Int, Lq = 1048576 - ((z1.length + z2.length : Nat) : Int) := ⟨_, rfl⟩
  rw [← hLq] at HZ hq
  clear hLq
  have HT := Lib.hid (fun (W : World) I J => to_plan11 m0 m1 m2 m3 m4 m5 a1 k1 z1 a2 k2 z2 (by omega) (by omega) W I J)
  have HE := Lib.hid (eq_plan11 m0 m1 m2 m3 m4 m5 z1 z2 (by omega) (by omega))
  have JJ := Lib.hid (And.intro I0 J0)
  clear I0 J0 hz l0 h0
  go_enter Try.func5, Try.ntmps5
  go_wp2_with fail
  generalize hW : (World.alloc _ _ : World) = W0
  have S : Lw w [bx w.heap.size (Obj.cells #[.int .i64 m0, .int .i64 m1, .int .i64 m2, .int .i64 m3, .int .i64 m4, .int .i64 m5, .slice a1 z1.length k1, .slice a2 z2.length k2] 28 (0, 0))] W0 := by
    rw [← hW]
    exact (Lw.start w).add ((Below.refl _ _).alloc (Nat.le_refl _) _) rfl (bx w.heap.size (Obj.cells #[.int .i64 m0, .int .i64 m1, .int .i64 m2, .int .i64 m3, .int .i64 m4, .int .i64 m5, .slice a1 z1.length k1, .slice a2 z2.length k2] 28 (0, 0))) (Nat.le_refl _) (by simp [bx]) (alloc_at rfl)
  clear hW
  refine (HZ.out _).mono ?_
  rintro e W1 ⟨rfl, hb⟩
  replace S := S.far hb rfl
  clear hb HZ
  have a_c := fun j => S.cell (List.mem_cons_self ..) j
  go_wp2_with fail
  refine (HT.out _ (JJ.out.1.below S.below) (JJ.out.2.below S.below)).mono ?_
  rintro e W2 ⟨g1, g2, rfl, hp, hb⟩
  replace S := S.far hb rfl
  have R1 := own_range hp.1
  have R2 := own_range hp.2.1
  clear hb a_c hp
  go_wp2_with fail
  refine (HS.out _ _ _ _ _ R1 R2).mono ?_
  rintro e W3 ⟨rfl, hb⟩
  replace S := S.far hb rfl
  clear hb R1 R2 HS
  have a_c := fun j => (S.al (.cells #[.int .i64 r0, .int .i64 r1, .int .i64 r2, .int .i64 r3, .int .i64 r4, .int .i64 r5] 31 (0, 0))).cell (List.mem_cons_self ..) j
  go_wp2_with fail
  replace S := S.add (V := W3.alloc (.cells #[.int .i64 r0, .int .i64 r1, .int .i64 r2, .int .i64 r3, .int .i64 r4, .int .i64 r5] 31 (0, 0))) ((Below.refl _ _).alloc (Nat.le_refl _) _) rfl (bx W3.heap.size (.cells #[.int .i64 r0, .int .i64 r1, .int .i64 r2, .int .i64 r3, .int .i64 r4, .int .i64 r5] 31 (0, 0))) (Nat.le_refl _) (by simp [bx]) (alloc_at rfl)
  clear a_c
  generalize hbs : W3.heap.size = bs at S ⊢
  clear hbs
  generalize (World.alloc _ _ : World) = W4 at S ⊢
  refine (HT.out _ (JJ.out.1.below S.below) (JJ.out.2.below S.below)).mono ?_
  rintro e W5 ⟨p1, p2, rfl, hp, hb⟩
  replace S := S.add hb rfl (pr W4.heap.size W5.heap.size _ _ z1 z2) (Nat.le_refl _) (Nat.le_refl _) hp
  clear hb hp
  obtain ⟨lo, hlo⟩ : ∃ lo, lo = W4.heap.size := ⟨_, rfl⟩
  rw [← hlo] at S
  clear hlo
  obtain ⟨hi, hhi⟩ : ∃ hi, hi = W5.heap.size := ⟨_, rfl⟩
  rw [← hhi] at S
  clear hhi
  have a_c := fun j => S.cell (List.mem_cons_of_mem _ (List.mem_cons_of_mem _ (List.mem_cons_self ..))) j
  go_wp2_with fail
  replace S := S.add (V := W5.alloc (.cells #[.int .i64 m0, .int .i64 m1, .int .i64 m2, .int .i64 m3, .int .i64 m4, .int .i64 m5, .slice (some ⟨p1, 0, none⟩) z1.length z1.length, .slice (some ⟨p2, 0, none⟩) z2.length z2.length] 35 (0, 0))) ((Below.refl _ _).alloc (Nat.le_refl _) _) rfl (bx W5.heap.size (.cells #[.int .i64 m0, .int .i64 m1, .int .i64 m2, .int .i64 m3, .int .i64 m4, .int .i64 m5, .slice (some ⟨p1, 0, none⟩) z1.length z1.length, .slice (some ⟨p2, 0, none⟩) z2.length z2.length] 35 (0, 0))) (Nat.le_refl _) (by simp [bx]) (alloc_at rfl)
  clear a_c
  generalize hbp : W5.heap.size = bp at S ⊢
  clear hbp
  generalize (World.alloc _ _ : World) = W6 at S ⊢
  have x_c := fun j => S.cell (List.mem_cons_self ..) j
  have a_c := fun j => S.cell (List.mem_cons_of_mem _ (List.mem_cons_of_mem _ (List.mem_cons_of_mem _ (List.mem_cons_self ..)))) j
  go_wp2_with fail
  refine (HI.out _ _ _ _ _ (own_range (S.get (List.mem_cons_of_mem _ (List.mem_cons_self ..))).1) (own_range (S.get (List.mem_cons_of_mem _ (List.mem_cons_self ..))).2.1)).mono ?_
  rintro e W7 ⟨rfl, hb⟩
  replace S := S.far hb rfl
  clear hb HI x_c a_c
  have HQ := Lib.hid (eq_same r0 r1 r2 r3 r4 r5)
  have s_c := fun j => (S.al (.cells #[.int .i64 r0, .int .i64 r1, .int .i64 r2, .int .i64 r3, .int .i64 r4, .int .i64 r5] 31 (0, 0))).cell (List.mem_cons_of_mem _ (List.mem_cons_of_mem _ (List.mem_cons_self ..))) j
  go_wp2_with fail
  replace S := S.add (V := W7.alloc (.cells #[.int .i64 r0, .int .i64 r1, .int .i64 r2, .int .i64 r3, .int .i64 r4, .int .i64 r5] 31 (0, 0))) ((Below.refl _ _).alloc (Nat.le_refl _) _) rfl (bx W7.heap.size (.cells #[.int .i64 r0, .int .i64 r1, .int .i64 r2, .int .i64 r3, .int .i64 r4, .int .i64 r5] 31 (0, 0))) (Nat.le_refl _) (by simp [bx]) (alloc_at rfl)
  clear s_c
  generalize hbt : W7.heap.size = bt at S ⊢
  clear hbt
  generalize (World.alloc _ _ : World) = W8 at S ⊢
  refine (HQ.out _).mono ?_
  rintro e W9 ⟨rfl, hb⟩
  replace S := S.far hb rfl
  clear hb HQ
  cases t
  all_goals
    go_wp2_with fail
    go_region_held3 (fun U => U.cell? ⟨bp, 0, none⟩ = some (.int .i64 m0) ∧ U.cell? ⟨bp, 1, none⟩ = some (.int .i64 m1) ∧ U.cell? ⟨bp, 2, none⟩ = some (.int .i64 m2) ∧ U.cell? ⟨bp, 3, none⟩ = some (.int .i64 m3) ∧ U.cell? ⟨bp, 4, none⟩ = some (.int .i64 m4) ∧ U.cell? ⟨bp, 5, none⟩ = some (.int .i64 m5) ∧ U.cell? ⟨bp, 6, none⟩ = some (.slice (some ⟨p1, 0, none⟩) z1.length z1.length) ∧ U.cell? ⟨bp, 7, none⟩ = some (.slice (some ⟨p2, 0, none⟩) z2.length z2.length) ∧ U.cell? ⟨w.heap.size, 0, none⟩ = some (.int .i64 m0) ∧ U.cell? ⟨w.heap.size, 1, none⟩ = some (.int .i64 m1) ∧ U.cell? ⟨w.heap.size, 2, none⟩ = some (.int .i64 m2) ∧ U.cell? ⟨w.heap.size, 3, none⟩ = some (.int .i64 m3) ∧ U.cell? ⟨w.heap.size, 4, none⟩ = some (.int .i64 m4) ∧ U.cell? ⟨w.heap.size, 5, none⟩ = some (.int .i64 m5) ∧ U.cell? ⟨w.heap.size, 6, none⟩ = some (.slice a1 z1.length k1) ∧ U.cell? ⟨w.heap.size, 7, none⟩ = some (.slice a2 z2.length k2) ∧ Lw w [bx bt (.cells #[.int .i64 r0, .int .i64 r1, .int .i64 r2, .int .i64 r3, .int .i64 r4, .int .i64 r5] 31 (0, 0)), bx bp (.cells #[.int .i64 m0, .int .i64 m1, .int .i64 m2, .int .i64 m3, .int .i64 m4, .int .i64 m5, .slice (some ⟨p1, 0, none⟩) z1.length z1.length, .slice (some ⟨p2, 0, none⟩) z2.length z2.length] 35 (0, 0)), pr lo hi (.slice (some ⟨p1, 0, none⟩) z1.length z1.length) (.slice (some ⟨p2, 0, none⟩) z2.length z2.length) z1 z2, bx bs (.cells #[.int .i64 r0, .int .i64 r1, .int .i64 r2, .int .i64 r3, .int .i64 r4, .int .i64 r5] 31 (0, 0)), bx w.heap.size (Obj.cells #[.int .i64 m0, .int .i64 m1, .int .i64 m2, .int .i64 m3, .int .i64 m4, .int .i64 m5, .slice a1 z1.length k1, .slice a2 z2.length k2] 28 (0, 0))] U) (with_reducible refine SK_endof ?_; (repeat (first | with_reducible assumption | with_reducible refine Lw.drew ?_))) (first | (go_at_call 20; with_reducible refine (HT.out _ (IB_endof (by (repeat (first | with_reducible assumption | with_reducible refine Lw.drew ?_))) JJ.out).1 (IB_endof (by (repeat (first | with_reducible assumption | with_reducible refine Lw.drew ?_))) JJ.out).2).mono ?_; rintro e w' hpp; obtain ⟨q1, q2, rfl, hp', hb'⟩ := PP11.get hpp; have S : Lw w [bx bt (.cells #[.int .i64 r0, .int .i64 r1, .int .i64 r2, .int .i64 r3, .int .i64 r4, .int .i64 r5] 31 (0, 0)), bx bp (.cells #[.int .i64 m0, .int .i64 m1, .int .i64 m2, .int .i64 m3, .int .i64 m4, .int .i64 m5, .slice (some ⟨p1, 0, none⟩) z1.length z1.length, .slice (some ⟨p2, 0, none⟩) z2.length z2.length] 35 (0, 0)), pr lo hi (.slice (some ⟨p1, 0, none⟩) z1.length z1.length) (.slice (some ⟨p2, 0, none⟩) z2.length z2.length) z1 z2, bx bs (.cells #[.int .i64 r0, .int .i64 r1, .int .i64 r2, .int .i64 r3, .int .i64 r4, .int .i64 r5] 31 (0, 0)), bx w.heap.size (Obj.cells #[.int .i64 m0, .int .i64 m1, .int .i64 m2, .int .i64 m3, .int .i64 m4, .int .i64 m5, .slice a1 z1.length k1, .slice a2 z2.length k2] 28 (0, 0))] w' := Lw.far (by (repeat (first | with_reducible assumption | with_reducible refine Lw.drew ?_))) hb' rfl; have V1 := Lib.hid (Rv11.own (Pr11.o1 hp')); have V2 := Lib.hid (Rv11.own (Pr11.o2 hp'))) | (go_at_call 22; with_reducible refine (HE.out _ _ _ _ _ (EX_endof (by (repeat (first | with_reducible assumption | with_reducible refine Lw.drew ?_)))).1 (EX_endof (by (repeat (first | with_reducible assumption | with_reducible refine Lw.drew ?_)))).2 (by first | with_reducible exact V1.out | with_reducible exact Rv11.drew V1.out) (by first | with_reducible exact V2.out | with_reducible exact Rv11.drew V2.out)).mono ?_; rintro e w' ⟨rfl, hb'⟩; have S : Lw w [bx bt (.cells #[.int .i64 r0, .int .i64 r1, .int .i64 r2, .int .i64 r3, .int .i64 r4, .int .i64 r5] 31 (0, 0)), bx bp (.cells #[.int .i64 m0, .int .i64 m1, .int .i64 m2, .int .i64 m3, .int .i64 m4, .int .i64 m5, .slice (some ⟨p1, 0, none⟩) z1.length z1.length, .slice (some ⟨p2, 0, none⟩) z2.length z2.length] 35 (0, 0)), pr lo hi (.slice (some ⟨p1, 0, none⟩) z1.length z1.length) (.slice (some ⟨p2, 0, none⟩) z2.length z2.length) z1 z2, bx bs (.cells #[.int .i64 r0, .int .i64 r1, .int .i64 r2, .int .i64 r3, .int .i64 r4, .int .i64 r5] 31 (0, 0)), bx w.heap.size (Obj.cells #[.int .i64 m0, .int .i64 m1, .int .i64 m2, .int .i64 m3, .int .i64 m4, .int .i64 m5, .slice a1 z1.length k1, .slice a2 z2.length k2] 28 (0, 0))] w' := Lw.far (by (repeat (first | with_reducible assumption | with_reducible refine Lw.drew ?_))) hb' rfl))
    all_goals
      go_wp2_with fail
      go_ret
      exact ⟨rfl, S.below⟩
set_option maxRecDepth 20000 in
set_option maxHeartbeats 1000000 in
theorem endof_big (m0 m1 m2 m3 m4 m5 : Int) (a1 : Option Addr) (k1 : Nat) (z1 : List H11) (a2 : Option Addr) (k2 : Nat) (z2 : List S11) (l0 : z1.length ≤ maxLen) (h0 : z2.length ≤ maxLen) (hz : ¬ (z1.length + z2.length ≤ 1048576)) (w : World) : Calls Try.prog 5 #[.agg #[.int .i64 m0, .int .i64 m1, .int .i64 m2, .int .i64 m3, .int .i64 m4, .int .i64 m5, .slice a1 z1.length k1, .slice a2 z2.length k2]] w fun e w' => e = .returned (.bool true) ∧ Below w.heap.size w w' := by
  have HZ := Lib.hid (size_plan11 m0 m1 m2 m3 m4 m5 a1 z1.length k1 a2 z2.length k2 l0 h0)
  rw [if_pos (by omega)] at HZ
  clear hz l0 h0
  go_enter Try.func5, Try.ntmps5
  go_wp2_with fail
  generalize hW : (World.alloc _ _ : World) = W0
  have hB : Below w.heap.size w W0 := by rw [← hW]; (repeat (first | exact Below.refl _ _ | assumption | refine Below.setCell ?_ (by first | (simp; done) | (simp; omega)) _ | refine Below.alloc ?_ (by first | (simp; done) | (simp; omega)) _ | refine Below.drew ?_))
  clear hW
  refine (HZ.out _).mono ?_
  rintro e W1 ⟨rfl, hb⟩
  have hB1 := below_of hB hb (by have := hB.size; omega)
  clear hb hB
  go_wp2_with fail
  go_ret
  exact ⟨rfl, hB1⟩
theorem endof_law (m0 m1 m2 m3 m4 m5 : Int) (a1 : Option Addr) (k1 : Nat) (z1 : List H11) (a2 : Option Addr) (k2 : Nat) (z2 : List S11) (l0 : z1.length ≤ maxLen) (h0 : z2.length ≤ maxLen) (hwf : ∀ p ∈ z2, (Lit.int .i64 p.x).wf = true ∧ (Lit.int .i64 p.y).wf = true) (w : World) (I0 : Is11 ch11 6 w a1 z1) (J0 : Is11 cs11 4 w a2 z2) : Calls Try.prog 5 #[.agg #[.int .i64 m0, .int .i64 m1, .int .i64 m2, .int .i64 m3, .int .i64 m4, .int .i64 m5, .slice a1 z1.length k1, .slice a2 z2.length k2]] w fun e w' => e = .returned (.bool true) ∧ Below w.heap.size w w' := by
  by_cases hz : z1.length + z2.length ≤ 1048576
  · obtain ⟨r0, r1, r2, r3, r4, r5, t, h1, h2⟩ := endof_pair m0 m1 m2 m3 m4 m5 z1 z2 (by omega) (by omega) hwf
    exact endof_core m0 m1 m2 m3 m4 m5 a1 k1 z1 a2 k2 z2 l0 h0 r0 r1 r2 r3 r4 r5 t (Lib.hid h1) (Lib.hid h2) hz w I0 J0
  · exact endof_big m0 m1 m2 m3 m4 m5 a1 k1 z1 a2 k2 z2 l0 h0 hz w
end Go.Proofs.Ytkbpfdmmjpmbmaa
