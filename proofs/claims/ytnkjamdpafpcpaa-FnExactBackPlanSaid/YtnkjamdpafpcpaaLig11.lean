/- THE WALK of FnExactBackPlan. -/
import Derived.Test.YtnkjamdpafpcpaaMe11
import Derived.Test.YtnkjamdpafpcpaaRd11
import Derived.BigQuiet
import Derived.WalkKit
import Derived.ProofKit
import Derived.OpenShut
import Derived.Lib.Hide
import Derived.WalkSpells
import Derived.Below
import Derived.BigQuiet
import Derived.LoopN
namespace Go.Proofs.Ytnkjamdpafpcpaa
open Go.ChangeShapes Go.WideShapes Go.ChangeAt Go.RowKit
set_option linter.unusedVariables false

theorem SK_back {w U : World} {m0 m1 m2 m3 m4 m5 r0 r1 r2 r3 r4 r5 : Int} {a1 a2 : Option Addr} {k1 k2 lo0 hi0 lo1 hi1 lo2 hi2 bw bp bg p1 p2 : Nat} {wv1 wv2 gv1 gv2 : Value} {z1 l' : List H11} {z2 st' : List S11} (h : Lw w [bx bg (Obj.cells #[.int .i64 r0, .int .i64 r1, .int .i64 r2, .int .i64 r3, .int .i64 r4, .int .i64 r5, gv1, gv2] 62 (0, 0)), pr lo2 hi2 gv1 gv2 l' st', bx bp (Obj.cells #[.int .i64 m0, .int .i64 m1, .int .i64 m2, .int .i64 m3, .int .i64 m4, .int .i64 m5, .slice (some ⟨p1, 0, none⟩) z1.length z1.length, .slice (some ⟨p2, 0, none⟩) z2.length z2.length] 62 (0, 0)), pr lo1 hi1 (.slice (some ⟨p1, 0, none⟩) z1.length z1.length) (.slice (some ⟨p2, 0, none⟩) z2.length z2.length) z1 z2, bx bw (Obj.cells #[.int .i64 r0, .int .i64 r1, .int .i64 r2, .int .i64 r3, .int .i64 r4, .int .i64 r5, wv1, wv2] 62 (0, 0)), pr lo0 hi0 wv1 wv2 l' st', bx w.heap.size (Obj.cells #[.int .i64 m0, .int .i64 m1, .int .i64 m2, .int .i64 m3, .int .i64 m4, .int .i64 m5, .slice a1 z1.length k1, .slice a2 z2.length k2] 57 (0, 0))] U) : U.cell? ⟨bp, 0, none⟩ = some (.int .i64 m0) ∧ U.cell? ⟨bp, 1, none⟩ = some (.int .i64 m1) ∧ U.cell? ⟨bp, 2, none⟩ = some (.int .i64 m2) ∧ U.cell? ⟨bp, 3, none⟩ = some (.int .i64 m3) ∧ U.cell? ⟨bp, 4, none⟩ = some (.int .i64 m4) ∧ U.cell? ⟨bp, 5, none⟩ = some (.int .i64 m5) ∧ U.cell? ⟨bp, 6, none⟩ = some (.slice (some ⟨p1, 0, none⟩) z1.length z1.length) ∧ U.cell? ⟨bp, 7, none⟩ = some (.slice (some ⟨p2, 0, none⟩) z2.length z2.length) ∧ U.cell? ⟨w.heap.size, 0, none⟩ = some (.int .i64 m0) ∧ U.cell? ⟨w.heap.size, 1, none⟩ = some (.int .i64 m1) ∧ U.cell? ⟨w.heap.size, 2, none⟩ = some (.int .i64 m2) ∧ U.cell? ⟨w.heap.size, 3, none⟩ = some (.int .i64 m3) ∧ U.cell? ⟨w.heap.size, 4, none⟩ = some (.int .i64 m4) ∧ U.cell? ⟨w.heap.size, 5, none⟩ = some (.int .i64 m5) ∧ U.cell? ⟨w.heap.size, 6, none⟩ = some (.slice a1 z1.length k1) ∧ U.cell? ⟨w.heap.size, 7, none⟩ = some (.slice a2 z2.length k2) ∧ Lw w [bx bg (Obj.cells #[.int .i64 r0, .int .i64 r1, .int .i64 r2, .int .i64 r3, .int .i64 r4, .int .i64 r5, gv1, gv2] 62 (0, 0)), pr lo2 hi2 gv1 gv2 l' st', bx bp (Obj.cells #[.int .i64 m0, .int .i64 m1, .int .i64 m2, .int .i64 m3, .int .i64 m4, .int .i64 m5, .slice (some ⟨p1, 0, none⟩) z1.length z1.length, .slice (some ⟨p2, 0, none⟩) z2.length z2.length] 62 (0, 0)), pr lo1 hi1 (.slice (some ⟨p1, 0, none⟩) z1.length z1.length) (.slice (some ⟨p2, 0, none⟩) z2.length z2.length) z1 z2, bx bw (Obj.cells #[.int .i64 r0, .int .i64 r1, .int .i64 r2, .int .i64 r3, .int .i64 r4, .int .i64 r5, wv1, wv2] 62 (0, 0)), pr lo0 hi0 wv1 wv2 l' st', bx w.heap.size (Obj.cells #[.int .i64 m0, .int .i64 m1, .int .i64 m2, .int .i64 m3, .int .i64 m4, .int .i64 m5, .slice a1 z1.length k1, .slice a2 z2.length k2] 57 (0, 0))] U := by
  have x := fun j => h.cell (List.mem_cons_of_mem _ (List.mem_cons_of_mem _ (List.mem_cons_self ..))) j
  have a := fun j => h.cell (List.mem_cons_of_mem _ (List.mem_cons_of_mem _ (List.mem_cons_of_mem _ (List.mem_cons_of_mem _ (List.mem_cons_of_mem _ (List.mem_cons_of_mem _ (List.mem_cons_self ..))))))) j
  exact ⟨x 0, x 1, x 2, x 3, x 4, x 5, x 6, x 7, a 0, a 1, a 2, a 3, a 4, a 5, a 6, a 7, h⟩
theorem EX_back {w U : World} {m0 m1 m2 m3 m4 m5 r0 r1 r2 r3 r4 r5 : Int} {a1 a2 : Option Addr} {k1 k2 lo0 hi0 lo1 hi1 lo2 hi2 bw bp bg p1 p2 : Nat} {wv1 wv2 gv1 gv2 : Value} {z1 l' : List H11} {z2 st' : List S11} (h : Lw w [bx bg (Obj.cells #[.int .i64 r0, .int .i64 r1, .int .i64 r2, .int .i64 r3, .int .i64 r4, .int .i64 r5, gv1, gv2] 62 (0, 0)), pr lo2 hi2 gv1 gv2 l' st', bx bp (Obj.cells #[.int .i64 m0, .int .i64 m1, .int .i64 m2, .int .i64 m3, .int .i64 m4, .int .i64 m5, .slice (some ⟨p1, 0, none⟩) z1.length z1.length, .slice (some ⟨p2, 0, none⟩) z2.length z2.length] 62 (0, 0)), pr lo1 hi1 (.slice (some ⟨p1, 0, none⟩) z1.length z1.length) (.slice (some ⟨p2, 0, none⟩) z2.length z2.length) z1 z2, bx bw (Obj.cells #[.int .i64 r0, .int .i64 r1, .int .i64 r2, .int .i64 r3, .int .i64 r4, .int .i64 r5, wv1, wv2] 62 (0, 0)), pr lo0 hi0 wv1 wv2 l' st', bx w.heap.size (Obj.cells #[.int .i64 m0, .int .i64 m1, .int .i64 m2, .int .i64 m3, .int .i64 m4, .int .i64 m5, .slice a1 z1.length k1, .slice a2 z2.length k2] 57 (0, 0))] U) : Rv11 (.slice (some ⟨p1, 0, none⟩) z1.length z1.length) z1.length (hv11 z1) U ∧ Rv11 (.slice (some ⟨p2, 0, none⟩) z2.length z2.length) z2.length (sv11 z2) U := ⟨Rv11.own (h.get (List.mem_cons_of_mem _ (List.mem_cons_of_mem _ (List.mem_cons_of_mem _ (List.mem_cons_self ..))))).1, Rv11.own (h.get (List.mem_cons_of_mem _ (List.mem_cons_of_mem _ (List.mem_cons_of_mem _ (List.mem_cons_self ..))))).2.1⟩
theorem IB_back {w U : World} {m0 m1 m2 m3 m4 m5 r0 r1 r2 r3 r4 r5 : Int} {a1 a2 : Option Addr} {k1 k2 lo0 hi0 lo1 hi1 lo2 hi2 bw bp bg p1 p2 : Nat} {wv1 wv2 gv1 gv2 : Value} {z1 l' : List H11} {z2 st' : List S11} (h : Lw w [bx bg (Obj.cells #[.int .i64 r0, .int .i64 r1, .int .i64 r2, .int .i64 r3, .int .i64 r4, .int .i64 r5, gv1, gv2] 62 (0, 0)), pr lo2 hi2 gv1 gv2 l' st', bx bp (Obj.cells #[.int .i64 m0, .int .i64 m1, .int .i64 m2, .int .i64 m3, .int .i64 m4, .int .i64 m5, .slice (some ⟨p1, 0, none⟩) z1.length z1.length, .slice (some ⟨p2, 0, none⟩) z2.length z2.length] 62 (0, 0)), pr lo1 hi1 (.slice (some ⟨p1, 0, none⟩) z1.length z1.length) (.slice (some ⟨p2, 0, none⟩) z2.length z2.length) z1 z2, bx bw (Obj.cells #[.int .i64 r0, .int .i64 r1, .int .i64 r2, .int .i64 r3, .int .i64 r4, .int .i64 r5, wv1, wv2] 62 (0, 0)), pr lo0 hi0 wv1 wv2 l' st', bx w.heap.size (Obj.cells #[.int .i64 m0, .int .i64 m1, .int .i64 m2, .int .i64 m3, .int .i64 m4, .int .i64 m5, .slice a1 z1.length k1, .slice a2 z2.length k2] 57 (0, 0))] U) (I : Is11 ch11 6 w a1 z1 ∧ Is11 cs11 4 w a2 z2) : Is11 ch11 6 U a1 z1 ∧ Is11 cs11 4 U a2 z2 := ⟨I.1.below h.below, I.2.below h.below⟩
set_option maxRecDepth 20000 in
set_option maxHeartbeats 8000000 in
theorem back_core (m0 m1 m2 m3 m4 m5 : Int) (a1 : Option Addr) (k1 : Nat) (z1 : List H11) (a2 : Option Addr) (k2 : Nat) (z2 : List S11) (l0 : z1.length ≤ maxLen) (h0 : z2.length ≤ maxLen) (r0 r1 r2 r3 r4 r5 : Int) (l' : List H11) (st' : List S11) (t : Bool) (hl' : l'.length ≤ 1000) (hst' : st'.length ≤ 1000) (HS : (Hid (∀ (g1 c1 g2 c2 : Nat) (W : World), z2.length ≤ c2 → W.rangeAt g1 0 (hv11 z1) → W.rangeAt g2 0 (sv11 z2) → Calls Try.prog 41 #[.agg #[.int .i64 m0, .int .i64 m1, .int .i64 m2, .int .i64 m3, .int .i64 m4, .int .i64 m5, .slice (some ⟨g1, 0, none⟩) z1.length c1, .slice (some ⟨g2, 0, none⟩) z2.length c2]] W (TP11 r0 r1 r2 r3 r4 r5 l' st' t W)))) (HI : (Hid (∀ (g1 c1 g2 c2 : Nat) (W : World), z2.length ≤ c2 → W.rangeAt g1 0 (hv11 z1) → W.rangeAt g2 0 (sv11 z2) → Calls Try.prog 42 #[.agg #[.int .i64 m0, .int .i64 m1, .int .i64 m2, .int .i64 m3, .int .i64 m4, .int .i64 m5, .slice (some ⟨g1, 0, none⟩) z1.length c1, .slice (some ⟨g2, 0, none⟩) z2.length c2]] W (TP11 r0 r1 r2 r3 r4 r5 l' st' t W)))) (hz : z1.length + z2.length ≤ 1048576) (w : World) (I0 : Is11 ch11 6 w a1 z1) (J0 : Is11 cs11 4 w a2 z2) : Calls Try.prog 9 #[.agg #[.int .i64 m0, .int .i64 m1, .int .i64 m2, .int .i64 m3, .int .i64 m4, .int .i64 m5, .slice a1 z1.length k1, .slice a2 z2.length k2]] w fun e w' => e = .returned (.bool true) ∧ Below w.heap.size w w' := by
  have HZ := Lib.hid (size_plan11 m0 m1 m2 m3 m4 m5 a1 z1.length k1 a2 z2.length k2 l0 h0)
  rw [if_neg (by omega)] at HZ
  have hq : ¬ ((1048576 : Int) - ((z1.length + z2.length : Nat) : Int) < 0) := by omega
  obtain ⟨Lq, hLq⟩ : ∃ Lq : Int, Lq = 1048576 - ((z1.length + z2.length : Nat) : Int) := ⟨_, rfl⟩
  rw [← hLq] at HZ hq
  clear hLq
  have HT := Lib.hid (fun (W : World) I J => to_plan11 m0 m1 m2 m3 m4 m5 a1 k1 z1 a2 k2 z2 (by omega) (by omega) W I J)
  have HE := Lib.hid (eq_plan11 m0 m1 m2 m3 m4 m5 z1 z2 (by omega) (by omega))
  have HEr := Lib.hid (eq_plan11 r0 r1 r2 r3 r4 r5 l' st' (by omega) (by omega))
  have HM := Lib.hid (fun v1 v2 lo hi (W : World) a b => mark_plan11 m0 m1 m2 m3 m4 m5 v1 v2 z1 z2 lo hi hz W a b)
  have HMr := Lib.hid (fun v1 v2 lo hi (W : World) a b => mark_plan11 r0 r1 r2 r3 r4 r5 v1 v2 l' st' lo hi (by omega) W a b)
  have HHr := Lib.hid (fun v1 v2 lo hi (W : World) a b => held_plan11 r0 r1 r2 r3 r4 r5 v1 v2 l' st' lo hi (by omega) W a b)
  obtain ⟨M1, hM1⟩ : ∃ M : Int, M = 1 + ((z1.length * 6 : Nat) : Int) + ((z2.length * 4 : Nat) : Int) := ⟨_, rfl⟩
  rw [← hM1] at HM
  have hm1 : ¬ M1 < 0 := by omega
  clear hM1
  obtain ⟨M2, hM2⟩ : ∃ M : Int, M = 1 + ((l'.length * 6 : Nat) : Int) + ((st'.length * 4 : Nat) : Int) := ⟨_, rfl⟩
  rw [← hM2] at HMr HHr
  have hm2 : ¬ M2 < 0 := by omega
  clear hM2
  have JJ := Lib.hid (And.intro I0 J0)
  clear I0 J0 hz l0 h0 hl' hst'
  go_enter Try.func9, Try.ntmps9
  go_wp2_with fail
  generalize hW : (World.alloc _ _ : World) = W0
  have S : Lw w [bx w.heap.size (Obj.cells #[.int .i64 m0, .int .i64 m1, .int .i64 m2, .int .i64 m3, .int .i64 m4, .int .i64 m5, .slice a1 z1.length k1, .slice a2 z2.length k2] 57 (0, 0))] W0 := by
    rw [← hW]
    exact (Lw.start w).add ((Below.refl _ _).alloc (Nat.le_refl _) _) rfl (bx w.heap.size (Obj.cells #[.int .i64 m0, .int .i64 m1, .int .i64 m2, .int .i64 m3, .int .i64 m4, .int .i64 m5, .slice a1 z1.length k1, .slice a2 z2.length k2] 57 (0, 0))) (Nat.le_refl _) (by simp [bx]) (alloc_at rfl)
  clear hW
  refine (HZ.out _).mono ?_
  rintro e X1 ⟨rfl, hb⟩
  replace S := S.far hb rfl
  clear hb
  clear HZ
  have a_c := fun j => S.cell (List.mem_cons_self ..) j
  go_wp2_with fail
  refine (HT.out _ (JJ.out.1.below S.below) (JJ.out.2.below S.below)).mono ?_
  rintro e X2 ⟨g1, g2, rfl, hp, hb⟩
  have R1 := own_range hp.1
  have R2 := own_range hp.2.1
  clear hp a_c
  replace S := S.far hb rfl
  clear hb
  go_wp2_with fail
  refine (HS.out _ _ _ _ _ (Nat.le_refl _) R1 R2).mono ?_
  rintro e X3 ⟨wv1, wv2, rfl, hp, hb⟩
  have wvo1 := st_one11 (own_one11 hp.1)
  have wvo2 := st_one11 (own_one11 hp.2.1)
  clear R1 R2 HS
  replace S := S.add hb rfl (pr X2.heap.size X3.heap.size _ _ l' st') (Nat.le_refl _) (Nat.le_refl _) hp
  clear hb hp
  obtain ⟨lo0, hlo⟩ : ∃ lo, lo = X2.heap.size := ⟨_, rfl⟩
  rw [← hlo] at S
  clear hlo
  obtain ⟨hi0, hhi⟩ : ∃ hi, hi = X3.heap.size := ⟨_, rfl⟩
  rw [← hhi] at S
  clear hhi
  have a_c := fun j => (S.al (Obj.cells #[.int .i64 r0, .int .i64 r1, .int .i64 r2, .int .i64 r3, .int .i64 r4, .int .i64 r5, wv1, wv2] 62 (0, 0))).cell (List.mem_cons_of_mem _ (List.mem_cons_self ..)) j
  go_wp2_with fail
  replace S := S.add (V := X3.alloc (Obj.cells #[.int .i64 r0, .int .i64 r1, .int .i64 r2, .int .i64 r3, .int .i64 r4, .int .i64 r5, wv1, wv2] 62 (0, 0))) ((Below.refl _ _).alloc (Nat.le_refl _) _) rfl (bx X3.heap.size (Obj.cells #[.int .i64 r0, .int .i64 r1, .int .i64 r2, .int .i64 r3, .int .i64 r4, .int .i64 r5, wv1, wv2] 62 (0, 0))) (Nat.le_refl _) (by simp [bx]) (alloc_at rfl)
  clear a_c
  generalize hbb : X3.heap.size = bw at S ⊢
  clear hbb
  generalize (World.alloc _ _ : World) = Y0 at S ⊢
  refine (HT.out _ (JJ.out.1.below S.below) (JJ.out.2.below S.below)).mono ?_
  rintro e X4 ⟨p1, p2, rfl, hp, hb⟩
  replace S := S.add hb rfl (pr Y0.heap.size X4.heap.size _ _ z1 z2) (Nat.le_refl _) (Nat.le_refl _) hp
  clear hb hp
  obtain ⟨lo1, hlo⟩ : ∃ lo, lo = Y0.heap.size := ⟨_, rfl⟩
  rw [← hlo] at S
  clear hlo
  obtain ⟨hi1, hhi⟩ : ∃ hi, hi = X4.heap.size := ⟨_, rfl⟩
  rw [← hhi] at S
  clear hhi
  go_wp2_with fail
  replace S := S.add (V := X4.alloc (Obj.cells #[.int .i64 m0, .int .i64 m1, .int .i64 m2, .int .i64 m3, .int .i64 m4, .int .i64 m5, .slice (some ⟨p1, 0, none⟩) z1.length z1.length, .slice (some ⟨p2, 0, none⟩) z2.length z2.length] 62 (0, 0))) ((Below.refl _ _).alloc (Nat.le_refl _) _) rfl (bx X4.heap.size (Obj.cells #[.int .i64 m0, .int .i64 m1, .int .i64 m2, .int .i64 m3, .int .i64 m4, .int .i64 m5, .slice (some ⟨p1, 0, none⟩) z1.length z1.length, .slice (some ⟨p2, 0, none⟩) z2.length z2.length] 62 (0, 0))) (Nat.le_refl _) (by simp [bx]) (alloc_at rfl)
  generalize hbb : X4.heap.size = bp at S ⊢
  clear hbb
  generalize (World.alloc _ _ : World) = Y1 at S ⊢
  refine (HI.out _ _ _ _ _ (Nat.le_refl _) (own_range (S.get (List.mem_cons_of_mem _ (List.mem_cons_self ..))).1) (own_range (S.get (List.mem_cons_of_mem _ (List.mem_cons_self ..))).2.1)).mono ?_
  rintro e X5 ⟨gv1, gv2, rfl, hp, hb⟩
  have gvo1 := st_one11 (own_one11 hp.1)
  have gvo2 := st_one11 (own_one11 hp.2.1)
  replace S := S.add hb rfl (pr Y1.heap.size X5.heap.size _ _ l' st') (Nat.le_refl _) (Nat.le_refl _) hp
  clear hb hp
  obtain ⟨lo2, hlo⟩ : ∃ lo, lo = Y1.heap.size := ⟨_, rfl⟩
  rw [← hlo] at S
  clear hlo
  obtain ⟨hi2, hhi⟩ : ∃ hi, hi = X5.heap.size := ⟨_, rfl⟩
  rw [← hhi] at S
  clear hhi
  have w_c := fun j => (S.al (Obj.cells #[.int .i64 r0, .int .i64 r1, .int .i64 r2, .int .i64 r3, .int .i64 r4, .int .i64 r5, gv1, gv2] 62 (0, 0))).cell (List.mem_cons_of_mem _ (List.mem_cons_of_mem _ (List.mem_cons_of_mem _ (List.mem_cons_self ..)))) j
  go_wp2_with fail
  replace S := S.add (V := X5.alloc (Obj.cells #[.int .i64 r0, .int .i64 r1, .int .i64 r2, .int .i64 r3, .int .i64 r4, .int .i64 r5, gv1, gv2] 62 (0, 0))) ((Below.refl _ _).alloc (Nat.le_refl _) _) rfl (bx X5.heap.size (Obj.cells #[.int .i64 r0, .int .i64 r1, .int .i64 r2, .int .i64 r3, .int .i64 r4, .int .i64 r5, gv1, gv2] 62 (0, 0))) (Nat.le_refl _) (by simp [bx]) (alloc_at rfl)
  clear w_c
  generalize hbb : X5.heap.size = bg at S ⊢
  clear hbb
  generalize (World.alloc _ _ : World) = Y2 at S ⊢
  refine (HEr.out _ _ _ _ _ (Rv11.own (S.get (List.mem_cons_of_mem _ (List.mem_cons_self ..))).1) (Rv11.own (S.get (List.mem_cons_of_mem _ (List.mem_cons_self ..))).2.1) (Rv11.own (S.get (List.mem_cons_of_mem _ (List.mem_cons_of_mem _ (List.mem_cons_of_mem _ (List.mem_cons_of_mem _ (List.mem_cons_of_mem _ (List.mem_cons_self ..))))))).1) (Rv11.own (S.get (List.mem_cons_of_mem _ (List.mem_cons_of_mem _ (List.mem_cons_of_mem _ (List.mem_cons_of_mem _ (List.mem_cons_of_mem _ (List.mem_cons_self ..))))))).2.1)).mono ?_
  rintro e X6 ⟨rfl, hb⟩
  replace S := S.far hb rfl
  clear hb
  cases t
  all_goals
    go_wp2_with fail
    go_region_held3 (fun U => U.cell? ⟨bp, 0, none⟩ = some (.int .i64 m0) ∧ U.cell? ⟨bp, 1, none⟩ = some (.int .i64 m1) ∧ U.cell? ⟨bp, 2, none⟩ = some (.int .i64 m2) ∧ U.cell? ⟨bp, 3, none⟩ = some (.int .i64 m3) ∧ U.cell? ⟨bp, 4, none⟩ = some (.int .i64 m4) ∧ U.cell? ⟨bp, 5, none⟩ = some (.int .i64 m5) ∧ U.cell? ⟨bp, 6, none⟩ = some (.slice (some ⟨p1, 0, none⟩) z1.length z1.length) ∧ U.cell? ⟨bp, 7, none⟩ = some (.slice (some ⟨p2, 0, none⟩) z2.length z2.length) ∧ U.cell? ⟨w.heap.size, 0, none⟩ = some (.int .i64 m0) ∧ U.cell? ⟨w.heap.size, 1, none⟩ = some (.int .i64 m1) ∧ U.cell? ⟨w.heap.size, 2, none⟩ = some (.int .i64 m2) ∧ U.cell? ⟨w.heap.size, 3, none⟩ = some (.int .i64 m3) ∧ U.cell? ⟨w.heap.size, 4, none⟩ = some (.int .i64 m4) ∧ U.cell? ⟨w.heap.size, 5, none⟩ = some (.int .i64 m5) ∧ U.cell? ⟨w.heap.size, 6, none⟩ = some (.slice a1 z1.length k1) ∧ U.cell? ⟨w.heap.size, 7, none⟩ = some (.slice a2 z2.length k2) ∧ Lw w [bx bg (Obj.cells #[.int .i64 r0, .int .i64 r1, .int .i64 r2, .int .i64 r3, .int .i64 r4, .int .i64 r5, gv1, gv2] 62 (0, 0)), pr lo2 hi2 gv1 gv2 l' st', bx bp (Obj.cells #[.int .i64 m0, .int .i64 m1, .int .i64 m2, .int .i64 m3, .int .i64 m4, .int .i64 m5, .slice (some ⟨p1, 0, none⟩) z1.length z1.length, .slice (some ⟨p2, 0, none⟩) z2.length z2.length] 62 (0, 0)), pr lo1 hi1 (.slice (some ⟨p1, 0, none⟩) z1.length z1.length) (.slice (some ⟨p2, 0, none⟩) z2.length z2.length) z1 z2, bx bw (Obj.cells #[.int .i64 r0, .int .i64 r1, .int .i64 r2, .int .i64 r3, .int .i64 r4, .int .i64 r5, wv1, wv2] 62 (0, 0)), pr lo0 hi0 wv1 wv2 l' st', bx w.heap.size (Obj.cells #[.int .i64 m0, .int .i64 m1, .int .i64 m2, .int .i64 m3, .int .i64 m4, .int .i64 m5, .slice a1 z1.length k1, .slice a2 z2.length k2] 57 (0, 0))] U) (with_reducible refine SK_back ?_; (repeat (first | with_reducible assumption | with_reducible refine Lw.drew ?_))) (first | (go_at_call 36; with_reducible refine (HT.out _ (IB_back (by (repeat (first | with_reducible assumption | with_reducible refine Lw.drew ?_))) JJ.out).1 (IB_back (by (repeat (first | with_reducible assumption | with_reducible refine Lw.drew ?_))) JJ.out).2).mono ?_; rintro e w' hpp; obtain ⟨q1, q2, rfl, hp', hb'⟩ := PP11.get hpp; have S : Lw w [bx bg (Obj.cells #[.int .i64 r0, .int .i64 r1, .int .i64 r2, .int .i64 r3, .int .i64 r4, .int .i64 r5, gv1, gv2] 62 (0, 0)), pr lo2 hi2 gv1 gv2 l' st', bx bp (Obj.cells #[.int .i64 m0, .int .i64 m1, .int .i64 m2, .int .i64 m3, .int .i64 m4, .int .i64 m5, .slice (some ⟨p1, 0, none⟩) z1.length z1.length, .slice (some ⟨p2, 0, none⟩) z2.length z2.length] 62 (0, 0)), pr lo1 hi1 (.slice (some ⟨p1, 0, none⟩) z1.length z1.length) (.slice (some ⟨p2, 0, none⟩) z2.length z2.length) z1 z2, bx bw (Obj.cells #[.int .i64 r0, .int .i64 r1, .int .i64 r2, .int .i64 r3, .int .i64 r4, .int .i64 r5, wv1, wv2] 62 (0, 0)), pr lo0 hi0 wv1 wv2 l' st', bx w.heap.size (Obj.cells #[.int .i64 m0, .int .i64 m1, .int .i64 m2, .int .i64 m3, .int .i64 m4, .int .i64 m5, .slice a1 z1.length k1, .slice a2 z2.length k2] 57 (0, 0))] w' := Lw.far (by (repeat (first | with_reducible assumption | with_reducible refine Lw.drew ?_))) hb' rfl; have V1 := Lib.hid (Rv11.own (Pr11.o1 hp')); have V2 := Lib.hid (Rv11.own (Pr11.o2 hp'))) | (go_at_call 38; with_reducible refine (HE.out _ _ _ _ _ (EX_back (by (repeat (first | with_reducible assumption | with_reducible refine Lw.drew ?_)))).1 (EX_back (by (repeat (first | with_reducible assumption | with_reducible refine Lw.drew ?_)))).2 (by first | with_reducible exact V1.out | with_reducible exact Rv11.drew V1.out) (by first | with_reducible exact V2.out | with_reducible exact Rv11.drew V2.out)).mono ?_; rintro e w' ⟨rfl, hb'⟩; have S : Lw w [bx bg (Obj.cells #[.int .i64 r0, .int .i64 r1, .int .i64 r2, .int .i64 r3, .int .i64 r4, .int .i64 r5, gv1, gv2] 62 (0, 0)), pr lo2 hi2 gv1 gv2 l' st', bx bp (Obj.cells #[.int .i64 m0, .int .i64 m1, .int .i64 m2, .int .i64 m3, .int .i64 m4, .int .i64 m5, .slice (some ⟨p1, 0, none⟩) z1.length z1.length, .slice (some ⟨p2, 0, none⟩) z2.length z2.length] 62 (0, 0)), pr lo1 hi1 (.slice (some ⟨p1, 0, none⟩) z1.length z1.length) (.slice (some ⟨p2, 0, none⟩) z2.length z2.length) z1 z2, bx bw (Obj.cells #[.int .i64 r0, .int .i64 r1, .int .i64 r2, .int .i64 r3, .int .i64 r4, .int .i64 r5, wv1, wv2] 62 (0, 0)), pr lo0 hi0 wv1 wv2 l' st', bx w.heap.size (Obj.cells #[.int .i64 m0, .int .i64 m1, .int .i64 m2, .int .i64 m3, .int .i64 m4, .int .i64 m5, .slice a1 z1.length k1, .slice a2 z2.length k2] 57 (0, 0))] w' := Lw.far (by (repeat (first | with_reducible assumption | with_reducible refine Lw.drew ?_))) hb' rfl))
    all_goals
      clear HE
      rename_i hS9
      clear hS9
      have x_c := fun j => S.cell (List.mem_cons_of_mem _ (List.mem_cons_of_mem _ (List.mem_cons_self ..))) j
      go_wp2_with fail
      refine (HM.out _ _ lo1 hi1 _ (S.2.1 _ (List.mem_cons_of_mem _ (List.mem_cons_of_mem _ (List.mem_cons_of_mem _ (List.mem_cons_self ..))))).2.1 (S.get (List.mem_cons_of_mem _ (List.mem_cons_of_mem _ (List.mem_cons_of_mem _ (List.mem_cons_self ..)))))).mono ?_
      rintro e X7 ⟨rfl, hm, ho⟩
      clear x_c HM
      replace S : Lw w [bx bg (Obj.cells #[.int .i64 r0, .int .i64 r1, .int .i64 r2, .int .i64 r3, .int .i64 r4, .int .i64 r5, gv1, gv2] 62 (0, 0)), pr lo2 hi2 gv1 gv2 l' st', bx bp (Obj.cells #[.int .i64 m0, .int .i64 m1, .int .i64 m2, .int .i64 m3, .int .i64 m4, .int .i64 m5, .slice (some ⟨p1, 0, none⟩) z1.length z1.length, .slice (some ⟨p2, 0, none⟩) z2.length z2.length] 62 (0, 0)), mp lo1 hi1 (.slice (some ⟨p1, 0, none⟩) z1.length z1.length) (.slice (some ⟨p2, 0, none⟩) z2.length z2.length) z1 z2, bx bw (Obj.cells #[.int .i64 r0, .int .i64 r1, .int .i64 r2, .int .i64 r3, .int .i64 r4, .int .i64 r5, wv1, wv2] 62 (0, 0)), pr lo0 hi0 wv1 wv2 l' st', bx w.heap.size (Obj.cells #[.int .i64 m0, .int .i64 m1, .int .i64 m2, .int .i64 m3, .int .i64 m4, .int .i64 m5, .slice a1 z1.length k1, .slice a2 z2.length k2] 57 (0, 0))] X7 := Lw.chg (A := [bx bg (Obj.cells #[.int .i64 r0, .int .i64 r1, .int .i64 r2, .int .i64 r3, .int .i64 r4, .int .i64 r5, gv1, gv2] 62 (0, 0)), pr lo2 hi2 gv1 gv2 l' st', bx bp (Obj.cells #[.int .i64 m0, .int .i64 m1, .int .i64 m2, .int .i64 m3, .int .i64 m4, .int .i64 m5, .slice (some ⟨p1, 0, none⟩) z1.length z1.length, .slice (some ⟨p2, 0, none⟩) z2.length z2.length] 62 (0, 0))]) (C := [bx bw (Obj.cells #[.int .i64 r0, .int .i64 r1, .int .i64 r2, .int .i64 r3, .int .i64 r4, .int .i64 r5, wv1, wv2] 62 (0, 0)), pr lo0 hi0 wv1 wv2 l' st', bx w.heap.size (Obj.cells #[.int .i64 m0, .int .i64 m1, .int .i64 m2, .int .i64 m3, .int .i64 m4, .int .i64 m5, .slice a1 z1.length k1, .slice a2 z2.length k2] 57 (0, 0))]) (i := pr lo1 hi1 (.slice (some ⟨p1, 0, none⟩) z1.length z1.length) (.slice (some ⟨p2, 0, none⟩) z2.length z2.length) z1 z2) S ho (Mp11 lo1 hi1 (.slice (some ⟨p1, 0, none⟩) z1.length z1.length) (.slice (some ⟨p2, 0, none⟩) z2.length z2.length) z1 z2) Mp11.st hm
      clear ho hm
      have g_c := fun j => S.cell (List.mem_cons_self ..) j
      have w_c := fun j => S.cell (List.mem_cons_of_mem _ (List.mem_cons_of_mem _ (List.mem_cons_of_mem _ (List.mem_cons_of_mem _ (List.mem_cons_self ..))))) j
      go_wp2_with fail
      refine (HEr.out _ _ _ _ _ (Rv11.own (S.get (List.mem_cons_of_mem _ (List.mem_cons_self ..))).1) (Rv11.own (S.get (List.mem_cons_of_mem _ (List.mem_cons_self ..))).2.1) (Rv11.own (S.get (List.mem_cons_of_mem _ (List.mem_cons_of_mem _ (List.mem_cons_of_mem _ (List.mem_cons_of_mem _ (List.mem_cons_of_mem _ (List.mem_cons_self ..))))))).1) (Rv11.own (S.get (List.mem_cons_of_mem _ (List.mem_cons_of_mem _ (List.mem_cons_of_mem _ (List.mem_cons_of_mem _ (List.mem_cons_of_mem _ (List.mem_cons_self ..))))))).2.1)).mono ?_
      rintro e X8 ⟨rfl, hb⟩
      clear g_c w_c
      replace S := S.far hb rfl
      clear hb
      have g_c := fun j => S.cell (List.mem_cons_self ..) j
      go_wp2_with fail
      refine (HMr.out _ _ lo2 hi2 _ (S.2.1 _ (List.mem_cons_of_mem _ (List.mem_cons_self ..))).2.1 (S.get (List.mem_cons_of_mem _ (List.mem_cons_self ..)))).mono ?_
      rintro e X9 ⟨rfl, hm, ho⟩
      clear g_c HMr
      replace S : Lw w [bx bg (Obj.cells #[.int .i64 r0, .int .i64 r1, .int .i64 r2, .int .i64 r3, .int .i64 r4, .int .i64 r5, gv1, gv2] 62 (0, 0)), mp lo2 hi2 (gv1) (gv2) l' st', bx bp (Obj.cells #[.int .i64 m0, .int .i64 m1, .int .i64 m2, .int .i64 m3, .int .i64 m4, .int .i64 m5, .slice (some ⟨p1, 0, none⟩) z1.length z1.length, .slice (some ⟨p2, 0, none⟩) z2.length z2.length] 62 (0, 0)), mp lo1 hi1 (.slice (some ⟨p1, 0, none⟩) z1.length z1.length) (.slice (some ⟨p2, 0, none⟩) z2.length z2.length) z1 z2, bx bw (Obj.cells #[.int .i64 r0, .int .i64 r1, .int .i64 r2, .int .i64 r3, .int .i64 r4, .int .i64 r5, wv1, wv2] 62 (0, 0)), pr lo0 hi0 wv1 wv2 l' st', bx w.heap.size (Obj.cells #[.int .i64 m0, .int .i64 m1, .int .i64 m2, .int .i64 m3, .int .i64 m4, .int .i64 m5, .slice a1 z1.length k1, .slice a2 z2.length k2] 57 (0, 0))] X9 := Lw.chg (A := [bx bg (Obj.cells #[.int .i64 r0, .int .i64 r1, .int .i64 r2, .int .i64 r3, .int .i64 r4, .int .i64 r5, gv1, gv2] 62 (0, 0))]) (C := [bx bp (Obj.cells #[.int .i64 m0, .int .i64 m1, .int .i64 m2, .int .i64 m3, .int .i64 m4, .int .i64 m5, .slice (some ⟨p1, 0, none⟩) z1.length z1.length, .slice (some ⟨p2, 0, none⟩) z2.length z2.length] 62 (0, 0)), mp lo1 hi1 (.slice (some ⟨p1, 0, none⟩) z1.length z1.length) (.slice (some ⟨p2, 0, none⟩) z2.length z2.length) z1 z2, bx bw (Obj.cells #[.int .i64 r0, .int .i64 r1, .int .i64 r2, .int .i64 r3, .int .i64 r4, .int .i64 r5, wv1, wv2] 62 (0, 0)), pr lo0 hi0 wv1 wv2 l' st', bx w.heap.size (Obj.cells #[.int .i64 m0, .int .i64 m1, .int .i64 m2, .int .i64 m3, .int .i64 m4, .int .i64 m5, .slice a1 z1.length k1, .slice a2 z2.length k2] 57 (0, 0))]) (i := pr lo2 hi2 gv1 gv2 l' st') S ho (Mp11 lo2 hi2 (gv1) (gv2) l' st') Mp11.st hm
      clear ho hm
      have g_c := fun j => S.cell (List.mem_cons_self ..) j
      go_wp2_with fail
      refine (HHr.out _ _ lo2 hi2 _ (S.2.1 _ (List.mem_cons_of_mem _ (List.mem_cons_self ..))).2.1 (S.get (List.mem_cons_of_mem _ (List.mem_cons_self ..)))).mono ?_
      rintro e X10 ⟨rfl, hb⟩
      clear g_c
      replace S := S.far hb rfl
      clear hb
      have a_c := fun j => S.cell (List.mem_cons_of_mem _ (List.mem_cons_of_mem _ (List.mem_cons_of_mem _ (List.mem_cons_of_mem _ (List.mem_cons_of_mem _ (List.mem_cons_of_mem _ (List.mem_cons_self ..))))))) j
      go_wp2_with fail
      refine (HT.out _ (JJ.out.1.below S.below) (JJ.out.2.below S.below)).mono ?_
      rintro e X11 ⟨g1, g2, rfl, hp, hb⟩
      have R1 := own_range hp.1
      have R2 := own_range hp.2.1
      clear hp a_c HT
      replace S := S.far hb rfl
      clear hb
      go_wp2_with fail
      refine (HI.out _ _ _ _ _ (Nat.le_refl _) R1 R2).mono ?_
      rintro e X12 ⟨hv1, hv2, rfl, hp, hb⟩
      have hvo1 := st_one11 (own_one11 hp.1)
      have hvo2 := st_one11 (own_one11 hp.2.1)
      clear R1 R2 HI
      replace S := S.add hb rfl (pr X11.heap.size X12.heap.size _ _ l' st') (Nat.le_refl _) (Nat.le_refl _) hp
      clear hb hp
      obtain ⟨lo3, hlo⟩ : ∃ lo, lo = X11.heap.size := ⟨_, rfl⟩
      rw [← hlo] at S
      clear hlo
      obtain ⟨hi3, hhi⟩ : ∃ hi, hi = X12.heap.size := ⟨_, rfl⟩
      rw [← hhi] at S
      clear hhi
      have w_c := fun j => (S.al (Obj.cells #[.int .i64 r0, .int .i64 r1, .int .i64 r2, .int .i64 r3, .int .i64 r4, .int .i64 r5, hv1, hv2] 62 (0, 0))).cell (List.mem_cons_of_mem _ (List.mem_cons_of_mem _ (List.mem_cons_of_mem _ (List.mem_cons_of_mem _ (List.mem_cons_of_mem _ (List.mem_cons_self ..)))))) j
      go_wp2_with fail
      replace S := S.add (V := X12.alloc (Obj.cells #[.int .i64 r0, .int .i64 r1, .int .i64 r2, .int .i64 r3, .int .i64 r4, .int .i64 r5, hv1, hv2] 62 (0, 0))) ((Below.refl _ _).alloc (Nat.le_refl _) _) rfl (bx X12.heap.size (Obj.cells #[.int .i64 r0, .int .i64 r1, .int .i64 r2, .int .i64 r3, .int .i64 r4, .int .i64 r5, hv1, hv2] 62 (0, 0))) (Nat.le_refl _) (by simp [bx]) (alloc_at rfl)
      clear w_c
      generalize hbb : X12.heap.size = bh at S ⊢
      clear hbb
      generalize (World.alloc _ _ : World) = Y3 at S ⊢
      refine (HEr.out _ _ _ _ _ (Rv11.own (S.get (List.mem_cons_of_mem _ (List.mem_cons_self ..))).1) (Rv11.own (S.get (List.mem_cons_of_mem _ (List.mem_cons_self ..))).2.1) (Rv11.own (S.get (List.mem_cons_of_mem _ (List.mem_cons_of_mem _ (List.mem_cons_of_mem _ (List.mem_cons_of_mem _ (List.mem_cons_of_mem _ (List.mem_cons_of_mem _ (List.mem_cons_of_mem _ (List.mem_cons_self ..))))))))).1) (Rv11.own (S.get (List.mem_cons_of_mem _ (List.mem_cons_of_mem _ (List.mem_cons_of_mem _ (List.mem_cons_of_mem _ (List.mem_cons_of_mem _ (List.mem_cons_of_mem _ (List.mem_cons_of_mem _ (List.mem_cons_self ..))))))))).2.1)).mono ?_
      rintro e X13 ⟨rfl, hb⟩
      replace S := S.far hb rfl
      clear hb
      have g_c := fun j => S.cell (List.mem_cons_of_mem _ (List.mem_cons_of_mem _ (List.mem_cons_self ..))) j
      go_wp2_with fail
      refine (HHr.out _ _ lo2 hi2 _ (S.2.1 _ (List.mem_cons_of_mem _ (List.mem_cons_of_mem _ (List.mem_cons_of_mem _ (List.mem_cons_self ..))))).2.1 (S.get (List.mem_cons_of_mem _ (List.mem_cons_of_mem _ (List.mem_cons_of_mem _ (List.mem_cons_self ..)))))).mono ?_
      rintro e X14 ⟨rfl, hb⟩
      clear g_c
      replace S := S.far hb rfl
      clear hb
      go_wp2_with fail
      go_ret
      exact ⟨rfl, S.below⟩
set_option maxRecDepth 20000 in
set_option maxHeartbeats 1000000 in
theorem back_big (m0 m1 m2 m3 m4 m5 : Int) (a1 : Option Addr) (k1 : Nat) (z1 : List H11) (a2 : Option Addr) (k2 : Nat) (z2 : List S11) (l0 : z1.length ≤ maxLen) (h0 : z2.length ≤ maxLen) (hz : ¬ (z1.length + z2.length ≤ 1048576)) (w : World) : Calls Try.prog 9 #[.agg #[.int .i64 m0, .int .i64 m1, .int .i64 m2, .int .i64 m3, .int .i64 m4, .int .i64 m5, .slice a1 z1.length k1, .slice a2 z2.length k2]] w fun e w' => e = .returned (.bool true) ∧ Below w.heap.size w w' := by
  have HZ := Lib.hid (size_plan11 m0 m1 m2 m3 m4 m5 a1 z1.length k1 a2 z2.length k2 l0 h0)
  rw [if_pos (by omega)] at HZ
  clear hz l0 h0
  go_enter Try.func9, Try.ntmps9
  go_wp2_with fail
  generalize hW : (World.alloc _ _ : World) = W0
  have hB : Below w.heap.size w W0 := by rw [← hW]; (repeat (first | exact Below.refl _ _ | assumption | refine Below.setCell ?_ (by first | (simp; done) | (simp; omega)) _ | refine Below.alloc ?_ (by first | (simp; done) | (simp; omega)) _ | refine Below.drew ?_))
  clear hW
  refine (HZ.out _).mono ?_
  rintro e W1 ⟨rfl, hb⟩
  have hB1 := below_of hB hb (by have := hB.size; omega)
  clear hb hB
  go_wp2_with fail
  go_ret
  exact ⟨rfl, hB1⟩
theorem back_law (m0 m1 m2 m3 m4 m5 : Int) (a1 : Option Addr) (k1 : Nat) (z1 : List H11) (a2 : Option Addr) (k2 : Nat) (z2 : List S11) (l0 : z1.length ≤ maxLen) (h0 : z2.length ≤ maxLen) (hwf : ∀ p ∈ z2, (Lit.int .i64 p.x).wf = true ∧ (Lit.int .i64 p.y).wf = true) (w : World) (I0 : Is11 ch11 6 w a1 z1) (J0 : Is11 cs11 4 w a2 z2) : Calls Try.prog 9 #[.agg #[.int .i64 m0, .int .i64 m1, .int .i64 m2, .int .i64 m3, .int .i64 m4, .int .i64 m5, .slice a1 z1.length k1, .slice a2 z2.length k2]] w fun e w' => e = .returned (.bool true) ∧ Below w.heap.size w w' := by
  by_cases hz : z1.length + z2.length ≤ 1048576
  · obtain ⟨r0, r1, r2, r3, r4, r5, l', st', t, hl', hst', h1, h2⟩ := back_pair m0 m1 m2 m3 m4 m5 z1 z2 (by omega) (by omega) hwf
    exact back_core m0 m1 m2 m3 m4 m5 a1 k1 z1 a2 k2 z2 l0 h0 r0 r1 r2 r3 r4 r5 l' st' t hl' hst' (Lib.hid h1) (Lib.hid h2) hz w I0 J0
  · exact back_big m0 m1 m2 m3 m4 m5 a1 k1 z1 a2 k2 z2 l0 h0 hz w
end Go.Proofs.Ytnkjamdpafpcpaa
