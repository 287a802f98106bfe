/- THE WALK of FnExactAddStep. -/
import Derived.Test.YtnkjamdpafpcpaaMf12
import Derived.BigQuiet
import Derived.WalkKit
import Derived.ProofKit
import Derived.OpenShut
import Derived.Lib.Hide
import Derived.WalkSpells
import Derived.Below
import Derived.BigQuiet
import Derived.LoopN
namespace Go.Proofs.Ytnkjamdpafpcpaa
open Go.ChangeShapes Go.WideShapes Go.ChangeAt Go.RowKit
set_option linter.unusedVariables false
theorem SK_addstep {w U : World} {m0 m1 m2 m3 m4 m5 r0 r1 r2 r3 r4 r5 : Int} {a1 a2 : Option Addr} {k1 k2 lo0 hi0 ra0 rb0 lo1 hi1 lo2 hi2 ra2 rb2 bw bp bg p1 p2 : Nat} {wv1 wv2 gv1 gv2 : Value} {z1 l' : List H11} {z2 st' : List S11} {p : S11} (h : Lw w [cb lo2 hi2 bg (Obj.cells #[.int .i64 r0, .int .i64 r1, .int .i64 r2, .int .i64 r3, .int .i64 r4, .int .i64 r5, gv1, gv2] 62 (0, 0)) ra2 rb2 gv1 gv2 l' st', bx bp (Obj.cells #[.int .i64 m0, .int .i64 m1, .int .i64 m2, .int .i64 m3, .int .i64 m4, .int .i64 m5, .slice (some ⟨p1, 0, none⟩) z1.length z1.length, .slice (some ⟨p2, 0, none⟩) z2.length z2.length] 62 (0, 0)), pr lo1 hi1 (.slice (some ⟨p1, 0, none⟩) z1.length z1.length) (.slice (some ⟨p2, 0, none⟩) z2.length z2.length) z1 z2, cb lo0 hi0 bw (Obj.cells #[.int .i64 r0, .int .i64 r1, .int .i64 r2, .int .i64 r3, .int .i64 r4, .int .i64 r5, wv1, wv2] 62 (0, 0)) ra0 rb0 wv1 wv2 l' st', bx (w.heap.size + 1) (Obj.cells #[.int .i64 p.k, .int .i64 p.s, .int .i64 p.x, .int .i64 p.y] 71 (0, 0)), bx w.heap.size (Obj.cells #[.int .i64 m0, .int .i64 m1, .int .i64 m2, .int .i64 m3, .int .i64 m4, .int .i64 m5, .slice a1 z1.length k1, .slice a2 z2.length k2] 57 (0, 0))] U) : U.cell? ⟨bp, 0, none⟩ = some (.int .i64 m0) ∧ U.cell? ⟨bp, 1, none⟩ = some (.int .i64 m1) ∧ U.cell? ⟨bp, 2, none⟩ = some (.int .i64 m2) ∧ U.cell? ⟨bp, 3, none⟩ = some (.int .i64 m3) ∧ U.cell? ⟨bp, 4, none⟩ = some (.int .i64 m4) ∧ U.cell? ⟨bp, 5, none⟩ = some (.int .i64 m5) ∧ U.cell? ⟨bp, 6, none⟩ = some (.slice (some ⟨p1, 0, none⟩) z1.length z1.length) ∧ U.cell? ⟨bp, 7, none⟩ = some (.slice (some ⟨p2, 0, none⟩) z2.length z2.length) ∧ U.cell? ⟨w.heap.size, 0, none⟩ = some (.int .i64 m0) ∧ U.cell? ⟨w.heap.size, 1, none⟩ = some (.int .i64 m1) ∧ U.cell? ⟨w.heap.size, 2, none⟩ = some (.int .i64 m2) ∧ U.cell? ⟨w.heap.size, 3, none⟩ = some (.int .i64 m3) ∧ U.cell? ⟨w.heap.size, 4, none⟩ = some (.int .i64 m4) ∧ U.cell? ⟨w.heap.size, 5, none⟩ = some (.int .i64 m5) ∧ U.cell? ⟨w.heap.size, 6, none⟩ = some (.slice a1 z1.length k1) ∧ U.cell? ⟨w.heap.size, 7, none⟩ = some (.slice a2 z2.length k2) ∧ Lw w [cb lo2 hi2 bg (Obj.cells #[.int .i64 r0, .int .i64 r1, .int .i64 r2, .int .i64 r3, .int .i64 r4, .int .i64 r5, gv1, gv2] 62 (0, 0)) ra2 rb2 gv1 gv2 l' st', bx bp (Obj.cells #[.int .i64 m0, .int .i64 m1, .int .i64 m2, .int .i64 m3, .int .i64 m4, .int .i64 m5, .slice (some ⟨p1, 0, none⟩) z1.length z1.length, .slice (some ⟨p2, 0, none⟩) z2.length z2.length] 62 (0, 0)), pr lo1 hi1 (.slice (some ⟨p1, 0, none⟩) z1.length z1.length) (.slice (some ⟨p2, 0, none⟩) z2.length z2.length) z1 z2, cb lo0 hi0 bw (Obj.cells #[.int .i64 r0, .int .i64 r1, .int .i64 r2, .int .i64 r3, .int .i64 r4, .int .i64 r5, wv1, wv2] 62 (0, 0)) ra0 rb0 wv1 wv2 l' st', bx (w.heap.size + 1) (Obj.cells #[.int .i64 p.k, .int .i64 p.s, .int .i64 p.x, .int .i64 p.y] 71 (0, 0)), bx w.heap.size (Obj.cells #[.int .i64 m0, .int .i64 m1, .int .i64 m2, .int .i64 m3, .int .i64 m4, .int .i64 m5, .slice a1 z1.length k1, .slice a2 z2.length k2] 57 (0, 0))] U := by
  have x := fun j => h.cell (List.mem_cons_of_mem _ (List.mem_cons_self ..)) j
  have a := fun j => h.cell (List.mem_cons_of_mem _ (List.mem_cons_of_mem _ (List.mem_cons_of_mem _ (List.mem_cons_of_mem _ (List.mem_cons_of_mem _ (List.mem_cons_self ..)))))) j
  exact ⟨x 0, x 1, x 2, x 3, x 4, x 5, x 6, x 7, a 0, a 1, a 2, a 3, a 4, a 5, a 6, a 7, h⟩
theorem EX_addstep {w U : World} {m0 m1 m2 m3 m4 m5 r0 r1 r2 r3 r4 r5 : Int} {a1 a2 : Option Addr} {k1 k2 lo0 hi0 ra0 rb0 lo1 hi1 lo2 hi2 ra2 rb2 bw bp bg p1 p2 : Nat} {wv1 wv2 gv1 gv2 : Value} {z1 l' : List H11} {z2 st' : List S11} {p : S11} (h : Lw w [cb lo2 hi2 bg (Obj.cells #[.int .i64 r0, .int .i64 r1, .int .i64 r2, .int .i64 r3, .int .i64 r4, .int .i64 r5, gv1, gv2] 62 (0, 0)) ra2 rb2 gv1 gv2 l' st', bx bp (Obj.cells #[.int .i64 m0, .int .i64 m1, .int .i64 m2, .int .i64 m3, .int .i64 m4, .int .i64 m5, .slice (some ⟨p1, 0, none⟩) z1.length z1.length, .slice (some ⟨p2, 0, none⟩) z2.length z2.length] 62 (0, 0)), pr lo1 hi1 (.slice (some ⟨p1, 0, none⟩) z1.length z1.length) (.slice (some ⟨p2, 0, none⟩) z2.length z2.length) z1 z2, cb lo0 hi0 bw (Obj.cells #[.int .i64 r0, .int .i64 r1, .int .i64 r2, .int .i64 r3, .int .i64 r4, .int .i64 r5, wv1, wv2] 62 (0, 0)) ra0 rb0 wv1 wv2 l' st', bx (w.heap.size + 1) (Obj.cells #[.int .i64 p.k, .int .i64 p.s, .int .i64 p.x, .int .i64 p.y] 71 (0, 0)), bx w.heap.size (Obj.cells #[.int .i64 m0, .int .i64 m1, .int .i64 m2, .int .i64 m3, .int .i64 m4, .int .i64 m5, .slice a1 z1.length k1, .slice a2 z2.length k2] 57 (0, 0))] U) : Rv11 (.slice (some ⟨p1, 0, none⟩) z1.length z1.length) z1.length (hv11 z1) U ∧ Rv11 (.slice (some ⟨p2, 0, none⟩) z2.length z2.length) z2.length (sv11 z2) U := ⟨Rv11.own (h.get (List.mem_cons_of_mem _ (List.mem_cons_of_mem _ (List.mem_cons_self ..)))).1, Rv11.own (h.get (List.mem_cons_of_mem _ (List.mem_cons_of_mem _ (List.mem_cons_self ..)))).2.1⟩
theorem IB_addstep {w U : World} {m0 m1 m2 m3 m4 m5 r0 r1 r2 r3 r4 r5 : Int} {a1 a2 : Option Addr} {k1 k2 lo0 hi0 ra0 rb0 lo1 hi1 lo2 hi2 ra2 rb2 bw bp bg p1 p2 : Nat} {wv1 wv2 gv1 gv2 : Value} {z1 l' : List H11} {z2 st' : List S11} {p : S11} (h : Lw w [cb lo2 hi2 bg (Obj.cells #[.int .i64 r0, .int .i64 r1, .int .i64 r2, .int .i64 r3, .int .i64 r4, .int .i64 r5, gv1, gv2] 62 (0, 0)) ra2 rb2 gv1 gv2 l' st', bx bp (Obj.cells #[.int .i64 m0, .int .i64 m1, .int .i64 m2, .int .i64 m3, .int .i64 m4, .int .i64 m5, .slice (some ⟨p1, 0, none⟩) z1.length z1.length, .slice (some ⟨p2, 0, none⟩) z2.length z2.length] 62 (0, 0)), pr lo1 hi1 (.slice (some ⟨p1, 0, none⟩) z1.length z1.length) (.slice (some ⟨p2, 0, none⟩) z2.length z2.length) z1 z2, cb lo0 hi0 bw (Obj.cells #[.int .i64 r0, .int .i64 r1, .int .i64 r2, .int .i64 r3, .int .i64 r4, .int .i64 r5, wv1, wv2] 62 (0, 0)) ra0 rb0 wv1 wv2 l' st', bx (w.heap.size + 1) (Obj.cells #[.int .i64 p.k, .int .i64 p.s, .int .i64 p.x, .int .i64 p.y] 71 (0, 0)), bx w.heap.size (Obj.cells #[.int .i64 m0, .int .i64 m1, .int .i64 m2, .int .i64 m3, .int .i64 m4, .int .i64 m5, .slice a1 z1.length k1, .slice a2 z2.length k2] 57 (0, 0))] U) (I : Is11 ch11 6 w a1 z1 ∧ Is11 cs11 4 w a2 z2) : Is11 ch11 6 U a1 z1 ∧ Is11 cs11 4 U a2 z2 := ⟨I.1.below h.below, I.2.below h.below⟩
set_option maxRecDepth 20000 in
set_option maxHeartbeats 8000000 in
theorem addstep_core (m0 m1 m2 m3 m4 m5 : Int) (a1 : Option Addr) (k1 : Nat) (z1 : List H11) (a2 : Option Addr) (k2 : Nat) (z2 : List S11) (p : S11) (l0 : z1.length ≤ maxLen) (h0 : z2.length ≤ maxLen) (r0 r1 r2 r3 r4 r5 : Int) (l' : List H11) (st' : List S11) (t : Bool) (hl' : l'.length ≤ 1000) (hst' : st'.length ≤ 1000) (HS : (Hid (∀ (g1 c1 g2 c2 : Nat) (W : World), z2.length ≤ c2 → W.rangeAt g1 0 (hv11 z1) → W.rangeAt g2 0 (sv11 z2) → Calls Try.prog 43 #[.agg #[.int .i64 m0, .int .i64 m1, .int .i64 m2, .int .i64 m3, .int .i64 m4, .int .i64 m5, .slice (some ⟨g1, 0, none⟩) z1.length c1, .slice (some ⟨g2, 0, none⟩) z2.length c2], .agg #[.int .i64 p.k, .int .i64 p.s, .int .i64 p.x, .int .i64 p.y]] W (TP11 r0 r1 r2 r3 r4 r5 l' st' t W)))) (HI : (Hid (∀ (g1 c1 g2 c2 : Nat) (W : World), z2.length ≤ c2 → W.rangeAt g1 0 (hv11 z1) → W.rangeAt g2 0 (sv11 z2) → Calls Try.prog 45 #[.agg #[.int .i64 m0, .int .i64 m1, .int .i64 m2, .int .i64 m3, .int .i64 m4, .int .i64 m5, .slice (some ⟨g1, 0, none⟩) z1.length c1, .slice (some ⟨g2, 0, none⟩) z2.length c2], .agg #[.int .i64 p.k, .int .i64 p.s, .int .i64 p.x, .int .i64 p.y]] W (TP11 r0 r1 r2 r3 r4 r5 l' st' t W)))) (hz : z1.length + z2.length ≤ 1048576) (w : World) (I0 : Is11 ch11 6 w a1 z1) (J0 : Is11 cs11 4 w a2 z2) : Calls Try.prog 10 #[.agg #[.int .i64 m0, .int .i64 m1, .int .i64 m2, .int .i64 m3, .int .i64 m4, .int .i64 m5, .slice a1 z1.length k1, .slice a2 z2.length k2], .agg #[.int .i64 p.k, .int .i64 p.s, .int .i64 p.x, .int .i64 p.y]] w fun e w' => e = .returned (.bool true) ∧ Below w.heap.size w w' := by
  have HZ := Lib.hid (size_plan11 m0 m1 m2 m3 m4 m5 a1 z1.length k1 a2 z2.length k2 l0 h0)
  rw [if_neg (by omega)] at HZ
  have hq : ¬ ((1048576 : Int) - ((z1.length + z2.length : Nat) : Int) < 0) := by omega
  obtain ⟨Lq, hLq⟩ : ∃ Lq : Int, Lq = 1048576 - ((z1.length + z2.length : Nat) : Int) := ⟨_, rfl⟩
  rw [← hLq] at HZ hq
  clear hLq
  have HT := Lib.hid (fun (W : World) I J => to_plan11 m0 m1 m2 m3 m4 m5 a1 k1 z1 a2 k2 z2 (by omega) (by omega) W I J)
  have HE := Lib.hid (eq_plan11 m0 m1 m2 m3 m4 m5 z1 z2 (by omega) (by omega))
  have HEr := Lib.hid (eq_plan11 r0 r1 r2 r3 r4 r5 l' st' (by omega) (by omega))
  have HM := Lib.hid (fun v1 v2 lo hi (W : World) a b => mark_plan11 m0 m1 m2 m3 m4 m5 v1 v2 z1 z2 lo hi hz W a b)
  have HMr := Lib.hid (fun v1 v2 lo hi (W : World) a b => mark_plan11 r0 r1 r2 r3 r4 r5 v1 v2 l' st' lo hi (by omega) W a b)
  have HHr := Lib.hid (fun v1 v2 lo hi (W : World) a b => held_plan11 r0 r1 r2 r3 r4 r5 v1 v2 l' st' lo hi (by omega) W a b)
  obtain ⟨M1, hM1⟩ : ∃ M : Int, M = 1 + ((z1.length * 6 : Nat) : Int) + ((z2.length * 4 : Nat) : Int) := ⟨_, rfl⟩
  rw [← hM1] at HM
  have hm1 : ¬ M1 < 0 := by omega
  clear hM1
  obtain ⟨M2, hM2⟩ : ∃ M : Int, M = 1 + ((l'.length * 6 : Nat) : Int) + ((st'.length * 4 : Nat) : Int) := ⟨_, rfl⟩
  rw [← hM2] at HMr HHr
  have hm2 : ¬ M2 < 0 := by omega
  clear hM2
  have JJ := Lib.hid (And.intro I0 J0)
  clear I0 J0 hz l0 h0 hl' hst'
  go_enter Try.func10, Try.ntmps10
  go_wp2_with fail
  generalize hW : (World.alloc _ _ : World) = W0
  have S : Lw w [bx (w.heap.size + 1) (Obj.cells #[.int .i64 p.k, .int .i64 p.s, .int .i64 p.x, .int .i64 p.y] 71 (0, 0)), bx w.heap.size (Obj.cells #[.int .i64 m0, .int .i64 m1, .int .i64 m2, .int .i64 m3, .int .i64 m4, .int .i64 m5, .slice a1 z1.length k1, .slice a2 z2.length k2] 57 (0, 0))] W0 := by
    rw [← hW]
    exact ((Lw.start w).add ((Below.refl _ _).alloc (Nat.le_refl _) _) rfl (bx w.heap.size (Obj.cells #[.int .i64 m0, .int .i64 m1, .int .i64 m2, .int .i64 m3, .int .i64 m4, .int .i64 m5, .slice a1 z1.length k1, .slice a2 z2.length k2] 57 (0, 0))) (Nat.le_refl _) (by simp [bx]) (alloc_at rfl)).add ((Below.refl _ _).alloc (Nat.le_refl _) _) rfl (bx (w.heap.size + 1) (Obj.cells #[.int .i64 p.k, .int .i64 p.s, .int .i64 p.x, .int .i64 p.y] 71 (0, 0))) (by simp [bx]) (by simp [bx]) (alloc_at (by simp))
  clear hW
  refine (HZ.out _).mono ?_
  rintro e X1 ⟨rfl, hb⟩
  replace S := S.far hb rfl
  clear hb
  clear HZ
  go_wp2_with fail
  refine rg_5 _ w.heap.size (w.heap.size + 1) m0 m1 m2 m3 m4 m5 a1 a2 k1 k2 0 0 z1 z2 p r0 r1 r2 r3 r4 r5 l' st' _ (Lib.hid (S.get (List.mem_cons_of_mem _ (List.mem_cons_self ..)))) (Lib.hid (S.get (List.mem_cons_self ..))) HT (Lib.hid (JJ.out.1.below S.below)) (Lib.hid (JJ.out.2.below S.below)) HS ?_
  intro ra0 rb0 bw wv1 wv2 Y0 _ _ _ _ _ _ _ _  hb hx hp hc
  have wvo1 := st_one11 (own_one11 hp.1)
  have wvo2 := st_one11 (own_one11 hp.2.1)
  replace S := S.add hb rfl (cb X1.heap.size Y0.heap.size bw (Obj.cells #[.int .i64 r0, .int .i64 r1, .int .i64 r2, .int .i64 r3, .int .i64 r4, .int .i64 r5, wv1, wv2] 62 (0, 0)) ra0 rb0 wv1 wv2 l' st') (Nat.le_refl _) (Nat.le_refl _) ⟨hc, hx, hp⟩
  clear hb hx hp hc
  obtain ⟨lo0, hlo⟩ : ∃ lo, lo = X1.heap.size := ⟨_, rfl⟩
  rw [← hlo] at S
  clear hlo
  obtain ⟨hi0, hhi⟩ : ∃ hi, hi = Y0.heap.size := ⟨_, rfl⟩
  rw [← hhi] at S
  clear hhi
  clear HS
  have a_c := fun j => S.cell (List.mem_cons_of_mem _ (List.mem_cons_of_mem _ (List.mem_cons_self ..))) j
  go_wp2_with fail
  refine (HT.out _ (JJ.out.1.below S.below) (JJ.out.2.below S.below)).mono ?_
  rintro e X2 ⟨p1, p2, rfl, hp, hb⟩
  clear a_c
  replace S := S.add hb rfl (pr Y0.heap.size X2.heap.size _ _ z1 z2) (Nat.le_refl _) (Nat.le_refl _) hp
  clear hb hp
  obtain ⟨lo1, hlo⟩ : ∃ lo, lo = Y0.heap.size := ⟨_, rfl⟩
  rw [← hlo] at S
  clear hlo
  obtain ⟨hi1, hhi⟩ : ∃ hi, hi = X2.heap.size := ⟨_, rfl⟩
  rw [← hhi] at S
  clear hhi
  go_wp2_with fail
  replace S := S.add (V := X2.alloc (Obj.cells #[.int .i64 m0, .int .i64 m1, .int .i64 m2, .int .i64 m3, .int .i64 m4, .int .i64 m5, .slice (some ⟨p1, 0, none⟩) z1.length z1.length, .slice (some ⟨p2, 0, none⟩) z2.length z2.length] 62 (0, 0))) ((Below.refl _ _).alloc (Nat.le_refl _) _) rfl (bx X2.heap.size (Obj.cells #[.int .i64 m0, .int .i64 m1, .int .i64 m2, .int .i64 m3, .int .i64 m4, .int .i64 m5, .slice (some ⟨p1, 0, none⟩) z1.length z1.length, .slice (some ⟨p2, 0, none⟩) z2.length z2.length] 62 (0, 0))) (Nat.le_refl _) (by simp [bx]) (alloc_at rfl)
  generalize hbb : X2.heap.size = bp at S ⊢
  clear hbb
  generalize (World.alloc _ _ : World) = Y1 at S ⊢
  refine rg_7 _ bp (w.heap.size + 1) m0 m1 m2 m3 m4 m5 none none 0 0 p1 p2 z1 z2 p r0 r1 r2 r3 r4 r5 l' st' _ (Lib.hid (S.get (List.mem_cons_self ..))) (Lib.hid (S.get (List.mem_cons_of_mem _ (List.mem_cons_of_mem _ (List.mem_cons_of_mem _ (List.mem_cons_self ..)))))) (own_range (S.get (List.mem_cons_of_mem _ (List.mem_cons_self ..))).1) (own_range (S.get (List.mem_cons_of_mem _ (List.mem_cons_self ..))).2.1) HI ?_
  intro ra2 rb2 bg gv1 gv2 Y2 _ _ _ _ _ _ _  hb hx hp hc
  have gvo1 := st_one11 (own_one11 hp.1)
  have gvo2 := st_one11 (own_one11 hp.2.1)
  replace S := S.add hb rfl (cb Y1.heap.size Y2.heap.size bg (Obj.cells #[.int .i64 r0, .int .i64 r1, .int .i64 r2, .int .i64 r3, .int .i64 r4, .int .i64 r5, gv1, gv2] 62 (0, 0)) ra2 rb2 gv1 gv2 l' st') (Nat.le_refl _) (Nat.le_refl _) ⟨hc, hx, hp⟩
  clear hb hx hp hc
  obtain ⟨lo2, hlo⟩ : ∃ lo, lo = Y1.heap.size := ⟨_, rfl⟩
  rw [← hlo] at S
  clear hlo
  obtain ⟨hi2, hhi⟩ : ∃ hi, hi = Y2.heap.size := ⟨_, rfl⟩
  rw [← hhi] at S
  clear hhi
  have g_c := fun j => S.cellc (List.mem_cons_self ..) j
  have w_c := fun j => S.cellc (List.mem_cons_of_mem _ (List.mem_cons_of_mem _ (List.mem_cons_of_mem _ (List.mem_cons_self ..)))) j
  go_wp2_with fail
  refine (HEr.out _ _ _ _ _ (Rv11.own (S.get (List.mem_cons_self ..)).2.2.1) (Rv11.own (S.get (List.mem_cons_self ..)).2.2.2.1) (Rv11.own (S.get (List.mem_cons_of_mem _ (List.mem_cons_of_mem _ (List.mem_cons_of_mem _ (List.mem_cons_self ..))))).2.2.1) (Rv11.own (S.get (List.mem_cons_of_mem _ (List.mem_cons_of_mem _ (List.mem_cons_of_mem _ (List.mem_cons_self ..))))).2.2.2.1)).mono ?_
  rintro e X3 ⟨rfl, hb⟩
  clear g_c w_c
  replace S := S.far hb rfl
  clear hb
  cases t
  all_goals
    go_wp2_with fail
    go_region_held3 (fun U => U.cell? ⟨bp, 0, none⟩ = some (.int .i64 m0) ∧ U.cell? ⟨bp, 1, none⟩ = some (.int .i64 m1) ∧ U.cell? ⟨bp, 2, none⟩ = some (.int .i64 m2) ∧ U.cell? ⟨bp, 3, none⟩ = some (.int .i64 m3) ∧ U.cell? ⟨bp, 4, none⟩ = some (.int .i64 m4) ∧ U.cell? ⟨bp, 5, none⟩ = some (.int .i64 m5) ∧ U.cell? ⟨bp, 6, none⟩ = some (.slice (some ⟨p1, 0, none⟩) z1.length z1.length) ∧ U.cell? ⟨bp, 7, none⟩ = some (.slice (some ⟨p2, 0, none⟩) z2.length z2.length) ∧ U.cell? ⟨w.heap.size, 0, none⟩ = some (.int .i64 m0) ∧ U.cell? ⟨w.heap.size, 1, none⟩ = some (.int .i64 m1) ∧ U.cell? ⟨w.heap.size, 2, none⟩ = some (.int .i64 m2) ∧ U.cell? ⟨w.heap.size, 3, none⟩ = some (.int .i64 m3) ∧ U.cell? ⟨w.heap.size, 4, none⟩ = some (.int .i64 m4) ∧ U.cell? ⟨w.heap.size, 5, none⟩ = some (.int .i64 m5) ∧ U.cell? ⟨w.heap.size, 6, none⟩ = some (.slice a1 z1.length k1) ∧ U.cell? ⟨w.heap.size, 7, none⟩ = some (.slice a2 z2.length k2) ∧ Lw w [cb lo2 hi2 bg (Obj.cells #[.int .i64 r0, .int .i64 r1, .int .i64 r2, .int .i64 r3, .int .i64 r4, .int .i64 r5, gv1, gv2] 62 (0, 0)) ra2 rb2 gv1 gv2 l' st', bx bp (Obj.cells #[.int .i64 m0, .int .i64 m1, .int .i64 m2, .int .i64 m3, .int .i64 m4, .int .i64 m5, .slice (some ⟨p1, 0, none⟩) z1.length z1.length, .slice (some ⟨p2, 0, none⟩) z2.length z2.length] 62 (0, 0)), pr lo1 hi1 (.slice (some ⟨p1, 0, none⟩) z1.length z1.length) (.slice (some ⟨p2, 0, none⟩) z2.length z2.length) z1 z2, cb lo0 hi0 bw (Obj.cells #[.int .i64 r0, .int .i64 r1, .int .i64 r2, .int .i64 r3, .int .i64 r4, .int .i64 r5, wv1, wv2] 62 (0, 0)) ra0 rb0 wv1 wv2 l' st', bx (w.heap.size + 1) (Obj.cells #[.int .i64 p.k, .int .i64 p.s, .int .i64 p.x, .int .i64 p.y] 71 (0, 0)), bx w.heap.size (Obj.cells #[.int .i64 m0, .int .i64 m1, .int .i64 m2, .int .i64 m3, .int .i64 m4, .int .i64 m5, .slice a1 z1.length k1, .slice a2 z2.length k2] 57 (0, 0))] U) (with_reducible refine SK_addstep ?_; (repeat (first | with_reducible assumption | with_reducible refine Lw.drew ?_))) (first | (go_at_call 36; with_reducible refine (HT.out _ (IB_addstep (by (repeat (first | with_reducible assumption | with_reducible refine Lw.drew ?_))) JJ.out).1 (IB_addstep (by (repeat (first | with_reducible assumption | with_reducible refine Lw.drew ?_))) JJ.out).2).mono ?_; rintro e w' hpp; obtain ⟨q1, q2, rfl, hp', hb'⟩ := PP11.get hpp; have S : Lw w [cb lo2 hi2 bg (Obj.cells #[.int .i64 r0, .int .i64 r1, .int .i64 r2, .int .i64 r3, .int .i64 r4, .int .i64 r5, gv1, gv2] 62 (0, 0)) ra2 rb2 gv1 gv2 l' st', bx bp (Obj.cells #[.int .i64 m0, .int .i64 m1, .int .i64 m2, .int .i64 m3, .int .i64 m4, .int .i64 m5, .slice (some ⟨p1, 0, none⟩) z1.length z1.length, .slice (some ⟨p2, 0, none⟩) z2.length z2.length] 62 (0, 0)), pr lo1 hi1 (.slice (some ⟨p1, 0, none⟩) z1.length z1.length) (.slice (some ⟨p2, 0, none⟩) z2.length z2.length) z1 z2, cb lo0 hi0 bw (Obj.cells #[.int .i64 r0, .int .i64 r1, .int .i64 r2, .int .i64 r3, .int .i64 r4, .int .i64 r5, wv1, wv2] 62 (0, 0)) ra0 rb0 wv1 wv2 l' st', bx (w.heap.size + 1) (Obj.cells #[.int .i64 p.k, .int .i64 p.s, .int .i64 p.x, .int .i64 p.y] 71 (0, 0)), bx w.heap.size (Obj.cells #[.int .i64 m0, .int .i64 m1, .int .i64 m2, .int .i64 m3, .int .i64 m4, .int .i64 m5, .slice a1 z1.length k1, .slice a2 z2.length k2] 57 (0, 0))] w' := Lw.far (by (repeat (first | with_reducible assumption | with_reducible refine Lw.drew ?_))) hb' rfl; have V1 := Lib.hid (Rv11.own (Pr11.o1 hp')); have V2 := Lib.hid (Rv11.own (Pr11.o2 hp'))) | (go_at_call 38; with_reducible refine (HE.out _ _ _ _ _ (EX_addstep (by (repeat (first | with_reducible assumption | with_reducible refine Lw.drew ?_)))).1 (EX_addstep (by (repeat (first | with_reducible assumption | with_reducible refine Lw.drew ?_)))).2 (by first | with_reducible exact V1.out | with_reducible exact Rv11.drew V1.out) (by first | with_reducible exact V2.out | with_reducible exact Rv11.drew V2.out)).mono ?_; rintro e w' ⟨rfl, hb'⟩; have S : Lw w [cb lo2 hi2 bg (Obj.cells #[.int .i64 r0, .int .i64 r1, .int .i64 r2, .int .i64 r3, .int .i64 r4, .int .i64 r5, gv1, gv2] 62 (0, 0)) ra2 rb2 gv1 gv2 l' st', bx bp (Obj.cells #[.int .i64 m0, .int .i64 m1, .int .i64 m2, .int .i64 m3, .int .i64 m4, .int .i64 m5, .slice (some ⟨p1, 0, none⟩) z1.length z1.length, .slice (some ⟨p2, 0, none⟩) z2.length z2.length] 62 (0, 0)), pr lo1 hi1 (.slice (some ⟨p1, 0, none⟩) z1.length z1.length) (.slice (some ⟨p2, 0, none⟩) z2.length z2.length) z1 z2, cb lo0 hi0 bw (Obj.cells #[.int .i64 r0, .int .i64 r1, .int .i64 r2, .int .i64 r3, .int .i64 r4, .int .i64 r5, wv1, wv2] 62 (0, 0)) ra0 rb0 wv1 wv2 l' st', bx (w.heap.size + 1) (Obj.cells #[.int .i64 p.k, .int .i64 p.s, .int .i64 p.x, .int .i64 p.y] 71 (0, 0)), bx w.heap.size (Obj.cells #[.int .i64 m0, .int .i64 m1, .int .i64 m2, .int .i64 m3, .int .i64 m4, .int .i64 m5, .slice a1 z1.length k1, .slice a2 z2.length k2] 57 (0, 0))] w' := Lw.far (by (repeat (first | with_reducible assumption | with_reducible refine Lw.drew ?_))) hb' rfl))
    all_goals
      clear HE
      rename_i hS9
      clear hS9
      have x_c := fun j => S.cell (List.mem_cons_of_mem _ (List.mem_cons_self ..)) j
      go_wp2_with fail
      refine (HM.out _ _ lo1 hi1 _ (S.2.1 _ (List.mem_cons_of_mem _ (List.mem_cons_of_mem _ (List.mem_cons_self ..)))).2.1 (S.get (List.mem_cons_of_mem _ (List.mem_cons_of_mem _ (List.mem_cons_self ..))))).mono ?_
      rintro e X4 ⟨rfl, hm, ho⟩
      clear x_c HM
      replace S : Lw w [cb lo2 hi2 bg (Obj.cells #[.int .i64 r0, .int .i64 r1, .int .i64 r2, .int .i64 r3, .int .i64 r4, .int .i64 r5, gv1, gv2] 62 (0, 0)) ra2 rb2 gv1 gv2 l' st', bx bp (Obj.cells #[.int .i64 m0, .int .i64 m1, .int .i64 m2, .int .i64 m3, .int .i64 m4, .int .i64 m5, .slice (some ⟨p1, 0, none⟩) z1.length z1.length, .slice (some ⟨p2, 0, none⟩) z2.length z2.length] 62 (0, 0)), mp lo1 hi1 (.slice (some ⟨p1, 0, none⟩) z1.length z1.length) (.slice (some ⟨p2, 0, none⟩) z2.length z2.length) z1 z2, cb lo0 hi0 bw (Obj.cells #[.int .i64 r0, .int .i64 r1, .int .i64 r2, .int .i64 r3, .int .i64 r4, .int .i64 r5, wv1, wv2] 62 (0, 0)) ra0 rb0 wv1 wv2 l' st', bx (w.heap.size + 1) (Obj.cells #[.int .i64 p.k, .int .i64 p.s, .int .i64 p.x, .int .i64 p.y] 71 (0, 0)), bx w.heap.size (Obj.cells #[.int .i64 m0, .int .i64 m1, .int .i64 m2, .int .i64 m3, .int .i64 m4, .int .i64 m5, .slice a1 z1.length k1, .slice a2 z2.length k2] 57 (0, 0))] X4 := Lw.chg (A := [cb lo2 hi2 bg (Obj.cells #[.int .i64 r0, .int .i64 r1, .int .i64 r2, .int .i64 r3, .int .i64 r4, .int .i64 r5, gv1, gv2] 62 (0, 0)) ra2 rb2 gv1 gv2 l' st', bx bp (Obj.cells #[.int .i64 m0, .int .i64 m1, .int .i64 m2, .int .i64 m3, .int .i64 m4, .int .i64 m5, .slice (some ⟨p1, 0, none⟩) z1.length z1.length, .slice (some ⟨p2, 0, none⟩) z2.length z2.length] 62 (0, 0))]) (C := [cb lo0 hi0 bw (Obj.cells #[.int .i64 r0, .int .i64 r1, .int .i64 r2, .int .i64 r3, .int .i64 r4, .int .i64 r5, wv1, wv2] 62 (0, 0)) ra0 rb0 wv1 wv2 l' st', bx (w.heap.size + 1) (Obj.cells #[.int .i64 p.k, .int .i64 p.s, .int .i64 p.x, .int .i64 p.y] 71 (0, 0)), bx w.heap.size (Obj.cells #[.int .i64 m0, .int .i64 m1, .int .i64 m2, .int .i64 m3, .int .i64 m4, .int .i64 m5, .slice a1 z1.length k1, .slice a2 z2.length k2] 57 (0, 0))]) (i := pr lo1 hi1 (.slice (some ⟨p1, 0, none⟩) z1.length z1.length) (.slice (some ⟨p2, 0, none⟩) z2.length z2.length) z1 z2) S ho (Mp11 lo1 hi1 (.slice (some ⟨p1, 0, none⟩) z1.length z1.length) (.slice (some ⟨p2, 0, none⟩) z2.length z2.length) z1 z2) Mp11.st hm
      clear ho hm
      have g_c := fun j => S.cellc (List.mem_cons_self ..) j
      have w_c := fun j => S.cellc (List.mem_cons_of_mem _ (List.mem_cons_of_mem _ (List.mem_cons_of_mem _ (List.mem_cons_self ..)))) j
      go_wp2_with fail
      refine (HEr.out _ _ _ _ _ (Rv11.own (S.get (List.mem_cons_self ..)).2.2.1) (Rv11.own (S.get (List.mem_cons_self ..)).2.2.2.1) (Rv11.own (S.get (List.mem_cons_of_mem _ (List.mem_cons_of_mem _ (List.mem_cons_of_mem _ (List.mem_cons_self ..))))).2.2.1) (Rv11.own (S.get (List.mem_cons_of_mem _ (List.mem_cons_of_mem _ (List.mem_cons_of_mem _ (List.mem_cons_self ..))))).2.2.2.1)).mono ?_
      rintro e X5 ⟨rfl, hb⟩
      clear g_c w_c
      replace S := S.far hb rfl
      clear hb
      have g_c := fun j => S.cellc (List.mem_cons_self ..) j
      go_wp2_with fail
      refine (HMr.out _ _ ra2 rb2 _ (Nat.le_trans (S.get (List.mem_cons_self ..)).1.2.2.2.1 (S.2.1 _ (List.mem_cons_self ..)).2.1) (S.get (List.mem_cons_self ..)).2.2).mono ?_
      rintro e X6 ⟨rfl, hm, ho⟩
      clear g_c HMr
      replace hm := Cb11.mark (S.get (List.mem_cons_self ..)) (S.2.1 _ (List.mem_cons_self ..)).2.1 hm ho
      replace ho := ho.widen (S.get (List.mem_cons_self ..)).1.2.2.1 (S.get (List.mem_cons_self ..)).1.2.2.2.1
      replace S : Lw w [mb lo2 hi2 bg (Obj.cells #[.int .i64 r0, .int .i64 r1, .int .i64 r2, .int .i64 r3, .int .i64 r4, .int .i64 r5, gv1, gv2] 62 (0, 0)) ra2 rb2 gv1 gv2 l' st', bx bp (Obj.cells #[.int .i64 m0, .int .i64 m1, .int .i64 m2, .int .i64 m3, .int .i64 m4, .int .i64 m5, .slice (some ⟨p1, 0, none⟩) z1.length z1.length, .slice (some ⟨p2, 0, none⟩) z2.length z2.length] 62 (0, 0)), mp lo1 hi1 (.slice (some ⟨p1, 0, none⟩) z1.length z1.length) (.slice (some ⟨p2, 0, none⟩) z2.length z2.length) z1 z2, cb lo0 hi0 bw (Obj.cells #[.int .i64 r0, .int .i64 r1, .int .i64 r2, .int .i64 r3, .int .i64 r4, .int .i64 r5, wv1, wv2] 62 (0, 0)) ra0 rb0 wv1 wv2 l' st', bx (w.heap.size + 1) (Obj.cells #[.int .i64 p.k, .int .i64 p.s, .int .i64 p.x, .int .i64 p.y] 71 (0, 0)), bx w.heap.size (Obj.cells #[.int .i64 m0, .int .i64 m1, .int .i64 m2, .int .i64 m3, .int .i64 m4, .int .i64 m5, .slice a1 z1.length k1, .slice a2 z2.length k2] 57 (0, 0))] X6 := Lw.chg (A := []) (C := [bx bp (Obj.cells #[.int .i64 m0, .int .i64 m1, .int .i64 m2, .int .i64 m3, .int .i64 m4, .int .i64 m5, .slice (some ⟨p1, 0, none⟩) z1.length z1.length, .slice (some ⟨p2, 0, none⟩) z2.length z2.length] 62 (0, 0)), mp lo1 hi1 (.slice (some ⟨p1, 0, none⟩) z1.length z1.length) (.slice (some ⟨p2, 0, none⟩) z2.length z2.length) z1 z2, cb lo0 hi0 bw (Obj.cells #[.int .i64 r0, .int .i64 r1, .int .i64 r2, .int .i64 r3, .int .i64 r4, .int .i64 r5, wv1, wv2] 62 (0, 0)) ra0 rb0 wv1 wv2 l' st', bx (w.heap.size + 1) (Obj.cells #[.int .i64 p.k, .int .i64 p.s, .int .i64 p.x, .int .i64 p.y] 71 (0, 0)), bx w.heap.size (Obj.cells #[.int .i64 m0, .int .i64 m1, .int .i64 m2, .int .i64 m3, .int .i64 m4, .int .i64 m5, .slice a1 z1.length k1, .slice a2 z2.length k2] 57 (0, 0))]) (i := cb lo2 hi2 bg (Obj.cells #[.int .i64 r0, .int .i64 r1, .int .i64 r2, .int .i64 r3, .int .i64 r4, .int .i64 r5, gv1, gv2] 62 (0, 0)) ra2 rb2 gv1 gv2 l' st') S ho (Mb11 lo2 hi2 bg (Obj.cells #[.int .i64 r0, .int .i64 r1, .int .i64 r2, .int .i64 r3, .int .i64 r4, .int .i64 r5, gv1, gv2] 62 (0, 0)) ra2 rb2 gv1 gv2 l' st') Mb11.st hm
      clear ho hm
      have g_c := fun j => S.cellm (List.mem_cons_self ..) j
      go_wp2_with fail
      refine (HHr.out _ _ ra2 rb2 _ (Nat.le_trans (S.get (List.mem_cons_self ..)).1.2.2.2.1 (S.2.1 _ (List.mem_cons_self ..)).2.1) (S.get (List.mem_cons_self ..)).2.2).mono ?_
      rintro e X7 ⟨rfl, hb⟩
      clear g_c
      replace S := S.far hb rfl
      clear hb
      go_wp2_with fail
      refine rg_24 _ w.heap.size (w.heap.size + 1) m0 m1 m2 m3 m4 m5 a1 a2 k1 k2 0 0 z1 z2 p r0 r1 r2 r3 r4 r5 l' st' _ (Lib.hid (S.get (List.mem_cons_of_mem _ (List.mem_cons_of_mem _ (List.mem_cons_of_mem _ (List.mem_cons_of_mem _ (List.mem_cons_of_mem _ (List.mem_cons_self ..)))))))) (Lib.hid (S.get (List.mem_cons_of_mem _ (List.mem_cons_of_mem _ (List.mem_cons_of_mem _ (List.mem_cons_of_mem _ (List.mem_cons_self ..))))))) HT (Lib.hid (JJ.out.1.below S.below)) (Lib.hid (JJ.out.2.below S.below)) HI ?_
      intro ra3 rb3 bh hv1 hv2 Y3 _ _ _ _ _ _ _ _  hb hx hp hc
      have hvo1 := st_one11 (own_one11 hp.1)
      have hvo2 := st_one11 (own_one11 hp.2.1)
      replace S := S.add hb rfl (cb X7.heap.size Y3.heap.size bh (Obj.cells #[.int .i64 r0, .int .i64 r1, .int .i64 r2, .int .i64 r3, .int .i64 r4, .int .i64 r5, hv1, hv2] 62 (0, 0)) ra3 rb3 hv1 hv2 l' st') (Nat.le_refl _) (Nat.le_refl _) ⟨hc, hx, hp⟩
      clear hb hx hp hc
      obtain ⟨lo3, hlo⟩ : ∃ lo, lo = X7.heap.size := ⟨_, rfl⟩
      rw [← hlo] at S
      clear hlo
      obtain ⟨hi3, hhi⟩ : ∃ hi, hi = Y3.heap.size := ⟨_, rfl⟩
      rw [← hhi] at S
      clear hhi
      clear HI HT
      have h_c := fun j => S.cellc (List.mem_cons_self ..) j
      have w_c := fun j => S.cellc (List.mem_cons_of_mem _ (List.mem_cons_of_mem _ (List.mem_cons_of_mem _ (List.mem_cons_of_mem _ (List.mem_cons_self ..))))) j
      go_wp2_with fail
      refine (HEr.out _ _ _ _ _ (Rv11.own (S.get (List.mem_cons_self ..)).2.2.1) (Rv11.own (S.get (List.mem_cons_self ..)).2.2.2.1) (Rv11.own (S.get (List.mem_cons_of_mem _ (List.mem_cons_of_mem _ (List.mem_cons_of_mem _ (List.mem_cons_of_mem _ (List.mem_cons_self ..)))))).2.2.1) (Rv11.own (S.get (List.mem_cons_of_mem _ (List.mem_cons_of_mem _ (List.mem_cons_of_mem _ (List.mem_cons_of_mem _ (List.mem_cons_self ..)))))).2.2.2.1)).mono ?_
      rintro e X8 ⟨rfl, hb⟩
      clear h_c w_c
      replace S := S.far hb rfl
      clear hb
      have g_c := fun j => S.cellm (List.mem_cons_of_mem _ (List.mem_cons_self ..)) j
      go_wp2_with fail
      refine (HHr.out _ _ ra2 rb2 _ (Nat.le_trans (S.get (List.mem_cons_of_mem _ (List.mem_cons_self ..))).1.2.2.2.1 (S.2.1 _ (List.mem_cons_of_mem _ (List.mem_cons_self ..))).2.1) (S.get (List.mem_cons_of_mem _ (List.mem_cons_self ..))).2.2).mono ?_
      rintro e X9 ⟨rfl, hb⟩
      clear g_c
      replace S := S.far hb rfl
      clear hb
      go_wp2_with fail
      go_ret
      exact ⟨rfl, S.below⟩
set_option maxRecDepth 20000 in
set_option maxHeartbeats 1000000 in
theorem addstep_big (m0 m1 m2 m3 m4 m5 : Int) (a1 : Option Addr) (k1 : Nat) (z1 : List H11) (a2 : Option Addr) (k2 : Nat) (z2 : List S11) (p : S11) (l0 : z1.length ≤ maxLen) (h0 : z2.length ≤ maxLen) (hz : ¬ (z1.length + z2.length ≤ 1048576)) (w : World) : Calls Try.prog 10 #[.agg #[.int .i64 m0, .int .i64 m1, .int .i64 m2, .int .i64 m3, .int .i64 m4, .int .i64 m5, .slice a1 z1.length k1, .slice a2 z2.length k2], .agg #[.int .i64 p.k, .int .i64 p.s, .int .i64 p.x, .int .i64 p.y]] w fun e w' => e = .returned (.bool true) ∧ Below w.heap.size w w' := by
  have HZ := Lib.hid (size_plan11 m0 m1 m2 m3 m4 m5 a1 z1.length k1 a2 z2.length k2 l0 h0)
  rw [if_pos (by omega)] at HZ
  clear hz l0 h0
  go_enter Try.func10, Try.ntmps10
  go_wp2_with fail
  generalize hW : (World.alloc _ _ : World) = W0
  have hB : Below w.heap.size w W0 := by rw [← hW]; (repeat (first | exact Below.refl _ _ | assumption | refine Below.setCell ?_ (by first | (simp; done) | (simp; omega)) _ | refine Below.alloc ?_ (by first | (simp; done) | (simp; omega)) _ | refine Below.drew ?_))
  clear hW
  refine (HZ.out _).mono ?_
  rintro e W1 ⟨rfl, hb⟩
  have hB1 := below_of hB hb (by have := hB.size; omega)
  clear hb hB
  go_wp2_with fail
  go_ret
  exact ⟨rfl, hB1⟩
theorem addstep_law (m0 m1 m2 m3 m4 m5 : Int) (a1 : Option Addr) (k1 : Nat) (z1 : List H11) (a2 : Option Addr) (k2 : Nat) (z2 : List S11) (p : S11) (l0 : z1.length ≤ maxLen) (h0 : z2.length ≤ maxLen) (hwf : ∀ p ∈ z2, (Lit.int .i64 p.x).wf = true ∧ (Lit.int .i64 p.y).wf = true) (hwp : (Lit.int .i64 p.x).wf = true ∧ (Lit.int .i64 p.y).wf = true) (w : World) (I0 : Is11 ch11 6 w a1 z1) (J0 : Is11 cs11 4 w a2 z2) : Calls Try.prog 10 #[.agg #[.int .i64 m0, .int .i64 m1, .int .i64 m2, .int .i64 m3, .int .i64 m4, .int .i64 m5, .slice a1 z1.length k1, .slice a2 z2.length k2], .agg #[.int .i64 p.k, .int .i64 p.s, .int .i64 p.x, .int .i64 p.y]] w fun e w' => e = .returned (.bool true) ∧ Below w.heap.size w w' := by
  by_cases hz : z1.length + z2.length ≤ 1048576
  · obtain ⟨r0, r1, r2, r3, r4, r5, l', st', t, hl', hst', h1, h2⟩ := addstep_pair m0 m1 m2 m3 m4 m5 z1 z2 p (by omega) (by omega) hwf hwp
    exact addstep_core m0 m1 m2 m3 m4 m5 a1 k1 z1 a2 k2 z2 p l0 h0 r0 r1 r2 r3 r4 r5 l' st' t hl' hst' (Lib.hid h1) (Lib.hid h2) hz w I0 J0
  · exact addstep_big m0 m1 m2 m3 m4 m5 a1 k1 z1 a2 k2 z2 p l0 h0 hz w
end Go.Proofs.Ytnkjamdpafpcpaa
