/- CONTRACTS: all sheets of a plan, of the code. -/
import Derived.Test.YtnkjamdpafpcpaaPi11
import Derived.Test.YtnkjamdpafpcpaaAp11
import Derived.RegionTactic
import Derived.WalkKit
import Derived.ProofKit
import Derived.OpenShut
import Derived.Lib.Hide
import Derived.WalkSpells
import Derived.Below
import Derived.BigQuiet
import Derived.LoopN
namespace Go.Proofs.Ytnkjamdpafpcpaa
open Go.ChangeShapes Go.WideShapes Go.ChangeAt Go.RowKit
set_option linter.unusedVariables false
/-- The sheets behind the first steps. -/
def sh11 (F : List Fn11) (st : List S11) (f : Fn11) (n : Nat) : List H11 := (List.range (n + 1)).map fun i => t11 (at11 F st f i)
theorem sh11_len (F : List Fn11) (st : List S11) (f : Fn11) (n : Nat) : (sh11 F st f n).length = n + 1 := by simp [sh11]
theorem sh11_zero (F : List Fn11) (st : List S11) (f : Fn11) : sh11 F st f 0 = [t11 f] := by simp [sh11, at11_zero]
theorem sh11_succ (F : List Fn11) (st : List S11) (f : Fn11) (n : Nat) : sh11 F st f (n + 1) = sh11 F st f n ++ [t11 (at11 F st f (n + 1))] := by
  unfold sh11
  rw [List.range_succ, List.map_append]
  rfl
theorem sh11_get (F : List Fn11) (st : List S11) (f : Fn11) {n i : Nat} (h : i ≤ n) : (sh11 F st f n)[i]'(by rw [sh11_len]; omega) = t11 (at11 F st f i) := by
  simp [sh11]
theorem hv11_snoc (l : List H11) (t : H11) : hv11 (l ++ [t]) = hv11 l ++ ch11 t := by simp [hv11]
theorem six_new (W : World) (u0 u1 u2 u3 u4 u5 : Value) (t : TypeId) (j : Nat) (u : Value) (h : ([u0, u1, u2, u3, u4, u5] : List Value)[j]? = some u) : (W.alloc (.cells #[u0, u1, u2, u3, u4, u5] t)).cell? ((⟨W.heap.size, 0, none⟩ : Addr).add j) = some u := by
  rcases j with _ | _ | _ | _ | _ | _ | j
  · simp only [List.getElem?_cons_zero, Option.some.injEq] at h; subst h; go_simp
  · simp at h; subst h; go_simp
  · simp at h; subst h; go_simp
  · simp at h; subst h; go_simp
  · simp at h; subst h; go_simp
  · simp at h; subst h; go_simp
  · simp at h
theorem ints_six (a b c d e f : Int) : ∀ u ∈ ([.int .i64 a, .int .i64 b, .int .i64 c, .int .i64 d, .int .i64 e, .int .i64 f] : List Value), u.oneCell' = true := by intro u hu; simp at hu; rcases hu with rfl | rfl | rfl | rfl | rfl | rfl <;> rfl
/-- Midway: the plan's box, and the sheets so far in a row of their own. -/
def Rs11 (m0 m1 m2 m3 m4 m5 : Int) (V1 V2 : Value) (l : List H11) (v : Value) (w U : World) : Prop := U.heap[w.heap.size]? = some (o8_11 m0 m1 m2 m3 m4 m5 V1 V2) ∧ U.ownsRow (w.heap.size + 2) 28 6 v l.length (hv11 l) ∧ w.heap.size + 2 ≤ U.heap.size ∧ Below w.heap.size w U
theorem Rs11.far {m0 m1 m2 m3 m4 m5 : Int} {V1 V2 v : Value} {l : List H11} {w U V : World} {M : Nat} (h : Rs11 m0 m1 m2 m3 m4 m5 V1 V2 l v w U) (hb : Below M U V) (hM : M = U.heap.size) : Rs11 m0 m1 m2 m3 m4 m5 V1 V2 l v w V := ⟨rowk h.1 hb hM, h.2.1.kept (grown_below hb hM) (by cases hq : v.ownBlock <;> simp), Nat.le_trans h.2.2.1 hb.size, below_of h.2.2.2 hb (by have := h.2.2.2.size; omega)⟩
theorem Rs11.al {m0 m1 m2 m3 m4 m5 : Int} {V1 V2 v : Value} {l : List H11} {w U : World} (h : Rs11 m0 m1 m2 m3 m4 m5 V1 V2 l v w U) (o : Obj) : Rs11 m0 m1 m2 m3 m4 m5 V1 V2 l v w (U.alloc o) := h.far (M := U.heap.size) ((Below.refl _ _).alloc (Nat.le_refl _) o) rfl
theorem Rs11.drew {m0 m1 m2 m3 m4 m5 : Int} {V1 V2 v : Value} {l : List H11} {w U : World} (h : Rs11 m0 m1 m2 m3 m4 m5 V1 V2 l v w U) : Rs11 m0 m1 m2 m3 m4 m5 V1 V2 l v w U.drew := h.far (M := U.heap.size) (Below.refl _ _).drew rfl
theorem Rs11.own {m0 m1 m2 m3 m4 m5 : Int} {V1 V2 v : Value} {l : List H11} {w U : World} (h : Rs11 m0 m1 m2 m3 m4 m5 V1 V2 l v w U) : U.ownsRow (w.heap.size + 2) 28 6 v l.length (hv11 l) := h.2.1
theorem Rs11.snoc {m0 m1 m2 m3 m4 m5 : Int} {V1 V2 v v' : Value} {l : List H11} {w U V : World} {t : H11} (h : Rs11 m0 m1 m2 m3 m4 m5 V1 V2 l v w U) (ho : V.ownsRow (w.heap.size + 2) 28 6 v' (l.length + 1) (hv11 l ++ ch11 t)) (hg : U.grownBy V v.ownBlock) : Rs11 m0 m1 m2 m3 m4 m5 V1 V2 (l ++ [t]) v' w V := by
  have hlt := h.2.1.lt
  refine ⟨?_, ?_, Nat.le_trans h.2.2.1 hg.size, h.2.2.2.grown hg h.2.2.2.size (fun k hk => by have := (hlt k hk).1; omega)⟩
  · rw [hg.block _ (by have := h.2.2.1; omega) (fun e => by have := (hlt _ e.symm).1; omega)]
    exact h.1
  · rw [hv11_snoc, List.length_append]
    exact ho
/-- In the midst of a round: the step's box as well. -/
def Rt11 (m0 m1 m2 m3 m4 m5 : Int) (V1 V2 : Value) (l : List H11) (v : Value) (gb : Nat) (k : Int) (s x y : Nat) (w U : World) : Prop := Rs11 m0 m1 m2 m3 m4 m5 V1 V2 l v w U ∧ U.heap[gb]? = some (o4_11 k s x y)
theorem Rt11.far {m0 m1 m2 m3 m4 m5 k : Int} {V1 V2 v : Value} {l : List H11} {gb s x y : Nat} {w U V : World} {M : Nat} (h : Rt11 m0 m1 m2 m3 m4 m5 V1 V2 l v gb k s x y w U) (hb : Below M U V) (hM : M = U.heap.size) : Rt11 m0 m1 m2 m3 m4 m5 V1 V2 l v gb k s x y w V := ⟨h.1.far hb hM, rowk h.2 hb hM⟩
theorem Rt11.drew {m0 m1 m2 m3 m4 m5 k : Int} {V1 V2 v : Value} {l : List H11} {gb s x y : Nat} {w U : World} (h : Rt11 m0 m1 m2 m3 m4 m5 V1 V2 l v gb k s x y w U) : Rt11 m0 m1 m2 m3 m4 m5 V1 V2 l v gb k s x y w U.drew := h.far (M := U.heap.size) (Below.refl _ _).drew rfl
theorem Rt11.al {m0 m1 m2 m3 m4 m5 k : Int} {V1 V2 v : Value} {l : List H11} {gb s x y : Nat} {w U : World} (h : Rt11 m0 m1 m2 m3 m4 m5 V1 V2 l v gb k s x y w U) (o : Obj) : Rt11 m0 m1 m2 m3 m4 m5 V1 V2 l v gb k s x y w (U.alloc o) := h.far (M := U.heap.size) ((Below.refl _ _).alloc (Nat.le_refl _) o) rfl
theorem Rt11.bel {m0 m1 m2 m3 m4 m5 k : Int} {V1 V2 v : Value} {l : List H11} {gb s x y : Nat} {w U : World} (h : Rt11 m0 m1 m2 m3 m4 m5 V1 V2 l v gb k s x y w U) : Below w.heap.size w U := h.1.2.2.2
/-- What the region reads: it is kept over an append onto the sheets. -/
def Rl11 (m0 m1 m2 m3 m4 m5 : Int) (V1 V2 : Value) (l : List H11) (gs gb : Nat) (k : Int) (s x y : Nat) (w U : World) : Prop := U.heap[w.heap.size]? = some (o8_11 m0 m1 m2 m3 m4 m5 V1 V2) ∧ U.heap[gb]? = some (o4_11 k s x y) ∧ U.rangeAt gs 0 (hv11 l) ∧ Below w.heap.size w U
theorem Rl11.far {m0 m1 m2 m3 m4 m5 k : Int} {V1 V2 : Value} {l : List H11} {gs gb s x y : Nat} {w U V : World} {M : Nat} (h : Rl11 m0 m1 m2 m3 m4 m5 V1 V2 l gs gb k s x y w U) (hb : Below M U V) (hM : M = U.heap.size) : Rl11 m0 m1 m2 m3 m4 m5 V1 V2 l gs gb k s x y w V := ⟨rowk h.1 hb hM, rowk h.2.1 hb hM, ra_below h.2.2.1 hb hM, below_of h.2.2.2 hb (by have := h.2.2.2.size; omega)⟩
theorem Rl11.drew {m0 m1 m2 m3 m4 m5 k : Int} {V1 V2 : Value} {l : List H11} {gs gb s x y : Nat} {w U : World} (h : Rl11 m0 m1 m2 m3 m4 m5 V1 V2 l gs gb k s x y w U) : Rl11 m0 m1 m2 m3 m4 m5 V1 V2 l gs gb k s x y w U.drew := h.far (M := U.heap.size) (Below.refl _ _).drew rfl
theorem Rl11.al {m0 m1 m2 m3 m4 m5 k : Int} {V1 V2 : Value} {l : List H11} {gs gb s x y : Nat} {w U : World} (h : Rl11 m0 m1 m2 m3 m4 m5 V1 V2 l gs gb k s x y w U) (o : Obj) : Rl11 m0 m1 m2 m3 m4 m5 V1 V2 l gs gb k s x y w (U.alloc o) := h.far (M := U.heap.size) ((Below.refl _ _).alloc (Nat.le_refl _) o) rfl
theorem Rl11.bel {m0 m1 m2 m3 m4 m5 k : Int} {V1 V2 : Value} {l : List H11} {gs gb s x y : Nat} {w U : World} (h : Rl11 m0 m1 m2 m3 m4 m5 V1 V2 l gs gb k s x y w U) : Below w.heap.size w U := h.2.2.2
theorem Rl11.app {m0 m1 m2 m3 m4 m5 k : Int} {V1 V2 : Value} {l : List H11} {gs gb s x y : Nat} {w U V : World} (h : Rl11 m0 m1 m2 m3 m4 m5 V1 V2 l gs gb k s x y w U) (hg : U.grownBy V (some gs)) (hk : V.rangeAt gs 0 (hv11 l)) (hw : w.heap.size + 2 ≤ gs) (hne : gb ≠ gs) : Rl11 m0 m1 m2 m3 m4 m5 V1 V2 l gs gb k s x y w V := by
  obtain ⟨h1, h2, h3, h4⟩ := h
  refine ⟨?_, ?_, hk, h4.grown hg h4.size (fun k hk => by cases hk; omega)⟩
  · rw [hg.block _ (Array.getElem?_eq_some_iff.1 h1).1 (by simp; omega)]; exact h1
  · rw [hg.block _ (Array.getElem?_eq_some_iff.1 h2).1 (by simp; omega)]; exact h2
theorem SKl11 {m0 m1 m2 m3 m4 m5 k : Int} {V1 V2 : Value} {l : List H11} {gs gb s x y i : Nat} {f : Fn11} {w U : World} (h : Rl11 m0 m1 m2 m3 m4 m5 V1 V2 l gs gb k s x y w U) (hi : i < l.length) (he : l[i] = t11 f) :
    U.cell? ⟨w.heap.size, 0, none⟩ = some (.int .i64 m0) ∧ U.cell? ⟨w.heap.size, 1, none⟩ = some (.int .i64 m1) ∧ U.cell? ⟨w.heap.size, 2, none⟩ = some (.int .i64 m2) ∧ U.cell? ⟨w.heap.size, 3, none⟩ = some (.int .i64 m3) ∧ U.cell? ⟨w.heap.size, 4, none⟩ = some (.int .i64 m4) ∧ U.cell? ⟨w.heap.size, 5, none⟩ = some (.int .i64 m5) ∧ U.cell? ⟨w.heap.size, 6, none⟩ = some V1 ∧ U.cell? ⟨w.heap.size, 7, none⟩ = some V2 ∧ U.cell? ⟨gs, i * 6, none⟩ = some (.int .i64 (rowv (f 0))) ∧ U.cell? ⟨gs, i * 6 + 1, none⟩ = some (.int .i64 (rowv (f 1))) ∧ U.cell? ⟨gs, i * 6 + 2, none⟩ = some (.int .i64 (rowv (f 2))) ∧ U.cell? ⟨gs, i * 6 + 3, none⟩ = some (.int .i64 (rowv (f 3))) ∧ U.cell? ⟨gs, i * 6 + 4, none⟩ = some (.int .i64 (rowv (f 4))) ∧ U.cell? ⟨gs, i * 6 + 5, none⟩ = some (.int .i64 (rowv (f 5))) ∧ U.cell? ⟨gb, 0, none⟩ = some (.int .i64 k) ∧ U.cell? ⟨gb, 1, none⟩ = some (.int .i64 (s : Int)) ∧ U.cell? ⟨gb, 2, none⟩ = some (.int .i64 (x : Int)) ∧ U.cell? ⟨gb, 3, none⟩ = some (.int .i64 (y : Int)) := by
  have h0 := fun j => cell_of_row U _ j _ _ _ h.1
  have h2 := fun j => cell_of_row U _ j _ _ _ h.2.1
  have hr := fm_range ch11_len (h.2.2.1) hi
  rw [he] at hr
  exact ⟨h0 0, h0 1, h0 2, h0 3, h0 4, h0 5, h0 6, h0 7, hr 0 _ rfl, hr 1 _ rfl, hr 2 _ rfl, hr 3 _ rfl, hr 4 _ rfl, hr 5 _ rfl, h2 0, h2 1, h2 2, h2 3⟩
set_option maxRecDepth 20000 in
set_option maxHeartbeats 4000000 in
theorem sheets_11 (m0 m1 m2 m3 m4 m5 : Int) (f : Fn11) (F : List Fn11) (st : List S11) (g1 c1 g2 c2 : Nat) (hst : st.length ≤ 40) (hF : F.length ≤ 4) (hv : ∀ p ∈ st, okS F.length p = true) (w : World) (h1 : w.rangeAt g1 0 (hv11 (F.map t11))) (h2 : w.rangeAt g2 0 (sv11 st)) : Calls Try.prog 198 #[.agg #[.int .i64 m0, .int .i64 m1, .int .i64 m2, .int .i64 m3, .int .i64 m4, .int .i64 m5, .slice (some ⟨g1, 0, none⟩) F.length c1, .slice (some ⟨g2, 0, none⟩) st.length c2], .agg #[.int .i64 (rowv (f 0)), .int .i64 (rowv (f 1)), .int .i64 (rowv (f 2)), .int .i64 (rowv (f 3)), .int .i64 (rowv (f 4)), .int .i64 (rowv (f 5))]] w fun e w' => ∃ g cap, e = .returned (.slice (some ⟨g, 0, none⟩) (st.length + 1) cap) ∧ w'.ownsRow w.heap.size 28 6 (.slice (some ⟨g, 0, none⟩) (st.length + 1) cap) (st.length + 1) (hv11 (sh11 F st f st.length)) ∧ Below w.heap.size w w' := by
  obtain ⟨i0, hi, hz0, hz1, hz2⟩ := infos_sheets11
  have HV := Lib.hid hv
  have R1 := Lib.hid h1
  have R2 := Lib.hid h2
  clear hv h1 h2
  go_enter Try.func198, Try.ntmps198
  go_wp2_with fail
  generalize hW : (World.alloc _ _ : World) = W0
  have S0 : Hid (Rs11 m0 m1 m2 m3 m4 m5 (.slice (some ⟨g1, 0, none⟩) F.length c1) (.slice (some ⟨g2, 0, none⟩) st.length c2) (sh11 F st f 0) (.slice (some ⟨w.heap.size + 1 + 1, 0, none⟩) 1 1) w W0) := Lib.hid (by
    rw [sh11_zero, ← hW]
    refine ⟨alloc_past (alloc_past (alloc_at rfl)), ?_, by simp, by (repeat (first | exact Below.refl _ _ | assumption | refine Below.setCell ?_ (by first | (simp; done) | (simp; omega)) _ | refine Below.alloc ?_ (by first | (simp; done) | (simp; omega)) _ | refine Below.drew ?_))⟩
    have h := World.ownsRow_lit (base := w.heap.size + 2) (e := 28) (size := 6) ((w.alloc (o8_11 m0 m1 m2 m3 m4 m5 (.slice (some ⟨g1, 0, none⟩) F.length c1) (.slice (some ⟨g2, 0, none⟩) st.length c2))).alloc (o6_11 f)) #[.int .i64 (rowv (f 0)), .int .i64 (rowv (f 1)), .int .i64 (rowv (f 2)), .int .i64 (rowv (f 3)), .int .i64 (rowv (f 4)), .int .i64 (rowv (f 5))] 1 (by simp) (by unfold maxLen; omega) rfl
    rw [show ((w.alloc (o8_11 m0 m1 m2 m3 m4 m5 (.slice (some ⟨g1, 0, none⟩) F.length c1) (.slice (some ⟨g2, 0, none⟩) st.length c2))).alloc (o6_11 f)).heap.size = w.heap.size + 1 + 1 by simp] at h
    exact h)
  clear hW
  go_wp2_with fail
  go_loopw [5, 13] (fun a i wr => ∃ (k gs cap : Nat), k ≤ st.length ∧ a = .slice (some ⟨gs, 0, none⟩) (k + 1) cap ∧ i = .int .i64 k ∧ Hid (Rs11 m0 m1 m2 m3 m4 m5 (.slice (some ⟨g1, 0, none⟩) F.length c1) (.slice (some ⟨g2, 0, none⟩) st.length c2) (sh11 F st f k) (.slice (some ⟨gs, 0, none⟩) (k + 1) cap) w wr)) (fun _ i _ => st.length - (intOf i).toNat)
  case atStart => exact ⟨0, w.heap.size + 1 + 1, 1, by omega, rfl, rfl, S0⟩
  case round =>
    obtain ⟨k, gs, cap, hk, rfl, rfl, HB⟩ := hrel
    by_cases hlt : k < st.length
    · have hlt' : (k : Int) < st.length := by omega
      have hk0 : (0 : Int) ≤ k := by omega
      have r2 := fm_range cs11_len (ra_below R2.out HB.out.2.2.2 rfl) hlt
      have HE := Lib.hid (at11_succ F st f hlt)
      obtain ⟨l, hl⟩ : ∃ l, l = sh11 F st f k := ⟨_, rfl⟩
      have HN0 : l.length = k + 1 := by rw [hl]; exact sh11_len F st f k
      have HG := Lib.hid (show ∀ h : k < l.length, l[k] = t11 (at11 F st f k) by subst hl; intro h; exact sh11_get F st f (Nat.le_refl k))
      have HL := Lib.hid (show sh11 F st f (k + 1) = l ++ [t11 (at11 F st f (k + 1))] by rw [hl]; exact sh11_succ F st f k)
      rw [← hl] at HB
      clear hl
      generalize at11 F st f k = G at HE HG
      obtain ⟨h3, h4, s, x, y, e1, e2, e3, hs, hx, hy⟩ := okS_get (HV.out _ (List.getElem_mem hlt))
      generalize st[k] = p at r2 HE h3 h4 e1 e2 e3
      obtain ⟨pk, ps, px, py⟩ := p
      dsimp only [cs11] at r2 h3 h4 e1 e2 e3
      subst e1 e2 e3
      have HN := Lib.hid (fun W h => ipress_11 m0 m1 m2 m3 m4 m5 (.slice (some ⟨g2, 0, none⟩) st.length c2) G F pk h3 h4 s x y g1 c1 hs hx hy W h)
      generalize nx11 F G ⟨pk, s, x, y⟩ = G2 at HN HE
      clear h3 h4 hs hx hy
      have hkl : k < l.length := by omega
      have hkl' : (k : Int) < (l.length : Int) := by omega
      have q0 := r2 0 _ rfl
      have q1 := r2 1 _ rfl
      have q2 := r2 2 _ rfl
      have q3 := r2 3 _ rfl
      simp only [Nat.add_zero] at q0
      clear r2
      go_wp2_with fail
      have k0 : Rt11 m0 m1 m2 m3 m4 m5 (.slice (some ⟨g1, 0, none⟩) F.length c1) (.slice (some ⟨g2, 0, none⟩) st.length c2) l (.slice (some ⟨gs, 0, none⟩) l.length cap) wr.heap.size pk s x y w (wr.alloc (o4_11 pk s x y)) := ⟨by rw [HN0]; exact HB.out.al _, alloc_at rfl⟩
      clear q0 q1 q2 q3
      obtain ⟨gb, hgb⟩ : ∃ gb, gb = wr.heap.size := ⟨_, rfl⟩
      have hgbn : gb ≠ gs := by have := (HB.out.own.lt gs rfl).2; omega
      rw [← hgb] at k0 ⊢
      clear hgb
      generalize (World.alloc _ _ : World) = W2 at k0 ⊢
      have HQ := Lib.hid (HG.out hkl)
      rw [← HN0]
      have HN1 := Lib.hid HN0
      clear HN0
      have KL := Lib.hid (show Rl11 m0 m1 m2 m3 m4 m5 (.slice (some ⟨g1, 0, none⟩) F.length c1) (.slice (some ⟨g2, 0, none⟩) st.length c2) l gs gb pk s x y w W2 from ⟨k0.1.1, k0.2, own_range k0.1.own, k0.1.2.2.2⟩)
      have KO := Lib.hid k0.1
      have HGN : Hid (gb ≠ gs) := Lib.hid hgbn
      clear k0 HB
      refine wp_region_held_drew (S := fun U => U.cell? ⟨w.heap.size, 0, none⟩ = some (.int .i64 m0) ∧ U.cell? ⟨w.heap.size, 1, none⟩ = some (.int .i64 m1) ∧ U.cell? ⟨w.heap.size, 2, none⟩ = some (.int .i64 m2) ∧ U.cell? ⟨w.heap.size, 3, none⟩ = some (.int .i64 m3) ∧ U.cell? ⟨w.heap.size, 4, none⟩ = some (.int .i64 m4) ∧ U.cell? ⟨w.heap.size, 5, none⟩ = some (.int .i64 m5) ∧ U.cell? ⟨w.heap.size, 6, none⟩ = some (.slice (some ⟨g1, 0, none⟩) F.length c1) ∧ U.cell? ⟨w.heap.size, 7, none⟩ = some (.slice (some ⟨g2, 0, none⟩) st.length c2) ∧ U.cell? ⟨gs, k * 6, none⟩ = some (.int .i64 (rowv (G 0))) ∧ U.cell? ⟨gs, k * 6 + 1, none⟩ = some (.int .i64 (rowv (G 1))) ∧ U.cell? ⟨gs, k * 6 + 2, none⟩ = some (.int .i64 (rowv (G 2))) ∧ U.cell? ⟨gs, k * 6 + 3, none⟩ = some (.int .i64 (rowv (G 3))) ∧ U.cell? ⟨gs, k * 6 + 4, none⟩ = some (.int .i64 (rowv (G 4))) ∧ U.cell? ⟨gs, k * 6 + 5, none⟩ = some (.int .i64 (rowv (G 5))) ∧ U.cell? ⟨gb, 0, none⟩ = some (.int .i64 pk) ∧ U.cell? ⟨gb, 1, none⟩ = some (.int .i64 (s : Int)) ∧ U.cell? ⟨gb, 2, none⟩ = some (.int .i64 (x : Int)) ∧ U.cell? ⟨gb, 3, none⟩ = some (.int .i64 (y : Int))) (by kernel_rfl) ?_ (fun hHeld => ?_)
      · (try dsimp only)
        exact SKl11 KL.out.drew hkl HQ.out
      have HL1 := Lib.hid KL.out.drew
      have HO1 := Lib.hid KO.out.drew
      obtain ⟨V, hV⟩ : ∃ X, X = W2.drew := ⟨_, rfl⟩
      rw [← hV] at HL1 HO1 hHeld ⊢
      clear hV KL KO
      refine wpAnyH_take (i := 0) (oi := { dst := some 18, op := Go.Op.move (Go.Operand.tmp 5), type := 59, pos := "l11_plans.go:91", after := #[], guard := none }) (v := ?_) rfl (by kernel_rfl) (by kernel_rfl) (by kernel_rfl) (fun _ _ _ h => h) (Or.inl ⟨by rfl, ?_⟩) (by assumption) ?_
      rotate_left
      · intro w hSw; (try dsimp only at hSw); go_simp; (try with_reducible rfl)
      simp only [Act.put, List.setIfInBounds_toArray, List.set_cons_zero, List.set_cons_succ]
      refine wpAnyH_take (i := 1) (oi := { dst := some 19, op := Go.Op.load 62 (Go.Operand.tmp 2), type := 62, pos := "l11_plans.go:91", after := #[], guard := none }) (v := ?_) rfl (by kernel_rfl) (by kernel_rfl) (by kernel_rfl) (fun _ _ _ h => h) (Or.inl ⟨by rfl, ?_⟩) (by assumption) ?_
      rotate_left
      · intro w hSw; (try dsimp only at hSw); go_simp; (try with_reducible rfl)
      simp only [Act.put, List.setIfInBounds_toArray, List.set_cons_zero, List.set_cons_succ]
      refine wpAnyH_take (i := 2) (oi := { dst := some 20, op := Go.Op.move (Go.Operand.tmp 5), type := 59, pos := "l11_plans.go:91", after := #[], guard := none }) (v := ?_) rfl (by kernel_rfl) (by kernel_rfl) (by kernel_rfl) (fun _ _ _ h => h) (Or.inl ⟨by rfl, ?_⟩) (by assumption) ?_
      rotate_left
      · intro w hSw; (try dsimp only at hSw); go_simp; (try with_reducible rfl)
      simp only [Act.put, List.setIfInBounds_toArray, List.set_cons_zero, List.set_cons_succ]
      refine wpAnyH_take (i := 3) (oi := { dst := some 21, op := Go.Op.move (Go.Operand.tmp 6), type := 3, pos := "l11_plans.go:91", after := #[], guard := none }) (v := ?_) rfl (by kernel_rfl) (by kernel_rfl) (by kernel_rfl) (fun _ _ _ h => h) (Or.inl ⟨by rfl, ?_⟩) (by assumption) ?_
      rotate_left
      · intro w hSw; (try dsimp only at hSw); go_simp; (try with_reducible rfl)
      simp only [Act.put, List.setIfInBounds_toArray, List.set_cons_zero, List.set_cons_succ]
      refine wpAnyH_take (i := 4) (oi := { dst := some 22, op := Go.Op.indexAddr 59 (Go.Operand.tmp 20) (Go.Operand.tmp 21), type := 0, pos := "l11_plans.go:91", after := #[{ on := 2, ground := Go.Ground.data }, { on := 3, ground := Go.Ground.data }], guard := none }) (v := ?_) rfl (by kernel_rfl) (by kernel_rfl) (by kernel_rfl) (fun _ _ _ h => h) (Or.inl ⟨by rfl, ?_⟩) (by assumption) ?_
      rotate_left
      · intro w hSw; (try dsimp only at hSw); go_simp; (try with_reducible rfl)
      simp only [Act.put, List.setIfInBounds_toArray, List.set_cons_zero, List.set_cons_succ]
      refine wpAnyH_take (i := 5) (oi := { dst := some 23, op := Go.Op.load 28 (Go.Operand.tmp 22), type := 28, pos := "l11_plans.go:91", after := #[{ on := 4, ground := Go.Ground.data }], guard := none }) (v := ?_) rfl (by kernel_rfl) (by kernel_rfl) (by kernel_rfl) (fun _ _ _ h => h) (Or.inl ⟨by rfl, ?_⟩) (by assumption) ?_
      rotate_left
      · intro w hSw; (try dsimp only at hSw); go_simp; (try with_reducible rfl)
      simp only [Act.put, List.setIfInBounds_toArray, List.set_cons_zero, List.set_cons_succ]
      refine wpAnyH_take (i := 6) (oi := { dst := some 24, op := Go.Op.load 73 (Go.Operand.tmp 7), type := 73, pos := "l11_plans.go:91", after := #[], guard := none }) (v := ?_) rfl (by kernel_rfl) (by kernel_rfl) (by kernel_rfl) (fun _ _ _ h => h) (Or.inl ⟨by rfl, ?_⟩) (by assumption) ?_
      rotate_left
      · intro w hSw; (try dsimp only at hSw); go_simp; (try with_reducible rfl)
      simp only [Act.put, List.setIfInBounds_toArray, List.set_cons_zero, List.set_cons_succ]
      refine wpAnyH_ready (rs := [7]) (by kernel_rfl) (by simp) ?_
      refine AllReadyH.cons (o := { dst := some 25, op := Go.Op.call { callee := Go.Callee.value (Go.Operand.func 226), args := #[Go.Operand.tmp 19, Go.Operand.tmp 23, Go.Operand.tmp 24], argTypes := #[62, 28, 73] }, type := 28, pos := "l11_plans.go:91", after := #[{ on := 1, ground := Go.Ground.data }, { on := 5, ground := Go.Ground.data }, { on := 6, ground := Go.Ground.data }], guard := none }) rfl (fun K hK => ?_) AllReadyH.nil
      go_simp
      refine (HN.out _ (ra_below R1.out HL1.out.bel rfl)).mono ?_
      rintro e V1 ⟨rfl, hb⟩
      replace HL1 := Lib.hid (HL1.out.far hb rfl)
      replace HO1 := Lib.hid (HO1.out.far hb rfl)
      clear hb HN
      refine hK.out _ _ ?_ (fun hHeld => ?_)
      · (try dsimp only)
        exact SKl11 HL1.out hkl HQ.out
      clear hK K
      (try simp only [Act.put, List.setIfInBounds_toArray, List.set_cons_zero, List.set_cons_succ])
      refine wpAnyH_ready (rs := [8]) (by kernel_rfl) (by simp) ?_
      refine AllReadyH.cons (o := { dst := some 26, op := Go.Op.buildSlice 59 1 #[(0, Go.Operand.tmp 25)], type := 59, pos := "l11_plans.go:91", after := #[{ on := 7, ground := Go.Ground.data }], guard := none }) rfl (fun K hK => ?_) AllReadyH.nil
      go_simp
      have HNew := Lib.hid (six_new V1 (.int .i64 (rowv (G2 0))) (.int .i64 (rowv (G2 1))) (.int .i64 (rowv (G2 2))) (.int .i64 (rowv (G2 3))) (.int .i64 (rowv (G2 4))) (.int .i64 (rowv (G2 5))) 28)
      replace HL1 := Lib.hid (HL1.out.al (.cells #[.int .i64 (rowv (G2 0)), .int .i64 (rowv (G2 1)), .int .i64 (rowv (G2 2)), .int .i64 (rowv (G2 3)), .int .i64 (rowv (G2 4)), .int .i64 (rowv (G2 5))] 28))
      replace HO1 := Lib.hid (HO1.out.al (.cells #[.int .i64 (rowv (G2 0)), .int .i64 (rowv (G2 1)), .int .i64 (rowv (G2 2)), .int .i64 (rowv (G2 3)), .int .i64 (rowv (G2 4)), .int .i64 (rowv (G2 5))] 28))
      refine hK.out _ _ ?_ (fun hHeld => ?_)
      · (try dsimp only)
        exact SKl11 HL1.out hkl HQ.out
      clear hK K
      (try simp only [Act.put, List.setIfInBounds_toArray, List.set_cons_zero, List.set_cons_succ])
      obtain ⟨V2, hV⟩ : ∃ X, X = V1.alloc (.cells #[.int .i64 (rowv (G2 0)), .int .i64 (rowv (G2 1)), .int .i64 (rowv (G2 2)), .int .i64 (rowv (G2 3)), .int .i64 (rowv (G2 4)), .int .i64 (rowv (G2 5))] 28) := ⟨_, rfl⟩
      rw [← hV] at HL1 HO1 HNew hHeld ⊢
      clear hV
      generalize V1.heap.size = gn at HNew ⊢
      refine wpAnyH_ready (rs := [9]) (by kernel_rfl) (by simp) ?_
      refine AllReadyH.cons (o := { dst := some 27, op := Go.Op.call { callee := Go.Callee.builtin Go.Builtin.append, args := #[Go.Operand.tmp 18, Go.Operand.tmp 26], argTypes := #[59, 59] }, type := 59, pos := "l11_plans.go:91", after := #[{ on := 0, ground := Go.Ground.data }, { on := 8, ground := Go.Ground.data }, { on := 7, ground := Go.Ground.chain }], guard := none }) rfl (fun K hK => ?_) AllReadyH.nil
      refine step_keep11 rfl _ _ 59 rfl (w.heap.size + 2) 28 i0 (.agg #[.int .i64 0, .int .i64 0, .int .i64 0, .int .i64 0, .int .i64 0, .int .i64 0]) 6 48 Try.underlying59 hi hz0 hz1 hz2 rfl (by decide) gs l.length cap (hv11 l) rfl HO1.out.own ⟨gn, 0, none⟩ 1 1 [.int .i64 (rowv (G2 0)), .int .i64 (rowv (G2 1)), .int .i64 (rowv (G2 2)), .int .i64 (rowv (G2 3)), .int .i64 (rowv (G2 4)), .int .i64 (rowv (G2 5))] rfl rfl HNew.out (ints_six _ _ _ _ _ _) (by have := HN1.out; unfold maxLen; omega) (by have := HN1.out; omega) HO1.out.2.2.1 ?_
      intro g' cap' V3 hown hgr hat hkeep
      have HO2 := Lib.hid (HO1.out.snoc (t := t11 G2) hown hgr)
      replace HL1 := Lib.hid (HL1.out.app hgr hkeep (HO1.out.own.lt gs rfl).1 HGN.out)
      clear hown hgr hat hkeep HNew HO1
      refine hK.out _ _ ?_ (fun hHeld => ?_)
      · (try dsimp only)
        exact SKl11 HL1.out hkl HQ.out
      clear hK K
      (try simp only [Act.put, List.setIfInBounds_toArray, List.set_cons_zero, List.set_cons_succ])
      refine wpAnyH_take (i := 10) (oi := { dst := some 5, op := Go.Op.assign (Go.Operand.tmp 27), type := 59, pos := "l11_plans.go:91", after := #[{ on := 9, ground := Go.Ground.data }, { on := 9, ground := Go.Ground.chain }, { on := 0, ground := Go.Ground.phase }, { on := 1, ground := Go.Ground.phase }, { on := 2, ground := Go.Ground.phase }, { on := 3, ground := Go.Ground.phase }, { on := 4, ground := Go.Ground.phase }, { on := 5, ground := Go.Ground.phase }, { on := 6, ground := Go.Ground.phase }, { on := 7, ground := Go.Ground.phase }, { on := 8, ground := Go.Ground.phase }, { on := 9, ground := Go.Ground.phase }], guard := none }) (v := ?_) rfl (by kernel_rfl) (by kernel_rfl) (by kernel_rfl) (fun _ _ _ h => h) (Or.inl ⟨by rfl, ?_⟩) (by assumption) ?_
      rotate_left
      · intro w hSw; (try dsimp only at hSw); go_simp; (try with_reducible rfl)
      simp only [Act.put, List.setIfInBounds_toArray, List.set_cons_zero, List.set_cons_succ]
      refine wpAnyH_done (by kernel_rfl) ?_ _
      go_wp2_with fail
      have HS2 : Hid (Rs11 m0 m1 m2 m3 m4 m5 (.slice (some ⟨g1, 0, none⟩) F.length c1) (.slice (some ⟨g2, 0, none⟩) st.length c2) (sh11 F st f (k + 1)) (.slice (some ⟨g', 0, none⟩) (k + 1 + 1) cap') w V3) := Lib.hid (by
        rw [HL.out, HE.out, ← HN1.out]
        exact HO2.out)
      go_roundw
      case rel => exact ⟨k + 1, g', cap', by omega, by rw [HN1.out], by go_num, HS2⟩
      case measure => simp [intOf]; omega
    · obtain rfl : k = st.length := by omega
      have HN0 : (sh11 F st f st.length).length = st.length + 1 := sh11_len F st f st.length
      have HO := HB.out.2.1
      rw [HN0] at HO
      have HO2 := Lib.hid (own_mono HO (show w.heap.size ≤ w.heap.size + 2 by omega))
      clear HO
      go_wp2_with fail
      go_ret
      exact ⟨gs, cap, rfl, HO2.out, HB.out.2.2.2⟩
end Go.Proofs.Ytnkjamdpafpcpaa
