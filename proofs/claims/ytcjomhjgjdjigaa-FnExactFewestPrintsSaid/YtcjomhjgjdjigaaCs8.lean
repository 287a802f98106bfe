/- CONTRACTS: FewestPrints, the code's. -/
import Derived.Test.YtcjomhjgjdjigaaCr8
import Derived.Test.YtcjomhjgjdjigaaMd9
import Derived.WalkKit
import Derived.ProofKit
import Derived.OpenShut
import Derived.Lib.Hide
import Derived.WalkSpells
import Derived.Below
import Derived.BigQuiet
import Derived.LoopN
namespace Go.Proofs.Ytcjomhjgjdjigaa
open Go.ChangeShapes Go.WideShapes Go.ChangeAt Go.RowKit
set_option linter.unusedVariables false
/-- A picture is read behind a guard that holds. -/
theorem wpLg36 {ops : Array Oper} {rest : List Oper} {a : Act} {w : World} {Q : Exit → Act → World → Prop} {dst : Option Tmp} {type : TypeId} {pos : String} {after : Array Edge} {gd : Option (Nat × Bool)} {x : Operand} (g : Nat) (m : Nat → Int) (hW : w.heap[g]? = some (pb 27 m)) (hw : Region.wanted ⟨dst, .load 27 x, type, pos, after, gd⟩ (yielded ops a.tmps) = true) (hx : a.eval x = .pointer (some ⟨g, 0, none⟩)) (h : wpList Try.prog ops Q rest (a.put dst (pv m)) w) : wpList Try.prog ops Q (⟨dst, .load 27 x, type, pos, after, gd⟩ :: rest) a w := by
  rw [wpList, if_pos hw]
  refine Or.inl ?_
  unfold Oper.wp
  rw [exL8 hx hW, Oper.upon_value]
  exact h
/-- Midway: the picture, the prints and the fewest places so far. -/
def Fj8 (w : World) (gp : Nat) (m : Nat → Int) (z : List Pn) (gz cz : Nat) (xs : List Nat) (v : Value) (U : World) : Prop := ∃ g c, v = .slice (some ⟨g, 0, none⟩) xs.length c ∧ U.ownsRow w.heap.size 3 1 (.slice (some ⟨g, 0, none⟩) xs.length c) xs.length (nvs xs) ∧ U.heap[gp]? = some (pb 27 m) ∧ Op9 0 gz cz z U ∧ Below w.heap.size w U
theorem Fj8.get {w : World} {gp : Nat} {m : Nat → Int} {z : List Pn} {gz cz : Nat} {xs : List Nat} {v : Value} {U : World} (h : Fj8 w gp m z gz cz xs v U) : ∃ g c, v = .slice (some ⟨g, 0, none⟩) xs.length c ∧ U.ownsRow w.heap.size 3 1 (.slice (some ⟨g, 0, none⟩) xs.length c) xs.length (nvs xs) ∧ U.heap[gp]? = some (pb 27 m) ∧ Op9 0 gz cz z U ∧ Below w.heap.size w U := h
theorem Fj8.below {w : World} {gp : Nat} {m : Nat → Int} {z : List Pn} {gz cz : Nat} {xs : List Nat} {v : Value} {M : Nat} {U V : World} (h : Fj8 w gp m z gz cz xs v U) (hb : Below M U V) (hM : M = U.heap.size) : Fj8 w gp m z gz cz xs v V := by
  obtain ⟨g, c, rfl, h1, h2, h3, h4⟩ := h
  exact ⟨g, c, rfl, h1.kept (grown_below hb hM) (.inr (by simp [Value.ownBlock])), rowk h2 hb hM, h3.below hb hM, below_of h4 hb (by rw [hM]; exact h4.size)⟩
theorem Fj8.take {w : World} {gp : Nat} {m : Nat → Int} {z : List Pn} {gz cz : Nat} {xs ys : List Nat} {v : Value} {U V : World} {g c : Nat} (h : Fj8 w gp m z gz cz xs v U) (hb : Below U.heap.size U V) (ho : V.ownsRow U.heap.size 3 1 (.slice (some ⟨g, 0, none⟩) ys.length c) ys.length (nvs ys)) : Fj8 w gp m z gz cz ys (.slice (some ⟨g, 0, none⟩) ys.length c) V := by
  obtain ⟨_, _, _, _, h2, h3, h4⟩ := h
  exact ⟨g, c, rfl, own_mono ho h4.size, rowk h2 hb rfl, h3.below hb rfl, below_of h4 hb h4.size⟩
set_option maxRecDepth 8000 in
set_option maxHeartbeats 2000000 in
theorem ifew_yes (z : List Pn) (hz : z.length ≤ 1048576) (hwf : ∀ p ∈ z, (Lit.int .i64 p.x).wf = true ∧ (Lit.int .i64 p.y).wf = true) (hok : lok z = true) (g c : Nat) (w : World) (h0 : Op9 0 g c z w) : Calls Try.prog 56 #[.slice (some ⟨g, 0, none⟩) z.length c] w (IPb (fw8 z z.length (2 ^ z.length)) true w) := by
  obtain ⟨hl6, hall⟩ := lok_get hok
  have HP := Lib.hid (fun (W : World) (h : Op9 0 g c z W) => ipic_yes z hz hwf hok g c W h)
  have HA := Lib.hid (iall_f z.length hl6 (some ⟨g, 0, none⟩) c)
  have HC := Lib.hid (ichoices_f z.length hl6 (some ⟨g, 0, none⟩) c)
  have hp64 := pow_64 hl6
  have HPL := Lib.hid (fun (k : Nat) (hk : k < 2 ^ z.length) => iplaces_f k (by omega))
  have HCC := Lib.hid (fun (a b : List Nat) (ha : a.length ≤ 6) (hb : b.length ≤ 6) (g1 c1 g2 c2 : Nat) (W : World) (h : On8 0 g1 c1 a W ∧ On8 0 g2 c2 b W) => ichosen_f a b (by omega) (by omega) g1 c1 g2 c2 W h.1 h.2)
  have HG := Lib.hid (fun (k : Nat) (hk : k < 2 ^ z.length) (go co : Nat) (W : World) (h : Op9 0 g c z W ∧ On8 0 go co (bp8 k) W) => igiven_f (al8 z (List.range z.length)) z hz (bp8 k) (by have := bp8_len k; omega) hall (bp8_in hl6 hk) g c go co W h.1 h.2)
  have HF0 : Hid (List.range z.length = fw8 z z.length 0) := Lib.hid rfl
  have HFY := Lib.hid (fun (k : Nat) => @fw8_yes z z.length k)
  have HFN := Lib.hid (fun (k : Nat) => @fw8_no1 z z.length k)
  have HFM := Lib.hid (fun (k : Nat) => @fw8_no2 z z.length k)
  have HFL := Lib.hid (fw8_len z hl6)
  have H0 := Lib.hid h0
  have hll : (List.range z.length).length = z.length := by simp
  have HLL := Lib.hid hll
  generalize fw8 z z.length = F at HF0 HFY HFN HFM HFL ⊢
  generalize al8 z (List.range z.length) = m at HP HG HFY HFN
  generalize List.range z.length = L0 at HA HF0 HLL
  generalize 2 ^ z.length = M at HC HPL HG hp64 ⊢
  clear h0 hok hall hwf hll
  go_enter Try.func56, Try.ntmps56
  go_wp2_with fail
  refine (HP.out _ H0.out).mono ?_
  rintro e W1 ⟨rfl, hb⟩
  have q0 : (W1.alloc (pb 27 fun _ => 0)).heap[W1.heap.size]? = some (pb 27 fun _ => 0) := alloc_at rfl
  have S1 : Hid (Op9 0 g c z ((W1.alloc (pb 27 fun _ => 0)).setCells W1.heap.size 0 (cs36 m)) ∧ Below w.heap.size w ((W1.alloc (pb 27 fun _ => 0)).setCells W1.heap.size 0 (cs36 m)) ∧ ((W1.alloc (pb 27 fun _ => 0)).setCells W1.heap.size 0 (cs36 m)).heap[W1.heap.size]? = some (pb 27 m)) := by
    have hB : Below W1.heap.size W1 ((W1.alloc (pb 27 fun _ => 0)).setCells W1.heap.size 0 (cs36 m)) := setCells_below (cs36 m) 0 ((Below.refl _ _).alloc (Nat.le_refl _) _) (Nat.le_refl _)
    exact Lib.hid ⟨(H0.out.below hb rfl).below hB rfl, below_of hb hB hb.size, pb_sets m q0⟩
  clear hb H0 HP
  go_wp2_with (first | (with_reducible refine wpAlP W1.heap.size rfl ?_) | ((with_reducible refine wpS36 W1.heap.size m 27 _ q0 ?_ ?_ ?_ ?_); rfl; rfl; kernel_rfl))
  clear q0
  generalize (World.setCells _ _ _ _ : World) = W2 at S1 ⊢
  generalize W1.heap.size = gp at S1 ⊢
  refine (HA.out _).mono ?_
  intro e W3 hp
  obtain ⟨go, co, rfl, ho, hb⟩ := hp.out
  have S2 : Hid (Fj8 w gp m z g c (F 0) (.slice (some ⟨go, 0, none⟩) L0.length co) W3) := by
    rw [← HF0.out]
    exact Lib.hid ⟨go, co, rfl, own_mono ho S1.out.2.1.size, rowk S1.out.2.2 hb rfl, S1.out.1.below hb rfl, below_of S1.out.2.1 hb S1.out.2.1.size⟩
  clear hb S1 ho hp HA HF0
  generalize hv0 : (Value.slice (some ⟨go, 0, none⟩) L0.length co) = v0 at S2 ⊢
  clear hv0
  go_wp2_with fail
  refine (HC.out _).mono ?_
  rintro e w' ⟨rfl, hw'⟩
  obtain rfl := hw'.symm
  clear HC HLL
  go_wp2_with fail
  go_loopw [6, 21] (fun v n wr => ∃ k : Nat, k ≤ M ∧ n = .int .i64 k ∧ Hid (Fj8 w gp m z g c (F k) v wr)) (fun _ n _ => M - (intOf n).toNat)
  case atStart => exact ⟨0, by omega, rfl, S2⟩
  case round =>
    obtain ⟨k, hk, rfl, HS⟩ := hrel
    by_cases hlt : k < M
    · have hlt' : (k : Int) < M := by omega
      have hk0 : (0 : Int) ≤ k := by omega
      have HN1 := Lib.hid (HFN.out k)
      have HN2 := Lib.hid (HFM.out k)
      have HY := Lib.hid (HFY.out k)
      have HX := Lib.hid (HPL.out k hlt)
      have HGG := Lib.hid (HG.out k hlt)
      have hl1 := bp8_len k
      have hl2 := HFL.out k
      have HCC2 := Lib.hid (HCC.out (bp8 k) (F k) hl1 hl2)
      unfold snr at HN2 HY
      generalize cc8 (bp8 k) (F k) = C at HCC2 HN2 HY
      generalize peq (al8 z (bp8 k)) m = b at HGG HN1 HY
      generalize bp8 k = xs at HX HGG HCC2 HY
      clear hl1 hl2 HCC HG HPL HFY HFN HFM HFL
      go_wp2_with fail
      refine (HX.out _).mono ?_
      intro e W4 hp
      obtain ⟨go, co, rfl, ho, hb⟩ := hp.out
      obtain ⟨gf, cf, rfl, hof, h2, h3, h4⟩ := (HS.out.below hb rfl).get
      have HT : Hid (Fj8 w gp m z g c xs (.slice (some ⟨go, 0, none⟩) xs.length co) W4) := Lib.hid (HS.out.take hb ho)
      have HSW : Hid (Fj8 w gp m z g c (F k) (.slice (some ⟨gf, 0, none⟩) (F k).length cf) W4) := Lib.hid (HS.out.below hb rfl)
      have HON : Hid (On8 0 go co xs W4 ∧ On8 0 gf cf (F k) W4) := Lib.hid ⟨own_mono ho (Nat.zero_le _), own_mono hof (Nat.zero_le _)⟩
      clear hb ho hof h2 h3 h4 hp HS HX
      go_wp2_with fail
      refine (HCC2.out _ _ _ _ _ HON.out).mono ?_
      rintro e W5 ⟨rfl, hb⟩
      have HT5 := Lib.hid (HT.out.below hb rfl)
      have HS5 := Lib.hid (HSW.out.below hb rfl)
      have HO5 : Hid (Op9 0 g c z W5 ∧ On8 0 go co xs W5) := Lib.hid ⟨by obtain ⟨_, _, _, _, _, h, _⟩ := HT5.out; exact h, HON.out.1.below hb rfl⟩
      have HQ5 : Hid (W5.heap[gp]? = some (pb 27 m)) := Lib.hid (by obtain ⟨_, _, _, _, h, _, _⟩ := HT5.out; exact h)
      clear hb HT HSW HON HCC2
      by_cases hC : C < 0
      · have hC' : decide (C < 0) = true := decide_eq_true hC
        rw [hC'] at HY
        clear hC'
        go_wp2_with ((with_reducible refine wpLg36 gp m HQ5.out ?_ ?_ ?_); rfl; rfl)
        refine (HGG.out _ _ _ HO5.out).mono ?_
        rintro e W6 ⟨rfl, hb⟩
        have HT6 := Lib.hid (HT5.out.below hb rfl)
        have HS6 := Lib.hid (HS5.out.below hb rfl)
        clear hb HT5 HS5 HO5 HQ5 HGG hC
        cases b
        · have E := Lib.hid (HN1.out (by first | rfl | trivial))
          clear HN1 HN2 HY HT6
          go_wp2_with fail
          go_roundw
          case rel => exact ⟨k + 1, by omega, by go_num, by rw [E.out]; exact HS6⟩
          case measure => simp [intOf]; omega
        · have E := Lib.hid (HY.out (by first | rfl | trivial) (by first | rfl | trivial))
          clear HN1 HN2 HY HS6
          go_wp2_with fail
          go_roundw
          case rel => exact ⟨k + 1, by omega, by go_num, by rw [E.out]; exact HT6⟩
          case measure => simp [intOf]; omega
      · have hC' : decide (C < 0) = false := decide_eq_false hC
        have E := Lib.hid (HN2.out hC')
        clear hC' HN1 HN2 HY HT5 HO5 HQ5 HGG
        go_wp2_with fail
        go_roundw
        case rel => exact ⟨k + 1, by omega, by go_num, by rw [E.out]; exact HS5⟩
        case measure => simp [intOf]; omega
    · obtain rfl : k = M := by omega
      obtain ⟨g2, cap2, rfl, h2, h3, h4, h5⟩ := HS.out.get
      have H2 := Lib.hid h2
      have H5 := Lib.hid h5
      clear h2 h3 h4 h5 HS HCC HG HPL HFY HFN HFM HFL
      go_wp2_with fail
      go_ret2
      exact ⟨g2, cap2, rfl, H2.out, H5.out⟩
set_option maxRecDepth 8000 in
set_option maxHeartbeats 1000000 in
theorem ifew_no (z : List Pn) (hz : z.length ≤ 1048576) (hwf : ∀ p ∈ z, (Lit.int .i64 p.x).wf = true ∧ (Lit.int .i64 p.y).wf = true) (hok : lok z = false) (g c : Nat) (w : World) (h0 : Op9 0 g c z w) : Calls Try.prog 56 #[.slice (some ⟨g, 0, none⟩) z.length c] w (IPb [] false w) := by
  have HP := Lib.hid (fun (W : World) (h : Op9 0 g c z W) => ipic_no z hz hwf hok g c W h)
  have H0 := Lib.hid h0
  clear h0 hok hwf
  obtain ⟨m, hm⟩ : ∃ m : Nat → Int, m = fun _ => 0 := ⟨_, rfl⟩
  rw [← hm] at HP
  clear hm
  go_enter Try.func56, Try.ntmps56
  go_wp2_with fail
  refine (HP.out _ H0.out).mono ?_
  rintro e W1 ⟨rfl, hb⟩
  have q0 : (W1.alloc (pb 27 fun _ => 0)).heap[W1.heap.size]? = some (pb 27 fun _ => 0) := alloc_at rfl
  have S1 : Hid (KR 0 [] w ((W1.alloc (pb 27 fun _ => 0)).setCells W1.heap.size 0 (cs36 m))) := by
    have hB : Below W1.heap.size W1 ((W1.alloc (pb 27 fun _ => 0)).setCells W1.heap.size 0 (cs36 m)) := setCells_below (cs36 m) 0 ((Below.refl _ _).alloc (Nat.le_refl _) _) (Nat.le_refl _)
    exact Lib.hid (((kr0_8 w).far hb rfl).far hB rfl)
  clear hb H0 HP
  go_wp2_with (first | (with_reducible refine wpAlP W1.heap.size rfl ?_) | ((with_reducible refine wpS36 W1.heap.size m 27 _ q0 ?_ ?_ ?_ ?_); rfl; rfl; kernel_rfl))
  clear q0
  have S2 := Lib.hid (Ri.start S1.out)
  clear S1
  generalize (World.alloc (World.setCells _ _ _ _) _ : World) = W2 at S2 ⊢
  generalize hv0 : (Value.slice (some ⟨_, 0, none⟩) 0 0) = v0 at S2 ⊢
  clear hv0
  obtain ⟨g2, cap2, rfl, h2, h3⟩ := S2.out.post
  have H2 := Lib.hid h2
  have H3 := Lib.hid h3
  clear h2 h3 S2
  go_ret2
  exact ⟨g2, cap2, rfl, H2.out, H3.out⟩
end Go.Proofs.Ytcjomhjgjdjigaa
