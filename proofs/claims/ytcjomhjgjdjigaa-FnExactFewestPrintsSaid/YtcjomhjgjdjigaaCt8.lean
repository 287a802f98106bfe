/- CONTRACTS: FewestPrints, the model's; THE PAIR. -/
import Derived.Test.YtcjomhjgjdjigaaCs8
import Derived.WalkKit
import Derived.ProofKit
import Derived.OpenShut
import Derived.Lib.Hide
import Derived.WalkSpells
import Derived.Below
import Derived.BigQuiet
import Derived.LoopN
namespace Go.Proofs.Ytcjomhjgjdjigaa
open Go.ChangeShapes Go.WideShapes Go.ChangeAt Go.RowKit
set_option linter.unusedVariables false
section
variable {a : Act} {w : World} {dst : Option Tmp} {type : TypeId} {pos : String} {after : Array Edge} {gd : Option (Nat × Bool)} {x y : Operand}
theorem exQ9 {b : Bool} {p q : Nat → Int} {t2 : TypeId} (hb : b = peq p q) (hx : a.eval x = pv p) (hy : a.eval y = pv q) : (execOp a.eval ⟨dst, .binOp .eql 27 x y t2, type, pos, after, gd⟩).run Try.prog w = .ok (.value (.bool b)) w := by
  rw [hb]; exact exQ8 hx hy
end
/-- Both lists of places. -/
def Fg8 (w : World) (gp : Nat) (m : Nat → Int) (z : List Pn) (gz cz : Nat) (xs : List Nat) (go co : Nat) (ys : List Nat) (gf cf : Nat) (U : World) : Prop := Fj8 w gp m z gz cz xs (.slice (some ⟨go, 0, none⟩) xs.length co) U ∧ Fj8 w gp m z gz cz ys (.slice (some ⟨gf, 0, none⟩) ys.length cf) U
theorem Fg8.below {w : World} {gp : Nat} {m : Nat → Int} {z : List Pn} {gz cz : Nat} {xs : List Nat} {go co : Nat} {ys : List Nat} {gf cf M : Nat} {U V : World} (h : Fg8 w gp m z gz cz xs go co ys gf cf U) (hb : Below M U V) (hM : M = U.heap.size) : Fg8 w gp m z gz cz xs go co ys gf cf V := ⟨h.1.below hb hM, h.2.below hb hM⟩
theorem Fg8.drew {w : World} {gp : Nat} {m : Nat → Int} {z : List Pn} {gz cz : Nat} {xs : List Nat} {go co : Nat} {ys : List Nat} {gf cf : Nat} {U : World} (h : Fg8 w gp m z gz cz xs go co ys gf cf U) : Fg8 w gp m z gz cz xs go co ys gf cf U.drew := h.below (M := U.heap.size) (Below.refl _ _).drew rfl
theorem Fj8.own {w : World} {gp : Nat} {m : Nat → Int} {z : List Pn} {gz cz : Nat} {xs : List Nat} {g c : Nat} {U : World} (h : Fj8 w gp m z gz cz xs (.slice (some ⟨g, 0, none⟩) xs.length c) U) : On8 0 g c xs U := by
  obtain ⟨g2, c2, e, h1, _⟩ := h
  rw [← e] at h1
  exact own_mono h1 (Nat.zero_le _)
theorem Fg8.pic {w : World} {gp : Nat} {m : Nat → Int} {z : List Pn} {gz cz : Nat} {xs : List Nat} {go co : Nat} {ys : List Nat} {gf cf : Nat} {U : World} (h : Fg8 w gp m z gz cz xs go co ys gf cf U) : U.heap[gp]? = some (pb 27 m) := by obtain ⟨_, _, _, _, h, _⟩ := h.1; exact h
theorem Fg8.one {w : World} {gp : Nat} {m : Nat → Int} {z : List Pn} {gz cz : Nat} {xs : List Nat} {go co : Nat} {ys : List Nat} {gf cf : Nat} {U : World} (h : Fg8 w gp m z gz cz xs go co ys gf cf U) : Op9 0 gz cz z U ∧ On8 0 go co xs U := ⟨by obtain ⟨_, _, _, _, _, h, _⟩ := h.1; exact h, h.1.own⟩
theorem Fg8.two {w : World} {gp : Nat} {m : Nat → Int} {z : List Pn} {gz cz : Nat} {xs : List Nat} {go co : Nat} {ys : List Nat} {gf cf : Nat} {U : World} (h : Fg8 w gp m z gz cz xs go co ys gf cf U) : On8 0 go co xs U ∧ On8 0 gf cf ys U := ⟨h.1.own, h.2.own⟩
set_option maxRecDepth 8000 in
set_option maxHeartbeats 4000000 in
theorem sfew_yes (z : List Pn) (hz : z.length ≤ 1048576) (hok : lok z = true) (g c : Nat) (w : World) (h0 : Op9 0 g c z w) : Calls Try.prog 55 #[.slice (some ⟨g, 0, none⟩) z.length c] w (IPb (fw8 z z.length (2 ^ z.length)) true w) := by
  obtain ⟨i0, hi, hz0, hz1, hz2⟩ := info_parts info3
  obtain ⟨hl6, hall⟩ := lok_get hok
  have HL := Lib.hid (slist_any z hz 0 g c)
  rw [hok] at HL
  have HP := Lib.hid (splain_f z.length (by omega))
  have hp64 := pow_64 hl6
  have hs := shl_fin ⟨z.length, by omega⟩
  dsimp only at hs
  have hn0 : (0 : Int) ≤ z.length := by omega
  have hn6 : (z.length : Int) < 64 := by omega
  have HA := Lib.hid (fun (go co : Nat) (W : World) (h : Op9 0 g c z W ∧ On8 0 go co (List.range z.length) W) => sall_f z hz (List.range z.length) (by simp; omega) hall (fun i hi => by simpa using hi) g c go co W h.1 h.2)
  have HSO := Lib.hid (fun (a b : List Nat) (ha : a.length ≤ 6) (hb : b.length ≤ 6) (g1 c1 g2 c2 : Nat) (W : World) (h : On8 0 g1 c1 a W ∧ On8 0 g2 c2 b W) => ssooner_f a b (by omega) (by omega) g1 c1 g2 c2 W h.1 h.2)
  have HG := Lib.hid (fun (k : Nat) (hk : k < 2 ^ z.length) (go co : Nat) (W : World) (h : Op9 0 g c z W ∧ On8 0 go co (bp8 k) W) => sall_f z hz (bp8 k) (by have := bp8_len k; omega) hall (bp8_in hl6 hk) g c go co W h.1 h.2)
  have HBP := Lib.hid (fun (k : Nat) (hk : k < 2 ^ z.length) => bp_is hl6 hk (by omega))
  have HB : Hid (∀ (k : Nat), k < 2 ^ z.length → ∀ (i : Nat), i < z.length → (bits .and .i64 ((k : Int) / 2 ^ i) 1 == 1) = k.testBit i) := Lib.hid (fun (k : Nat) (hk : k < 2 ^ z.length) (i : Nat) (hi : i < z.length) => bit_fin ⟨k, by omega⟩ ⟨i, by omega⟩)
  have HF0 : Hid (List.range z.length = fw8 z z.length 0) := Lib.hid rfl
  have HFY := Lib.hid (fun (k : Nat) => @fw8_yes z z.length k)
  have HFN := Lib.hid (fun (k : Nat) => @fw8_no1 z z.length k)
  have HFM := Lib.hid (fun (k : Nat) => @fw8_no2 z z.length k)
  have HFL := Lib.hid (fw8_len z hl6)
  have H0 := Lib.hid h0
  have HLL := Lib.hid (show (List.range z.length).length = z.length by simp)
  generalize fw8 z z.length = F at HF0 HFY HFN HFM HFL ⊢
  generalize al8 z (List.range z.length) = m at HA HFY HFN
  generalize List.range z.length = L0 at HA HF0 HLL HP
  generalize 2 ^ z.length = M at HG HBP HB hp64 hs ⊢
  clear h0 hok hall
  go_enter Try.func55, Try.ntmps55
  go_wp2_with fail
  refine (HL.out _ H0.out).mono ?_
  rintro e W1 ⟨rfl, hb⟩
  have S1 : Hid (Op9 0 g c z W1 ∧ Below w.heap.size w W1) := Lib.hid ⟨H0.out.below hb rfl, hb⟩
  clear hb H0 HL
  go_wp2_with fail
  refine (HP.out _).mono ?_
  intro e W3 hp
  obtain ⟨go, co, rfl, ho, hb⟩ := hp.out
  have S2 : Hid (Op9 0 g c z W3 ∧ On8 0 go co L0 W3) := Lib.hid ⟨S1.out.1.below hb rfl, own_mono ho (Nat.zero_le _)⟩
  have S2b : Hid (Below w.heap.size w W3 ∧ W3.ownsRow w.heap.size 3 1 (.slice (some ⟨go, 0, none⟩) L0.length co) L0.length (nvs L0)) := Lib.hid ⟨below_of S1.out.2 hb S1.out.2.size, own_mono ho S1.out.2.size⟩
  clear hb S1 ho hp HP
  go_wp2_with fail
  refine (HA.out _ _ _ S2.out).mono ?_
  rintro e W4 ⟨rfl, hb⟩
  have q0 : (W4.alloc (pb 27 fun _ => 0)).heap[W4.heap.size]? = some (pb 27 fun _ => 0) := alloc_at rfl
  have S3 : Hid (Fj8 w W4.heap.size m z g c (F 0) (.slice (some ⟨go, 0, none⟩) L0.length co) ((W4.alloc (pb 27 fun _ => 0)).setCells W4.heap.size 0 (cs36 m))) := by
    have hB : Below W4.heap.size W4 ((W4.alloc (pb 27 fun _ => 0)).setCells W4.heap.size 0 (cs36 m)) := setCells_below (cs36 m) 0 ((Below.refl _ _).alloc (Nat.le_refl _) _) (Nat.le_refl _)
    have hB3 := below_of S2b.out.1 hb S2b.out.1.size
    rw [← HF0.out]
    exact Lib.hid ⟨go, co, rfl, (S2b.out.2.kept (grown_below hb rfl) (.inr (by simp [Value.ownBlock]))).kept (grown_below hB rfl) (.inr (by simp [Value.ownBlock])), pb_sets m q0, (S2.out.1.below hb rfl).below hB rfl, below_of hB3 hB hB3.size⟩
  clear hb S2 S2b HA HF0
  go_wp2_with (first | (with_reducible refine wpAlP W4.heap.size rfl ?_) | ((with_reducible refine wpS36 W4.heap.size m 27 _ q0 ?_ ?_ ?_ ?_); rfl; rfl; kernel_rfl))
  clear q0
  generalize (World.setCells _ _ _ _ : World) = W2 at S3 ⊢
  generalize W4.heap.size = gp at S3 ⊢
  generalize hv0 : (Value.slice (some ⟨go, 0, none⟩) L0.length co) = v0 at S3 ⊢
  clear hv0 HLL
  go_loopw [4, 6] (fun v n wr => ∃ k : Nat, k ≤ M ∧ n = .int .i64 k ∧ Hid (Fj8 w gp m z g c (F k) v wr)) (fun _ n _ => M - (intOf n).toNat)
  case atStart => exact ⟨0, by omega, rfl, S3⟩
  case round =>
    obtain ⟨k, hk, rfl, HS⟩ := hrel
    have hk0 : (0 : Int) ≤ k := by omega
    by_cases hlt : k < M
    · have hlt' : (k : Int) < M := by omega
      have HN1 := Lib.hid (HFN.out k)
      have HN2 := Lib.hid (HFM.out k)
      have HY := Lib.hid (HFY.out k)
      have HGG := Lib.hid (HG.out k hlt)
      have hl1 := bp8_len k
      have hl2 := HFL.out k
      have HCC2 := Lib.hid (HSO.out (bp8 k) (F k) hl1 hl2)
      have HBE := Lib.hid (HBP.out k hlt)
      have HBK := HB.out k hlt
      generalize snr (bp8 k) (F k) = sn at HCC2 HN2 HY
      generalize al8 z (bp8 k) = q at HGG HN1 HY
      obtain ⟨b, hb⟩ : ∃ b, b = peq q m := ⟨_, rfl⟩
      have HBQ := Lib.hid hb
      rw [← hb] at HN1 HY
      clear hb hl1 hl2
      obtain ⟨sg, hsg⟩ : ∃ sg : Nat → Bool, sg = fun i => k.testBit i := ⟨_, rfl⟩
      have HB2 : Hid (∀ i, i < z.length → (bits .and .i64 ((k : Int) / 2 ^ i) 1 == 1) = sg i) := Lib.hid fun i hi => by rw [hsg]; exact HBK i hi
      have HXS : Hid (nl7 sg z.length = bp8 k) := Lib.hid (by rw [hsg]; exact HBE.out)
      clear hsg HBK HBE
      generalize bp8 k = xs at HGG HCC2 HY HXS
      clear HSO HG HBP HB HFY HFN HFM HFL
      obtain ⟨gf, cf, rfl, -⟩ := HS.out
      go_wp2_with fail
      clear hs
      have S5 := Lib.hid (Ri.start (kr0_8 wr))
      generalize (World.alloc wr _ : World) = X5 at S5 ⊢
      generalize hv1 : (Value.slice (some ⟨wr.heap.size, 0, none⟩) 0 0) = v1 at S5 ⊢
      clear hv1
      go_loopw [7, 8] (fun v n wr2 => ∃ x : Nat, x ≤ z.length ∧ n = .int .i64 x ∧ Hid (Ri 0 [] wr (nl7 sg x) v wr2)) (fun _ n _ => z.length - (intOf n).toNat)
      case atStart => exact ⟨0, by omega, rfl, S5⟩
      case round =>
        obtain ⟨x, hx, rfl, HI⟩ := hrel
        by_cases hlx : x < z.length
        · have hlx' : (x : Int) < z.length := by omega
          have hx0 : (0 : Int) ≤ x := by omega
          have hx6 : (x : Int) < 64 := by omega
          have E0 := Lib.hid (@nl7_no sg x)
          have E1 := Lib.hid (@nl7_yes sg x)
          have HL := nl7_len sg x
          have HL := Lib.hid (show (nl7 sg x).length ≤ 36 by omega)
          obtain ⟨ys, hys⟩ : ∃ ys, ys = nl7 sg x := ⟨_, rfl⟩
          rw [← hys] at HI E0 E1 HL
          clear hys
          have hq := HB2.out x hlx
          cases hu : sg x
          · rw [hu] at hq
            have E0 := Lib.hid (E0.out hu)
            clear hu E1
            go_wp2_with fail
            go_roundw
            case rel => exact ⟨x + 1, by omega, by go_num, by rw [E0.out]; exact HI⟩
            case measure => simp [intOf]; omega
          · rw [hu] at hq
            have E1 := Lib.hid (E1.out hu)
            clear hu E0
            obtain ⟨hK, gx, cap, rfl, ho⟩ := HI.out
            have HO := ho.kept (grown_below ((Below.refl _ _).alloc (Nat.le_refl _) (.cells #[.int .i64 (x : Int)] 3)) rfl) (.inr (by simp [Value.ownBlock]))
            have HYY := Lib.hid (HI.out.alloc (.cells #[.int .i64 (x : Int)] 3))
            have HL := HL.out
            have hks := hK.2.1
            rename World => wr2
            clear ho HI hK
            go_wp2_with (at_builtin; refine wpList_append_own _ rfl _ _ 54 rfl (wr.heap.size + 0) 3 i0 (.int .i64 0) 1 8 Try.underlying54 hi hz0 hz1 hz2 rfl (by decide) _ _ _ rfl HO ⟨wr2.heap.size, 0, none⟩ 1 1 [.int .i64 (x : Int)] rfl rfl (one_new _ _ _) (int_one _) (by have := HL; unfold maxLen; omega) (by have := HL; omega) (by have := hks; simp; omega) ?_; intro v' w1 hown' hgrow hnn; have R := Lib.hid (HYY.out.snoc hown' hgrow hnn); clear hown' hgrow hnn HYY HO HL hks)
            go_roundw
            case rel => exact ⟨x + 1, by omega, by go_num, by rw [E1.out]; exact R⟩
            case measure => simp [intOf]; omega
        · obtain rfl : x = z.length := by omega
          rw [HXS.out] at HI
          obtain ⟨g5, c5, rfl, h2, h3⟩ := HI.out.post
          have HD := Lib.hid (Fg8.drew (show Fg8 w gp m z g c xs g5 c5 (F k) gf cf _ from ⟨HS.out.take h3 h2, HS.out.below h3 rfl⟩))
          clear h2 h3 HI HXS HB2 HS hx
          clear hi hz0 hz1 hz2
          go_wp2_with fail
          all_goals
            cases b
            · refine wp_region_held_drew (S := fun U => Fg8 w gp m z g c xs g5 c5 (F k) gf cf U) (by kernel_rfl) ?_ (fun hHeld => ?_)
              · exact HD.out
              refine wpAnyH_take (i := 0) (oi := { dst := some 42, op := Go.Op.move (Go.Operand.tmp 0), type := 45, pos := "l8_inks.go:254", after := #[], guard := none }) (v := ?_) rfl (by kernel_rfl) (by kernel_rfl) (by kernel_rfl) (fun _ _ _ h => h) (Or.inl ⟨by rfl, ?_⟩) (by assumption) ?_
              rotate_left
              · intro U hSw; (try dsimp only at hSw); go_simp; (try with_reducible rfl)
              simp only [Act.put, List.setIfInBounds_toArray, List.set_cons_zero, List.set_cons_succ]
              refine wpAnyH_take (i := 1) (oi := { dst := some 43, op := Go.Op.move (Go.Operand.tmp 7), type := 54, pos := "l8_inks.go:254", after := #[], guard := none }) (v := ?_) rfl (by kernel_rfl) (by kernel_rfl) (by kernel_rfl) (fun _ _ _ h => h) (Or.inl ⟨by rfl, ?_⟩) (by assumption) ?_
              rotate_left
              · intro U hSw; (try dsimp only at hSw); go_simp; (try with_reducible rfl)
              simp only [Act.put, List.setIfInBounds_toArray, List.set_cons_zero, List.set_cons_succ]
              refine wpAnyH_take (i := 3) (oi := { dst := some 45, op := Go.Op.load 27 (Go.Operand.tmp 5), type := 27, pos := "l8_inks.go:254", after := #[], guard := none }) (v := ?_) rfl (by kernel_rfl) (by kernel_rfl) (by kernel_rfl) (fun _ _ _ h => h) (Or.inl ⟨by rfl, ?_⟩) (by assumption) ?_
              rotate_left
              · intro U hSw; refine exL8 (g := gp) ?_ hSw.pic; rfl
              simp only [Act.put, List.setIfInBounds_toArray, List.set_cons_zero, List.set_cons_succ]
              refine wpAnyH_ready (rs := [2]) (by kernel_rfl) (by simp) ?_
              refine AllReadyH.cons (o := { dst := some 44, op := Go.Op.call { callee := Go.Callee.value (Go.Operand.func 72), args := #[Go.Operand.tmp 42, Go.Operand.tmp 43], argTypes := #[45, 54] }, type := 27, pos := "l8_inks.go:254", after := #[{ on := 0, ground := Go.Ground.data }, { on := 1, ground := Go.Ground.data }], guard := none }) rfl (fun K hK => ?_) AllReadyH.nil
              go_simp
              (go_at_call 72; with_reducible refine (HGG.out _ _ _ HD.out.one).mono ?_; rintro e w' ⟨rfl, hb'⟩; have hq := HD.out.below hb' rfl; go_wp2_with fail)
              refine hK.out _ _ ?_ (fun hHeld => ?_)
              · exact hq
              clear hK K
              (try simp only [Act.put, List.setIfInBounds_toArray, List.set_cons_zero, List.set_cons_succ])
              refine wpAnyH_take (i := 4) (oi := { dst := some 46, op := Go.Op.binOp Go.BinOp.eql 27 (Go.Operand.tmp 44) (Go.Operand.tmp 45) 27, type := 4, pos := "l8_inks.go:254", after := #[{ on := 2, ground := Go.Ground.data }, { on := 3, ground := Go.Ground.data }], guard := none }) (v := ?_) rfl (by kernel_rfl) (by kernel_rfl) (by kernel_rfl) (fun _ _ _ h => h) (Or.inl ⟨by rfl, ?_⟩) (by assumption) ?_
              rotate_left
              · intro U hSw; refine exQ9 (p := q) (q := m) HBQ.out ?_ ?_ <;> rfl
              simp only [Act.put, List.setIfInBounds_toArray, List.set_cons_zero, List.set_cons_succ]
              refine wpAnyH_take (i := 5) (oi := { dst := some 47, op := Go.Op.move (Go.Operand.tmp 46), type := 4, pos := "l8_inks.go:254", after := #[{ on := 4, ground := Go.Ground.data }, { on := 2, ground := Go.Ground.chain }], guard := none }) (v := ?_) rfl (by kernel_rfl) (by kernel_rfl) (by kernel_rfl) (fun _ _ _ h => h) (Or.inl ⟨by rfl, ?_⟩) (by assumption) ?_
              rotate_left
              · intro U hSw; (try dsimp only at hSw); go_simp; (try with_reducible rfl)
              simp only [Act.put, List.setIfInBounds_toArray, List.set_cons_zero, List.set_cons_succ]
              refine wpAnyH_take (i := 6) (oi := { dst := some 48, op := Go.Op.move (Go.Operand.tmp 7), type := 54, pos := "l8_inks.go:254", after := #[{ on := 5, ground := Go.Ground.guard }], guard := some (5, true) }) (v := undef) rfl (by kernel_rfl) (by kernel_rfl) (by kernel_rfl) (fun _ _ _ h => h) (Or.inr ⟨by rfl, rfl⟩) (by assumption) ?_
              simp only [Act.put, List.setIfInBounds_toArray, List.set_cons_zero, List.set_cons_succ]
              refine wpAnyH_take (i := 7) (oi := { dst := some 49, op := Go.Op.move (Go.Operand.tmp 4), type := 54, pos := "l8_inks.go:254", after := #[{ on := 5, ground := Go.Ground.guard }], guard := some (5, true) }) (v := undef) rfl (by kernel_rfl) (by kernel_rfl) (by kernel_rfl) (fun _ _ _ h => h) (Or.inr ⟨by rfl, rfl⟩) (by assumption) ?_
              simp only [Act.put, List.setIfInBounds_toArray, List.set_cons_zero, List.set_cons_succ]
              refine wpAnyH_take (i := 8) (oi := { dst := some 50, op := Go.Op.call { callee := Go.Callee.value (Go.Operand.func 97), args := #[Go.Operand.tmp 48, Go.Operand.tmp 49], argTypes := #[54, 54] }, type := 4, pos := "l8_inks.go:254", after := #[{ on := 6, ground := Go.Ground.data }, { on := 7, ground := Go.Ground.data }, { on := 5, ground := Go.Ground.chain }, { on := 5, ground := Go.Ground.guard }], guard := some (5, true) }) (v := undef) rfl (by kernel_rfl) (by kernel_rfl) (by kernel_rfl) (fun _ _ _ h => h) (Or.inr ⟨by rfl, rfl⟩) (by assumption) ?_
              simp only [Act.put, List.setIfInBounds_toArray, List.set_cons_zero, List.set_cons_succ]
              refine wpAnyH_take (i := 9) (oi := { dst := some 51, op := Go.Op.pick (Go.Operand.tmp 47) (Go.Operand.tmp 50) (Go.Operand.const (Go.Value.bool false)), type := 4, pos := "l8_inks.go:254", after := #[{ on := 5, ground := Go.Ground.data }, { on := 8, ground := Go.Ground.data }], guard := none }) (v := ?_) rfl (by kernel_rfl) (by kernel_rfl) (by kernel_rfl) (fun _ _ _ h => h) (Or.inl ⟨by rfl, ?_⟩) (by assumption) ?_
              rotate_left
              · intro U hSw; (try dsimp only at hSw); go_simp; (try with_reducible rfl)
              simp only [Act.put, List.setIfInBounds_toArray, List.set_cons_zero, List.set_cons_succ]
              refine wpAnyH_done (by kernel_rfl) ?_ _
              have HJ := Lib.hid hq
              have E := Lib.hid (HN1.out (by first | rfl | trivial))
              clear hq hHeld HD HGG HBQ HCC2 HN1 HN2 HY
              go_wp2_with fail
              go_roundw
              case rel => exact ⟨k + 1, by omega, by go_num, by rw [E.out]; exact Lib.hid HJ.out.2⟩
              case measure => simp [intOf]; omega
            · refine wp_region_held_drew (S := fun U => Fg8 w gp m z g c xs g5 c5 (F k) gf cf U) (by kernel_rfl) ?_ (fun hHeld => ?_)
              · exact HD.out
              refine wpAnyH_take (i := 0) (oi := { dst := some 42, op := Go.Op.move (Go.Operand.tmp 0), type := 45, pos := "l8_inks.go:254", after := #[], guard := none }) (v := ?_) rfl (by kernel_rfl) (by kernel_rfl) (by kernel_rfl) (fun _ _ _ h => h) (Or.inl ⟨by rfl, ?_⟩) (by assumption) ?_
              rotate_left
              · intro U hSw; (try dsimp only at hSw); go_simp; (try with_reducible rfl)
              simp only [Act.put, List.setIfInBounds_toArray, List.set_cons_zero, List.set_cons_succ]
              refine wpAnyH_take (i := 1) (oi := { dst := some 43, op := Go.Op.move (Go.Operand.tmp 7), type := 54, pos := "l8_inks.go:254", after := #[], guard := none }) (v := ?_) rfl (by kernel_rfl) (by kernel_rfl) (by kernel_rfl) (fun _ _ _ h => h) (Or.inl ⟨by rfl, ?_⟩) (by assumption) ?_
              rotate_left
              · intro U hSw; (try dsimp only at hSw); go_simp; (try with_reducible rfl)
              simp only [Act.put, List.setIfInBounds_toArray, List.set_cons_zero, List.set_cons_succ]
              refine wpAnyH_take (i := 3) (oi := { dst := some 45, op := Go.Op.load 27 (Go.Operand.tmp 5), type := 27, pos := "l8_inks.go:254", after := #[], guard := none }) (v := ?_) rfl (by kernel_rfl) (by kernel_rfl) (by kernel_rfl) (fun _ _ _ h => h) (Or.inl ⟨by rfl, ?_⟩) (by assumption) ?_
              rotate_left
              · intro U hSw; refine exL8 (g := gp) ?_ hSw.pic; rfl
              simp only [Act.put, List.setIfInBounds_toArray, List.set_cons_zero, List.set_cons_succ]
              refine wpAnyH_ready (rs := [2]) (by kernel_rfl) (by simp) ?_
              refine AllReadyH.cons (o := { dst := some 44, op := Go.Op.call { callee := Go.Callee.value (Go.Operand.func 72), args := #[Go.Operand.tmp 42, Go.Operand.tmp 43], argTypes := #[45, 54] }, type := 27, pos := "l8_inks.go:254", after := #[{ on := 0, ground := Go.Ground.data }, { on := 1, ground := Go.Ground.data }], guard := none }) rfl (fun K hK => ?_) AllReadyH.nil
              go_simp
              (go_at_call 72; with_reducible refine (HGG.out _ _ _ HD.out.one).mono ?_; rintro e w' ⟨rfl, hb'⟩; have hq := HD.out.below hb' rfl; go_wp2_with fail)
              refine hK.out _ _ ?_ (fun hHeld => ?_)
              · exact hq
              clear hK K
              (try simp only [Act.put, List.setIfInBounds_toArray, List.set_cons_zero, List.set_cons_succ])
              refine wpAnyH_take (i := 4) (oi := { dst := some 46, op := Go.Op.binOp Go.BinOp.eql 27 (Go.Operand.tmp 44) (Go.Operand.tmp 45) 27, type := 4, pos := "l8_inks.go:254", after := #[{ on := 2, ground := Go.Ground.data }, { on := 3, ground := Go.Ground.data }], guard := none }) (v := ?_) rfl (by kernel_rfl) (by kernel_rfl) (by kernel_rfl) (fun _ _ _ h => h) (Or.inl ⟨by rfl, ?_⟩) (by assumption) ?_
              rotate_left
              · intro U hSw; refine exQ9 (p := q) (q := m) HBQ.out ?_ ?_ <;> rfl
              simp only [Act.put, List.setIfInBounds_toArray, List.set_cons_zero, List.set_cons_succ]
              refine wpAnyH_take (i := 5) (oi := { dst := some 47, op := Go.Op.move (Go.Operand.tmp 46), type := 4, pos := "l8_inks.go:254", after := #[{ on := 4, ground := Go.Ground.data }, { on := 2, ground := Go.Ground.chain }], guard := none }) (v := ?_) rfl (by kernel_rfl) (by kernel_rfl) (by kernel_rfl) (fun _ _ _ h => h) (Or.inl ⟨by rfl, ?_⟩) (by assumption) ?_
              rotate_left
              · intro U hSw; (try dsimp only at hSw); go_simp; (try with_reducible rfl)
              simp only [Act.put, List.setIfInBounds_toArray, List.set_cons_zero, List.set_cons_succ]
              refine wpAnyH_take (i := 6) (oi := { dst := some 48, op := Go.Op.move (Go.Operand.tmp 7), type := 54, pos := "l8_inks.go:254", after := #[{ on := 5, ground := Go.Ground.guard }], guard := some (5, true) }) (v := ?_) rfl (by kernel_rfl) (by kernel_rfl) (by kernel_rfl) (fun _ _ _ h => h) (Or.inl ⟨by rfl, ?_⟩) (by assumption) ?_
              rotate_left
              · intro U hSw; (try dsimp only at hSw); go_simp; (try with_reducible rfl)
              simp only [Act.put, List.setIfInBounds_toArray, List.set_cons_zero, List.set_cons_succ]
              refine wpAnyH_take (i := 7) (oi := { dst := some 49, op := Go.Op.move (Go.Operand.tmp 4), type := 54, pos := "l8_inks.go:254", after := #[{ on := 5, ground := Go.Ground.guard }], guard := some (5, true) }) (v := ?_) rfl (by kernel_rfl) (by kernel_rfl) (by kernel_rfl) (fun _ _ _ h => h) (Or.inl ⟨by rfl, ?_⟩) (by assumption) ?_
              rotate_left
              · intro U hSw; (try dsimp only at hSw); go_simp; (try with_reducible rfl)
              simp only [Act.put, List.setIfInBounds_toArray, List.set_cons_zero, List.set_cons_succ]
              refine wpAnyH_ready (rs := [8]) (by kernel_rfl) (by simp) ?_
              refine AllReadyH.cons (o := { dst := some 50, op := Go.Op.call { callee := Go.Callee.value (Go.Operand.func 97), args := #[Go.Operand.tmp 48, Go.Operand.tmp 49], argTypes := #[54, 54] }, type := 4, pos := "l8_inks.go:254", after := #[{ on := 6, ground := Go.Ground.data }, { on := 7, ground := Go.Ground.data }, { on := 5, ground := Go.Ground.chain }, { on := 5, ground := Go.Ground.guard }], guard := some (5, true) }) rfl (fun K hK => ?_) AllReadyH.nil
              go_simp
              (go_at_call 97; with_reducible refine (HCC2.out _ _ _ _ _ hq.two).mono ?_; rintro e w'' ⟨rfl, hb''⟩; have hq2 := hq.below hb'' rfl; go_wp2_with fail)
              refine hK.out _ _ ?_ (fun hHeld => ?_)
              · exact hq2
              clear hK K
              (try simp only [Act.put, List.setIfInBounds_toArray, List.set_cons_zero, List.set_cons_succ])
              refine wpAnyH_take (i := 9) (oi := { dst := some 51, op := Go.Op.pick (Go.Operand.tmp 47) (Go.Operand.tmp 50) (Go.Operand.const (Go.Value.bool false)), type := 4, pos := "l8_inks.go:254", after := #[{ on := 5, ground := Go.Ground.data }, { on := 8, ground := Go.Ground.data }], guard := none }) (v := ?_) rfl (by kernel_rfl) (by kernel_rfl) (by kernel_rfl) (fun _ _ _ h => h) (Or.inl ⟨by rfl, ?_⟩) (by assumption) ?_
              rotate_left
              · intro U hSw; (try dsimp only at hSw); go_simp; (try with_reducible rfl)
              simp only [Act.put, List.setIfInBounds_toArray, List.set_cons_zero, List.set_cons_succ]
              refine wpAnyH_done (by kernel_rfl) ?_ _
              have HJ := Lib.hid hq2
              clear hq hq2 hHeld HD HGG HBQ HCC2
              cases sn
              · have E := Lib.hid (HN2.out (by first | rfl | trivial))
                clear HN1 HN2 HY
                go_wp2_with fail
                go_roundw
                case rel => exact ⟨k + 1, by omega, by go_num, by rw [E.out]; exact Lib.hid HJ.out.2⟩
                case measure => simp [intOf]; omega
              · have E := Lib.hid (HY.out (by first | rfl | trivial) (by first | rfl | trivial))
                clear HN1 HN2 HY
                go_wp2_with fail
                go_roundw
                case rel => exact ⟨k + 1, by omega, by go_num, by rw [E.out]; exact Lib.hid HJ.out.1⟩
                case measure => simp [intOf]; omega
    · obtain rfl : k = M := by omega
      obtain ⟨g2, cap2, rfl, h2, h3, h4, h5⟩ := HS.out.get
      have H2 := Lib.hid h2
      have H5 := Lib.hid h5
      clear h2 h3 h4 h5 HS HSO HG HBP HB HFY HFN HFM HFL hi hz0 hz1 hz2
      go_wp2_with fail
      go_ret2
      exact ⟨g2, cap2, rfl, H2.out, H5.out⟩
set_option maxRecDepth 8000 in
set_option maxHeartbeats 1000000 in
theorem sfew_no (z : List Pn) (hz : z.length ≤ 1048576) (hok : lok z = false) (g c : Nat) (w : World) (h0 : Op9 0 g c z w) : Calls Try.prog 55 #[.slice (some ⟨g, 0, none⟩) z.length c] w (IPb [] false w) := by
  have HL := Lib.hid (slist_any z hz 0 g c)
  rw [hok] at HL
  have H0 := Lib.hid h0
  clear h0 hok
  go_enter Try.func55, Try.ntmps55
  go_wp2_with fail
  refine (HL.out _ H0.out).mono ?_
  rintro e W1 ⟨rfl, hb⟩
  have S2 := Lib.hid (Ri.start ((kr0_8 w).far hb rfl))
  clear hb H0 HL
  go_wp2_with fail
  generalize (World.alloc W1 _ : World) = W2 at S2 ⊢
  generalize hv0 : (Value.slice (some ⟨W1.heap.size, 0, none⟩) 0 0) = v0 at S2 ⊢
  clear hv0
  obtain ⟨g2, cap2, rfl, h2, h3⟩ := S2.out.post
  have H2 := Lib.hid h2
  have H3 := Lib.hid h3
  clear h2 h3 S2
  go_ret2
  exact ⟨g2, cap2, rfl, H2.out, H3.out⟩
theorem few_pair (z : List Pn) (hz : z.length ≤ 1048576) (hwf : ∀ p ∈ z, (Lit.int .i64 p.x).wf = true ∧ (Lit.int .i64 p.y).wf = true) : ∃ (l : List Nat) (t : Bool), l.length ≤ 100 ∧ (∀ (w : World) (g c : Nat), Op9 0 g c z w → Calls Try.prog 55 #[.slice (some ⟨g, 0, none⟩) z.length c] w (IPb l t w)) ∧ (∀ (w : World) (g c : Nat), Op9 0 g c z w → Calls Try.prog 56 #[.slice (some ⟨g, 0, none⟩) z.length c] w (IPb l t w)) := by
  cases hok : lok z
  · exact ⟨[], false, by simp, fun w g c h => sfew_no z hz hok g c w h, fun w g c h => ifew_no z hz hwf hok g c w h⟩
  · have hl := (lok_get hok).1
    exact ⟨fw8 z z.length (2 ^ z.length), true, by have := fw8_len z hl (2 ^ z.length); omega, fun w g c h => sfew_yes z hz hok g c w h, fun w g c h => ifew_yes z hz hwf hok g c w h⟩
end Go.Proofs.Ytcjomhjgjdjigaa
