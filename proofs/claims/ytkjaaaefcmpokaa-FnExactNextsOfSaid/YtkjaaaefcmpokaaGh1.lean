/- CONTRACTS: the laws' comparison, marks and check of a slice of sheets; what stands midway in a law over them. -/
import Derived.Test.YtkjaaaefcmpokaaMb10
import Derived.Test.YtkjaaaefcmpokaaCo
import Derived.Test.YtkjaaaefcmpokaaOb6
import Derived.Test.YtkjaaaefcmpokaaRj
import Derived.Laws.OwnMore
import Derived.Deep.RegionHeld3
import Derived.WalkKit
import Derived.ProofKit
import Derived.OpenShut
import Derived.Lib.Hide
import Derived.WalkSpells
import Derived.Below
import Derived.BigQuiet
import Derived.LoopN
namespace Go.Proofs.Ytkjaaaefcmpokaa
open Go.ChangeShapes Go.WideShapes Go.ChangeAt Go.RowKit
set_option linter.unusedVariables false
theorem own_store_g {W : World} {B g n cap i k : Nat} {e : TypeId} {xs : List Value} (h : W.ownsRow B e k (.slice (some ⟨g, 0, none⟩) n cap) n (mks xs i)) (hx : xs.length = n * k) (hi : i < n * k) : (∃ u, W.cell? ⟨g, i, none⟩ = some u) ∧ W.frozen? ⟨g, i, none⟩ = false ∧ (W.setCell ⟨g, i, none⟩ (.int .i64 ((i : Int) + 1))).ownsRow B e k (.slice (some ⟨g, 0, none⟩) n cap) n (mks xs (i + 1)) ∧ W.grownBy (W.setCell ⟨g, i, none⟩ (.int .i64 ((i : Int) + 1))) (some g) := by
  have hs := h.stored i (.int .i64 ((i : Int) + 1))
  rw [mks_set (by omega)] at hs
  refine ⟨⟨(mks xs i)[i]'(by rw [mks_len xs (by omega)]; omega), ?_⟩, h.frozenAt i, hs.1, hs.2⟩
  rw [h.cellAt i hi]
  exact List.getElem?_eq_getElem _
theorem keep12 {G H : Nat} {p q : Nat} {a0 a1 a2 a3 a4 a5 : Int} {b0 b1 b2 b3 b4 b5 : Int} {w U U' : World} {M : Nat} (h : U.cell? ⟨G, p + 0, none⟩ = some (.int .i64 a0) ∧ U.cell? ⟨G, p + 1, none⟩ = some (.int .i64 a1) ∧ U.cell? ⟨G, p + 2, none⟩ = some (.int .i64 a2) ∧ U.cell? ⟨G, p + 3, none⟩ = some (.int .i64 a3) ∧ U.cell? ⟨G, p + 4, none⟩ = some (.int .i64 a4) ∧ U.cell? ⟨G, p + 5, none⟩ = some (.int .i64 a5) ∧ U.cell? ⟨H, q + 0, none⟩ = some (.int .i64 b0) ∧ U.cell? ⟨H, q + 1, none⟩ = some (.int .i64 b1) ∧ U.cell? ⟨H, q + 2, none⟩ = some (.int .i64 b2) ∧ U.cell? ⟨H, q + 3, none⟩ = some (.int .i64 b3) ∧ U.cell? ⟨H, q + 4, none⟩ = some (.int .i64 b4) ∧ U.cell? ⟨H, q + 5, none⟩ = some (.int .i64 b5) ∧ Below w.heap.size w U) (hb : Below M U U') (hM : M = U.heap.size) : U'.cell? ⟨G, p + 0, none⟩ = some (.int .i64 a0) ∧ U'.cell? ⟨G, p + 1, none⟩ = some (.int .i64 a1) ∧ U'.cell? ⟨G, p + 2, none⟩ = some (.int .i64 a2) ∧ U'.cell? ⟨G, p + 3, none⟩ = some (.int .i64 a3) ∧ U'.cell? ⟨G, p + 4, none⟩ = some (.int .i64 a4) ∧ U'.cell? ⟨G, p + 5, none⟩ = some (.int .i64 a5) ∧ U'.cell? ⟨H, q + 0, none⟩ = some (.int .i64 b0) ∧ U'.cell? ⟨H, q + 1, none⟩ = some (.int .i64 b1) ∧ U'.cell? ⟨H, q + 2, none⟩ = some (.int .i64 b2) ∧ U'.cell? ⟨H, q + 3, none⟩ = some (.int .i64 b3) ∧ U'.cell? ⟨H, q + 4, none⟩ = some (.int .i64 b4) ∧ U'.cell? ⟨H, q + 5, none⟩ = some (.int .i64 b5) ∧ Below w.heap.size w U' := by
  subst hM
  obtain ⟨h0, h1, h2, h3, h4, h5, k0, k1, k2, k3, k4, k5, hB⟩ := h
  have kc : ∀ {a : Addr} {v : Value}, U.cell? a = some v → U'.cell? a = some v := fun h => (hb.cell (World.block_lt_of_cell? _ _ h)).trans h
  exact ⟨kc h0, kc h1, kc h2, kc h3, kc h4, kc h5, kc k0, kc k1, kc k2, kc k3, kc k4, kc k5, below_of hB hb hB.size⟩
set_option maxHeartbeats 4000000 in
theorem eqsheets_same (l : List T6) (hl : l.length ≤ 100) (B C g1 c1 g2 c2 : Nat) (w : World) (h1 : w.ownsRow B 28 6 (.slice (some ⟨g1, 0, none⟩) l.length c1) l.length (tv6 l)) (h2 : w.ownsRow C 28 6 (.slice (some ⟨g2, 0, none⟩) l.length c2) l.length (tv6 l)) : Calls Try.prog 30 #[.slice (some ⟨g1, 0, none⟩) l.length c1, .slice (some ⟨g2, 0, none⟩) l.length c2] w fun e w' => e = .returned (.bool true) ∧ Below w.heap.size w w' := by
  have H1 := Lib.hid h1
  have H2 := Lib.hid h2
  clear h1 h2
  go_enter Try.func30, Try.ntmps30
  go_wp2_with fail
  go_loopw [5] (fun i wr => ∃ k : Nat, k ≤ l.length ∧ i = .int .i64 k ∧ Hid (Below w.heap.size w wr)) (fun i _ => l.length - (intOf i).toNat)
  case atStart => exact ⟨0, by omega, rfl, Lib.hid (Below.refl _ _)⟩
  case round =>
    obtain ⟨k, hk, rfl, HB⟩ := hrel
    by_cases hlt : k < l.length
    · have hlt' : (k : Int) < l.length := by omega
      have hk0 : (0 : Int) ≤ k := by omega
      have hk2 : k ≤ 100 := by omega
      have O1 := H1.out.kept (grown_below HB.out rfl) (.inr (by simp [Value.ownBlock]))
      have O2 := H2.out.kept (grown_below HB.out rfl) (.inr (by simp [Value.ownBlock]))
      obtain ⟨p0, p1, p2, p3, p4, p5⟩ := tv6_at l k hlt
      have k0 : wr.cell? ⟨g1, k * 6 + 0, none⟩ = some _ ∧ wr.cell? ⟨g1, k * 6 + 1, none⟩ = some _ ∧ wr.cell? ⟨g1, k * 6 + 2, none⟩ = some _ ∧ wr.cell? ⟨g1, k * 6 + 3, none⟩ = some _ ∧ wr.cell? ⟨g1, k * 6 + 4, none⟩ = some _ ∧ wr.cell? ⟨g1, k * 6 + 5, none⟩ = some _ ∧ wr.cell? ⟨g2, k * 6 + 0, none⟩ = some _ ∧ wr.cell? ⟨g2, k * 6 + 1, none⟩ = some _ ∧ wr.cell? ⟨g2, k * 6 + 2, none⟩ = some _ ∧ wr.cell? ⟨g2, k * 6 + 3, none⟩ = some _ ∧ wr.cell? ⟨g2, k * 6 + 4, none⟩ = some _ ∧ wr.cell? ⟨g2, k * 6 + 5, none⟩ = some _ ∧ Below w.heap.size w wr := ⟨own_at O1 p0, own_at O1 p1, own_at O1 p2, own_at O1 p3, own_at O1 p4, own_at O1 p5, own_at O2 p0, own_at O2 p1, own_at O2 p2, own_at O2 p3, own_at O2 p4, own_at O2 p5, HB.out⟩
      clear O1 O2 p0 p1 p2 p3 p4 p5
      generalize l[k] = t at k0
      obtain ⟨a0, a1, a2, a3, a4, a5⟩ := t
      dsimp only at k0
      have HE := Lib.hid (eq_same a0 a1 a2 a3 a4 a5)
      simp only [Nat.add_zero] at k0
      go_wp2_with fail
      set_option maxRecDepth 8000 in
      go_region_held3 (fun U => U.cell? ⟨g1, k * 6, none⟩ = some (.int .i64 a0) ∧ U.cell? ⟨g1, k * 6 + 1, none⟩ = some (.int .i64 a1) ∧ U.cell? ⟨g1, k * 6 + 2, none⟩ = some (.int .i64 a2) ∧ U.cell? ⟨g1, k * 6 + 3, none⟩ = some (.int .i64 a3) ∧ U.cell? ⟨g1, k * 6 + 4, none⟩ = some (.int .i64 a4) ∧ U.cell? ⟨g1, k * 6 + 5, none⟩ = some (.int .i64 a5) ∧ U.cell? ⟨g2, k * 6, none⟩ = some (.int .i64 a0) ∧ U.cell? ⟨g2, k * 6 + 1, none⟩ = some (.int .i64 a1) ∧ U.cell? ⟨g2, k * 6 + 2, none⟩ = some (.int .i64 a2) ∧ U.cell? ⟨g2, k * 6 + 3, none⟩ = some (.int .i64 a3) ∧ U.cell? ⟨g2, k * 6 + 4, none⟩ = some (.int .i64 a4) ∧ U.cell? ⟨g2, k * 6 + 5, none⟩ = some (.int .i64 a5) ∧ Below w.heap.size w U) (first | with_reducible exact drewc12 k0 | with_reducible assumption) (first | (go_at_call 49; with_reducible refine (HE.out _).mono ?_; rintro e w' ⟨rfl, hb'⟩; have hk := keep12 (p := k * 6) (q := k * 6) (by first | with_reducible exact drewc12 k0 | with_reducible assumption) hb' rfl; simp only [Nat.add_zero] at hk))
      all_goals
        have HB2 := Lib.hid hk.2.2.2.2.2.2.2.2.2.2.2.2
        clear hk k0 HB
        go_wp2_with fail
        go_roundw
        case rel => exact ⟨k + 1, by omega, by go_num, HB2⟩
        case measure => simp [intOf]; omega
    · obtain rfl : k = l.length := by omega
      go_wp2_with fail
      go_ret
      exact ⟨rfl, HB.out⟩
set_option maxHeartbeats 4000000 in
theorem mark_sheets (g cap B n : Nat) (xs : List Value) (hn : n ≤ 100) (w : World) (hown : w.ownsRow B 28 6 (.slice (some ⟨g, 0, none⟩) n cap) n xs) : Calls Try.prog 31 #[.slice (some ⟨g, 0, none⟩) n cap, .int .i64 1] w fun e w' => e = .returned (.int .i64 ((n : Int) * 6 + 1)) ∧ w'.ownsRow B 28 6 (.slice (some ⟨g, 0, none⟩) n cap) n (mks xs (n * 6)) ∧ w.grownBy w' (some g) := by
  have HO := Lib.hid hown
  have hx : xs.length = n * 6 := hown.1
  clear hown
  go_enter Try.func31, Try.ntmps31
  go_wp2_with fail
  go_loopw [1, 5] (fun a b wr => ∃ i : Nat, i ≤ n ∧ a = .int .i64 ((i : Int) * 6 + 1) ∧ b = .int .i64 i ∧ Hid (wr.ownsRow B 28 6 (.slice (some ⟨g, 0, none⟩) n cap) n (mks xs (i * 6)) ∧ w.grownBy wr (some g))) (fun _ b _ => n - (intOf b).toNat)
  case atStart => exact ⟨0, Nat.zero_le _, rfl, rfl, Lib.hid ⟨by rw [Nat.zero_mul, mks_zero]; exact HO.out, ⟨rfl, rfl, rfl, Nat.le_refl _, fun _ _ _ => rfl⟩⟩⟩
  case round =>
    obtain ⟨i, hi, rfl, rfl, HS⟩ := hrel
    by_cases hlt : i < n
    · have hlt' : (i : Int) < n := by omega
      have hi0 : (0 : Int) ≤ i := by omega
      clear HO
      go_wp2_with fail
      go_loopw [1, 6] (fun a c wr2 => ∃ j : Nat, j ≤ 6 ∧ a = .int .i64 (((i * 6 + j : Nat) : Int) + 1) ∧ c = .int .i64 j ∧ Hid (wr2.ownsRow B 28 6 (.slice (some ⟨g, 0, none⟩) n cap) n (mks xs (i * 6 + j)) ∧ w.grownBy wr2 (some g))) (fun _ c _ => 6 - (intOf c).toNat)
      case atStart => exact ⟨0, by omega, by simp, rfl, HS⟩
      case round =>
        obtain ⟨j, hj, rfl, rfl, HS2⟩ := hrel
        by_cases hj6 : j < 6
        · have hj6' : (j : Int) < 6 := by omega
          have hj0 : (0 : Int) ≤ j := by omega
          obtain ⟨⟨u, hu⟩, hf, hs⟩ := own_store_g HS2.out.1 hx (show i * 6 + j < n * 6 by omega)
          have H1 := Lib.hid (show _ ∧ w.grownBy _ (some g) from ⟨hs.1, gtr HS2.out.2 hs.2⟩)
          clear hs HS HS2
          obtain ⟨M, hM⟩ : ∃ M : Int, M = ((i * 6 + j : Nat) : Int) + 1 := ⟨_, rfl⟩
          have hM1 : 1 ≤ M := by omega
          have hM2 : M ≤ 606 := by omega
          have HM := Lib.hid hM
          rw [← hM] at H1 ⊢
          clear hM
          have e1 : wrap64 (M + 1) = M + 1 := by unfold wrap64; omega
          go_wp2_with fail
          generalize hW1 : (World.setCell _ _ _ : World) = W1 at H1 ⊢
          clear hW1 hu hf
          go_roundw
          case rel => exact ⟨j + 1, by omega, by have := HM.out; simp; omega, by go_num, by rw [← Nat.add_assoc]; exact H1⟩
          case measure => simp [intOf]; omega
        · obtain rfl : j = 6 := by omega
          go_wp2_with fail
          go_roundw
          case rel => exact ⟨i + 1, by omega, by simp; omega, by go_num, by rw [show (i + 1) * 6 = i * 6 + 6 by omega]; exact HS2⟩
          case measure => simp [intOf]; omega
    · obtain rfl : i = n := by omega
      go_wp2_with fail
      go_ret
      exact ⟨rfl, HS.out.1, HS.out.2⟩
set_option maxHeartbeats 4000000 in
theorem held_sheets (g cap B n : Nat) (xs : List Value) (hn : n ≤ 100) (w : World) (hx : xs.length = n * 6) (hown : w.ownsRow B 28 6 (.slice (some ⟨g, 0, none⟩) n cap) n (mks xs (n * 6))) : Calls Try.prog 32 #[.slice (some ⟨g, 0, none⟩) n cap, .int .i64 1] w fun e w' => e = .returned (.int .i64 ((n : Int) * 6 + 1)) ∧ w' = w := by
  have HO := Lib.hid hown
  clear hown
  go_enter Try.func32, Try.ntmps32
  go_wp2_with fail
  go_loopw [1, 5] (fun a b wr => ∃ i : Nat, i ≤ n ∧ a = .int .i64 ((i : Int) * 6 + 1) ∧ b = .int .i64 i ∧ wr = w) (fun _ b _ => n - (intOf b).toNat)
  case atStart => exact ⟨0, Nat.zero_le _, rfl, rfl, rfl⟩
  case round =>
    obtain ⟨i, hi, rfl, rfl, rfl⟩ := hrel
    by_cases hlt : i < n
    · have hlt' : (i : Int) < n := by omega
      have hi0 : (0 : Int) ≤ i := by omega
      go_wp2_with fail
      go_loopw [1, 6] (fun a c wr2 => ∃ j : Nat, j ≤ 6 ∧ a = .int .i64 (((i * 6 + j : Nat) : Int) + 1) ∧ c = .int .i64 j ∧ wr2 = wr) (fun _ c _ => 6 - (intOf c).toNat)
      case atStart => exact ⟨0, by omega, by simp, rfl, rfl⟩
      case round =>
        obtain ⟨j, hj, rfl, rfl, rfl⟩ := hrel
        by_cases hj6 : j < 6
        · have hj6' : (j : Int) < 6 := by omega
          have hj0 : (0 : Int) ≤ j := by omega
          have c0 := own_at HO.out (mks_at xs (show i * 6 + j < n * 6 by omega))
          obtain ⟨M, hM⟩ : ∃ M : Int, M = ((i * 6 + j : Nat) : Int) + 1 := ⟨_, rfl⟩
          have hM1 : 1 ≤ M := by omega
          have hM2 : M ≤ 606 := by omega
          have HM := Lib.hid hM
          rw [← hM] at c0 ⊢
          clear hM
          have e1 : wrap64 (M + 1) = M + 1 := by unfold wrap64; omega
          go_wp2_with fail
          go_roundw
          case rel => exact ⟨j + 1, by omega, by have := HM.out; simp; omega, by go_num, by first | rfl | trivial⟩
          case measure => simp [intOf]; omega
        · obtain rfl : j = 6 := by omega
          go_wp2_with fail
          go_roundw
          case rel => exact ⟨i + 1, by omega, by simp; omega, by go_num, by first | rfl | trivial⟩
          case measure => simp [intOf]; omega
    · obtain rfl : i = n := by omega
      go_wp2_with fail
      go_ret
      exact ⟨rfl, rfl⟩
/-- A row of sheets that the call owns, in block g. -/
def Ows (g c : Nat) (n : Nat) (xs : List Value) (W : World) : Prop := W.ownsRow 0 28 6 (.slice (some ⟨g, 0, none⟩) n c) n xs
theorem Ows.below {g c n : Nat} {xs : List Value} {W W' : World} {N : Nat} (h : Ows g c n xs W) (hb : Below N W W') (hN : N = W.heap.size) : Ows g c n xs W' := h.kept (grown_below hb hN) (.inr (by simp [Value.ownBlock]))
theorem Ows.grown {g c n g2 : Nat} {xs : List Value} {W W' : World} (h : Ows g c n xs W) (hg : W.grownBy W' (some g2)) (hne : g ≠ g2) : Ows g c n xs W' := h.kept hg (.inr (by simp [Value.ownBlock, hne]))
abbrev OwsT : Type := Nat × Nat × Nat × List Value
def Obs (n : Nat) (R : List (Nat × Obj)) (w : World) (ows : List OwsT) (U : World) : Prop :=
  KR n R w U ∧ (∀ o ∈ ows, w.heap.size + n ≤ o.1 ∧ Ows o.1 o.2.1 o.2.2.1 o.2.2.2 U) ∧ ows.Pairwise (fun a b => a.1 ≠ b.1)
theorem Obs.below {n : Nat} {R : List (Nat × Obj)} {w U U' : World} {ows : List OwsT} {M : Nat} (h : Obs n R w ows U) (hb : Below M U U') (hM : M = U.heap.size) : Obs n R w ows U' := ⟨h.1.far hb hM, fun o ho => ⟨(h.2.1 o ho).1, (h.2.1 o ho).2.below hb hM⟩, h.2.2⟩
theorem Obs.drew {n : Nat} {R : List (Nat × Obj)} {w U : World} {ows : List OwsT} (h : Obs n R w ows U) : Obs n R w ows U.drew := h.below (M := U.heap.size) (Below.refl _ _).drew rfl
theorem Obs.al {n : Nat} {R : List (Nat × Obj)} {w U : World} {ows : List OwsT} (h : Obs n R w ows U) (o : Obj) : Obs n R w ows (U.alloc o) := h.below (M := U.heap.size) ((Below.refl _ _).alloc (Nat.le_refl _) o) rfl
theorem Obs.call {n : Nat} {R : List (Nat × Obj)} {w U U' : World} {ows : List OwsT} {g c m M : Nat} {xs : List Value} (h : Obs n R w ows U) (ho : U'.ownsRow M 28 6 (.slice (some ⟨g, 0, none⟩) m c) m xs) (hb : Below M U U') (hM : M = U.heap.size) : Obs n R w ((g, c, m, xs) :: ows) U' := by
  have hg := (ho.lt g rfl).1
  refine ⟨h.1.far hb hM, ?_, ?_⟩
  · intro o hm
    rcases List.mem_cons.mp hm with rfl | hm
    · exact ⟨by have := h.1.2.1; dsimp only; omega, own_mono ho (Nat.zero_le _)⟩
    · exact ⟨(h.2.1 o hm).1, (h.2.1 o hm).2.below hb hM⟩
  · refine List.pairwise_cons.mpr ⟨fun o hm => ?_, h.2.2⟩
    have := ((h.2.1 o hm).2.lt o.1 rfl).2
    dsimp only
    omega
theorem Obs.mark {n : Nat} {R : List (Nat × Obj)} {w U U' : World} {ows : List OwsT} {g c m : Nat} {xs ys : List Value} (h : Obs n R w ((g, c, m, xs) :: ows) U) (ho : Ows g c m ys U') (hg : U.grownBy U' (some g)) : Obs n R w ((g, c, m, ys) :: ows) U' := by
  have hgl := (h.2.1 _ (List.mem_cons_self ..)).1
  have hp := List.pairwise_cons.mp h.2.2
  refine ⟨h.1.grown hg (fun k hk => by cases hk; exact hgl), ?_, List.pairwise_cons.mpr ⟨hp.1, hp.2⟩⟩
  intro o hm
  rcases List.mem_cons.mp hm with rfl | hm
  · exact ⟨hgl, ho⟩
  · exact ⟨(h.2.1 o (List.mem_cons_of_mem _ hm)).1, (h.2.1 o (List.mem_cons_of_mem _ hm)).2.grown hg (fun e => hp.1 o hm e.symm)⟩
theorem Obs.get {n : Nat} {R : List (Nat × Obj)} {w U : World} {ows : List OwsT} (h : Obs n R w ows U) {o : OwsT} (hm : o ∈ ows) : Ows o.1 o.2.1 o.2.2.1 o.2.2.2 U := (h.2.1 o hm).2
theorem Obs.hd {n : Nat} {R : List (Nat × Obj)} {w U : World} {ows : List OwsT} {g c m : Nat} {xs : List Value} (h : Obs n R w ((g, c, m, xs) :: ows) U) : Ows g c m xs U := (h.2.1 _ (List.mem_cons_self ..)).2
theorem Obs.hd2 {n : Nat} {R : List (Nat × Obj)} {w U : World} {ows : List OwsT} {o : OwsT} {g c m : Nat} {xs : List Value} (h : Obs n R w (o :: (g, c, m, xs) :: ows) U) : Ows g c m xs U := (h.2.1 _ (List.mem_cons_of_mem _ (List.mem_cons_self ..))).2
theorem Obs.hd3 {n : Nat} {R : List (Nat × Obj)} {w U : World} {ows : List OwsT} {o o2 : OwsT} {g c m : Nat} {xs : List Value} (h : Obs n R w (o :: o2 :: (g, c, m, xs) :: ows) U) : Ows g c m xs U := (h.2.1 _ (List.mem_cons_of_mem _ (List.mem_cons_of_mem _ (List.mem_cons_self ..)))).2
theorem Obs.below0 {n : Nat} {R : List (Nat × Obj)} {w U : World} {ows : List OwsT} (h : Obs n R w ows U) : Below w.heap.size w U := h.1.2.2
theorem SKbs {w U : World} (a0 a1 a2 a3 a4 a5 : Int) (b0 b1 b2 b3 b4 b5 : Int) {ows : List OwsT} (h : Obs 2 [(w.heap.size, ol a0 a1 a2 a3 a4 a5), (w.heap.size + 1, ol b0 b1 b2 b3 b4 b5)] w ows U) : U.cell? ⟨w.heap.size, 0, none⟩ = some (.int .i64 a0) ∧ U.cell? ⟨w.heap.size, 1, none⟩ = some (.int .i64 a1) ∧ U.cell? ⟨w.heap.size, 2, none⟩ = some (.int .i64 a2) ∧ U.cell? ⟨w.heap.size, 3, none⟩ = some (.int .i64 a3) ∧ U.cell? ⟨w.heap.size, 4, none⟩ = some (.int .i64 a4) ∧ U.cell? ⟨w.heap.size, 5, none⟩ = some (.int .i64 a5) ∧ U.cell? ⟨w.heap.size + 1, 0, none⟩ = some (.int .i64 b0) ∧ U.cell? ⟨w.heap.size + 1, 1, none⟩ = some (.int .i64 b1) ∧ U.cell? ⟨w.heap.size + 1, 2, none⟩ = some (.int .i64 b2) ∧ U.cell? ⟨w.heap.size + 1, 3, none⟩ = some (.int .i64 b3) ∧ U.cell? ⟨w.heap.size + 1, 4, none⟩ = some (.int .i64 b4) ∧ U.cell? ⟨w.heap.size + 1, 5, none⟩ = some (.int .i64 b5) ∧ Obs 2 [(w.heap.size, ol a0 a1 a2 a3 a4 a5), (w.heap.size + 1, ol b0 b1 b2 b3 b4 b5)] w ows U :=
  have h0 := fun j => cell_of_row U _ j _ _ _ (h.1.row (g := w.heap.size) (o := ol a0 a1 a2 a3 a4 a5) (List.mem_cons_self ..))
  have h1 := fun j => cell_of_row U _ j _ _ _ (h.1.row (g := w.heap.size + 1) (o := ol b0 b1 b2 b3 b4 b5) (List.mem_cons_of_mem _ (List.mem_cons_self ..)))
  ⟨h0 0, h0 1, h0 2, h0 3, h0 4, h0 5, h1 0, h1 1, h1 2, h1 3, h1 4, h1 5, h⟩
end Go.Proofs.Ytkjaaaefcmpokaa
