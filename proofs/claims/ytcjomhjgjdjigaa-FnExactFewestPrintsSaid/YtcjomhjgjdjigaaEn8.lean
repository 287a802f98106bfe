/- CONTRACTS of the laws' own functions over slices of numbers, and what the walk of a law knows of the answers. -/
import Derived.Test.YtcjomhjgjdjigaaNv8
import Derived.Test.YtcjomhjgjdjigaaOb8
import Derived.WalkKit
import Derived.ProofKit
import Derived.OpenShut
import Derived.Lib.Hide
import Derived.WalkSpells
import Derived.Below
import Derived.BigQuiet
import Derived.LoopN
namespace Go.Proofs.Ytcjomhjgjdjigaa
open Go.ChangeShapes Go.WideShapes Go.ChangeAt Go.RowKit
set_option linter.unusedVariables false
set_option maxHeartbeats 1000000 in
theorem eqints_same (l : List Nat) (hl : l.length ≤ 100) (B C g1 c1 g2 c2 : Nat) (w : World) (h1 : w.ownsRow B 3 1 (.slice (some ⟨g1, 0, none⟩) l.length c1) l.length (nvs l)) (h2 : w.ownsRow C 3 1 (.slice (some ⟨g2, 0, none⟩) l.length c2) l.length (nvs l)) : Calls Try.prog 35 #[.slice (some ⟨g1, 0, none⟩) l.length c1, .slice (some ⟨g2, 0, none⟩) l.length c2] w fun e w' => e = .returned (.bool true) ∧ Below w.heap.size w w' := by
  have H1 := Lib.hid h1
  have H2 := Lib.hid h2
  clear h1 h2
  go_enter Try.func35, Try.ntmps35
  go_wp2_with fail
  go_loopw [5] (fun i wr => ∃ k : Nat, k ≤ l.length ∧ i = .int .i64 k ∧ Hid (Below w.heap.size w wr)) (fun i _ => l.length - (intOf i).toNat)
  case atStart => exact ⟨0, by omega, rfl, Lib.hid (Below.refl _ _)⟩
  case round =>
    obtain ⟨k, hk, rfl, HB⟩ := hrel
    by_cases hlt : k < l.length
    · have hlt' : (k : Int) < l.length := by omega
      have hk0 : (0 : Int) ≤ k := by omega
      have hk2 : k ≤ 100 := by omega
      have O1 := H1.out.kept (grown_below HB.out rfl) (.inr (by simp [Value.ownBlock]))
      have O2 := H2.out.kept (grown_below HB.out rfl) (.inr (by simp [Value.ownBlock]))
      have p1 := nvs_at l k hlt
      have a1 := own_at O1 p1
      have b1 := own_at O2 p1
      clear O1 O2 p1
      generalize (l[k] : Int) = X at a1 b1
      have d1 : wr.drew.cell? ⟨g1, k, none⟩ = some (.int .i64 X) := a1
      have d2 : wr.drew.cell? ⟨g2, k, none⟩ = some (.int .i64 X) := b1
      go_wp2_with fail
      go_region
      all_goals
        clear a1 b1 d1 d2
        go_wp2_with fail
        go_roundw
        case rel => exact ⟨k + 1, by omega, by go_num, Lib.hid HB.out.drew⟩
        case measure => simp [intOf]; omega
    · obtain rfl : k = l.length := by omega
      go_wp2_with fail
      go_ret
      exact ⟨rfl, HB.out⟩
theorem own_store1 {W : World} {B g n cap i : Nat} {xs : List Value} (h : W.ownsRow B 3 1 (.slice (some ⟨g, 0, none⟩) n cap) n (mks xs i)) (hx : xs.length = n) (hi : i < n) : (∃ u, W.cell? ⟨g, i, none⟩ = some u) ∧ W.frozen? ⟨g, i, none⟩ = false ∧ (W.setCell ⟨g, i, none⟩ (.int .i64 ((i : Int) + 1))).ownsRow B 3 1 (.slice (some ⟨g, 0, none⟩) n cap) n (mks xs (i + 1)) ∧ W.grownBy (W.setCell ⟨g, i, none⟩ (.int .i64 ((i : Int) + 1))) (some g) := by
  have hs := h.stored i (.int .i64 ((i : Int) + 1))
  rw [mks_set (by omega)] at hs
  refine ⟨⟨(mks xs i)[i]'(by rw [mks_len xs (by omega)]; omega), ?_⟩, h.frozenAt i, hs.1, hs.2⟩
  rw [h.cellAt i (by omega)]
  exact List.getElem?_eq_getElem _
set_option maxHeartbeats 1000000 in
theorem mark_ints (g cap B n : Nat) (xs : List Value) (hn : n ≤ 100) (w : World) (hown : w.ownsRow B 3 1 (.slice (some ⟨g, 0, none⟩) n cap) n xs) : Calls Try.prog 37 #[.slice (some ⟨g, 0, none⟩) n cap, .int .i64 1] w fun e w' => e = .returned (.int .i64 ((n : Int) + 1)) ∧ w'.ownsRow B 3 1 (.slice (some ⟨g, 0, none⟩) n cap) n (mks xs n) ∧ w.grownBy w' (some g) := by
  have HO := Lib.hid hown
  have hx : xs.length = n := by have := hown.1; omega
  clear hown
  go_enter Try.func37, Try.ntmps37
  go_wp2_with fail
  go_loopw [1, 5] (fun a b wr => ∃ i : Nat, i ≤ n ∧ a = .int .i64 ((i : Int) + 1) ∧ b = .int .i64 i ∧ Hid (wr.ownsRow B 3 1 (.slice (some ⟨g, 0, none⟩) n cap) n (mks xs i) ∧ w.grownBy wr (some g))) (fun _ b _ => n - (intOf b).toNat)
  case atStart => exact ⟨0, Nat.zero_le _, rfl, rfl, Lib.hid ⟨by rw [mks_zero]; exact HO.out, ⟨rfl, rfl, rfl, Nat.le_refl _, fun _ _ _ => rfl⟩⟩⟩
  case round =>
    obtain ⟨i, hi, rfl, rfl, HS⟩ := hrel
    by_cases hlt : i < n
    · have hlt' : (i : Int) < n := by omega
      have hi0 : (0 : Int) ≤ i := by omega
      obtain ⟨⟨u, hu⟩, hf, hs⟩ := own_store1 HS.out.1 hx hlt
      have H1 := Lib.hid (show _ ∧ w.grownBy _ (some g) from ⟨hs.1, gtr HS.out.2 hs.2⟩)
      clear hs HO HS
      obtain ⟨M, hM⟩ : ∃ M : Int, M = (i : Int) + 1 := ⟨_, rfl⟩
      have hM1 : 1 ≤ M := by omega
      have hM2 : M ≤ 101 := by omega
      have HM := Lib.hid hM
      rw [← hM] at H1 ⊢
      clear hM
      have e1 : wrap64 (M + 1) = M + 1 := by unfold wrap64; omega
      go_wp2_with fail
      generalize hW1 : (World.setCell _ _ _ : World) = W1 at H1 ⊢
      clear hW1 hu hf
      go_roundw
      case rel => exact ⟨i + 1, by omega, by have := HM.out; simp; omega, by go_num, H1⟩
      case measure => simp [intOf]; omega
    · obtain rfl : i = n := by omega
      go_wp2_with fail
      go_ret
      exact ⟨rfl, HS.out.1, HS.out.2⟩
set_option maxHeartbeats 1000000 in
theorem held_ints (g cap B n : Nat) (xs : List Value) (hn : n ≤ 100) (w : World) (hx : xs.length = n) (hown : w.ownsRow B 3 1 (.slice (some ⟨g, 0, none⟩) n cap) n (mks xs n)) : Calls Try.prog 38 #[.slice (some ⟨g, 0, none⟩) n cap, .int .i64 1] w fun e w' => e = .returned (.int .i64 ((n : Int) + 1)) ∧ w' = w := by
  have HO := Lib.hid hown
  clear hown
  go_enter Try.func38, Try.ntmps38
  go_wp2_with fail
  go_loopw [1, 5] (fun a b wr => ∃ i : Nat, i ≤ n ∧ a = .int .i64 ((i : Int) + 1) ∧ b = .int .i64 i ∧ wr = w) (fun _ b _ => n - (intOf b).toNat)
  case atStart => exact ⟨0, Nat.zero_le _, rfl, rfl, rfl⟩
  case round =>
    obtain ⟨i, hi, rfl, rfl, rfl⟩ := hrel
    by_cases hlt : i < n
    · have hlt' : (i : Int) < n := by omega
      have hi0 : (0 : Int) ≤ i := by omega
      have c0 := own_at HO.out (mks_at xs hlt)
      obtain ⟨M, hM⟩ : ∃ M : Int, M = (i : Int) + 1 := ⟨_, rfl⟩
      have hM1 : 1 ≤ M := by omega
      have hM2 : M ≤ 101 := by omega
      have HM := Lib.hid hM
      rw [← hM] at c0 ⊢
      clear hM HO
      have e1 : wrap64 (M + 1) = M + 1 := by unfold wrap64; omega
      go_wp2_with fail
      go_roundw
      case rel => exact ⟨i + 1, by omega, by have := HM.out; simp; omega, by go_num, by first | rfl | trivial⟩
      case measure => simp [intOf]; omega
    · obtain rfl : i = n := by omega
      go_wp2_with fail
      go_ret
      exact ⟨rfl, rfl⟩
/-- A row of numbers that the call owns, in block g. -/
def Oj (g c : Nat) (n : Nat) (xs : List Value) (W : World) : Prop := W.ownsRow 0 3 1 (.slice (some ⟨g, 0, none⟩) n c) n xs
theorem Oj.below {g c n : Nat} {xs : List Value} {W W' : World} {N : Nat} (h : Oj g c n xs W) (hb : Below N W W') (hN : N = W.heap.size) : Oj g c n xs W' := h.kept (grown_below hb hN) (.inr (by simp [Value.ownBlock]))
theorem Oj.grown {g c n g2 : Nat} {xs : List Value} {W W' : World} (h : Oj g c n xs W) (hg : W.grownBy W' (some g2)) (hne : g ≠ g2) : Oj g c n xs W' := h.kept hg (.inr (by simp [Value.ownBlock, hne]))
def Oy (n : Nat) (R : List (Nat × Obj)) (w : World) (ows : List OwT) (U : World) : Prop :=
  KR n R w U ∧ (∀ o ∈ ows, w.heap.size + n ≤ o.1 ∧ Oj o.1 o.2.1 o.2.2.1 o.2.2.2 U) ∧ ows.Pairwise (fun a b => a.1 ≠ b.1)
theorem Oy.below {n : Nat} {R : List (Nat × Obj)} {w U U' : World} {ows : List OwT} {M : Nat} (h : Oy n R w ows U) (hb : Below M U U') (hM : M = U.heap.size) : Oy n R w ows U' := ⟨h.1.far hb hM, fun o ho => ⟨(h.2.1 o ho).1, (h.2.1 o ho).2.below hb hM⟩, h.2.2⟩
theorem Oy.drew {n : Nat} {R : List (Nat × Obj)} {w U : World} {ows : List OwT} (h : Oy n R w ows U) : Oy n R w ows U.drew := h.below (M := U.heap.size) (Below.refl _ _).drew rfl
theorem Oy.al {n : Nat} {R : List (Nat × Obj)} {w U : World} {ows : List OwT} (h : Oy n R w ows U) (o : Obj) : Oy n R w ows (U.alloc o) := h.below (M := U.heap.size) ((Below.refl _ _).alloc (Nat.le_refl _) o) rfl
theorem Oy.call {n : Nat} {R : List (Nat × Obj)} {w U U' : World} {ows : List OwT} {g c m M : Nat} {xs : List Value} (h : Oy n R w ows U) (ho : U'.ownsRow M 3 1 (.slice (some ⟨g, 0, none⟩) m c) m xs) (hb : Below M U U') (hM : M = U.heap.size) : Oy n R w ((g, c, m, xs) :: ows) U' := by
  have hg := (ho.lt g rfl).1
  refine ⟨h.1.far hb hM, ?_, ?_⟩
  · intro o hm
    rcases List.mem_cons.mp hm with rfl | hm
    · exact ⟨by have := h.1.2.1; dsimp only; omega, own_mono ho (Nat.zero_le _)⟩
    · exact ⟨(h.2.1 o hm).1, (h.2.1 o hm).2.below hb hM⟩
  · refine List.pairwise_cons.mpr ⟨fun o hm => ?_, h.2.2⟩
    have := ((h.2.1 o hm).2.lt o.1 rfl).2
    dsimp only
    omega
theorem Oy.mark {n : Nat} {R : List (Nat × Obj)} {w U U' : World} {ows : List OwT} {g c m : Nat} {xs ys : List Value} (h : Oy n R w ((g, c, m, xs) :: ows) U) (ho : Oj g c m ys U') (hg : U.grownBy U' (some g)) : Oy n R w ((g, c, m, ys) :: ows) U' := by
  have hgl := (h.2.1 _ (List.mem_cons_self ..)).1
  have hp := List.pairwise_cons.mp h.2.2
  refine ⟨h.1.grown hg (fun k hk => by cases hk; exact hgl), ?_, List.pairwise_cons.mpr ⟨hp.1, hp.2⟩⟩
  intro o hm
  rcases List.mem_cons.mp hm with rfl | hm
  · exact ⟨hgl, ho⟩
  · exact ⟨(h.2.1 o (List.mem_cons_of_mem _ hm)).1, (h.2.1 o (List.mem_cons_of_mem _ hm)).2.grown hg (fun e => hp.1 o hm e.symm)⟩
theorem Oy.get {n : Nat} {R : List (Nat × Obj)} {w U : World} {ows : List OwT} (h : Oy n R w ows U) {o : OwT} (hm : o ∈ ows) : Oj o.1 o.2.1 o.2.2.1 o.2.2.2 U := (h.2.1 o hm).2
theorem Oy.hd {n : Nat} {R : List (Nat × Obj)} {w U : World} {ows : List OwT} {g c m : Nat} {xs : List Value} (h : Oy n R w ((g, c, m, xs) :: ows) U) : Oj g c m xs U := (h.2.1 _ (List.mem_cons_self ..)).2
theorem Oy.hd2 {n : Nat} {R : List (Nat × Obj)} {w U : World} {ows : List OwT} {o : OwT} {g c m : Nat} {xs : List Value} (h : Oy n R w (o :: (g, c, m, xs) :: ows) U) : Oj g c m xs U := (h.2.1 _ (List.mem_cons_of_mem _ (List.mem_cons_self ..))).2
theorem Oy.hd3 {n : Nat} {R : List (Nat × Obj)} {w U : World} {ows : List OwT} {o o2 : OwT} {g c m : Nat} {xs : List Value} (h : Oy n R w (o :: o2 :: (g, c, m, xs) :: ows) U) : Oj g c m xs U := (h.2.1 _ (List.mem_cons_of_mem _ (List.mem_cons_of_mem _ (List.mem_cons_self ..)))).2
theorem Oy.below0 {n : Nat} {R : List (Nat × Obj)} {w U : World} {ows : List OwT} (h : Oy n R w ows U) : Below w.heap.size w U := h.1.2.2
end Go.Proofs.Ytcjomhjgjdjigaa
