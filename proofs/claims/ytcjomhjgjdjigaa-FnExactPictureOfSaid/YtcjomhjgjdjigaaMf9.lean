/- THE LAW's WALK: PictureOf. -/
import Derived.Test.YtcjomhjgjdjigaaMe9
import Derived.WalkKit
import Derived.ProofKit
import Derived.OpenShut
import Derived.Lib.Hide
import Derived.WalkSpells
import Derived.Below
import Derived.BigQuiet
import Derived.LoopN
namespace Go.Proofs.Ytcjomhjgjdjigaa
open Go.ChangeShapes Go.WideShapes Go.ChangeAt Go.RowKit
set_option linter.unusedVariables false
theorem ZPost9.out {z : List Pn} {w w' : World} {e : Ending} (h : ZPost9 z w e w') : ∃ g, e = .returned (.slice (some ⟨g, 0, none⟩) z.length z.length) ∧ Op9 w.heap.size g z.length z w' ∧ Below w.heap.size w w' := h
/-- A picture in a block of its own: what is known of it behind the alloc and the store. -/
theorem alS36 (W : World) (q : Nat → Int) : ((W.alloc (pb 27 fun _ => 0)).setCells W.heap.size 0 (cs36 q)).heap[W.heap.size]? = some (pb 27 q) := pb_sets q (alloc_at rfl)
theorem alS36b (W : World) (q : Nat → Int) : Below W.heap.size W ((W.alloc (pb 27 fun _ => 0)).setCells W.heap.size 0 (cs36 q)) := setCells_below _ _ ((Below.refl _ _).alloc (Nat.le_refl _) _) (Nat.le_refl _)
set_option maxRecDepth 8000 in
set_option maxHeartbeats 1000000 in
theorem picof_core (z : List Pn) (a : Option Addr) (cap : Nat) (hm : z.length ≤ maxLen) (R : Nat → Int) (t : Bool) (HS : Hid (z.length ≤ 1048576 → ∀ (w : World) (g c : Nat), Op9 0 g c z w → Calls Try.prog 25 #[.slice (some ⟨g, 0, none⟩) z.length c] w fun e w' => e = .returned (.tuple #[pv R, .bool t]) ∧ Below w.heap.size w w')) (HI : Hid (z.length ≤ 1048576 → ∀ (w : World) (g c : Nat), Op9 0 g c z w → Calls Try.prog 27 #[.slice (some ⟨g, 0, none⟩) z.length c] w fun e w' => e = .returned (.tuple #[pv R, .bool t]) ∧ Below w.heap.size w w')) (w : World) (hP : IsPrints w a z) : Calls Try.prog 5 #[.slice a z.length cap] w fun e w' => e = .returned (.bool true) ∧ Below w.heap.size w w' := by
  have HZ := Lib.hid (size_prints a z.length cap hm)
  have HP := Lib.hid hP
  clear hP
  by_cases hbig : 1048576 < z.length
  · simp only [hbig, if_true] at HZ
    clear HS HI
    go_enter Try.func5, Try.ntmps5
    go_wp2_with fail
    refine (HZ.out _).mono ?_
    rintro e w' ⟨rfl, hw⟩
    subst hw
    go_wp2_with fail
    go_ret
    exact ⟨rfl, Below.refl _ _⟩
  · have hz : z.length ≤ 1048576 := by omega
    have hge : ¬ ((1048576 : Int) - (z.length : Int) < 0) := by omega
    simp only [hbig, if_false] at HZ
    have HT := Lib.hid (fun (W : World) (hW : Below w.heap.size w W) => toprints_any z hz a cap W (HP.out.below hW))
    have HS := Lib.hid (HS.out hz)
    have HI := Lib.hid (HI.out hz)
    have HQ := Lib.hid (eqprints_same z hz 0 0)
    have HE := Lib.hid (eqpic_same R)
    go_enter Try.func5, Try.ntmps5
    go_wp2_with fail
    refine (HZ.out _).mono ?_
    rintro e w' ⟨rfl, hw⟩
    obtain rfl := hw.symm
    go_wp2_with fail
    refine (HT.out _ (Below.refl _ _)).mono ?_
    intro e W1 hp
    obtain ⟨g1, rfl, ho, hb1⟩ := hp.out
    have o1 : Hid (Op9 0 g1 z.length z W1) := Lib.hid (ho.mono (Nat.zero_le _))
    have hB1 := Lib.hid hb1
    clear ho hb1 hp
    go_wp2_with fail
    refine (HS.out _ _ _ o1.out).mono ?_
    rintro e W2 ⟨rfl, hb⟩
    have hB2 := Lib.hid (below_of hB1.out hb hB1.out.size)
    clear hb hB1 o1
    have hA0 : (W2.alloc (pb 27 fun _ => 0)).heap[W2.heap.size]? = some (pb 27 fun _ => 0) := alloc_at rfl
    go_wp2_with (first | with_reducible refine wpAlP W2.heap.size rfl ?_ | ((with_reducible refine wpS36 W2.heap.size R 27 _ hA0 ?_ ?_ ?_ ?_); rfl; rfl; kernel_rfl))
    have hA := alS36 W2 R
    have hB3 := Lib.hid (below_of hB2.out (alS36b W2 R) hB2.out.size)
    clear hB2 hA0
    generalize (World.setCells _ _ _ _ : World) = X3 at hA hB3 ⊢
    generalize W2.heap.size = G at hA ⊢
    refine (HT.out _ hB3.out).mono ?_
    intro e W4 hp
    obtain ⟨g2, rfl, ho, hb⟩ := hp.out
    have o2 : Hid (Op9 0 g2 z.length z W4) := Lib.hid (ho.mono (Nat.zero_le _))
    have hA4 := rowk hA hb rfl
    have hB4 := Lib.hid (below_of hB3.out hb hB3.out.size)
    clear ho hb hB3 hA hp
    have HA4 := Lib.hid hA4
    clear hA4
    go_wp2_with fail
    refine (HI.out _ _ _ o2.out).mono ?_
    rintro e W5 ⟨rfl, hb⟩
    have o5 := Lib.hid (o2.out.below hb rfl)
    have hA5 := rowk HA4.out hb rfl
    have hB5 := Lib.hid (below_of hB4.out hb hB4.out.size)
    clear hb hB4 HA4 o2
    have hA0 : (W5.alloc (pb 27 fun _ => 0)).heap[W5.heap.size]? = some (pb 27 fun _ => 0) := alloc_at rfl
    have hA6 := Lib.hid (alS36 W5 R)
    have hA7 := Lib.hid (rowk hA5 (alS36b W5 R) rfl)
    have o6 := Lib.hid (o5.out.below (alS36b W5 R) rfl)
    have hB6 := Lib.hid (below_of hB5.out (alS36b W5 R) hB5.out.size)
    clear hB5 o5 hA5
    go_wp2_with (first | with_reducible refine wpAlP W5.heap.size rfl ?_ | ((with_reducible refine wpS36 W5.heap.size R 27 _ hA0 ?_ ?_ ?_ ?_); rfl; rfl; kernel_rfl) | ((with_reducible refine wpL36 W5.heap.size 27 R hA6.out _ Try.underlying27 ?_ ?_ ?_ ?_); rfl; rfl; kernel_rfl) | ((with_reducible refine wpL36 G 27 R hA7.out _ Try.underlying27 ?_ ?_ ?_ ?_); rfl; rfl; kernel_rfl))
    clear hA6 hA7 hA0
    generalize (World.setCells _ _ _ _ : World) = X6 at o6 hB6 ⊢
    refine (HE.out _).mono ?_
    rintro e W7 ⟨rfl, hb⟩
    have o7 := Lib.hid (o6.out.below hb rfl)
    have hB7 := Lib.hid (below_of hB6.out hb hB6.out.size)
    clear hb hB6 o6
    go_wp2_with fail
    refine (HT.out _ hB7.out).mono ?_
    intro e W8 hp
    obtain ⟨g3, rfl, ho, hb⟩ := hp.out
    have o8 : Hid (Op9 0 g3 z.length z W8) := Lib.hid (ho.mono (Nat.zero_le _))
    have o9 := Lib.hid (o7.out.below hb rfl)
    have hB8 := Lib.hid (below_of hB7.out hb hB7.out.size)
    clear ho hb hB7 o7 hp
    go_wp2_with fail
    refine (HQ.out _ _ _ _ _ o9.out o8.out).mono ?_
    rintro e W9 ⟨rfl, hb⟩
    have hB9 := Lib.hid (below_of hB8.out hb hB8.out.size)
    clear hb hB8 o8 o9
    go_wp2_with fail
    go_ret
    exact ⟨rfl, hB9.out⟩
theorem picof_law (z : List Pn) (a : Option Addr) (cap : Nat) (hm : z.length ≤ maxLen) (hwf : ∀ p ∈ z, (Lit.int .i64 p.x).wf = true ∧ (Lit.int .i64 p.y).wf = true) (w : World) (hP : IsPrints w a z) : Calls Try.prog 5 #[.slice a z.length cap] w fun e w' => e = .returned (.bool true) ∧ Below w.heap.size w w' := by
  by_cases hz : z.length ≤ 1048576
  · obtain ⟨R, t, h1, h2⟩ := pic_pair z hz hwf
    exact picof_core z a cap hm R t (Lib.hid fun _ => h1) (Lib.hid fun _ => h2) w hP
  · exact picof_core z a cap hm (fun _ => 0) false (Lib.hid fun h => absurd h hz) (Lib.hid fun h => absurd h hz) w hP
end Go.Proofs.Ytcjomhjgjdjigaa
