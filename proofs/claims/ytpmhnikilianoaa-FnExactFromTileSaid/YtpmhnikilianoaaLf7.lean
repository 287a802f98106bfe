/- THE WALK of FromTile's law. -/
import Derived.Test.YtpmhnikilianoaaHt7
import Derived.WalkKit
import Derived.ProofKit
import Derived.OpenShut
import Derived.Lib.Hide
import Derived.WalkSpells
import Derived.Below
import Derived.BigQuiet
import Derived.LoopN
namespace Go.Proofs.Ytpmhnikilianoaa
open Go.ChangeShapes Go.WideShapes Go.ChangeAt Go.RowKit
set_option linter.unusedVariables false
theorem cell_lt7 {w : World} {a : Addr} {v : Value} (h : w.cell? a = some v) : a.block < w.heap.size := by
  by_cases hl : a.block < w.heap.size
  · exact hl
  · have : w.heap[a.block]? = none := Array.getElem?_eq_none (by omega)
    simp [World.cell?, this] at h
def of7 (r0 r1 r2 r3 r4 r5 : Int) : Obj := .cells #[.int .i64 r0, .int .i64 r1, .int .i64 r2, .int .i64 r3, .int .i64 r4, .int .i64 r5] 28 (0, 0)
set_option maxHeartbeats 4000000 in
theorem fromtile_core (z : List Int) (a : Option Addr) (cap : Nat) (k0 : Int) (hz : z.length ≤ 1048576) (r0 r1 r2 r3 r4 r5 : Int) (t : Bool) (HS : Hid (∀ w gz cap, gz < w.heap.size → w.ownsRow 0 3 1 (.slice (some ⟨gz, 0, none⟩) z.length cap) z.length (iw z) → Calls Try.prog 38 #[.slice (some ⟨gz, 0, none⟩) z.length cap, .int .i64 k0] w fun e w' => e = .returned (.tuple #[.agg #[.int .i64 r0, .int .i64 r1, .int .i64 r2, .int .i64 r3, .int .i64 r4, .int .i64 r5], .bool t]) ∧ Below w.heap.size w w')) (HI : Hid (∀ w gz cap, gz < w.heap.size → w.ownsRow 0 3 1 (.slice (some ⟨gz, 0, none⟩) z.length cap) z.length (iw z) → Calls Try.prog 40 #[.slice (some ⟨gz, 0, none⟩) z.length cap, .int .i64 k0] w fun e w' => e = .returned (.tuple #[.agg #[.int .i64 r0, .int .i64 r1, .int .i64 r2, .int .i64 r3, .int .i64 r4, .int .i64 r5], .bool t]) ∧ Below w.heap.size w w')) (w : World) (hP : IsNums w a z) : Calls Try.prog 8 #[.slice a z.length cap, .int .i64 k0] w fun e w' => e = .returned (.bool true) ∧ Below w.heap.size w w' := by
  have HP := Lib.hid hP
  have HT := fun w (h : IsNums w a z) => toints_any z hz a cap w h
  have HT := Lib.hid HT
  have HZ := Lib.hid hz
  have HEQ := Lib.hid (eq_same r0 r1 r2 r3 r4 r5)
  clear hP
  go_enter Try.func8, Try.ntmps8
  go_wp2_with fail
  refine (HT.out _ HP.out).mono ?_
  rintro e W1 ⟨g1, rfl, ho, hb⟩
  have B1 := Lib.hid hb
  have O1 := Lib.hid (own_mono ho (Nat.zero_le _))
  have L1 := Lib.hid (ho.lt g1 rfl).2
  clear ho hb
  go_wp2_with fail
  refine (HS.out _ _ _ L1.out O1.out).mono ?_
  rintro e W2 ⟨rfl, hb⟩
  have B2 := Lib.hid (below_of B1.out hb B1.out.size)
  clear hb O1 L1 B1 HS
  go_wp2_with fail
  have q1 : (W2.alloc (.cells #[.int .i64 r0, .int .i64 r1, .int .i64 r2, .int .i64 r3, .int .i64 r4, .int .i64 r5] 28)).heap[W2.heap.size]? = some (of7 r0 r1 r2 r3 r4 r5) := alloc_at rfl
  have B3 := Lib.hid (B2.out.alloc B2.out.size (.cells #[.int .i64 r0, .int .i64 r1, .int .i64 r2, .int .i64 r3, .int .i64 r4, .int .i64 r5] 28))
  have hlt : W2.heap.size < (W2.alloc (.cells #[.int .i64 r0, .int .i64 r1, .int .i64 r2, .int .i64 r3, .int .i64 r4, .int .i64 r5] 28)).heap.size := by simp
  clear B2
  generalize (World.alloc _ _ : World) = X1 at q1 B3 hlt ⊢
  generalize W2.heap.size = gs at q1 hlt ⊢
  refine (HT.out _ (HP.out.below B3.out)).mono ?_
  rintro e W3 ⟨g2, rfl, ho, hb⟩
  have B4 := Lib.hid (below_of B3.out hb B3.out.size)
  have q2 := row_keep hb hlt q1
  have hlt2 : gs < W3.heap.size := Nat.lt_of_lt_of_le hlt hb.size
  have O2 := Lib.hid (own_mono ho (Nat.zero_le _))
  have L2 := Lib.hid (ho.lt g2 rfl).2
  clear ho hb B3 q1 hlt
  go_wp2_with fail
  refine (HI.out _ _ _ L2.out O2.out).mono ?_
  rintro e W4 ⟨rfl, hb⟩
  have B5 := Lib.hid (below_of B4.out hb B4.out.size)
  have q3 := row_keep hb hlt2 q2
  have hlt3 : gs < W4.heap.size := Nat.lt_of_lt_of_le hlt2 hb.size
  have O3 := Lib.hid (O2.out.kept (grown_below hb rfl) (.inr (by simp [Value.ownBlock])))
  clear hb B4 q2 hlt2 O2 L2 HI
  have c3 := fun j => cell_of_row W4 _ j _ _ _ q3
  have hne : gs ≠ W4.heap.size := by omega
  go_wp2_with fail
  have B6 := Lib.hid (B5.out.alloc B5.out.size (.cells #[.int .i64 r0, .int .i64 r1, .int .i64 r2, .int .i64 r3, .int .i64 r4, .int .i64 r5] 28))
  have O4 := Lib.hid (O3.out.alloc (.cells #[.int .i64 r0, .int .i64 r1, .int .i64 r2, .int .i64 r3, .int .i64 r4, .int .i64 r5] 28))
  clear c3 hne hlt3 q3 B5 O3
  refine (HEQ.out _).mono ?_
  rintro e W5 ⟨rfl, hb⟩
  have B7 := Lib.hid (below_of B6.out hb B6.out.size)
  have O5 := Lib.hid (O4.out.kept (grown_below hb rfl) (.inr (by simp [Value.ownBlock])))
  clear hb B6 O4 HEQ
  go_wp2_with fail
  refine (HT.out _ (HP.out.below B7.out)).mono ?_
  rintro e W6 ⟨g3, rfl, ho, hb⟩
  have B8 := Lib.hid (below_of B7.out hb B7.out.size)
  have O6 := Lib.hid (O5.out.kept (grown_below hb rfl) (.inr (by simp [Value.ownBlock])))
  have O7 := Lib.hid (own_mono ho (Nat.zero_le _))
  clear ho hb B7 O5
  go_wp2_with fail
  refine (eqnums_same z HZ.out 0 0 g2 z.length g3 z.length W6 O6.out O7.out).mono ?_
  rintro e W7 ⟨rfl, hb⟩
  have B9 := below_of B8.out hb B8.out.size
  clear hb B8 O6 O7
  go_wp2_with fail
  go_ret
  exact ⟨rfl, B9⟩
set_option maxHeartbeats 1000000 in
theorem fromtile_law (z : List Int) (a : Option Addr) (cap : Nat) (k0 : Int) (hm : z.length ≤ maxLen) (w : World) (hP : IsNums w a z) : Calls Try.prog 8 #[.slice a z.length cap, .int .i64 k0] w fun e w' => e = .returned (.bool true) ∧ Below w.heap.size w w' := by
  by_cases hz : z.length ≤ 1048576
  · obtain ⟨r0, r1, r2, r3, r4, r5, t, h1, h2⟩ := tile7_pair z k0
    exact fromtile_core z a cap k0 hz r0 r1 r2 r3 r4 r5 t (Lib.hid h1) (Lib.hid h2) w hP
  · clear hP
    have hz' : ¬ ((z.length : Int) ≤ 1048576) := by omega
    have hz2 : (1048576 : Int) < (z.length : Int) := by omega
    go_enter Try.func8, Try.ntmps8
    go_wp2_with fail
    go_ret
    exact ⟨rfl, Below.refl _ _⟩
end Go.Proofs.Ytpmhnikilianoaa
