/- PLAIN LEMMAS: a slice of pairs of ints as a parameter, opened; THE LAW's WALK: SheetOf. -/
import Derived.Test.YtjhokdccgachcaaZs
import Derived.Test.YtjhokdccgachcaaShp
import Derived.Deep.Slices
import Derived.DataReads
import Derived.WalkKit
import Derived.ProofKit
import Derived.OpenShut
import Derived.Lib.Hide
import Derived.WalkSpells
import Derived.Below
import Derived.BigQuiet
import Derived.LoopN
namespace Go.Proofs.Ytjhokdccgachcaa
open Go.ChangeShapes Go.WideShapes Go.ChangeAt Go.RowKit
set_option linter.unusedVariables false
theorem cell_lt {w : World} {a : Addr} {v : Value} (h : w.cell? a = some v) : a.block < w.heap.size := by
  by_cases hl : a.block < w.heap.size
  · exact hl
  · have : w.heap[a.block]? = none := Array.getElem?_eq_none (by omega)
    simp [World.cell?, this] at h
section
variable {H : Type} {enc : TypeId × Value → H} {P : Program} {w : World} {base : Nat} {spare : Nat → Bool} {held : Bool}
theorem open_pairs {t e i : TypeId} {fuel : Nat} {a : Option Addr} {len cap : Nat} {x : DataW H × List MemPlace} (ht : P.underlying t = some (.slice e)) (he : P.underlying e = some (.array 2 i)) (hi : P.underlying i = some (.int .i64)) (hci : P.cellsOf i = 1) (hce : P.cellsOf e = 2)
    (h : DataW.trod enc P w base spare held fuel t [.slice a len cap] = some x) : ∃ z : List (Int × Int), z.length = len ∧ len ≤ maxLen ∧ IsPairs w a z ∧ ∀ c ∈ z, (Lit.int .i64 c.1).wf = true ∧ (Lit.int .i64 c.2).wf = true := by
  rcases Go.Deep.open_slice ht h with ⟨hcs, _⟩ | ⟨x', l, c, m, n, D, Pl, hcs, hb, hl, hm, hmm, _, hx⟩
  · simp only [List.cons.injEq, Value.slice.injEq, and_true] at hcs
    obtain ⟨rfl, rfl, rfl⟩ := hcs
    exact ⟨[], rfl, Nat.zero_le _, .inl ⟨rfl, rfl⟩, fun c hc => by simp at hc⟩
  · simp only [List.cons.injEq, Value.slice.injEq, and_true] at hcs
    obtain ⟨rfl, rfl, rfl⟩ := hcs
    have hlm : len ≤ m := by rw [hmm]; split <;> omega
    have each : ∀ j, j < len → ∃ q : Int × Int, w.cell? (x'.add (j * 2)) = some (.int .i64 q.1) ∧ w.cell? (x'.add (j * 2 + 1)) = some (.int .i64 q.2) ∧ (Lit.int .i64 q.1).wf = true ∧ (Lit.int .i64 q.2).wf = true := by
      intro j hj
      obtain ⟨cs', h1, h2⟩ := hx j (by omega)
      rw [hce] at h1
      obtain ⟨_, hlen, hcell⟩ := World.cells?_some h1
      obtain ⟨zs, hzl, hzc, hw⟩ := arr_cells (n := 2) he hi hci hlen h2
      obtain ⟨a1, b1, rfl⟩ := list2 hzl
      subst hzc
      have e0 := hcell 0 (by omega)
      have e1 := hcell 1 (by omega)
      rw [add_one3] at e1
      exact ⟨(a1, b1), by simpa [Addr.add] using e0, by simpa using e1, hw a1 (by simp), hw b1 (by simp)⟩
    obtain ⟨q, hq⟩ := Go.Deep.choose_lt each
    refine ⟨(List.range len).map q, by simp, by omega, .inr ⟨x', rfl, fun j hj => ?_⟩, fun c hc => ?_⟩
    · have hj' : j < len := by simpa using hj
      have hb : (x'.add (j * 2)).block = x'.block := by unfold Addr.add; split <;> rfl
      simp only [List.getElem_map, List.getElem_range]
      exact ⟨by rw [← hb]; exact cell_lt (hq j hj').1, (hq j hj').1, (hq j hj').2.1⟩
    · simp only [List.mem_map, List.mem_range] at hc
      obtain ⟨j, hj, rfl⟩ := hc
      exact ⟨(hq j hj).2.2.1, (hq j hj).2.2.2⟩
end
theorem size_pairs (a : Option Addr) (n cap : Nat) (hn : n ≤ maxLen) (w : World) : Calls Try.prog 62 #[.slice a n cap, .int .i64 1048576] w fun e w' => e = .returned (.int .i64 (if 1048576 < n then -1 else 1048576 - (n : Int))) ∧ w' = w := by
  have hm : n ≤ 9223372036854775807 := by unfold maxLen at hn; omega
  have c1 : IntKind.i64.wrap ((1048576 : Int) - (n : Int)) = 1048576 - (n : Int) := by rw [IntKind.wrap_i64]; omega
  by_cases h : 1048576 < n
  · have h1 : (1048576 : Int) - (n : Int) < 0 := by omega
    go_enter Try.func62, Try.ntmps62
    go_wp2_with fail
    go_ret
    exact ⟨by simp, rfl⟩
  · have h1 : ¬ ((1048576 : Int) - (n : Int) < 0) := by omega
    go_enter Try.func62, Try.ntmps62
    go_wp2_with fail
    go_ret
    exact ⟨by simp, rfl⟩
set_option maxHeartbeats 4000000 in
theorem eqpairs_same (l : List (Int × Int)) (hl : l.length ≤ 1048576) (B C g1 c1 g2 c2 : Nat) (w : World) (h1 : w.ownsRow B 91 2 (.slice (some ⟨g1, 0, none⟩) l.length c1) l.length (cw l)) (h2 : w.ownsRow C 91 2 (.slice (some ⟨g2, 0, none⟩) l.length c2) l.length (cw l)) : Calls Try.prog 66 #[.slice (some ⟨g1, 0, none⟩) l.length c1, .slice (some ⟨g2, 0, none⟩) l.length c2] w fun e w' => e = .returned (.bool true) ∧ Below w.heap.size w w' := by
  have H1 := Lib.hid h1
  have H2 := Lib.hid h2
  clear h1 h2
  go_enter Try.func66, Try.ntmps66
  go_wp2_with fail
  go_loopw [5] (fun i wr => ∃ k : Nat, k ≤ l.length ∧ i = .int .i64 k ∧ Hid (Below w.heap.size w wr)) (fun i _ => l.length - (intOf i).toNat)
  case atStart => exact ⟨0, by omega, rfl, Lib.hid (Below.refl _ _)⟩
  case round =>
    obtain ⟨k, hk, rfl, HB⟩ := hrel
    by_cases hlt : k < l.length
    · have hlt' : (k : Int) < l.length := by omega
      have hk0 : (0 : Int) ≤ k := by omega
      have hk2 : k ≤ 1048576 := by omega
      have O1 := H1.out.kept (grown_below HB.out rfl) (.inr (by simp [Value.ownBlock]))
      have O2 := H2.out.kept (grown_below HB.out rfl) (.inr (by simp [Value.ownBlock]))
      obtain ⟨p1, p2⟩ := cw_at l k hlt
      have a1 := own_at O1 p1
      have a2 := own_at O1 p2
      have b1 := own_at O2 p1
      have b2 := own_at O2 p2
      clear O1 O2 p1 p2
      generalize l[k].1 = X at a1 b1
      generalize l[k].2 = Y at a2 b2
      have HE := Lib.hid (eqa2_same X Y)
      have k0 : (fun U => U.cell? ⟨g1, k * 2, none⟩ = some (.int .i64 X) ∧ U.cell? ⟨g1, k * 2 + 1, none⟩ = some (.int .i64 Y) ∧ U.cell? ⟨g2, k * 2, none⟩ = some (.int .i64 X) ∧ U.cell? ⟨g2, k * 2 + 1, none⟩ = some (.int .i64 Y) ∧ Below w.heap.size w U) wr := ⟨a1, a2, b1, b2, HB.out⟩
      dsimp only at k0
      clear a1 a2 b1 b2
      go_wp2_with fail
      go_region_held3 (fun U => U.cell? ⟨g1, k * 2, none⟩ = some (.int .i64 X) ∧ U.cell? ⟨g1, k * 2 + 1, none⟩ = some (.int .i64 Y) ∧ U.cell? ⟨g2, k * 2, none⟩ = some (.int .i64 X) ∧ U.cell? ⟨g2, k * 2 + 1, none⟩ = some (.int .i64 Y) ∧ Below w.heap.size w U) (first | with_reducible exact drewc4 k0 | with_reducible assumption) (first | (go_at_call 124; with_reducible refine (HE.out _).mono ?_; rintro e w' ⟨rfl, hb'⟩; have hk := keepc4 (by with_reducible assumption) hb' rfl))
      all_goals
        have HB2 := Lib.hid hk.2.2.2.2
        clear hk k0 HB
        go_wp2_with fail
        go_roundw
        case rel => exact ⟨k + 1, by omega, by go_num, HB2⟩
        case measure => simp [intOf]; omega
    · obtain rfl : k = l.length := by omega
      go_wp2_with fail
      go_ret
      exact ⟨rfl, HB.out⟩
/-- The pairs in a row of their own. -/
def Oz (z : List (Int × Int)) (g : Nat) (W : World) : Prop := W.ownsRow 0 91 2 (.slice (some ⟨g, 0, none⟩) z.length z.length) z.length (cw z)
theorem Oz.below {z : List (Int × Int)} {g M : Nat} {W W' : World} (h : Oz z g W) (hb : Below M W W') (hM : M = W.heap.size) : Oz z g W' := h.kept (grown_below hb hM) (.inr (by simp [Value.ownBlock]))
theorem Oz.alloc {z : List (Int × Int)} {g : Nat} {W : World} (h : Oz z g W) (o : Obj) : Oz z g (W.alloc o) := h.below (M := W.heap.size) ((Below.refl _ _).alloc (Nat.le_refl _) o) rfl
set_option maxRecDepth 8000 in
set_option maxHeartbeats 2000000 in
theorem sheetof_core (z : List (Int × Int)) (a : Option Addr) (cap : Nat) (hm : z.length ≤ maxLen) (r0 r1 r2 r3 r4 r5 : Int) (t : Bool) (HS : Hid (z.length ≤ 1048576 → ∀ (w : World) (g : Nat), Oz z g w → Calls Try.prog 63 #[.slice (some ⟨g, 0, none⟩) z.length z.length] w fun e w' => e = .returned (.tuple #[.agg #[.int .i64 r0, .int .i64 r1, .int .i64 r2, .int .i64 r3, .int .i64 r4, .int .i64 r5], .bool t]) ∧ Below w.heap.size w w')) (HI : Hid (z.length ≤ 1048576 → ∀ (w : World) (g : Nat), Oz z g w → Calls Try.prog 65 #[.slice (some ⟨g, 0, none⟩) z.length z.length] w fun e w' => e = .returned (.tuple #[.agg #[.int .i64 r0, .int .i64 r1, .int .i64 r2, .int .i64 r3, .int .i64 r4, .int .i64 r5], .bool t]) ∧ Below w.heap.size w w')) (w : World) (hP : IsPairs w a z) : Calls Try.prog 19 #[.slice a z.length cap] w fun e w' => e = .returned (.bool true) ∧ Below w.heap.size w w' := by
  have HZ := Lib.hid (size_pairs a z.length cap hm)
  have HP := Lib.hid hP
  clear hP
  by_cases hbig : 1048576 < z.length
  · simp only [hbig, if_true] at HZ
    clear HS HI
    go_enter Try.func19, Try.ntmps19
    go_wp2_with fail
    refine (HZ.out _).mono ?_
    rintro e w' ⟨rfl, hw⟩
    subst hw
    go_wp2_with fail
    go_ret
    exact ⟨rfl, Below.refl _ _⟩
  · have hz : z.length ≤ 1048576 := by omega
    have hge : ¬ ((1048576 : Int) - (z.length : Int) < 0) := by omega
    simp only [hbig, if_false] at HZ
    have HT := Lib.hid (fun (W : World) (hW : Below w.heap.size w W) => topairs_any z hz a cap W (HP.out.below hW))
    have HS := Lib.hid (HS.out hz)
    have HI := Lib.hid (HI.out hz)
    have HQ := Lib.hid (eqpairs_same z hz 0 0)
    go_enter Try.func19, Try.ntmps19
    go_wp2_with fail
    refine (HZ.out _).mono ?_
    rintro e w' ⟨rfl, hw⟩
    subst hw
    go_wp2_with fail
    refine (HT.out _ (Below.refl _ _)).mono ?_
    rintro e W1 ⟨g1, rfl, ho, hb1⟩
    have o1 : Hid (Oz z g1 W1) := Lib.hid (own_mono ho (Nat.zero_le _))
    have hB1 := Lib.hid hb1
    clear ho hb1
    go_wp2_with fail
    refine (HS.out _ _ o1.out).mono ?_
    rintro e W2 ⟨rfl, hb⟩
    have hB2 := Lib.hid (below_of hB1.out hb hB1.out.size)
    clear hb hB1 o1
    go_wp2_with fail
    have hA : (W2.alloc (.cells #[.int .i64 r0, .int .i64 r1, .int .i64 r2, .int .i64 r3, .int .i64 r4, .int .i64 r5] 25)).heap[W2.heap.size]? = some (.cells #[.int .i64 r0, .int .i64 r1, .int .i64 r2, .int .i64 r3, .int .i64 r4, .int .i64 r5] 25 (0, 0)) := alloc_at rfl
    have hB3 := Lib.hid (hB2.out.alloc hB2.out.size (.cells #[.int .i64 r0, .int .i64 r1, .int .i64 r2, .int .i64 r3, .int .i64 r4, .int .i64 r5] 25))
    clear hB2
    generalize (World.alloc _ _ : World) = X3 at hA hB3 ⊢
    generalize W2.heap.size = G at hA ⊢
    refine (HT.out _ hB3.out).mono ?_
    rintro e W4 ⟨g2, rfl, ho, hb⟩
    have o2 : Hid (Oz z g2 W4) := Lib.hid (own_mono ho (Nat.zero_le _))
    have hA4 := rowk hA hb rfl
    have hB4 := Lib.hid (below_of hB3.out hb hB3.out.size)
    clear ho hb hB3 hA
    go_wp2_with fail
    refine (HI.out _ _ o2.out).mono ?_
    rintro e W5 ⟨rfl, hb⟩
    have o5 := Lib.hid (o2.out.below hb rfl)
    have hA5 := rowk hA4 hb rfl
    have hB5 := Lib.hid (below_of hB4.out hb hB4.out.size)
    clear hb hB4 hA4 o2
    have glt := row_lt hA5
    have gne := Nat.ne_of_lt glt
    have a_c := fun j => cell_of_row W5 _ j _ _ _ hA5
    go_wp2_with fail
    have o6' := Lib.hid (o5.out.alloc (.cells #[.int .i64 r0, .int .i64 r1, .int .i64 r2, .int .i64 r3, .int .i64 r4, .int .i64 r5] 25))
    have hB6 := Lib.hid (hB5.out.alloc hB5.out.size (.cells #[.int .i64 r0, .int .i64 r1, .int .i64 r2, .int .i64 r3, .int .i64 r4, .int .i64 r5] 25))
    clear hB5 o5 hA5 glt gne a_c
    generalize (World.alloc _ _ : World) = X6 at o6' hB6 ⊢
    refine (eq_same r0 r1 r2 r3 r4 r5 _).mono ?_
    rintro e W7 ⟨rfl, hb⟩
    have o7 := Lib.hid (o6'.out.below hb rfl)
    have hB7 := Lib.hid (below_of hB6.out hb hB6.out.size)
    clear hb hB6 o6'
    go_wp2_with fail
    refine (HT.out _ hB7.out).mono ?_
    rintro e W8 ⟨g3, rfl, ho, hb⟩
    have o8 : Hid (Oz z g3 W8) := Lib.hid (own_mono ho (Nat.zero_le _))
    have o9 := Lib.hid (o7.out.below hb rfl)
    have hB8 := Lib.hid (below_of hB7.out hb hB7.out.size)
    clear ho hb hB7 o7
    go_wp2_with fail
    refine (HQ.out _ _ _ _ _ o9.out o8.out).mono ?_
    rintro e W9 ⟨rfl, hb⟩
    have hB9 := Lib.hid (below_of hB8.out hb hB8.out.size)
    clear hb hB8 o8 o9
    go_wp2_with fail
    go_ret
    exact ⟨rfl, hB9.out⟩
theorem sheetof_law (z : List (Int × Int)) (a : Option Addr) (cap : Nat) (hm : z.length ≤ maxLen) (hwf : ∀ c ∈ z, (Lit.int .i64 c.1).wf = true ∧ (Lit.int .i64 c.2).wf = true) (w : World) (hP : IsPairs w a z) : Calls Try.prog 19 #[.slice a z.length cap] w fun e w' => e = .returned (.bool true) ∧ Below w.heap.size w w' := by
  by_cases hz : z.length ≤ 1048576
  · obtain ⟨r0, r1, r2, r3, r4, r5, t, h1, h2⟩ := sheetof_pair z hz hwf
    exact sheetof_core z a cap hm r0 r1 r2 r3 r4 r5 t (Lib.hid fun _ w g hO => h1 w g _ hO) (Lib.hid fun _ w g hO => h2 w g _ hO) w hP
  · exact sheetof_core z a cap hm 0 0 0 0 0 0 false (Lib.hid fun h => absurd h hz) (Lib.hid fun h => absurd h hz) w hP
end Go.Proofs.Ytjhokdccgachcaa
