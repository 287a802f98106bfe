/- PLAIN LEMMAS: a slice of prints as a parameter, opened; CONTRACTS: its size, equal prints, marks. -/
import Derived.Test.YtcjomhjgjdjigaaZp9
import Derived.Deep.RegionHeld3
import Derived.WalkKit
import Derived.ProofKit
import Derived.OpenShut
import Derived.Lib.Hide
import Derived.WalkSpells
import Derived.Below
import Derived.BigQuiet
import Derived.LoopN
namespace Go.Proofs.Ytcjomhjgjdjigaa
open Go.ChangeShapes Go.WideShapes Go.ChangeAt Go.RowKit
set_option linter.unusedVariables false
theorem cell_lt9 {w : World} {a : Addr} {v : Value} (h : w.cell? a = some v) : a.block < w.heap.size := by
  by_cases hl : a.block < w.heap.size
  · exact hl
  · have : w.heap[a.block]? = none := Array.getElem?_eq_none (by omega)
    simp [World.cell?, this] at h
theorem gtr9 {W W' W2 : World} {g : Nat} (h : W.grownBy W' (some g)) (h' : W'.grownBy W2 (some g)) : W.grownBy W2 (some g) := ⟨h'.os.trans h.os, h'.tape.trans h.tape, h'.output.trans h.output, Nat.le_trans h.size h'.size, fun k hk hne => (h'.block k (Nat.lt_of_lt_of_le hk h.size) hne).trans (h.block k hk hne)⟩
instance : Inhabited Pn := ⟨pn0⟩
section
variable {H : Type} {enc : TypeId × Value → H} {P : Program} {w : World} {base : Nat} {spare : Nat → Bool} {held : Bool}
theorem open_prints {ts t i : TypeId} {f0 f1 f2 g0 : Field} {fuel : Nat} {a : Option Addr} {len cap : Nat} {x : DataW H × List MemPlace} (hs : P.underlying ts = some (.slice t)) (ht : P.underlying t = some (.struct #[f0, f1, f2])) (hc : P.cellsOf t = 9)
    (o0 : f0.offset = 0) (o1 : f1.offset = 1) (o2 : f2.offset = 7) (u0 : P.underlying f0.type = some (.int .i64)) (c0 : P.cellsOf f0.type = 1) (u1 : P.underlying f1.type = some (.struct #[g0])) (c1 : P.cellsOf f1.type = 6) (og : g0.offset = 0) (ug : P.underlying g0.type = some (.array 6 i)) (cg : P.cellsOf g0.type = 6) (u2 : P.underlying f2.type = some (.array 2 i)) (c2 : P.cellsOf f2.type = 2) (ui : P.underlying i = some (.int .i64)) (ci : P.cellsOf i = 1)
    (h : DataW.trod enc P w base spare held fuel ts [.slice a len cap] = some x) : ∃ z : List Pn, z.length = len ∧ len ≤ maxLen ∧ IsPrints w a z ∧ ∀ p ∈ z, (Lit.int .i64 p.x).wf = true ∧ (Lit.int .i64 p.y).wf = true := by
  rcases Go.Deep.open_slice hs h with ⟨hcs, _⟩ | ⟨x', l, c, m, n, D, Pl, hcs, hb, hl, hm, hmm, _, hx⟩
  · simp only [List.cons.injEq, Value.slice.injEq, and_true] at hcs
    obtain ⟨rfl, rfl, rfl⟩ := hcs
    exact ⟨[], rfl, Nat.zero_le _, .inl ⟨rfl, rfl⟩, fun c hc => by simp at hc⟩
  · simp only [List.cons.injEq, Value.slice.injEq, and_true] at hcs
    obtain ⟨rfl, rfl, rfl⟩ := hcs
    have hlm : len ≤ m := by rw [hmm]; split <;> omega
    have each : ∀ j, j < len → ∃ q : Pn, (∀ c v, (q.cells)[c]? = some v → w.cell? (x'.add (j * 9 + c)) = some v) ∧ (Lit.int .i64 q.x).wf = true ∧ (Lit.int .i64 q.y).wf = true := by
      intro j hj
      obtain ⟨cs', h1, h2⟩ := hx j (by omega)
      rw [hc] at h1
      obtain ⟨_, hlen, hcell⟩ := World.cells?_some h1
      obtain ⟨q, hq, hwx, hwy⟩ := print_cells ht hc o0 o1 o2 u0 c0 u1 c1 og ug cg u2 c2 ui ci h2
      refine ⟨q, fun c v hv => ?_, hwx, hwy⟩
      have hc9 : c < 9 := (List.getElem?_eq_some_iff.1 hv).1
      have := hcell c hc9
      rw [add_more, hq, hv] at this
      exact this
    obtain ⟨q, hq⟩ := Go.Deep.choose_lt each
    refine ⟨(List.range len).map q, by simp, by omega, .inr ⟨x', rfl, fun j hj => ?_⟩, fun c hc => ?_⟩
    · have hj' : j < len := by simpa using hj
      simp only [List.getElem_map, List.getElem_range]
      refine ⟨?_, (hq j hj').1⟩
      have h0 := (hq j hj').1 0 _ rfl
      have hbk := add_block x' (j * 9 + 0)
      rw [← hbk]
      exact cell_lt9 h0
    · simp only [List.mem_map, List.mem_range] at hc
      obtain ⟨j, hj, rfl⟩ := hc
      exact (hq j hj).2
end
theorem size_prints (a : Option Addr) (n cap : Nat) (hn : n ≤ maxLen) (w : World) : Calls Try.prog 24 #[.slice a n cap, .int .i64 1048576] w fun e w' => e = .returned (.int .i64 (if 1048576 < n then -1 else 1048576 - (n : Int))) ∧ w' = w := by
  have hm : n ≤ 9223372036854775807 := by unfold maxLen at hn; omega
  have c1 : IntKind.i64.wrap ((1048576 : Int) - (n : Int)) = 1048576 - (n : Int) := by rw [IntKind.wrap_i64]; omega
  by_cases h : 1048576 < n
  · have h1 : (1048576 : Int) - (n : Int) < 0 := by omega
    go_enter Try.func24, Try.ntmps24
    go_wp2_with fail
    go_ret
    exact ⟨by simp, rfl⟩
  · have h1 : ¬ ((1048576 : Int) - (n : Int) < 0) := by omega
    go_enter Try.func24, Try.ntmps24
    go_wp2_with fail
    go_ret
    exact ⟨by simp, rfl⟩
set_option maxHeartbeats 1000000 in
theorem eqprint_same (k : Int) (a0 a1 a2 a3 a4 a5 : Int) (x y : Int) (w : World) : Calls Try.prog 78 #[.agg #[.int .i64 k, .int .i64 a0, .int .i64 a1, .int .i64 a2, .int .i64 a3, .int .i64 a4, .int .i64 a5, .int .i64 x, .int .i64 y], .agg #[.int .i64 k, .int .i64 a0, .int .i64 a1, .int .i64 a2, .int .i64 a3, .int .i64 a4, .int .i64 a5, .int .i64 x, .int .i64 y]] w fun e w' => e = .returned (.bool true) ∧ Below w.heap.size w w' := by
  have HQ := Lib.hid (eq_same a0 a1 a2 a3 a4 a5)
  have HA := Lib.hid (eqa2_same x y)
  go_enter Try.func78, Try.ntmps78
  go_wp2_with fail
  generalize hW : (World.alloc _ _ : World) = W0
  have K0 : KR 2 [(w.heap.size, .cells #[.int .i64 k, .int .i64 a0, .int .i64 a1, .int .i64 a2, .int .i64 a3, .int .i64 a4, .int .i64 a5, .int .i64 x, .int .i64 y] 38 (0, 0)), (w.heap.size + 1, .cells #[.int .i64 k, .int .i64 a0, .int .i64 a1, .int .i64 a2, .int .i64 a3, .int .i64 a4, .int .i64 a5, .int .i64 x, .int .i64 y] 38 (0, 0))] w W0 := by
    rw [← hW]
    refine ⟨?_, by simp, by (repeat (first | exact Below.refl _ _ | assumption | refine Below.setCell ?_ (by first | (simp; done) | (simp; omega)) _ | refine Below.alloc ?_ (by first | (simp; done) | (simp; omega)) _ | refine Below.drew ?_))⟩
    intro p hp
    simp only [List.mem_cons, List.mem_nil_iff, or_false] at hp
    rcases hp with rfl | rfl
    · exact ⟨by simp, alloc_past (alloc_at rfl)⟩
    · exact ⟨by simp, alloc_at (by simp)⟩
  clear hW
  have a_c := fun j => cell_of_row W0 _ j _ _ _ (K0.row (g := w.heap.size) (List.mem_cons_self ..))
  have b_c := fun j => cell_of_row W0 _ j _ _ _ (K0.row (g := w.heap.size + 1) (List.mem_cons_of_mem _ (List.mem_cons_self ..)))
  go_wp2_with fail
  refine (HQ.out _).mono ?_
  rintro e W1 ⟨rfl, hb⟩
  have K1 := K0.far hb rfl
  clear hb K0 a_c b_c
  have a_c := fun j => cell_of_row W1 _ j _ _ _ (K1.row (g := w.heap.size) (List.mem_cons_self ..))
  have b_c := fun j => cell_of_row W1 _ j _ _ _ (K1.row (g := w.heap.size + 1) (List.mem_cons_of_mem _ (List.mem_cons_self ..)))
  go_wp2_with fail
  refine (HA.out _).mono ?_
  rintro e W2 ⟨rfl, hb⟩
  have K2 := K1.far hb rfl
  clear hb K1 a_c b_c
  go_wp2_with fail
  go_ret
  exact ⟨rfl, K2.2.2⟩
/-- Two rows of the same prints, and nothing below touched. -/
def Eq9 (w : World) (B C g1 c1 g2 c2 : Nat) (z : List Pn) (U : World) : Prop := Op9 B g1 c1 z U ∧ Op9 C g2 c2 z U ∧ Below w.heap.size w U
theorem Eq9.below {w U V : World} {B C g1 c1 g2 c2 M : Nat} {z : List Pn} (h : Eq9 w B C g1 c1 g2 c2 z U) (hb : Below M U V) (hM : M = U.heap.size) : Eq9 w B C g1 c1 g2 c2 z V := ⟨h.1.below hb hM, h.2.1.below hb hM, below_of h.2.2 hb (by have := h.2.2.size; omega)⟩
theorem Eq9.drew {w U : World} {B C g1 c1 g2 c2 : Nat} {z : List Pn} (h : Eq9 w B C g1 c1 g2 c2 z U) : Eq9 w B C g1 c1 g2 c2 z U.drew := h.below (M := U.heap.size) (Below.refl _ _).drew rfl
theorem SK9 {w U : World} {B C g1 c1 g2 c2 k : Nat} {z : List Pn} {pk pa pb pc pd pe pf px py : Int} (h : Eq9 w B C g1 c1 g2 c2 z U) (hk : k < z.length) (hp : z[k] = ⟨pk, pa, pb, pc, pd, pe, pf, px, py⟩) : U.cell? ⟨g1, k * 9, none⟩ = some (.int .i64 pk) ∧ U.cell? ⟨g1, k * 9 + 1, none⟩ = some (.int .i64 pa) ∧ U.cell? ⟨g1, k * 9 + 2, none⟩ = some (.int .i64 pb) ∧ U.cell? ⟨g1, k * 9 + 3, none⟩ = some (.int .i64 pc) ∧ U.cell? ⟨g1, k * 9 + 4, none⟩ = some (.int .i64 pd) ∧ U.cell? ⟨g1, k * 9 + 5, none⟩ = some (.int .i64 pe) ∧ U.cell? ⟨g1, k * 9 + 6, none⟩ = some (.int .i64 pf) ∧ U.cell? ⟨g1, k * 9 + 7, none⟩ = some (.int .i64 px) ∧ U.cell? ⟨g1, k * 9 + 8, none⟩ = some (.int .i64 py) ∧ U.cell? ⟨g2, k * 9, none⟩ = some (.int .i64 pk) ∧ U.cell? ⟨g2, k * 9 + 1, none⟩ = some (.int .i64 pa) ∧ U.cell? ⟨g2, k * 9 + 2, none⟩ = some (.int .i64 pb) ∧ U.cell? ⟨g2, k * 9 + 3, none⟩ = some (.int .i64 pc) ∧ U.cell? ⟨g2, k * 9 + 4, none⟩ = some (.int .i64 pd) ∧ U.cell? ⟨g2, k * 9 + 5, none⟩ = some (.int .i64 pe) ∧ U.cell? ⟨g2, k * 9 + 6, none⟩ = some (.int .i64 pf) ∧ U.cell? ⟨g2, k * 9 + 7, none⟩ = some (.int .i64 px) ∧ U.cell? ⟨g2, k * 9 + 8, none⟩ = some (.int .i64 py) ∧ Eq9 w B C g1 c1 g2 c2 z U := by
  have q1 := h.1.range hk
  have q2 := h.2.1.range hk
  rw [hp] at q1 q2
  exact ⟨q1 0 _ rfl, q1 1 _ rfl, q1 2 _ rfl, q1 3 _ rfl, q1 4 _ rfl, q1 5 _ rfl, q1 6 _ rfl, q1 7 _ rfl, q1 8 _ rfl, q2 0 _ rfl, q2 1 _ rfl, q2 2 _ rfl, q2 3 _ rfl, q2 4 _ rfl, q2 5 _ rfl, q2 6 _ rfl, q2 7 _ rfl, q2 8 _ rfl, h⟩
set_option maxHeartbeats 2000000 in
theorem eqprints_same (z : List Pn) (hl : z.length ≤ 1048576) (B C g1 c1 g2 c2 : Nat) (w : World) (h1 : Op9 B g1 c1 z w) (h2 : Op9 C g2 c2 z w) : Calls Try.prog 29 #[.slice (some ⟨g1, 0, none⟩) z.length c1, .slice (some ⟨g2, 0, none⟩) z.length c2] w fun e w' => e = .returned (.bool true) ∧ Below w.heap.size w w' := by
  have S0 : Hid (Eq9 w B C g1 c1 g2 c2 z w) := Lib.hid ⟨h1, h2, Below.refl _ _⟩
  clear h1 h2
  go_enter Try.func29, Try.ntmps29
  go_wp2_with fail
  go_loopw [5] (fun i wr => ∃ k : Nat, k ≤ z.length ∧ i = .int .i64 k ∧ Hid (Eq9 w B C g1 c1 g2 c2 z wr)) (fun i _ => z.length - (intOf i).toNat)
  case atStart => exact ⟨0, by omega, rfl, S0⟩
  case round =>
    obtain ⟨k, hk, rfl, HB⟩ := hrel
    by_cases hlt : k < z.length
    · have hlt' : (k : Int) < z.length := by omega
      have hk0 : (0 : Int) ≤ k := by omega
      have hk2 : k ≤ 1048576 := by omega
      obtain ⟨p, hp⟩ : ∃ p, z[k] = p := ⟨_, rfl⟩
      obtain ⟨pk, pa, pb, pc, pd, pe, pf, px, py⟩ := p
      have HE := Lib.hid (eqprint_same pk pa pb pc pd pe pf px py)
      have HP := Lib.hid hp
      clear hp
      have k0 := HB.out
      go_wp2_with fail
      set_option maxRecDepth 8000 in
      go_region_held3 (fun U => U.cell? ⟨g1, k * 9, none⟩ = some (.int .i64 pk) ∧ U.cell? ⟨g1, k * 9 + 1, none⟩ = some (.int .i64 pa) ∧ U.cell? ⟨g1, k * 9 + 2, none⟩ = some (.int .i64 pb) ∧ U.cell? ⟨g1, k * 9 + 3, none⟩ = some (.int .i64 pc) ∧ U.cell? ⟨g1, k * 9 + 4, none⟩ = some (.int .i64 pd) ∧ U.cell? ⟨g1, k * 9 + 5, none⟩ = some (.int .i64 pe) ∧ U.cell? ⟨g1, k * 9 + 6, none⟩ = some (.int .i64 pf) ∧ U.cell? ⟨g1, k * 9 + 7, none⟩ = some (.int .i64 px) ∧ U.cell? ⟨g1, k * 9 + 8, none⟩ = some (.int .i64 py) ∧ U.cell? ⟨g2, k * 9, none⟩ = some (.int .i64 pk) ∧ U.cell? ⟨g2, k * 9 + 1, none⟩ = some (.int .i64 pa) ∧ U.cell? ⟨g2, k * 9 + 2, none⟩ = some (.int .i64 pb) ∧ U.cell? ⟨g2, k * 9 + 3, none⟩ = some (.int .i64 pc) ∧ U.cell? ⟨g2, k * 9 + 4, none⟩ = some (.int .i64 pd) ∧ U.cell? ⟨g2, k * 9 + 5, none⟩ = some (.int .i64 pe) ∧ U.cell? ⟨g2, k * 9 + 6, none⟩ = some (.int .i64 pf) ∧ U.cell? ⟨g2, k * 9 + 7, none⟩ = some (.int .i64 px) ∧ U.cell? ⟨g2, k * 9 + 8, none⟩ = some (.int .i64 py) ∧ Eq9 w B C g1 c1 g2 c2 z U) (with_reducible refine SK9 ?_ hlt HP.out; (first | with_reducible assumption | (with_reducible refine Eq9.drew ?_; with_reducible assumption))) ((go_at_call 78; with_reducible refine (HE.out _).mono ?_; rintro e w' ⟨rfl, hb'⟩; have k0 : Eq9 w B C g1 c1 g2 c2 z w' := Eq9.below (by (first | with_reducible assumption | (with_reducible refine Eq9.drew ?_; with_reducible assumption))) hb' rfl))
      all_goals
        have HB2 := Lib.hid k0
        rename_i hS
        clear hS k0 HB
        go_wp2_with fail
        go_roundw
        case rel => exact ⟨k + 1, by omega, by go_num, HB2⟩
        case measure => simp [intOf]; omega
    · obtain rfl : k = z.length := by omega
      go_wp2_with fail
      go_ret
      exact ⟨rfl, HB.out.2.2⟩
/-- Midway in a marking: N cells lie in the block g, none is frozen, and nothing else is touched. -/
def Mk9 (g N : Nat) (w U : World) : Prop := (∀ j, j < N → ∃ v, U.cell? ⟨g, j, none⟩ = some v) ∧ (∀ j, U.frozen? ⟨g, j, none⟩ = false) ∧ w.grownBy U (some g)
theorem Mk9.put {g N j : Nat} {w U : World} (v : Value) (h : Mk9 g N w U) : Mk9 g N w (U.setCell ⟨g, j, none⟩ v) := by
  refine ⟨fun i hi => ?_, fun i => ?_, gtr9 h.2.2 (grow_set U ⟨g, j, none⟩ v)⟩
  · obtain ⟨u, hu⟩ := h.1 i hi
    by_cases e : i = j
    · subst e
      exact ⟨v, World.cell?_setCell_same' U _ v (by rw [hu]; rfl)⟩
    · have hne : (⟨g, j, none⟩ : Addr) ≠ ⟨g, i, none⟩ := by intro e2; cases e2; exact e rfl
      exact ⟨u, (World.cell?_setCell_other U _ _ v hne).trans hu⟩
  · rw [World.frozen?_setCell]; exact h.2.1 i
end Go.Proofs.Ytcjomhjgjdjigaa
