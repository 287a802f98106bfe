/- PLAIN LEMMAS: a parameter that is a plan or a step, opened. -/
import Derived.Test.YtnkjamdpafpcpaaShp
import Derived.Test.YtnkjamdpafpcpaaRa11
import Derived.Deep.Slices
import Derived.DataReads
import Derived.WalkKit
import Derived.ProofKit
import Derived.OpenShut
import Derived.Lib.Hide
import Derived.WalkSpells
import Derived.Below
import Derived.BigQuiet
import Derived.LoopN
namespace Go.Proofs.Ytnkjamdpafpcpaa
open Go.ChangeShapes Go.WideShapes Go.ChangeAt Go.RowKit
set_option linter.unusedVariables false
section
variable {H : Type} {enc : TypeId × Value → H} {P : Program} {w : World} {base : Nat} {spare : Nat → Bool} {held : Bool}
theorem cell_lt11 {w : World} {a : Addr} {v : Value} (h : w.cell? a = some v) : a.block < w.heap.size := by
  by_cases hl : a.block < w.heap.size
  · exact hl
  · have : w.heap[a.block]? = none := Array.getElem?_eq_none (by omega)
    simp [World.cell?, this] at h
theorem struct3_11 {t : TypeId} {f0 f1 f2 : Field} {fuel : Nat} {cs : List Value} {x : DataW H × List MemPlace} (ht : P.underlying t = some (.struct #[f0, f1, f2])) (h : DataW.trod enc P w base spare held fuel t cs = some x) :
    ∃ y0 y1 y2 n, cs.length = P.cellsOf t ∧ DataW.trod enc P w base spare held n f0.type ((cs.drop f0.offset).take (P.cellsOf f0.type)) = some y0 ∧
      DataW.trod enc P w base spare held n f1.type ((cs.drop f1.offset).take (P.cellsOf f1.type)) = some y1 ∧ DataW.trod enc P w base spare held n f2.type ((cs.drop f2.offset).take (P.cellsOf f2.type)) = some y2 := by
  obtain ⟨xs, n, _, rfl, hl, hlen, hf⟩ := DataW.trod_struct ht h
  match xs, hlen with
  | [y0, y1, y2], _ => exact ⟨y0, y1, y2, n, hl, by simpa using hf 0 f0 rfl, by simpa using hf 1 f1 rfl, by simpa using hf 2 f2 rfl⟩
theorem sheet_cells11 {t i : TypeId} {g0 : Field} {fuel : Nat} {cs : List Value} {x : DataW H × List MemPlace} (ht : P.underlying t = some (.struct #[g0])) (og : g0.offset = 0) (ug : P.underlying g0.type = some (.array 6 i)) (cg : P.cellsOf g0.type = 6) (ui : P.underlying i = some (.int .i64)) (ci : P.cellsOf i = 1) (hl : cs.length = 6)
    (h : DataW.trod enc P w base spare held fuel t cs = some x) : ∃ q : H11, cs = ch11 q := by
  obtain ⟨y0, m, _, _, h0⟩ := trod_struct1 ht h
  rw [og, cg, List.drop_zero, List.take_of_length_le (by omega)] at h0
  obtain ⟨zs, hzl, hzc, _⟩ := arr_cells ug ui ci hl h0
  obtain ⟨a, b, c, d, e, f, rfl⟩ := list6 hzl
  exact ⟨(a, b, c, d, e, f), hzc⟩
theorem step_cells11 {t i : TypeId} {f0 f1 f2 : Field} {fuel : Nat} {cs : List Value} {x : DataW H × List MemPlace} (ht : P.underlying t = some (.struct #[f0, f1, f2])) (hc : P.cellsOf t = 4)
    (o0 : f0.offset = 0) (o1 : f1.offset = 1) (o2 : f2.offset = 2) (u0 : P.underlying f0.type = some (.int .i64)) (c0 : P.cellsOf f0.type = 1) (u1 : P.underlying f1.type = some (.int .i64)) (c1 : P.cellsOf f1.type = 1) (u2 : P.underlying f2.type = some (.array 2 i)) (c2 : P.cellsOf f2.type = 2) (ui : P.underlying i = some (.int .i64)) (ci : P.cellsOf i = 1)
    (h : DataW.trod enc P w base spare held fuel t cs = some x) : ∃ p : S11, cs = cs11 p ∧ (Lit.int .i64 p.x).wf = true ∧ (Lit.int .i64 p.y).wf = true := by
  obtain ⟨y0, y1, y2, n, hl, h0, h1, h2⟩ := struct3_11 ht h
  rw [o0, c0] at h0
  rw [o1, c1] at h1
  rw [o2, c2] at h2
  rw [hc] at hl
  match cs, hl with
  | [v0, v1, v2, v3], _ =>
    obtain ⟨z, hz, _, _⟩ := DataW.trod_int u0 h0
    obtain ⟨z1, hz1, _, _⟩ := DataW.trod_int u1 h1
    obtain ⟨zt, htl, htc, hw⟩ := arr_cells u2 ui ci (by rfl) h2
    obtain ⟨p, q, rfl⟩ := list2 htl
    refine ⟨⟨z, z1, p, q⟩, ?_, hw p (by simp), hw q (by simp)⟩
    simp only [List.drop, List.take, List.map_cons, List.map_nil, List.cons.injEq, and_true] at hz hz1 htc
    obtain ⟨rfl, rfl⟩ := htc
    rw [hz, hz1]
    rfl
theorem rows_any11 {α : Type} {e : α → List Value} {k : Nat} {R : α → Prop} {ts t : TypeId} {fuel : Nat} {cs : List Value} {x : DataW H × List MemPlace} (he : ∀ a, (e a).length = k) (hk : 0 < k) (hs : P.underlying ts = some (.slice t)) (hc : P.cellsOf t = k)
    (each : ∀ (fuel : Nat) (cs : List Value) (x : DataW H × List MemPlace), cs.length = k → DataW.trod enc P w base spare held fuel t cs = some x → ∃ q, cs = e q ∧ R q)
    (h : DataW.trod enc P w base spare held fuel ts cs = some x) : ∃ (a : Option Addr) (cap : Nat) (z : List α), cs = [.slice a z.length cap] ∧ z.length ≤ maxLen ∧ Is11 e k w a z ∧ ∀ q ∈ z, R q := by
  rcases Go.Deep.open_slice hs h with ⟨hcs, _⟩ | ⟨x', l, c, m, n, D, Pl, hcs, hb, hl, hm, hmm, _, hx⟩
  · exact ⟨none, 0, [], hcs, Nat.zero_le _, .inl ⟨rfl, rfl⟩, fun c hc => by simp at hc⟩
  · have hlm : l ≤ m := by rw [hmm]; split <;> omega
    have each2 : ∀ j, j < l → ∃ q : α, (∀ c v, (e q)[c]? = some v → w.cell? (x'.add (j * k + c)) = some v) ∧ R q := by
      intro j hj
      obtain ⟨cs', h1, h2⟩ := hx j (by omega)
      rw [hc] at h1
      obtain ⟨_, hlen, hcell⟩ := World.cells?_some h1
      obtain ⟨q, hq, hR⟩ := each _ _ _ hlen h2
      refine ⟨q, fun c v hv => ?_, hR⟩
      have hc9 : c < k := by rw [← he q]; exact (List.getElem?_eq_some_iff.1 hv).1
      have := hcell c hc9
      rw [addm11, hq, hv] at this
      exact this
    have hinh : l = 0 ∨ Nonempty α := by
      rcases Nat.eq_zero_or_pos l with h | h
      · exact .inl h
      · exact .inr ⟨(each2 0 h).choose⟩
    rcases hinh with rfl | hne
    · exact ⟨some x', c, [], by simpa using hcs, Nat.zero_le _, .inr ⟨x', rfl, fun i hi => by simp at hi⟩, fun q hq => by simp at hq⟩
    · haveI : Inhabited α := ⟨Classical.choice hne⟩
      obtain ⟨q, hq⟩ := Go.Deep.choose_lt each2
      refine ⟨some x', c, (List.range l).map q, by simpa using hcs, by simp; omega, .inr ⟨x', rfl, fun j hj => ?_⟩, fun c hc => ?_⟩
      · have hj' : j < l := by simpa using hj
        simp only [List.getElem_map, List.getElem_range]
        refine ⟨?_, (hq j hj').1⟩
        have h9 : 0 < (e (q j)).length := by rw [he]; exact hk
        have h0 := (hq j hj').1 0 _ (List.getElem?_eq_getElem h9)
        have hbk := addb11 x' (j * k + 0)
        rw [← hbk]
        exact cell_lt11 h0
      · simp only [List.mem_map, List.mem_range] at hc
        obtain ⟨j, hj, rfl⟩ := hc
        exact (hq j hj).2
/-- A step as a parameter. -/
theorem open_step11 {r : Reach} {b0 : Nat} {t i : TypeId} {f0 f1 f2 : Field} {v : Value} {dd : DataW H} {pl : List MemPlace} (ht : P.underlying t = some (.struct #[f0, f1, f2])) (hc : P.cellsOf t = 4)
    (o0 : f0.offset = 0) (o1 : f1.offset = 1) (o2 : f2.offset = 2) (u0 : P.underlying f0.type = some (.int .i64)) (c0 : P.cellsOf f0.type = 1) (u1 : P.underlying f1.type = some (.int .i64)) (c1 : P.cellsOf f1.type = 1) (u2 : P.underlying f2.type = some (.array 2 i)) (c2 : P.cellsOf f2.type = 2) (ui : P.underlying i = some (.int .i64)) (ci : P.cellsOf i = 1)
    (hv : Value.okWide P w r b0 t v) (h : DataW.Trod enc P w base spare held t v dd pl) : ∃ p : S11, v = .agg (cs11 p).toArray ∧ (Lit.int .i64 p.x).wf = true ∧ (Lit.int .i64 p.y).wf = true := by
  obtain ⟨cs, rfl, hsz⟩ := okWide_struct ht hv
  obtain ⟨fuel, hf⟩ := h
  obtain ⟨p, hp, hx, hy⟩ := step_cells11 (cs := cs.toList) ht hc o0 o1 o2 u0 c0 u1 c1 u2 c2 ui ci hf
  exact ⟨p, by rw [← hp], hx, hy⟩
/-- A plan as a parameter. -/
theorem open_plan11 {r : Reach} {b0 : Nat} {t tl ts i : TypeId} {f0 f1 f2 g0 k0 k1 k2 : Field} {v : Value} {dd : DataW H} {pl : List MemPlace} (ht : P.underlying t = some (.struct #[f0, f1, f2])) (hc : P.cellsOf t = 8)
    (o0 : f0.offset = 0) (o1 : f1.offset = 6) (o2 : f2.offset = 7) (c0 : P.cellsOf f0.type = 6) (c1 : P.cellsOf f1.type = 1) (c2 : P.cellsOf f2.type = 1)
    (u0 : P.underlying f0.type = some (.struct #[g0])) (og : g0.offset = 0) (ug : P.underlying g0.type = some (.array 6 i)) (cg : P.cellsOf g0.type = 6) (ui : P.underlying i = some (.int .i64)) (ci : P.cellsOf i = 1)
    (u1 : P.underlying f1.type = some (.slice tl)) (ul : P.underlying tl = some (.struct #[g0])) (cl : P.cellsOf tl = 6)
    (u2 : P.underlying f2.type = some (.slice ts)) (us : P.underlying ts = some (.struct #[k0, k1, k2])) (cs' : P.cellsOf ts = 4) (p0 : k0.offset = 0) (p1 : k1.offset = 1) (p2 : k2.offset = 2) (w0 : P.underlying k0.type = some (.int .i64)) (d0 : P.cellsOf k0.type = 1) (w1 : P.underlying k1.type = some (.int .i64)) (d1 : P.cellsOf k1.type = 1) (w2 : P.underlying k2.type = some (.array 2 i)) (d2 : P.cellsOf k2.type = 2)
    (hv : Value.okWide P w r b0 t v) (h : DataW.Trod enc P w base spare held t v dd pl) : ∃ (m0 m1 m2 m3 m4 m5 : Int) (a1 a2 : Option Addr) (cap1 cap2 : Nat) (z1 : List H11) (z2 : List S11), v = .agg #[.int .i64 m0, .int .i64 m1, .int .i64 m2, .int .i64 m3, .int .i64 m4, .int .i64 m5, .slice a1 z1.length cap1, .slice a2 z2.length cap2] ∧ z1.length ≤ maxLen ∧ z2.length ≤ maxLen ∧ Is11 ch11 6 w a1 z1 ∧ Is11 cs11 4 w a2 z2 ∧ ∀ p ∈ z2, (Lit.int .i64 p.x).wf = true ∧ (Lit.int .i64 p.y).wf = true := by
  obtain ⟨cs, rfl, hsz⟩ := okWide_struct ht hv
  obtain ⟨fuel, hf⟩ := h
  obtain ⟨y0, y1, y2, n, hl, h0, h1, h2⟩ := struct3_11 (cs := cs.toList) ht hf
  rw [o0, c0] at h0
  rw [o1, c1] at h1
  rw [o2, c2] at h2
  rw [hc] at hl
  obtain ⟨L, hL⟩ : ∃ L, L = cs.toList := ⟨_, rfl⟩
  rw [← hL] at h0 h1 h2 hl
  match L, hl with
  | [v0, v1, v2, v3, v4, v5, v6, v7], _ =>
    obtain ⟨q, hq⟩ := sheet_cells11 u0 og ug cg ui ci (by rfl) h0
    obtain ⟨a1, cap1, z1, e1, l1, I1, _⟩ := rows_any11 (R := fun _ => True) ch11_len (by decide) u1 cl (fun _ _ _ hl6 hh => by
      obtain ⟨q, hq⟩ := sheet_cells11 ul og ug cg ui ci hl6 hh
      exact ⟨q, hq, trivial⟩) h1
    obtain ⟨a2, cap2, z2, e2, l2, I2, W2⟩ := rows_any11 (R := fun p : S11 => (Lit.int .i64 p.x).wf = true ∧ (Lit.int .i64 p.y).wf = true) cs11_len (by decide) u2 cs' (fun _ _ _ _ hh => by
      obtain ⟨p, hp, hx, hy⟩ := step_cells11 us cs' p0 p1 p2 w0 d0 w1 d1 w2 d2 ui ci hh
      exact ⟨p, hp, hx, hy⟩) h2
    obtain ⟨m0, m1, m2, m3, m4, m5⟩ := q
    refine ⟨m0, m1, m2, m3, m4, m5, a1, a2, cap1, cap2, z1, z2, ?_, l1, l2, I1, I2, W2⟩
    simp only [List.drop, List.take, ch11, List.cons.injEq, and_true] at hq e1 e2
    obtain ⟨rfl, rfl, rfl, rfl, rfl, rfl⟩ := hq
    subst e1 e2
    congr 1
    apply Array.toList_inj.mp
    rw [← hL]
end
end Go.Proofs.Ytnkjamdpafpcpaa
