/- PLAIN LEMMAS: a picture: 36 numbers as one value and as one block, never written out. -/
import Derived.Test.YtnkjamdpafpcpaaRk
import Derived.Test.YtnkjamdpafpcpaaRg
import Derived.Deep.MidRow
import Derived.Deep.WholeRow
import Derived.WalkKit
import Derived.ProofKit
import Derived.OpenShut
import Derived.Lib.Hide
import Derived.WalkSpells
import Derived.Below
import Derived.BigQuiet
import Derived.LoopN
namespace Go.Proofs.Ytnkjamdpafpcpaa
open Go.ChangeShapes Go.WideShapes Go.ChangeAt Go.RowKit
set_option linter.unusedVariables false
/-- 36 cells. -/
def cs36 (m : Nat → Int) : List Value := (List.range 36).map fun j => Value.int .i64 (m j)
theorem cs36_len (m : Nat → Int) : (cs36 m).length = 36 := by simp [cs36]
theorem cs36_at (m : Nat → Int) (j : Nat) : (cs36 m)[j]? = if j < 36 then some (.int .i64 (m j)) else none := by
  unfold cs36
  by_cases h : j < 36 <;> simp [h]
theorem cs36_one (m : Nat → Int) : ∀ v ∈ cs36 m, v.oneCell' = true := by
  intro v hv
  unfold cs36 at hv
  obtain ⟨j, _, rfl⟩ := List.mem_map.mp hv
  rfl
theorem cs36_congr {f g : Nat → Int} (h : ∀ j, j < 36 → f j = g j) : cs36 f = cs36 g := List.map_congr_left fun j hj => by rw [h j (List.mem_range.mp hj)]
/-- A picture's value. -/
def pv (m : Nat → Int) : Value := .agg (cs36 m).toArray
/-- A picture in a block of its own. -/
def pb (T : TypeId) (m : Nat → Int) : Obj := .cells (cs36 m).toArray T (0, 0)
theorem pv_congr {f g : Nat → Int} (h : ∀ j, j < 36 → f j = g j) : pv f = pv g := by unfold pv; rw [cs36_congr h]
theorem pb_congr {T : TypeId} {f g : Nat → Int} (h : ∀ j, j < 36 → f j = g j) : pb T f = pb T g := by unfold pb; rw [cs36_congr h]
theorem pv_inj {f g : Nat → Int} (h : pv f = pv g) (j : Nat) (hj : j < 36) : f j = g j := by
  have h1 : cs36 f = cs36 g := by
    have := congrArg Value.cells h
    simpa [pv, Value.cells] using this
  have h2 := congrArg (fun l => l[j]?) h1
  simp only [cs36_at, if_pos hj] at h2
  simpa using h2
theorem pb_cell {W : World} {g : Nat} {T : TypeId} {m : Nat → Int} (h : W.heap[g]? = some (pb T m)) (j : Nat) : W.cell? ⟨g, j, none⟩ = if j < 36 then some (.int .i64 (m j)) else none := by
  unfold pb at h
  rw [cell_of_row W g j _ _ _ h, ← cs36_at m j]
  simp
theorem pb_frozen {W : World} {g : Nat} {T : TypeId} {m : Nat → Int} (h : W.heap[g]? = some (pb T m)) (j : Nat) : W.frozen? ⟨g, j, none⟩ = false := by
  unfold pb at h
  exact frozen_of_row W g j _ _ h
theorem pb_range {W : World} {g : Nat} {T : TypeId} {m : Nat → Int} (h : W.heap[g]? = some (pb T m)) : W.rangeAt g 0 (cs36 m) := by
  intro j v hv
  rw [Nat.zero_add, pb_cell h, ← cs36_at m j]
  exact hv
theorem pb_there {W : World} {g : Nat} {T : TypeId} {m : Nat → Int} (h : W.heap[g]? = some (pb T m)) : W.there g 0 36 := by
  intro j hj
  refine ⟨?_, pb_frozen h _⟩
  rw [Nat.zero_add, pb_cell h, if_pos hj]
  rfl
/-- One of the numbers changed. -/
def uq (f : Nat → Int) (k : Nat) (v : Int) : Nat → Int := fun j => if j = k then v else f j
theorem pb_set {W : World} {g k : Nat} {T : TypeId} {m : Nat → Int} (v : Int) (hk : k < 36) (h : W.heap[g]? = some (pb T m)) : (W.setCell ⟨g, k, none⟩ (.int .i64 v)).heap[g]? = some (pb T (uq m k v)) := by
  unfold pb at h ⊢
  rw [heap_setCell_same W g k _ _ _ h]
  congr 2
  apply Array.ext'
  simp only [List.setIfInBounds_toArray]
  apply List.ext_getElem?
  intro i
  rw [cs36_at, List.getElem?_set, cs36_at, cs36_len]
  unfold uq
  by_cases e : k = i
  · subst e; simp [hk]
  · rw [if_neg e, if_neg (show ¬ i = k from fun e' => e e'.symm)]
theorem setCells_row {g : Nat} {t : TypeId} : ∀ (vs : List Value) (o : Nat) (W : World) (c : List Value), W.heap[g]? = some (.cells c.toArray t (0, 0)) → o + vs.length ≤ c.length → (W.setCells g o vs).heap[g]? = some (.cells (c.take o ++ vs ++ c.drop (o + vs.length)).toArray t (0, 0))
  | [], o, W, c, h, _ => by
    rw [World.setCells, h]
    simp
  | v :: r, o, W, c, h, hl => by
    rw [World.setCells]
    have h1 : (W.setCell ⟨g, o, none⟩ v).heap[g]? = some (.cells (c.set o v).toArray t (0, 0)) := by
      rw [heap_setCell_same W g o _ _ _ h]
      simp
    simp only [List.length_cons] at hl
    rw [setCells_row r (o + 1) _ _ h1 (by simp; omega)]
    congr 3
    apply List.ext_getElem?
    intro i
    have e : o + 1 + r.length = o + (v :: r).length := by simp; omega
    simp only [List.append_assoc, List.getElem?_append, List.length_take, List.length_set, List.getElem?_drop, List.getElem?_set, List.getElem?_take, List.length_cons, List.getElem?_cons]
    have m1 : min (o + 1) c.length = o + 1 := by omega
    have m2 : min o c.length = o := by omega
    rw [m1, m2]
    by_cases a1 : i < o
    · have : i < o + 1 := by omega
      have e2 : ¬ o = i := by omega
      simp [a1, this, e2]
    · by_cases a2 : i = o
      · subst a2
        have : i < c.length := by omega
        simp [this]
      · have b1 : ¬ i < o + 1 := by omega
        have b2 : ¬ i - o = 0 := by omega
        have b3 : i - (o + 1) = i - o - 1 := by omega
        by_cases a3 : i - (o + 1) < r.length
        · have a4 : i - o < r.length + 1 := by omega
          have a5 : i - o - 1 < r.length := by omega
          simp [a1, b1, b2, b3, a4, a5]
        · have a4 : ¬ i - o < r.length + 1 := by omega
          have a5 : ¬ i - o - 1 < r.length := by omega
          have b4 : ¬ o = o + 1 + r.length + (i - (o + 1) - r.length) := by omega
          have b5 : o + 1 + r.length + (i - o - 1 - r.length) = o + (r.length + 1) + (i - o - (r.length + 1)) := by omega
          have b6 : ¬ o = o + (r.length + 1) + (i - o - (r.length + 1)) := by omega
          simp [a1, b1, b3, a5, a4, b5, b6]
theorem setCells_other {g h : Nat} (hne : h ≠ g) : ∀ (vs : List Value) (o : Nat) (W : World), (W.setCells g o vs).heap[h]? = W.heap[h]?
  | [], _, _ => rfl
  | v :: r, o, W => by
    rw [World.setCells, setCells_other hne r (o + 1)]
    exact Below.heap_setCell _ _ _ _ hne
theorem setCells_size {g : Nat} : ∀ (vs : List Value) (o : Nat) (W : World), (W.setCells g o vs).heap.size = W.heap.size
  | [], _, _ => rfl
  | v :: r, o, W => by
    rw [World.setCells, setCells_size r (o + 1)]
    simp
theorem setCells_below {w : World} {B b : Nat} : ∀ (vs : List Value) (o : Nat) {W : World}, Below B w W → B ≤ b → Below B w (W.setCells b o vs)
  | [], _, _, h, _ => h
  | v :: r, o, W, h, hb => by
    rw [World.setCells]
    exact setCells_below r (o + 1) (h.setCell hb v) hb
theorem pb_sets {W : World} {g : Nat} {T : TypeId} {m : Nat → Int} (q : Nat → Int) (h : W.heap[g]? = some (pb T m)) : (W.setCells g 0 (cs36 q)).heap[g]? = some (pb T q) := by
  unfold pb at h ⊢
  rw [setCells_row (cs36 q) 0 W (cs36 m) h (by rw [cs36_len, cs36_len]; omega)]
  rw [List.take_zero, List.nil_append, List.drop_of_length_le (by rw [cs36_len, cs36_len]; omega), List.append_nil]
section
variable {P : Program} {ops : Array Oper} {rest : List Oper} {o : Oper} {a : Act} {w : World} {Q : Exit → Act → World → Prop}
/-- A picture that comes in gets a block. -/
theorem wpList_box36 (hg : o.guard = none) (t : TypeId) (x : Operand) (ho : o.op = .box t x) (m : Nat → Int) (hx : a.eval x = pv m) (h : wpList P ops Q rest (a.put o.dst (.pointer (some ⟨w.heap.size, 0, none⟩))) (w.alloc (pb t m))) : wpList P ops Q (o :: rest) a w := by
  refine wpList_plain hg fun K hK => ?_
  unfold Oper.wp execOp
  simp only [ho, hx, Sem.run_bind, Instr.box, newVar, newRow, run_newObj_alloc, Sem.run_pure, Result.andThen_ok]
  exact hK _ _ h
/-- A picture is read. -/
theorem wpList_load36 (hg : o.guard = none) (ty : TypeId) (x : Operand) (ho : o.op = .load ty x) (g : Nat) (hx : a.eval x = .pointer (some ⟨g, 0, none⟩)) (T : TypeId) (m : Nat → Int) (hW : w.heap[g]? = some (pb T m)) (d : TypeDesc) (hu : P.underlying ty = some d) (hd : d.isRow = true) (hi : (P.info? ty).map (·.size) = some 36) (h : wpList P ops Q rest (a.put o.dst (pv m)) w) : wpList P ops Q (o :: rest) a w :=
  wpList_load_mid hg ty x ho g 0 hx (cs36 m) d (pb_range hW) hu hd (by rw [hi, cs36_len]) h
/-- A picture is written. -/
theorem wpList_store36 (hg : o.guard = none) (ty : TypeId) (x y : Operand) (ho : o.op = .store ty x y) (g : Nat) (hx : a.eval x = .pointer (some ⟨g, 0, none⟩)) (q : Nat → Int) (hy : a.eval y = pv q) (T : TypeId) (m : Nat → Int) (hW : w.heap[g]? = some (pb T m)) (hi : (P.info? ty).map (·.size) = some 36) (h : wpList P ops Q rest (a.put o.dst undef) (w.setCells g 0 (cs36 q))) : wpList P ops Q (o :: rest) a w :=
  wpList_store_mid hg ty x y ho g 0 (cs36 q).toArray hx hy (by rw [List.size_toArray, cs36_len]; exact pb_there hW) (by rw [hi, List.size_toArray, cs36_len]) (all_oneCell_toArray (cs36_one q)) h
end
section
variable {P : Program} {ops : Array Oper} {rest : List Oper} {a : Act} {w : World} {Q : Exit → Act → World → Prop} {dst : Option Tmp} {type : TypeId} {pos : String} {after : Array Edge} {x y : Operand} {ty : TypeId}
theorem wpB36 (m : Nat → Int) (hx : a.eval x = pv m) (h : wpList P ops Q rest (a.put dst (.pointer (some ⟨w.heap.size, 0, none⟩))) (w.alloc (pb ty m))) : wpList P ops Q (⟨dst, .box ty x, type, pos, after, none⟩ :: rest) a w :=
  wpList_box36 (o := ⟨dst, .box ty x, type, pos, after, none⟩) rfl ty x rfl m hx h
theorem wpL36 (g : Nat) (T : TypeId) (m : Nat → Int) (hW : w.heap[g]? = some (pb T m)) (d : TypeDesc) (hu : P.underlying ty = some d) (hx : a.eval x = .pointer (some ⟨g, 0, none⟩)) (hd : d.isRow = true) (hi : (P.info? ty).map (·.size) = some 36) (h : wpList P ops Q rest (a.put dst (pv m)) w) : wpList P ops Q (⟨dst, .load ty x, type, pos, after, none⟩ :: rest) a w :=
  wpList_load36 (o := ⟨dst, .load ty x, type, pos, after, none⟩) rfl ty x rfl g hx T m hW d hu hd hi h
theorem wpS36 (g : Nat) (q : Nat → Int) (T : TypeId) (m : Nat → Int) (hW : w.heap[g]? = some (pb T m)) (hx : a.eval x = .pointer (some ⟨g, 0, none⟩)) (hy : a.eval y = pv q) (hi : (P.info? ty).map (·.size) = some 36) (h : wpList P ops Q rest (a.put dst undef) (w.setCells g 0 (cs36 q))) : wpList P ops Q (⟨dst, .store ty x y, type, pos, after, none⟩ :: rest) a w :=
  wpList_store36 (o := ⟨dst, .store ty x y, type, pos, after, none⟩) rfl ty x y rfl g hx q hy T m hW hi h
/-- A few cells in the middle of a block are read. -/
theorem wpLm (g o : Nat) (cs : List Value) (hc : w.rangeAt g o cs) (d : TypeDesc) (hu : P.underlying ty = some d) (hx : a.eval x = .pointer (some ⟨g, o, none⟩)) (hd : d.isRow = true) (hi : (P.info? ty).map (·.size) = some cs.length) (h : wpList P ops Q rest (a.put dst (.agg cs.toArray)) w) : wpList P ops Q (⟨dst, .load ty x, type, pos, after, none⟩ :: rest) a w :=
  wpList_load_mid (op := ⟨dst, .load ty x, type, pos, after, none⟩) rfl ty x rfl g o hx cs d hc hu hd hi h
/-- A few cells in the middle of a block are written. -/
theorem wpSm (g o : Nat) (cells : Array Value) (ht : w.there g o cells.size) (hx : a.eval x = .pointer (some ⟨g, o, none⟩)) (hy : a.eval y = .agg cells) (hi : (P.info? ty).map (·.size) = some cells.size) (h1 : cells.all (·.oneCell') = true) (h : wpList P ops Q rest (a.put dst undef) (w.setCells g o cells.toList)) : wpList P ops Q (⟨dst, .store ty x y, type, pos, after, none⟩ :: rest) a w :=
  wpList_store_mid (op := ⟨dst, .store ty x y, type, pos, after, none⟩) rfl ty x y rfl g o cells hx hy ht hi h1 h
end
theorem run_load36 {P : Program} {X : World} {g : Nat} {T : TypeId} {m : Nat → Int} (hW : X.heap[g]? = some (pb T m)) (ty : TypeId) (d : TypeDesc) (hu : P.underlying ty = some d) (hd : d.isRow = true) (hi : (P.info? ty).map (·.size) = some 36) : (loadVar ty ⟨g, 0, none⟩).run P X = .ok (pv m) X :=
  run_loadVar_mid X g 0 ty (cs36 m) d (pb_range hW) hu hd (by rw [hi, cs36_len])
/-- The answer that lies in a block of its own. -/
theorem res36 {P : Program} {fn : Func} {tmps : Array Value} {a : Nat} {t : TypeId} {x : Addr} {v : Value} {X : World} (hres : fn.results = #[.cell a t]) (hx : tmps.getD a undef = .pointer (some x)) (hl : (loadVar t x).run P X = .ok v X) : (results fn tmps).run P X = .ok v X := by
  have hx' : tmps[a]?.getD undef = .pointer (some x) := by simpa using hx
  unfold results
  rw [hres]
  simp [hx', asAddr, hl, Array.mapM_eq_mapM_toList]
theorem res36b {P : Program} {fn : Func} {tmps : Array Value} {a b : Nat} {t : TypeId} {x : Addr} {v u : Value} {X : World} (hres : fn.results = #[.cell a t, .tmp b]) (hx : tmps.getD a undef = .pointer (some x)) (hu : tmps.getD b undef = u) (hl : (loadVar t x).run P X = .ok v X) : (results fn tmps).run P X = .ok (.tuple #[v, u]) X := by
  have hx' : tmps[a]?.getD undef = .pointer (some x) := by simpa using hx
  have hu' : tmps[b]?.getD undef = u := by simpa using hu
  unfold results
  rw [hres]
  simp [hx', hu', asAddr, hl, Array.mapM_eq_mapM_toList]
/-- A row of a picture, by value. -/
theorem row36_0 (m : Nat → Int) (W : World) : (Instr.index 78 (pv m) (.int .i64 0)).run Try.prog W = .ok (.agg #[.int .i64 (m 0), .int .i64 (m 1), .int .i64 (m 2), .int .i64 (m 3), .int .i64 (m 4), .int .i64 (m 5)]) W := by kernel_rfl
theorem row36_1 (m : Nat → Int) (W : World) : (Instr.index 78 (pv m) (.int .i64 1)).run Try.prog W = .ok (.agg #[.int .i64 (m 6), .int .i64 (m 7), .int .i64 (m 8), .int .i64 (m 9), .int .i64 (m 10), .int .i64 (m 11)]) W := by kernel_rfl
theorem row36_2 (m : Nat → Int) (W : World) : (Instr.index 78 (pv m) (.int .i64 2)).run Try.prog W = .ok (.agg #[.int .i64 (m 12), .int .i64 (m 13), .int .i64 (m 14), .int .i64 (m 15), .int .i64 (m 16), .int .i64 (m 17)]) W := by kernel_rfl
theorem row36_3 (m : Nat → Int) (W : World) : (Instr.index 78 (pv m) (.int .i64 3)).run Try.prog W = .ok (.agg #[.int .i64 (m 18), .int .i64 (m 19), .int .i64 (m 20), .int .i64 (m 21), .int .i64 (m 22), .int .i64 (m 23)]) W := by kernel_rfl
theorem row36_4 (m : Nat → Int) (W : World) : (Instr.index 78 (pv m) (.int .i64 4)).run Try.prog W = .ok (.agg #[.int .i64 (m 24), .int .i64 (m 25), .int .i64 (m 26), .int .i64 (m 27), .int .i64 (m 28), .int .i64 (m 29)]) W := by kernel_rfl
theorem row36_5 (m : Nat → Int) (W : World) : (Instr.index 78 (pv m) (.int .i64 5)).run Try.prog W = .ok (.agg #[.int .i64 (m 30), .int .i64 (m 31), .int .i64 (m 32), .int .i64 (m 33), .int .i64 (m 34), .int .i64 (m 35)]) W := by kernel_rfl
theorem row36 (m : Nat → Int) (y : Nat) (hy : y < 6) (W : World) : (Instr.index 78 (pv m) (.int .i64 y)).run Try.prog W = .ok (.agg #[.int .i64 (m (y * 6)), .int .i64 (m (y * 6 + 1)), .int .i64 (m (y * 6 + 2)), .int .i64 (m (y * 6 + 3)), .int .i64 (m (y * 6 + 4)), .int .i64 (m (y * 6 + 5))]) W := by
  have h : y = 0 ∨ y = 1 ∨ y = 2 ∨ y = 3 ∨ y = 4 ∨ y = 5 := by omega
  rcases h with h | h | h | h | h | h <;> subst h
  · exact row36_0 m W
  · exact row36_1 m W
  · exact row36_2 m W
  · exact row36_3 m W
  · exact row36_4 m W
  · exact row36_5 m W
theorem el6_0 (v0 v1 v2 v3 v4 v5 : Int) (W : World) : (Instr.index 22 (.agg #[.int .i64 v0, .int .i64 v1, .int .i64 v2, .int .i64 v3, .int .i64 v4, .int .i64 v5]) (.int .i64 0)).run Try.prog W = .ok (.int .i64 v0) W := by kernel_rfl
theorem el6_1 (v0 v1 v2 v3 v4 v5 : Int) (W : World) : (Instr.index 22 (.agg #[.int .i64 v0, .int .i64 v1, .int .i64 v2, .int .i64 v3, .int .i64 v4, .int .i64 v5]) (.int .i64 1)).run Try.prog W = .ok (.int .i64 v1) W := by kernel_rfl
theorem el6_2 (v0 v1 v2 v3 v4 v5 : Int) (W : World) : (Instr.index 22 (.agg #[.int .i64 v0, .int .i64 v1, .int .i64 v2, .int .i64 v3, .int .i64 v4, .int .i64 v5]) (.int .i64 2)).run Try.prog W = .ok (.int .i64 v2) W := by kernel_rfl
theorem el6_3 (v0 v1 v2 v3 v4 v5 : Int) (W : World) : (Instr.index 22 (.agg #[.int .i64 v0, .int .i64 v1, .int .i64 v2, .int .i64 v3, .int .i64 v4, .int .i64 v5]) (.int .i64 3)).run Try.prog W = .ok (.int .i64 v3) W := by kernel_rfl
theorem el6_4 (v0 v1 v2 v3 v4 v5 : Int) (W : World) : (Instr.index 22 (.agg #[.int .i64 v0, .int .i64 v1, .int .i64 v2, .int .i64 v3, .int .i64 v4, .int .i64 v5]) (.int .i64 4)).run Try.prog W = .ok (.int .i64 v4) W := by kernel_rfl
theorem el6_5 (v0 v1 v2 v3 v4 v5 : Int) (W : World) : (Instr.index 22 (.agg #[.int .i64 v0, .int .i64 v1, .int .i64 v2, .int .i64 v3, .int .i64 v4, .int .i64 v5]) (.int .i64 5)).run Try.prog W = .ok (.int .i64 v5) W := by kernel_rfl
theorem el6 (r : Nat → Int) (x : Nat) (hx : x < 6) (W : World) : (Instr.index 22 (.agg #[.int .i64 (r 0), .int .i64 (r 1), .int .i64 (r 2), .int .i64 (r 3), .int .i64 (r 4), .int .i64 (r 5)]) (.int .i64 x)).run Try.prog W = .ok (.int .i64 (r x)) W := by
  have h : x = 0 ∨ x = 1 ∨ x = 2 ∨ x = 3 ∨ x = 4 ∨ x = 5 := by omega
  rcases h with h | h | h | h | h | h <;> subst h
  · exact el6_0 _ _ _ _ _ _ W
  · exact el6_1 _ _ _ _ _ _ W
  · exact el6_2 _ _ _ _ _ _ W
  · exact el6_3 _ _ _ _ _ _ W
  · exact el6_4 _ _ _ _ _ _ W
  · exact el6_5 _ _ _ _ _ _ W
end Go.Proofs.Ytnkjamdpafpcpaa
