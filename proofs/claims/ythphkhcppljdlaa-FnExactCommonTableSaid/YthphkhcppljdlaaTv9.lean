/- PLAIN LEMMAS: 37 numbers as one value and as one block, never written out; how often numbers come up. -/
import Derived.Test.YthphkhcppljdlaaPv8
import Derived.WalkKit
import Derived.ProofKit
import Derived.OpenShut
import Derived.Lib.Hide
import Derived.WalkSpells
import Derived.Below
import Derived.BigQuiet
import Derived.LoopN
namespace Go.Proofs.Ythphkhcppljdlaa
open Go.ChangeShapes Go.WideShapes Go.ChangeAt Go.RowKit
set_option linter.unusedVariables false
/-- 37 cells. -/
def cs37 (m : Nat → Int) : List Value := (List.range 37).map fun j => Value.int .i64 (m j)
theorem cs37_len (m : Nat → Int) : (cs37 m).length = 37 := by simp [cs37]
theorem cs37_at (m : Nat → Int) (j : Nat) : (cs37 m)[j]? = if j < 37 then some (.int .i64 (m j)) else none := by
  unfold cs37
  by_cases h : j < 37 <;> simp [h]
theorem cs37_one (m : Nat → Int) : ∀ v ∈ cs37 m, v.oneCell' = true := by
  intro v hv
  unfold cs37 at hv
  obtain ⟨j, _, rfl⟩ := List.mem_map.mp hv
  rfl
theorem cs37_congr {f g : Nat → Int} (h : ∀ j, j < 37 → f j = g j) : cs37 f = cs37 g := List.map_congr_left fun j hj => by rw [h j (List.mem_range.mp hj)]
/-- A picture's value. -/
def tv (m : Nat → Int) : Value := .agg (cs37 m).toArray
/-- A picture in a block of its own. -/
def tb (T : TypeId) (m : Nat → Int) : Obj := .cells (cs37 m).toArray T (0, 0)
theorem tv_congr {f g : Nat → Int} (h : ∀ j, j < 37 → f j = g j) : tv f = tv g := by unfold tv; rw [cs37_congr h]
theorem tb_congr {T : TypeId} {f g : Nat → Int} (h : ∀ j, j < 37 → f j = g j) : tb T f = tb T g := by unfold tb; rw [cs37_congr h]
theorem tv_inj {f g : Nat → Int} (h : tv f = tv g) (j : Nat) (hj : j < 37) : f j = g j := by
  have h1 : cs37 f = cs37 g := by
    have := congrArg Value.cells h
    simpa [tv, Value.cells] using this
  have h2 := congrArg (fun l => l[j]?) h1
  simp only [cs37_at, if_pos hj] at h2
  simpa using h2
theorem tb_cell {W : World} {g : Nat} {T : TypeId} {m : Nat → Int} (h : W.heap[g]? = some (tb T m)) (j : Nat) : W.cell? ⟨g, j, none⟩ = if j < 37 then some (.int .i64 (m j)) else none := by
  unfold tb at h
  rw [cell_of_row W g j _ _ _ h, ← cs37_at m j]
  simp
theorem tb_frozen {W : World} {g : Nat} {T : TypeId} {m : Nat → Int} (h : W.heap[g]? = some (tb T m)) (j : Nat) : W.frozen? ⟨g, j, none⟩ = false := by
  unfold tb at h
  exact frozen_of_row W g j _ _ h
theorem tb_range {W : World} {g : Nat} {T : TypeId} {m : Nat → Int} (h : W.heap[g]? = some (tb T m)) : W.rangeAt g 0 (cs37 m) := by
  intro j v hv
  rw [Nat.zero_add, tb_cell h, ← cs37_at m j]
  exact hv
theorem tb_there {W : World} {g : Nat} {T : TypeId} {m : Nat → Int} (h : W.heap[g]? = some (tb T m)) : W.there g 0 37 := by
  intro j hj
  refine ⟨?_, tb_frozen h _⟩
  rw [Nat.zero_add, tb_cell h, if_pos hj]
  rfl
theorem tb_set {W : World} {g k : Nat} {T : TypeId} {m : Nat → Int} (v : Int) (hk : k < 37) (h : W.heap[g]? = some (tb T m)) : (W.setCell ⟨g, k, none⟩ (.int .i64 v)).heap[g]? = some (tb T (uq m k v)) := by
  unfold tb at h ⊢
  rw [heap_setCell_same W g k _ _ _ h]
  congr 2
  apply Array.ext'
  simp only [List.setIfInBounds_toArray]
  apply List.ext_getElem?
  intro i
  rw [cs37_at, List.getElem?_set, cs37_at, cs37_len]
  unfold uq
  by_cases e : k = i
  · subst e; simp [hk]
  · rw [if_neg e, if_neg (show ¬ i = k from fun e' => e e'.symm)]
theorem tb_sets {W : World} {g : Nat} {T : TypeId} {m : Nat → Int} (q : Nat → Int) (h : W.heap[g]? = some (tb T m)) : (W.setCells g 0 (cs37 q)).heap[g]? = some (tb T q) := by
  unfold tb at h ⊢
  rw [setCells_row (cs37 q) 0 W (cs37 m) h (by rw [cs37_len, cs37_len]; omega)]
  rw [List.take_zero, List.nil_append, List.drop_of_length_le (by rw [cs37_len, cs37_len]; omega), List.append_nil]
section
variable {P : Program} {ops : Array Oper} {rest : List Oper} {o : Oper} {a : Act} {w : World} {Q : Exit → Act → World → Prop}
/-- A picture that comes in gets a block. -/
theorem wpList_box37 (hg : o.guard = none) (t : TypeId) (x : Operand) (ho : o.op = .box t x) (m : Nat → Int) (hx : a.eval x = tv m) (h : wpList P ops Q rest (a.put o.dst (.pointer (some ⟨w.heap.size, 0, none⟩))) (w.alloc (tb t m))) : wpList P ops Q (o :: rest) a w := by
  refine wpList_plain hg fun K hK => ?_
  unfold Oper.wp execOp
  simp only [ho, hx, Sem.run_bind, Instr.box, newVar, newRow, run_newObj_alloc, Sem.run_pure, Result.andThen_ok]
  exact hK _ _ h
/-- A picture is read. -/
theorem wpList_load37 (hg : o.guard = none) (ty : TypeId) (x : Operand) (ho : o.op = .load ty x) (g : Nat) (hx : a.eval x = .pointer (some ⟨g, 0, none⟩)) (T : TypeId) (m : Nat → Int) (hW : w.heap[g]? = some (tb T m)) (d : TypeDesc) (hu : P.underlying ty = some d) (hd : d.isRow = true) (hi : (P.info? ty).map (·.size) = some 37) (h : wpList P ops Q rest (a.put o.dst (tv m)) w) : wpList P ops Q (o :: rest) a w :=
  wpList_load_mid hg ty x ho g 0 hx (cs37 m) d (tb_range hW) hu hd (by rw [hi, cs37_len]) h
/-- A picture is written. -/
theorem wpList_store37 (hg : o.guard = none) (ty : TypeId) (x y : Operand) (ho : o.op = .store ty x y) (g : Nat) (hx : a.eval x = .pointer (some ⟨g, 0, none⟩)) (q : Nat → Int) (hy : a.eval y = tv q) (T : TypeId) (m : Nat → Int) (hW : w.heap[g]? = some (tb T m)) (hi : (P.info? ty).map (·.size) = some 37) (h : wpList P ops Q rest (a.put o.dst undef) (w.setCells g 0 (cs37 q))) : wpList P ops Q (o :: rest) a w :=
  wpList_store_mid hg ty x y ho g 0 (cs37 q).toArray hx hy (by rw [List.size_toArray, cs37_len]; exact tb_there hW) (by rw [hi, List.size_toArray, cs37_len]) (all_oneCell_toArray (cs37_one q)) h
end
section
variable {P : Program} {ops : Array Oper} {rest : List Oper} {a : Act} {w : World} {Q : Exit → Act → World → Prop} {dst : Option Tmp} {type : TypeId} {pos : String} {after : Array Edge} {x y : Operand} {ty : TypeId}
theorem wpB37 (m : Nat → Int) (hx : a.eval x = tv m) (h : wpList P ops Q rest (a.put dst (.pointer (some ⟨w.heap.size, 0, none⟩))) (w.alloc (tb ty m))) : wpList P ops Q (⟨dst, .box ty x, type, pos, after, none⟩ :: rest) a w :=
  wpList_box37 (o := ⟨dst, .box ty x, type, pos, after, none⟩) rfl ty x rfl m hx h
theorem wpL37 (g : Nat) (T : TypeId) (m : Nat → Int) (hW : w.heap[g]? = some (tb T m)) (d : TypeDesc) (hu : P.underlying ty = some d) (hx : a.eval x = .pointer (some ⟨g, 0, none⟩)) (hd : d.isRow = true) (hi : (P.info? ty).map (·.size) = some 37) (h : wpList P ops Q rest (a.put dst (tv m)) w) : wpList P ops Q (⟨dst, .load ty x, type, pos, after, none⟩ :: rest) a w :=
  wpList_load37 (o := ⟨dst, .load ty x, type, pos, after, none⟩) rfl ty x rfl g hx T m hW d hu hd hi h
theorem wpS37 (g : Nat) (q : Nat → Int) (T : TypeId) (m : Nat → Int) (hW : w.heap[g]? = some (tb T m)) (hx : a.eval x = .pointer (some ⟨g, 0, none⟩)) (hy : a.eval y = tv q) (hi : (P.info? ty).map (·.size) = some 37) (h : wpList P ops Q rest (a.put dst undef) (w.setCells g 0 (cs37 q))) : wpList P ops Q (⟨dst, .store ty x y, type, pos, after, none⟩ :: rest) a w :=
  wpList_store37 (o := ⟨dst, .store ty x y, type, pos, after, none⟩) rfl ty x y rfl g hx q hy T m hW hi h
end
theorem run_load37 {P : Program} {X : World} {g : Nat} {T : TypeId} {m : Nat → Int} (hW : X.heap[g]? = some (tb T m)) (ty : TypeId) (d : TypeDesc) (hu : P.underlying ty = some d) (hd : d.isRow = true) (hi : (P.info? ty).map (·.size) = some 37) : (loadVar ty ⟨g, 0, none⟩).run P X = .ok (tv m) X :=
  run_loadVar_mid X g 0 ty (cs37 m) d (tb_range hW) hu hd (by rw [hi, cs37_len])
theorem alT (W : World) : (Instr.alloc 37 true (.tuple #[])).run Try.prog W = .ok (.pointer (some ⟨W.heap.size, 0, none⟩)) (W.alloc (tb 37 fun _ => 0)) := by kernel_rfl
theorem bdT (W : World) : (Instr.build 37 #[]).run Try.prog W = .ok (tv fun _ => 0) W := by kernel_rfl
section
variable {ops : Array Oper} {rest : List Oper} {a : Act} {w : World} {Q : Exit → Act → World → Prop} {dst : Option Tmp} {type : TypeId} {pos : String} {after : Array Edge}
theorem wpAlT (N : Nat) (hN : w.heap.size = N) (h : wpList Try.prog ops Q rest (a.put dst (.pointer (some ⟨N, 0, none⟩))) (w.alloc (tb 37 fun _ => 0))) : wpList Try.prog ops Q (⟨dst, .alloc 37, type, pos, after, none⟩ :: rest) a w := by
  subst hN
  refine wpList_plain rfl fun K hK => ?_
  unfold Oper.wp execOp
  simp only [Sem.run_bind, Sem.run_pure, Result.andThen_ok, alT]
  exact hK _ _ h
theorem wpBdT (h : wpList Try.prog ops Q rest (a.put dst (tv fun _ => 0)) w) : wpList Try.prog ops Q (⟨dst, .build 37 #[], type, pos, after, none⟩ :: rest) a w := by
  refine wpList_plain rfl fun K hK => ?_
  unfold Oper.wp execOp
  simp only [Array.map_empty, Sem.run_bind, Sem.run_pure, Result.andThen_ok, bdT]
  exact hK _ _ h
end
theorem ix37 (m : Nat → Int) : ∀ (k : Nat) (hk : k < 37) (W : World), (Instr.index 37 (tv m) (.int .i64 (k : Int))).run Try.prog W = .ok (.int .i64 (m k)) W
  | 0, _, W => by kernel_rfl
  | 1, _, W => by kernel_rfl
  | 2, _, W => by kernel_rfl
  | 3, _, W => by kernel_rfl
  | 4, _, W => by kernel_rfl
  | 5, _, W => by kernel_rfl
  | 6, _, W => by kernel_rfl
  | 7, _, W => by kernel_rfl
  | 8, _, W => by kernel_rfl
  | 9, _, W => by kernel_rfl
  | 10, _, W => by kernel_rfl
  | 11, _, W => by kernel_rfl
  | 12, _, W => by kernel_rfl
  | 13, _, W => by kernel_rfl
  | 14, _, W => by kernel_rfl
  | 15, _, W => by kernel_rfl
  | 16, _, W => by kernel_rfl
  | 17, _, W => by kernel_rfl
  | 18, _, W => by kernel_rfl
  | 19, _, W => by kernel_rfl
  | 20, _, W => by kernel_rfl
  | 21, _, W => by kernel_rfl
  | 22, _, W => by kernel_rfl
  | 23, _, W => by kernel_rfl
  | 24, _, W => by kernel_rfl
  | 25, _, W => by kernel_rfl
  | 26, _, W => by kernel_rfl
  | 27, _, W => by kernel_rfl
  | 28, _, W => by kernel_rfl
  | 29, _, W => by kernel_rfl
  | 30, _, W => by kernel_rfl
  | 31, _, W => by kernel_rfl
  | 32, _, W => by kernel_rfl
  | 33, _, W => by kernel_rfl
  | 34, _, W => by kernel_rfl
  | 35, _, W => by kernel_rfl
  | 36, _, W => by kernel_rfl
  | k + 37, h, _ => absurd h (by omega)
/-- How often each number has come up among the first k. -/
def ht9 (c : Nat → Nat) : Nat → Nat → Int
  | 0 => fun _ => 0
  | k + 1 => uq (ht9 c k) (c k) (ht9 c k (c k) + 1)
theorem ht9_count (c : Nat → Nat) : ∀ k j, ht9 c k j = ((((List.range k).map c).count j : Nat) : Int)
  | 0, j => rfl
  | k + 1, j => by
    show uq (ht9 c k) (c k) (ht9 c k (c k) + 1) j = _
    unfold uq
    rw [List.range_succ, List.map_append, List.count_append, ht9_count c k, ht9_count c k]
    by_cases h : j = c k
    · subst h; simp
    · have : ¬ c k = j := fun e => h e.symm
      simp [h, this]
theorem ht9_bd (c : Nat → Nat) (k j : Nat) : 0 ≤ ht9 c k j ∧ ht9 c k j ≤ k := by
  rw [ht9_count]
  have := List.count_le_length (a := j) (l := (List.range k).map c)
  simp at this
  omega
def sg9 (k : Nat) : Nat := (k % 6) * 6 + k / 6
theorem sg9_perm : ((List.range 36).map sg9).Perm (List.range 36) := by decide
theorem ht9_swap (F : Nat → Nat → Nat) : ht9 (fun k => F (k / 6) (k % 6)) 36 = ht9 (fun k => F (k % 6) (k / 6)) 36 := by
  funext j
  rw [ht9_count, ht9_count]
  have e : (List.range 36).map (fun k => F (k % 6) (k / 6)) = ((List.range 36).map sg9).map (fun k => F (k / 6) (k % 6)) := by
    rw [List.map_map]
    refine List.map_congr_left fun k hk => ?_
    have hk := List.mem_range.mp hk
    show _ = F (sg9 k / 6) (sg9 k % 6)
    unfold sg9
    rw [show (k % 6 * 6 + k / 6) / 6 = k % 6 by omega, show (k % 6 * 6 + k / 6) % 6 = k / 6 by omega]
  rw [e, (sg9_perm.map _).count_eq]
end Go.Proofs.Ythphkhcppljdlaa
