/- MERGED, for one claim's sake: Tv9, Tt9, Pt9, Ty9, Tz9, Pi9. -/
import Derived.Test.YthphkhcppljdlaaPv8
import Derived.Test.YthphkhcppljdlaaTd9
import Derived.Test.YthphkhcppljdlaaMx7
import Derived.Test.YthphkhcppljdlaaQ7
import Derived.Test.YthphkhcppljdlaaFs
import Derived.Test.YthphkhcppljdlaaPb
import Derived.WalkKit
import Derived.ProofKit
import Derived.OpenShut
import Derived.Lib.Hide
import Derived.WalkSpells
import Derived.Below
import Derived.BigQuiet
import Derived.LoopN
import Derived.RegionTactic
import Derived.Deep.RegionHeld3
import Derived.WalkMore
namespace Go.Proofs.Ythphkhcppljdlaa
open Go.ChangeShapes Go.WideShapes Go.ChangeAt Go.RowKit
set_option linter.unusedVariables false
/- Tv9 -/
/-- 37 cells. -/
def cs37 (m : Nat → Int) : List Value := (List.range 37).map fun j => Value.int .i64 (m j)
theorem cs37_len (m : Nat → Int) : (cs37 m).length = 37 := by simp [cs37]
theorem cs37_at (m : Nat → Int) (j : Nat) : (cs37 m)[j]? = if j < 37 then some (.int .i64 (m j)) else none := by
  unfold cs37
  by_cases h : j < 37 <;> simp [h]
theorem cs37_one (m : Nat → Int) : ∀ v ∈ cs37 m, v.oneCell' = true := by
  intro v hv
  unfold cs37 at hv
  obtain ⟨j, _, rfl⟩ := List.mem_map.mp hv
  rfl
theorem cs37_congr {f g : Nat → Int} (h : ∀ j, j < 37 → f j = g j) : cs37 f = cs37 g := List.map_congr_left fun j hj => by rw [h j (List.mem_range.mp hj)]
/-- A picture's value. -/
def tv (m : Nat → Int) : Value := .agg (cs37 m).toArray
/-- A picture in a block of its own. -/
def tb (T : TypeId) (m : Nat → Int) : Obj := .cells (cs37 m).toArray T (0, 0)
theorem tv_congr {f g : Nat → Int} (h : ∀ j, j < 37 → f j = g j) : tv f = tv g := by unfold tv; rw [cs37_congr h]
theorem tb_congr {T : TypeId} {f g : Nat → Int} (h : ∀ j, j < 37 → f j = g j) : tb T f = tb T g := by unfold tb; rw [cs37_congr h]
theorem tv_inj {f g : Nat → Int} (h : tv f = tv g) (j : Nat) (hj : j < 37) : f j = g j := by
  have h1 : cs37 f = cs37 g := by
    have := congrArg Value.cells h
    simpa [tv, Value.cells] using this
  have h2 := congrArg (fun l => l[j]?) h1
  simp only [cs37_at, if_pos hj] at h2
  simpa using h2
theorem tb_cell {W : World} {g : Nat} {T : TypeId} {m : Nat → Int} (h : W.heap[g]? = some (tb T m)) (j : Nat) : W.cell? ⟨g, j, none⟩ = if j < 37 then some (.int .i64 (m j)) else none := by
  unfold tb at h
  rw [cell_of_row W g j _ _ _ h, ← cs37_at m j]
  simp
theorem tb_frozen {W : World} {g : Nat} {T : TypeId} {m : Nat → Int} (h : W.heap[g]? = some (tb T m)) (j : Nat) : W.frozen? ⟨g, j, none⟩ = false := by
  unfold tb at h
  exact frozen_of_row W g j _ _ h
theorem tb_range {W : World} {g : Nat} {T : TypeId} {m : Nat → Int} (h : W.heap[g]? = some (tb T m)) : W.rangeAt g 0 (cs37 m) := by
  intro j v hv
  rw [Nat.zero_add, tb_cell h, ← cs37_at m j]
  exact hv
theorem tb_there {W : World} {g : Nat} {T : TypeId} {m : Nat → Int} (h : W.heap[g]? = some (tb T m)) : W.there g 0 37 := by
  intro j hj
  refine ⟨?_, tb_frozen h _⟩
  rw [Nat.zero_add, tb_cell h, if_pos hj]
  rfl
theorem tb_set {W : World} {g k : Nat} {T : TypeId} {m : Nat → Int} (v : Int) (hk : k < 37) (h : W.heap[g]? = some (tb T m)) : (W.setCell ⟨g, k, none⟩ (.int .i64 v)).heap[g]? = some (tb T (uq m k v)) := by
  unfold tb at h ⊢
  rw [heap_setCell_same W g k _ _ _ h]
  congr 2
  apply Array.ext'
  simp only [List.setIfInBounds_toArray]
  apply List.ext_getElem?
  intro i
  rw [cs37_at, List.getElem?_set, cs37_at, cs37_len]
  unfold uq
  by_cases e : k = i
  · subst e; simp [hk]
  · rw [if_neg e, if_neg (show ¬ i = k from fun e' => e e'.symm)]
theorem tb_sets {W : World} {g : Nat} {T : TypeId} {m : Nat → Int} (q : Nat → Int) (h : W.heap[g]? = some (tb T m)) : (W.setCells g 0 (cs37 q)).heap[g]? = some (tb T q) := by
  unfold tb at h ⊢
  rw [setCells_row (cs37 q) 0 W (cs37 m) h (by rw [cs37_len, cs37_len]; omega)]
  rw [List.take_zero, List.nil_append, List.drop_of_length_le (by rw [cs37_len, cs37_len]; omega), List.append_nil]
section
variable {P : Program} {ops : Array Oper} {rest : List Oper} {o : Oper} {a : Act} {w : World} {Q : Exit → Act → World → Prop}
/-- A picture that comes in gets a block. -/
theorem wpList_box37 (hg : o.guard = none) (t : TypeId) (x : Operand) (ho : o.op = .box t x) (m : Nat → Int) (hx : a.eval x = tv m) (h : wpList P ops Q rest (a.put o.dst (.pointer (some ⟨w.heap.size, 0, none⟩))) (w.alloc (tb t m))) : wpList P ops Q (o :: rest) a w := by
  refine wpList_plain hg fun K hK => ?_
  unfold Oper.wp execOp
  simp only [ho, hx, Sem.run_bind, Instr.box, newVar, newRow, run_newObj_alloc, Sem.run_pure, Result.andThen_ok]
  exact hK _ _ h
/-- A picture is read. -/
theorem wpList_load37 (hg : o.guard = none) (ty : TypeId) (x : Operand) (ho : o.op = .load ty x) (g : Nat) (hx : a.eval x = .pointer (some ⟨g, 0, none⟩)) (T : TypeId) (m : Nat → Int) (hW : w.heap[g]? = some (tb T m)) (d : TypeDesc) (hu : P.underlying ty = some d) (hd : d.isRow = true) (hi : (P.info? ty).map (·.size) = some 37) (h : wpList P ops Q rest (a.put o.dst (tv m)) w) : wpList P ops Q (o :: rest) a w :=
  wpList_load_mid hg ty x ho g 0 hx (cs37 m) d (tb_range hW) hu hd (by rw [hi, cs37_len]) h
/-- A picture is written. -/
theorem wpList_store37 (hg : o.guard = none) (ty : TypeId) (x y : Operand) (ho : o.op = .store ty x y) (g : Nat) (hx : a.eval x = .pointer (some ⟨g, 0, none⟩)) (q : Nat → Int) (hy : a.eval y = tv q) (T : TypeId) (m : Nat → Int) (hW : w.heap[g]? = some (tb T m)) (hi : (P.info? ty).map (·.size) = some 37) (h : wpList P ops Q rest (a.put o.dst undef) (w.setCells g 0 (cs37 q))) : wpList P ops Q (o :: rest) a w :=
  wpList_store_mid hg ty x y ho g 0 (cs37 q).toArray hx hy (by rw [List.size_toArray, cs37_len]; exact tb_there hW) (by rw [hi, List.size_toArray, cs37_len]) (all_oneCell_toArray (cs37_one q)) h
end
section
variable {P : Program} {ops : Array Oper} {rest : List Oper} {a : Act} {w : World} {Q : Exit → Act → World → Prop} {dst : Option Tmp} {type : TypeId} {pos : String} {after : Array Edge} {x y : Operand} {ty : TypeId}
theorem wpB37 (m : Nat → Int) (hx : a.eval x = tv m) (h : wpList P ops Q rest (a.put dst (.pointer (some ⟨w.heap.size, 0, none⟩))) (w.alloc (tb ty m))) : wpList P ops Q (⟨dst, .box ty x, type, pos, after, none⟩ :: rest) a w :=
  wpList_box37 (o := ⟨dst, .box ty x, type, pos, after, none⟩) rfl ty x rfl m hx h
theorem wpL37 (g : Nat) (T : TypeId) (m : Nat → Int) (hW : w.heap[g]? = some (tb T m)) (d : TypeDesc) (hu : P.underlying ty = some d) (hx : a.eval x = .pointer (some ⟨g, 0, none⟩)) (hd : d.isRow = true) (hi : (P.info? ty).map (·.size) = some 37) (h : wpList P ops Q rest (a.put dst (tv m)) w) : wpList P ops Q (⟨dst, .load ty x, type, pos, after, none⟩ :: rest) a w :=
  wpList_load37 (o := ⟨dst, .load ty x, type, pos, after, none⟩) rfl ty x rfl g hx T m hW d hu hd hi h
theorem wpS37 (g : Nat) (q : Nat → Int) (T : TypeId) (m : Nat → Int) (hW : w.heap[g]? = some (tb T m)) (hx : a.eval x = .pointer (some ⟨g, 0, none⟩)) (hy : a.eval y = tv q) (hi : (P.info? ty).map (·.size) = some 37) (h : wpList P ops Q rest (a.put dst undef) (w.setCells g 0 (cs37 q))) : wpList P ops Q (⟨dst, .store ty x y, type, pos, after, none⟩ :: rest) a w :=
  wpList_store37 (o := ⟨dst, .store ty x y, type, pos, after, none⟩) rfl ty x y rfl g hx q hy T m hW hi h
end
theorem run_load37 {P : Program} {X : World} {g : Nat} {T : TypeId} {m : Nat → Int} (hW : X.heap[g]? = some (tb T m)) (ty : TypeId) (d : TypeDesc) (hu : P.underlying ty = some d) (hd : d.isRow = true) (hi : (P.info? ty).map (·.size) = some 37) : (loadVar ty ⟨g, 0, none⟩).run P X = .ok (tv m) X :=
  run_loadVar_mid X g 0 ty (cs37 m) d (tb_range hW) hu hd (by rw [hi, cs37_len])
theorem alT (W : World) : (Instr.alloc 37 true (.tuple #[])).run Try.prog W = .ok (.pointer (some ⟨W.heap.size, 0, none⟩)) (W.alloc (tb 37 fun _ => 0)) := by kernel_rfl
theorem bdT (W : World) : (Instr.build 37 #[]).run Try.prog W = .ok (tv fun _ => 0) W := by kernel_rfl
section
variable {ops : Array Oper} {rest : List Oper} {a : Act} {w : World} {Q : Exit → Act → World → Prop} {dst : Option Tmp} {type : TypeId} {pos : String} {after : Array Edge}
theorem wpAlT (N : Nat) (hN : w.heap.size = N) (h : wpList Try.prog ops Q rest (a.put dst (.pointer (some ⟨N, 0, none⟩))) (w.alloc (tb 37 fun _ => 0))) : wpList Try.prog ops Q (⟨dst, .alloc 37, type, pos, after, none⟩ :: rest) a w := by
  subst hN
  refine wpList_plain rfl fun K hK => ?_
  unfold Oper.wp execOp
  simp only [Sem.run_bind, Sem.run_pure, Result.andThen_ok, alT]
  exact hK _ _ h
theorem wpBdT (h : wpList Try.prog ops Q rest (a.put dst (tv fun _ => 0)) w) : wpList Try.prog ops Q (⟨dst, .build 37 #[], type, pos, after, none⟩ :: rest) a w := by
  refine wpList_plain rfl fun K hK => ?_
  unfold Oper.wp execOp
  simp only [Array.map_empty, Sem.run_bind, Sem.run_pure, Result.andThen_ok, bdT]
  exact hK _ _ h
end
theorem ix37 (m : Nat → Int) : ∀ (k : Nat) (hk : k < 37) (W : World), (Instr.index 37 (tv m) (.int .i64 (k : Int))).run Try.prog W = .ok (.int .i64 (m k)) W
  | 0, _, W => by kernel_rfl
  | 1, _, W => by kernel_rfl
  | 2, _, W => by kernel_rfl
  | 3, _, W => by kernel_rfl
  | 4, _, W => by kernel_rfl
  | 5, _, W => by kernel_rfl
  | 6, _, W => by kernel_rfl
  | 7, _, W => by kernel_rfl
  | 8, _, W => by kernel_rfl
  | 9, _, W => by kernel_rfl
  | 10, _, W => by kernel_rfl
  | 11, _, W => by kernel_rfl
  | 12, _, W => by kernel_rfl
  | 13, _, W => by kernel_rfl
  | 14, _, W => by kernel_rfl
  | 15, _, W => by kernel_rfl
  | 16, _, W => by kernel_rfl
  | 17, _, W => by kernel_rfl
  | 18, _, W => by kernel_rfl
  | 19, _, W => by kernel_rfl
  | 20, _, W => by kernel_rfl
  | 21, _, W => by kernel_rfl
  | 22, _, W => by kernel_rfl
  | 23, _, W => by kernel_rfl
  | 24, _, W => by kernel_rfl
  | 25, _, W => by kernel_rfl
  | 26, _, W => by kernel_rfl
  | 27, _, W => by kernel_rfl
  | 28, _, W => by kernel_rfl
  | 29, _, W => by kernel_rfl
  | 30, _, W => by kernel_rfl
  | 31, _, W => by kernel_rfl
  | 32, _, W => by kernel_rfl
  | 33, _, W => by kernel_rfl
  | 34, _, W => by kernel_rfl
  | 35, _, W => by kernel_rfl
  | 36, _, W => by kernel_rfl
  | k + 37, h, _ => absurd h (by omega)
/-- How often each number has come up among the first k. -/
def ht9 (c : Nat → Nat) : Nat → Nat → Int
  | 0 => fun _ => 0
  | k + 1 => uq (ht9 c k) (c k) (ht9 c k (c k) + 1)
theorem ht9_count (c : Nat → Nat) : ∀ k j, ht9 c k j = ((((List.range k).map c).count j : Nat) : Int)
  | 0, j => rfl
  | k + 1, j => by
    show uq (ht9 c k) (c k) (ht9 c k (c k) + 1) j = _
    unfold uq
    rw [List.range_succ, List.map_append, List.count_append, ht9_count c k, ht9_count c k]
    by_cases h : j = c k
    · subst h; simp
    · have : ¬ c k = j := fun e => h e.symm
      simp [h, this]
theorem ht9_bd (c : Nat → Nat) (k j : Nat) : 0 ≤ ht9 c k j ∧ ht9 c k j ≤ k := by
  rw [ht9_count]
  have := List.count_le_length (a := j) (l := (List.range k).map c)
  simp at this
  omega
def sg9 (k : Nat) : Nat := (k % 6) * 6 + k / 6
theorem sg9_perm : ((List.range 36).map sg9).Perm (List.range 36) := by decide
theorem ht9_swap (F : Nat → Nat → Nat) : ht9 (fun k => F (k / 6) (k % 6)) 36 = ht9 (fun k => F (k % 6) (k / 6)) 36 := by
  funext j
  rw [ht9_count, ht9_count]
  have e : (List.range 36).map (fun k => F (k % 6) (k / 6)) = ((List.range 36).map sg9).map (fun k => F (k / 6) (k % 6)) := by
    rw [List.map_map]
    refine List.map_congr_left fun k hk => ?_
    have hk := List.mem_range.mp hk
    show _ = F (sg9 k / 6) (sg9 k % 6)
    unfold sg9
    rw [show (k % 6 * 6 + k / 6) / 6 = k % 6 by omega, show (k % 6 * 6 + k / 6) % 6 = k / 6 by omega]
  rw [e, (sg9_perm.map _).count_eq]
/- Tt9 -/
set_option maxHeartbeats 2000000 in
theorem commonat_go (a0 a1 a2 a3 a4 a5 : Int) (b0 b1 b2 b3 b4 b5 : Int) (x y : Int) (p0 p1 p2 p3 p4 p5 : Int) (q0 q1 q2 q3 q4 q5 : Int) (fd : Nat) (h : Int) (H1 : Hid (∀ w, Calls Try.prog 168 #[.agg #[.int .i64 b0, .int .i64 b1, .int .i64 b2, .int .i64 b3, .int .i64 b4, .int .i64 b5], .agg #[.int .i64 x, .int .i64 y]] w fun e w' => e = .returned (.agg #[.int .i64 p0, .int .i64 p1, .int .i64 p2, .int .i64 p3, .int .i64 p4, .int .i64 p5]) ∧ Below w.heap.size w w'))(H2 : Hid (∀ w, Calls Try.prog 132 #[.agg #[.int .i64 a0, .int .i64 a1, .int .i64 a2, .int .i64 a3, .int .i64 a4, .int .i64 a5], .agg #[.int .i64 p0, .int .i64 p1, .int .i64 p2, .int .i64 p3, .int .i64 p4, .int .i64 p5]] w fun e w' => e = .returned (.agg #[.int .i64 q0, .int .i64 q1, .int .i64 q2, .int .i64 q3, .int .i64 q4, .int .i64 q5]) ∧ Below w.heap.size w w'))(H3 : Hid (∀ w, Calls Try.prog 103 #[.agg #[.int .i64 q0, .int .i64 q1, .int .i64 q2, .int .i64 q3, .int .i64 q4, .int .i64 q5]] w fun e w' => e = .returned (.int .u64 (fd : Int)) ∧ Below w.heap.size w w'))(H4 : Hid (∀ w, Calls Try.prog 104 #[.int .u64 (fd : Int)] w fun e w' => e = .returned (.int .i64 h) ∧ Below w.heap.size w w')) (w : World) : Calls Try.prog 106 #[.agg #[.int .i64 a0, .int .i64 a1, .int .i64 a2, .int .i64 a3, .int .i64 a4, .int .i64 a5], .agg #[.int .i64 b0, .int .i64 b1, .int .i64 b2, .int .i64 b3, .int .i64 b4, .int .i64 b5], .agg #[.int .i64 x, .int .i64 y]] w fun e w' => e = .returned (.int .i64 h) ∧ Below w.heap.size w w' := by
  go_enter Try.func106, Try.ntmps106
  go_wp2_with fail
  generalize hW : (World.alloc _ _ : World) = W0
  have q0 : W0.heap[(w.heap.size : Nat)]? = some (Obj.cells #[.int .i64 a0, .int .i64 a1, .int .i64 a2, .int .i64 a3, .int .i64 a4, .int .i64 a5] 28 (0, 0)) := by
    rw [← hW]
    repeat (first | (refine alloc_at ?_; first | (simp; done) | (simp; omega)) | refine drew_row ?_ | refine alloc_past ?_ | assumption)
  have q1 : W0.heap[(w.heap.size + 1 : Nat)]? = some (Obj.cells #[.int .i64 b0, .int .i64 b1, .int .i64 b2, .int .i64 b3, .int .i64 b4, .int .i64 b5] 28 (0, 0)) := by
    rw [← hW]
    repeat (first | (refine alloc_at ?_; first | (simp; done) | (simp; omega)) | refine drew_row ?_ | refine alloc_past ?_ | assumption)
  have q2 : W0.heap[(w.heap.size + 2 : Nat)]? = some (Obj.cells #[.int .i64 x, .int .i64 y] 25 (0, 0)) := by
    rw [← hW]
    repeat (first | (refine alloc_at ?_; first | (simp; done) | (simp; omega)) | refine drew_row ?_ | refine alloc_past ?_ | assumption)
  have hk : KR 3 [(w.heap.size, Obj.cells #[.int .i64 a0, .int .i64 a1, .int .i64 a2, .int .i64 a3, .int .i64 a4, .int .i64 a5] 28 (0, 0)), (w.heap.size + 1, Obj.cells #[.int .i64 b0, .int .i64 b1, .int .i64 b2, .int .i64 b3, .int .i64 b4, .int .i64 b5] 28 (0, 0)), (w.heap.size + 2, Obj.cells #[.int .i64 x, .int .i64 y] 25 (0, 0))] w W0 := ⟨by simp [q0, q1, q2], by rw [← hW]; simp, by rw [← hW]; (repeat (first | exact Below.refl _ _ | assumption | refine Below.setCell ?_ (by first | (simp; done) | (simp; omega)) _ | refine Below.alloc ?_ (by first | (simp; done) | (simp; omega)) _ | refine Below.drew ?_))⟩
  clear hW q0 q1 q2
  have r0_c := fun j => cell_of_row W0 _ j _ _ _ (hk.row (g := w.heap.size) (List.mem_cons_self ..))
  have r1_c := fun j => cell_of_row W0 _ j _ _ _ (hk.row (g := w.heap.size + 1) (List.mem_cons_of_mem _ (List.mem_cons_self ..)))
  have r2_c := fun j => cell_of_row W0 _ j _ _ _ (hk.row (g := w.heap.size + 2) (List.mem_cons_of_mem _ (List.mem_cons_of_mem _ (List.mem_cons_self ..))))
  go_wp2_with fail
  clear r0_c r1_c r2_c
  have hz0 := KR.le hk
  set_option maxRecDepth 8000 in
  go_region_held3 (fun U => U.cell? ⟨w.heap.size, 0, none⟩ = some (.int .i64 a0) ∧ U.cell? ⟨w.heap.size, 1, none⟩ = some (.int .i64 a1) ∧ U.cell? ⟨w.heap.size, 2, none⟩ = some (.int .i64 a2) ∧ U.cell? ⟨w.heap.size, 3, none⟩ = some (.int .i64 a3) ∧ U.cell? ⟨w.heap.size, 4, none⟩ = some (.int .i64 a4) ∧ U.cell? ⟨w.heap.size, 5, none⟩ = some (.int .i64 a5) ∧ U.cell? ⟨w.heap.size + 1, 0, none⟩ = some (.int .i64 b0) ∧ U.cell? ⟨w.heap.size + 1, 1, none⟩ = some (.int .i64 b1) ∧ U.cell? ⟨w.heap.size + 1, 2, none⟩ = some (.int .i64 b2) ∧ U.cell? ⟨w.heap.size + 1, 3, none⟩ = some (.int .i64 b3) ∧ U.cell? ⟨w.heap.size + 1, 4, none⟩ = some (.int .i64 b4) ∧ U.cell? ⟨w.heap.size + 1, 5, none⟩ = some (.int .i64 b5) ∧ U.cell? ⟨w.heap.size + 2, 0, none⟩ = some (.int .i64 x) ∧ U.cell? ⟨w.heap.size + 2, 1, none⟩ = some (.int .i64 y) ∧ KR 3 [(w.heap.size, Obj.cells #[.int .i64 a0, .int .i64 a1, .int .i64 a2, .int .i64 a3, .int .i64 a4, .int .i64 a5] 28 (0, 0)), (w.heap.size + 1, Obj.cells #[.int .i64 b0, .int .i64 b1, .int .i64 b2, .int .i64 b3, .int .i64 b4, .int .i64 b5] 28 (0, 0)), (w.heap.size + 2, Obj.cells #[.int .i64 x, .int .i64 y] 25 (0, 0))] w U) (with_reducible refine SR3 ?_; (repeat (first | with_reducible assumption | with_reducible refine KR.al ?_ | with_reducible refine KR.drew ?_ | with_reducible refine KR.set ?_ (by first | omega | (simp; omega))))) (first | (go_at_call 168; with_reducible refine (H1.out _).mono ?_; rintro e w' ⟨rfl, hb'⟩; have hk : KR 3 [(w.heap.size, Obj.cells #[.int .i64 a0, .int .i64 a1, .int .i64 a2, .int .i64 a3, .int .i64 a4, .int .i64 a5] 28 (0, 0)), (w.heap.size + 1, Obj.cells #[.int .i64 b0, .int .i64 b1, .int .i64 b2, .int .i64 b3, .int .i64 b4, .int .i64 b5] 28 (0, 0)), (w.heap.size + 2, Obj.cells #[.int .i64 x, .int .i64 y] 25 (0, 0))] w w' := KR.far (by (repeat (first | with_reducible assumption | with_reducible refine KR.al ?_ | with_reducible refine KR.drew ?_ | with_reducible refine KR.set ?_ (by first | omega | (simp; omega))))) hb' rfl; have hz0 := KR.le hk) | (go_at_call 132; with_reducible refine (H2.out _).mono ?_; rintro e w' ⟨rfl, hb'⟩; have hk : KR 3 [(w.heap.size, Obj.cells #[.int .i64 a0, .int .i64 a1, .int .i64 a2, .int .i64 a3, .int .i64 a4, .int .i64 a5] 28 (0, 0)), (w.heap.size + 1, Obj.cells #[.int .i64 b0, .int .i64 b1, .int .i64 b2, .int .i64 b3, .int .i64 b4, .int .i64 b5] 28 (0, 0)), (w.heap.size + 2, Obj.cells #[.int .i64 x, .int .i64 y] 25 (0, 0))] w w' := KR.far (by (repeat (first | with_reducible assumption | with_reducible refine KR.al ?_ | with_reducible refine KR.drew ?_ | with_reducible refine KR.set ?_ (by first | omega | (simp; omega))))) hb' rfl; have hz0 := KR.le hk) | (go_at_call 103; with_reducible refine (H3.out _).mono ?_; rintro e w' ⟨rfl, hb'⟩; have hk : KR 3 [(w.heap.size, Obj.cells #[.int .i64 a0, .int .i64 a1, .int .i64 a2, .int .i64 a3, .int .i64 a4, .int .i64 a5] 28 (0, 0)), (w.heap.size + 1, Obj.cells #[.int .i64 b0, .int .i64 b1, .int .i64 b2, .int .i64 b3, .int .i64 b4, .int .i64 b5] 28 (0, 0)), (w.heap.size + 2, Obj.cells #[.int .i64 x, .int .i64 y] 25 (0, 0))] w w' := KR.far (by (repeat (first | with_reducible assumption | with_reducible refine KR.al ?_ | with_reducible refine KR.drew ?_ | with_reducible refine KR.set ?_ (by first | omega | (simp; omega))))) hb' rfl; have hz0 := KR.le hk) | (go_at_call 104; with_reducible refine (H4.out _).mono ?_; rintro e w' ⟨rfl, hb'⟩; have hk : KR 3 [(w.heap.size, Obj.cells #[.int .i64 a0, .int .i64 a1, .int .i64 a2, .int .i64 a3, .int .i64 a4, .int .i64 a5] 28 (0, 0)), (w.heap.size + 1, Obj.cells #[.int .i64 b0, .int .i64 b1, .int .i64 b2, .int .i64 b3, .int .i64 b4, .int .i64 b5] 28 (0, 0)), (w.heap.size + 2, Obj.cells #[.int .i64 x, .int .i64 y] 25 (0, 0))] w w' := KR.far (by (repeat (first | with_reducible assumption | with_reducible refine KR.al ?_ | with_reducible refine KR.drew ?_ | with_reducible refine KR.set ?_ (by first | omega | (simp; omega))))) hb' rfl; have hz0 := KR.le hk))
  all_goals
    have r0_c := fun j => cell_of_row w' _ j _ _ _ (hk.row (g := w.heap.size) (List.mem_cons_self ..))
    have r1_c := fun j => cell_of_row w' _ j _ _ _ (hk.row (g := w.heap.size + 1) (List.mem_cons_of_mem _ (List.mem_cons_self ..)))
    have r2_c := fun j => cell_of_row w' _ j _ _ _ (hk.row (g := w.heap.size + 2) (List.mem_cons_of_mem _ (List.mem_cons_of_mem _ (List.mem_cons_self ..))))
    go_wp2_with fail
    go_ret
    exact ⟨rfl, hk.2.2⟩
/-- How many cells a sheet has in common with a stamp that is shifted to a cell. -/
def cn9 (f g : Fn6) (x y : Nat) : Nat := (pc36 (af f (sf x y g))).toNat
theorem cn9_eq (f g : Fn6) (x y : Nat) : pc36 (af f (sf x y g)) = ((cn9 f g x y : Nat) : Int) ∧ cn9 f g x y < 37 := by
  have := pc36_bd (af f (sf x y g))
  unfold cn9
  omega
theorem commonat_f (f g : Fn6) {x y : Nat} (hx : x < 6) (hy : y < 6) (w : World) : Calls Try.prog 106 #[.agg #[.int .i64 (rowv (f 0)), .int .i64 (rowv (f 1)), .int .i64 (rowv (f 2)), .int .i64 (rowv (f 3)), .int .i64 (rowv (f 4)), .int .i64 (rowv (f 5))], .agg #[.int .i64 (rowv (g 0)), .int .i64 (rowv (g 1)), .int .i64 (rowv (g 2)), .int .i64 (rowv (g 3)), .int .i64 (rowv (g 4)), .int .i64 (rowv (g 5))], .agg #[.int .i64 (x : Int), .int .i64 (y : Int)]] w fun e w' => e = .returned (.int .i64 ((cn9 f g x y : Nat) : Int)) ∧ Below w.heap.size w w' :=
  commonat_go (rowv (f 0)) (rowv (f 1)) (rowv (f 2)) (rowv (f 3)) (rowv (f 4)) (rowv (f 5)) (rowv (g 0)) (rowv (g 1)) (rowv (g 2)) (rowv (g 3)) (rowv (g 4)) (rowv (g 5)) (x : Int) (y : Int) (rowv (sf x y g 0)) (rowv (sf x y g 1)) (rowv (sf x y g 2)) (rowv (sf x y g 3)) (rowv (sf x y g 4)) (rowv (sf x y g 5)) (rowv (af f (sf x y g) 0)) (rowv (af f (sf x y g) 1)) (rowv (af f (sf x y g) 2)) (rowv (af f (sf x y g) 3)) (rowv (af f (sf x y g) 4)) (rowv (af f (sf x y g) 5)) (fd36 (af f (sf x y g))) _ (Lib.hid (shiftedby_n g hx hy)) (Lib.hid (ishared_f f (sf x y g))) (Lib.hid (fieldof_s (af f (sf x y g)))) (Lib.hid (fun w => (cn9_eq f g x y).1 ▸ fsize_s (af f (sf x y g)) w)) w
theorem KR.one {n : Nat} {l : List (Nat × Obj)} {w U : World} {g k : Nat} {o o' : Obj} {v : Value} (h : KR n ((g, o) :: l) w U) (hl : ∀ p ∈ l, p.1 ≠ g) (hg : w.heap.size ≤ g) (hr : (U.setCell ⟨g, k, none⟩ v).heap[g]? = some o') : KR n ((g, o') :: l) w (U.setCell ⟨g, k, none⟩ v) := by
  refine ⟨fun p hp => ?_, by simpa using h.2.1, h.2.2.setCell hg _⟩
  rcases List.mem_cons.mp hp with rfl | hp
  · exact ⟨(h.1 _ (List.mem_cons_self ..)).1, hr⟩
  · refine ⟨(h.1 _ (List.mem_cons_of_mem _ hp)).1, ?_⟩
    rw [Below.heap_setCell _ _ _ _ (hl p hp)]
    exact (h.1 _ (List.mem_cons_of_mem _ hp)).2
set_option maxRecDepth 20000 in
set_option maxHeartbeats 4000000 in
theorem itable_yes (f g : Fn6) (H0 : Hid (∀ w, Calls Try.prog 102 #[.agg #[.int .i64 (rowv (f 0)), .int .i64 (rowv (f 1)), .int .i64 (rowv (f 2)), .int .i64 (rowv (f 3)), .int .i64 (rowv (f 4)), .int .i64 (rowv (f 5))]] w fun e w' => e = .returned (.bool true) ∧ Below w.heap.size w w'))(H1 : Hid (∀ w, Calls Try.prog 102 #[.agg #[.int .i64 (rowv (g 0)), .int .i64 (rowv (g 1)), .int .i64 (rowv (g 2)), .int .i64 (rowv (g 3)), .int .i64 (rowv (g 4)), .int .i64 (rowv (g 5))]] w fun e w' => e = .returned (.bool true) ∧ Below w.heap.size w w')) (w : World) : Calls Try.prog 43 #[.agg #[.int .i64 (rowv (f 0)), .int .i64 (rowv (f 1)), .int .i64 (rowv (f 2)), .int .i64 (rowv (f 3)), .int .i64 (rowv (f 4)), .int .i64 (rowv (f 5))], .agg #[.int .i64 (rowv (g 0)), .int .i64 (rowv (g 1)), .int .i64 (rowv (g 2)), .int .i64 (rowv (g 3)), .int .i64 (rowv (g 4)), .int .i64 (rowv (g 5))]] w fun e w' => e = .returned (.tuple #[tv (ht9 (fun k => cn9 f g (k / 6) (k % 6)) 36), .bool true]) ∧ Below w.heap.size w w' := by
  have HV := Lib.hid vectors_f
  go_enter Try.func43, Try.ntmps43
  go_wp2_with (first | ((with_reducible refine wpAlT (w.heap.size + 2) ?_ ?_); (simp; done)) | ((with_reducible refine wpAlT (w.heap.size + 3) ?_ ?_); (simp; done)))
  generalize hW : (World.alloc _ _ : World) = W0
  have q0 : W0.heap[(w.heap.size : Nat)]? = some (o6 f) := by
    rw [← hW]
    repeat (first | (refine alloc_at ?_; first | (simp; done) | (simp; omega)) | refine drew_row ?_ | refine alloc_past ?_ | assumption)
  have q1 : W0.heap[(w.heap.size + 1 : Nat)]? = some (o6 g) := by
    rw [← hW]
    repeat (first | (refine alloc_at ?_; first | (simp; done) | (simp; omega)) | refine drew_row ?_ | refine alloc_past ?_ | assumption)
  have q2 : W0.heap[(w.heap.size + 2 : Nat)]? = some (tb 37 fun _ => 0) := by
    rw [← hW]
    repeat (first | (refine alloc_at ?_; first | (simp; done) | (simp; omega)) | refine drew_row ?_ | refine alloc_past ?_ | assumption)
  have q3 : W0.heap[(w.heap.size + 3 : Nat)]? = some (tb 37 fun _ => 0) := by
    rw [← hW]
    repeat (first | (refine alloc_at ?_; first | (simp; done) | (simp; omega)) | refine drew_row ?_ | refine alloc_past ?_ | assumption)
  have hk : KR 4 [(w.heap.size + 3, tb 37 (fun _ => 0)), (w.heap.size, o6 f), (w.heap.size + 1, o6 g), (w.heap.size + 2, tb 37 fun _ => 0)] w W0 := ⟨by simp [q0, q1, q2, q3], by rw [← hW]; simp, by rw [← hW]; (repeat (first | exact Below.refl _ _ | assumption | refine Below.setCell ?_ (by first | (simp; done) | (simp; omega)) _ | refine Below.alloc ?_ (by first | (simp; done) | (simp; omega)) _ | refine Below.drew ?_))⟩
  clear hW q0 q1 q2 q3
  have a_c := fun j => cell_of_row W0 _ j _ _ _ (hk.row (g := w.heap.size) (o := o6 f) (by simp))
  go_wp2_with fail
  refine (H0.out _).mono ?_
  rintro e W1 ⟨rfl, hb⟩
  have hk := hk.far hb rfl
  clear hb a_c
  have a_c := fun j => cell_of_row W1 _ j _ _ _ (hk.row (g := w.heap.size + 1) (o := o6 g) (by simp))
  go_wp2_with fail
  refine (H1.out _).mono ?_
  rintro e W2 ⟨rfl, hb⟩
  have hk := hk.far hb rfl
  clear hb a_c H0 H1
  go_wp2_with fail
  refine (HV.out _).mono ?_
  intro e W4 hp
  obtain ⟨gl, cl, rfl, ho, hb⟩ := LP.out hp
  have hl := (ho.lt gl rfl).1
  have ho0 := own_mono ho (Nat.zero_le _)
  have hz := KR.le hk
  have S4 : Hid (KR 4 [(w.heap.size + 3, tb 37 (fun _ => 0)), (w.heap.size, o6 f), (w.heap.size + 1, o6 g), (w.heap.size + 2, tb 37 fun _ => 0)] w W4 ∧ W4.ownsRow 0 25 2 (.slice (some ⟨gl, 0, none⟩) (vl 36).length cl) (vl 36).length (cv (vl 36)) ∧ w.heap.size + 3 ≠ gl) := Lib.hid ⟨hk.far hb rfl, ho0, by omega⟩
  clear hk ho0 hp hb HV hl ho hz
  have h36 : ((vl 36).length : Int) = 36 := by rw [vl_len]; rfl
  go_wp2_with fail
  go_loopw [20] (fun n wr => ∃ k : Nat, k ≤ 36 ∧ n = .int .i64 k ∧ Hid (KR 4 [(w.heap.size + 3, tb 37 (ht9 (fun k => cn9 f g (k / 6) (k % 6)) k)), (w.heap.size, o6 f), (w.heap.size + 1, o6 g), (w.heap.size + 2, tb 37 fun _ => 0)] w wr ∧ wr.ownsRow 0 25 2 (.slice (some ⟨gl, 0, none⟩) (vl 36).length cl) (vl 36).length (cv (vl 36)) ∧ w.heap.size + 3 ≠ gl)) (fun n _ => 36 - (intOf n).toNat)
  case atStart => exact ⟨0, by omega, rfl, S4⟩
  case round =>
    obtain ⟨k, hk, rfl, HS⟩ := hrel
    clear S4
    by_cases hlt : k < 36
    · have hlt' : (k : Int) < 36 := by omega
      have hltv : k < (vl 36).length := by rw [vl_len]; exact hlt
      have hk0 : (0 : Int) ≤ k := by omega
      have hx : k / 6 < 6 := by omega
      have hy : k % 6 < 6 := Nat.mod_lt _ (by decide)
      have HC := Lib.hid (commonat_f f g hx hy)
      obtain ⟨p1, p2⟩ := cv_at (vl 36) k hltv
      rw [vl_get 36 k hltv] at p1 p2
      have a1 := own_at HS.out.2.1 p1
      have a2 := own_at HS.out.2.1 p2
      dsimp only at a1 a2
      clear p1 p2
      have hbd := ht9_bd (fun k => cn9 f g (k / 6) (k % 6)) k (cn9 f g (k / 6) (k % 6))
      have hc37 := (cn9_eq f g (k / 6) (k % 6)).2
      have HST : Hid (uq (ht9 (fun k => cn9 f g (k / 6) (k % 6)) k) (cn9 f g (k / 6) (k % 6)) (ht9 (fun k => cn9 f g (k / 6) (k % 6)) k (cn9 f g (k / 6) (k % 6)) + 1) = ht9 (fun k => cn9 f g (k / 6) (k % 6)) (k + 1)) := Lib.hid rfl
      have hkr := HS.out.1
      have HO := Lib.hid HS.out.2
      clear HS
      generalize ht9 (fun k => cn9 f g (k / 6) (k % 6)) k = m at hkr HST hbd
      generalize cn9 f g (k / 6) (k % 6) = c at *
      generalize k / 6 = x at *
      generalize k % 6 = y at *
      have s_c := fun j => cell_of_row (wr.alloc (.cells #[.int .i64 (x : Int), .int .i64 (y : Int)] 25)) _ j _ _ _ (alloc_past (hkr.row (g := w.heap.size) (o := o6 f) (by simp)))
      have t_c := fun j => cell_of_row (wr.alloc (.cells #[.int .i64 (x : Int), .int .i64 (y : Int)] 25)) _ j _ _ _ (alloc_past (hkr.row (g := w.heap.size + 1) (o := o6 g) (by simp)))
      have n_c := fun j => cell_of_row (wr.alloc (.cells #[.int .i64 (x : Int), .int .i64 (y : Int)] 25)) _ j _ _ _ (alloc_at (g := wr.heap.size) rfl)
      go_wp2_with fail
      refine (HC.out _).mono ?_
      rintro e w1 ⟨rfl, hb⟩
      clear s_c t_c n_c a1 a2 HC
      have hk1 := (hkr.al (o := .cells #[.int .i64 (x : Int), .int .i64 (y : Int)] 25)).far hb rfl
      have ho1 := (HO.out.1.alloc (.cells #[.int .i64 (x : Int), .int .i64 (y : Int)] 25)).kept (grown_below hb rfl) (.inr (by simp [Value.ownBlock]))
      clear hb hkr
      have hrow := hk1.row (g := w.heap.size + 3) (o := tb 37 m) (List.mem_cons_self ..)
      have hcell : w1.cell? ⟨w.heap.size + 3, c, none⟩ = some (.int .i64 (m c)) := by rw [tb_cell hrow, if_pos hc37]
      have hfz : w1.frozen? ⟨w.heap.size + 3, c, none⟩ = false := tb_frozen hrow c
      have hci : (c : Int) < 37 := by omega
      have hc0 : (0 : Int) ≤ c := by omega
      obtain ⟨v, hv⟩ : ∃ v, v = m c + 1 := ⟨_, rfl⟩
      have hw : wrap64 (m c + 1) = v := by rw [hv]; exact wr9 (by omega) (by omega)
      rw [← hv] at HST
      have HP := Lib.hid (hk1.one (k := c) (v := .int .i64 v) (o' := tb 37 (uq m c v)) (by intro p hp; simp only [List.mem_cons, List.mem_nil_iff, or_false] at hp; rcases hp with rfl | rfl | rfl <;> (dsimp only; omega)) (by omega) (tb_set v hc37 hrow))
      have HQ := Lib.hid (ho1.kept (grow_set w1 ⟨w.heap.size + 3, c, none⟩ (.int .i64 v)) (.inr (by have := HO.out.2; simp only [Value.ownBlock, ne_eq, Option.some.injEq]; omega)))
      clear hk1 ho1 hrow hv hbd
      generalize m c = u at *
      go_wp2_with fail
      go_roundw
      case rel => exact ⟨k + 1, by omega, by go_num, Lib.hid ⟨by rw [← HST.out]; exact HP.out, HQ.out, HO.out.2⟩⟩
      case measure => simp [intOf]; omega
    · obtain rfl : k = 36 := by omega
      have hkr := HS.out.1
      clear HS
      obtain ⟨m, hm⟩ : ∃ m, m = ht9 (fun k => cn9 f g (k / 6) (k % 6)) 36 := ⟨_, rfl⟩
      rw [← hm] at hkr
      have HM := Lib.hid hm
      clear hm
      have q3 := hkr.row (g := w.heap.size + 3) (o := tb 37 m) (List.mem_cons_self ..)
      have q2 := hkr.row (g := w.heap.size + 2) (o := tb 37 fun _ => 0) (by simp)
      have hB := hkr.2.2
      clear hkr
      go_wp2_with (first | ((with_reducible refine wpL37 (w.heap.size + 3) 37 m q3 _ Try.underlying37 ?_ ?_ ?_ ?_); rfl; rfl; kernel_rfl) | ((with_reducible refine wpS37 (w.heap.size + 2) m 37 _ q2 ?_ ?_ ?_ ?_); rfl; rfl; kernel_rfl))
      have hr := tb_sets m q2
      have hB' := setCells_below (b := w.heap.size + 2) (cs37 m) 0 hB (by omega)
      clear q2 q3 hB
      generalize (World.setCells _ _ _ _ : World) = X at hr hB' ⊢
      exact bodyPost_ret (v := .tuple #[tv m, .bool true]) (res36b (a := 4) (b := 5) (t := 37) rfl rfl rfl (run_load37 hr _ _ Try.underlying37 rfl (by kernel_rfl))) rfl ⟨by rw [HM.out], hB'⟩
set_option maxRecDepth 20000 in
set_option maxHeartbeats 2000000 in
theorem itable_n0 (a0 a1 a2 a3 a4 a5 : Int) (b0 b1 b2 b3 b4 b5 : Int) (H0 : Hid (∀ w, Calls Try.prog 102 #[.agg #[.int .i64 a0, .int .i64 a1, .int .i64 a2, .int .i64 a3, .int .i64 a4, .int .i64 a5]] w fun e w' => e = .returned (.bool false) ∧ Below w.heap.size w w')) (w : World) : Calls Try.prog 43 #[.agg #[.int .i64 a0, .int .i64 a1, .int .i64 a2, .int .i64 a3, .int .i64 a4, .int .i64 a5], .agg #[.int .i64 b0, .int .i64 b1, .int .i64 b2, .int .i64 b3, .int .i64 b4, .int .i64 b5]] w fun e w' => e = .returned (.tuple #[tv fun _ => 0, .bool false]) ∧ Below w.heap.size w w' := by
  go_enter Try.func43, Try.ntmps43
  go_wp2_with (first | ((with_reducible refine wpAlT (w.heap.size + 2) ?_ ?_); (simp; done)) | ((with_reducible refine wpAlT (w.heap.size + 3) ?_ ?_); (simp; done)))
  generalize hW : (World.alloc _ _ : World) = W0
  have q0 : W0.heap[(w.heap.size : Nat)]? = some (Obj.cells #[.int .i64 a0, .int .i64 a1, .int .i64 a2, .int .i64 a3, .int .i64 a4, .int .i64 a5] 28 (0, 0)) := by
    rw [← hW]
    repeat (first | (refine alloc_at ?_; first | (simp; done) | (simp; omega)) | refine drew_row ?_ | refine alloc_past ?_ | assumption)
  have q1 : W0.heap[(w.heap.size + 1 : Nat)]? = some (Obj.cells #[.int .i64 b0, .int .i64 b1, .int .i64 b2, .int .i64 b3, .int .i64 b4, .int .i64 b5] 28 (0, 0)) := by
    rw [← hW]
    repeat (first | (refine alloc_at ?_; first | (simp; done) | (simp; omega)) | refine drew_row ?_ | refine alloc_past ?_ | assumption)
  have q2 : W0.heap[(w.heap.size + 2 : Nat)]? = some (tb 37 fun _ => 0) := by
    rw [← hW]
    repeat (first | (refine alloc_at ?_; first | (simp; done) | (simp; omega)) | refine drew_row ?_ | refine alloc_past ?_ | assumption)
  have q3 : W0.heap[(w.heap.size + 3 : Nat)]? = some (tb 37 fun _ => 0) := by
    rw [← hW]
    repeat (first | (refine alloc_at ?_; first | (simp; done) | (simp; omega)) | refine drew_row ?_ | refine alloc_past ?_ | assumption)
  have hk : KR 4 [(w.heap.size + 3, tb 37 fun _ => 0), (w.heap.size, Obj.cells #[.int .i64 a0, .int .i64 a1, .int .i64 a2, .int .i64 a3, .int .i64 a4, .int .i64 a5] 28 (0, 0)), (w.heap.size + 1, Obj.cells #[.int .i64 b0, .int .i64 b1, .int .i64 b2, .int .i64 b3, .int .i64 b4, .int .i64 b5] 28 (0, 0)), (w.heap.size + 2, tb 37 fun _ => 0)] w W0 := ⟨by simp [q0, q1, q2, q3], by rw [← hW]; simp, by rw [← hW]; (repeat (first | exact Below.refl _ _ | assumption | refine Below.setCell ?_ (by first | (simp; done) | (simp; omega)) _ | refine Below.alloc ?_ (by first | (simp; done) | (simp; omega)) _ | refine Below.drew ?_))⟩
  clear hW q0 q1 q2 q3
  have a_c := fun j => cell_of_row W0 _ j _ _ _ (hk.row (g := w.heap.size) (o := Obj.cells #[.int .i64 a0, .int .i64 a1, .int .i64 a2, .int .i64 a3, .int .i64 a4, .int .i64 a5] 28 (0, 0)) (by simp))
  go_wp2_with fail
  refine (H0.out _).mono ?_
  rintro e W1 ⟨rfl, hb⟩
  have hk := hk.far hb rfl
  clear hb a_c
  have q3 := hk.row (g := w.heap.size + 3) (o := tb 37 fun _ => 0) (List.mem_cons_self ..)
  have q2 := hk.row (g := w.heap.size + 2) (o := tb 37 fun _ => 0) (by simp)
  have hB := hk.2.2
  clear hk
  go_wp2_with (first | ((with_reducible refine wpL37 (w.heap.size + 3) 37 (fun _ => 0) q3 _ Try.underlying37 ?_ ?_ ?_ ?_); rfl; rfl; kernel_rfl) | ((with_reducible refine wpS37 (w.heap.size + 2) (fun _ => 0) 37 _ q2 ?_ ?_ ?_ ?_); rfl; rfl; kernel_rfl))
  have hr := tb_sets (fun _ => 0) q2
  have hB' := setCells_below (b := w.heap.size + 2) (cs37 fun _ => 0) 0 hB (by omega)
  clear q2 q3 hB
  generalize (World.setCells _ _ _ _ : World) = X at hr hB' ⊢
  exact bodyPost_ret (v := .tuple #[tv fun _ => 0, .bool false]) (res36b (a := 4) (b := 5) (t := 37) rfl rfl rfl (run_load37 hr _ _ Try.underlying37 rfl (by kernel_rfl))) rfl ⟨rfl, hB'⟩
set_option maxRecDepth 20000 in
set_option maxHeartbeats 2000000 in
theorem itable_n1 (a0 a1 a2 a3 a4 a5 : Int) (b0 b1 b2 b3 b4 b5 : Int) (H0 : Hid (∀ w, Calls Try.prog 102 #[.agg #[.int .i64 a0, .int .i64 a1, .int .i64 a2, .int .i64 a3, .int .i64 a4, .int .i64 a5]] w fun e w' => e = .returned (.bool true) ∧ Below w.heap.size w w'))(H1 : Hid (∀ w, Calls Try.prog 102 #[.agg #[.int .i64 b0, .int .i64 b1, .int .i64 b2, .int .i64 b3, .int .i64 b4, .int .i64 b5]] w fun e w' => e = .returned (.bool false) ∧ Below w.heap.size w w')) (w : World) : Calls Try.prog 43 #[.agg #[.int .i64 a0, .int .i64 a1, .int .i64 a2, .int .i64 a3, .int .i64 a4, .int .i64 a5], .agg #[.int .i64 b0, .int .i64 b1, .int .i64 b2, .int .i64 b3, .int .i64 b4, .int .i64 b5]] w fun e w' => e = .returned (.tuple #[tv fun _ => 0, .bool false]) ∧ Below w.heap.size w w' := by
  go_enter Try.func43, Try.ntmps43
  go_wp2_with (first | ((with_reducible refine wpAlT (w.heap.size + 2) ?_ ?_); (simp; done)) | ((with_reducible refine wpAlT (w.heap.size + 3) ?_ ?_); (simp; done)))
  generalize hW : (World.alloc _ _ : World) = W0
  have q0 : W0.heap[(w.heap.size : Nat)]? = some (Obj.cells #[.int .i64 a0, .int .i64 a1, .int .i64 a2, .int .i64 a3, .int .i64 a4, .int .i64 a5] 28 (0, 0)) := by
    rw [← hW]
    repeat (first | (refine alloc_at ?_; first | (simp; done) | (simp; omega)) | refine drew_row ?_ | refine alloc_past ?_ | assumption)
  have q1 : W0.heap[(w.heap.size + 1 : Nat)]? = some (Obj.cells #[.int .i64 b0, .int .i64 b1, .int .i64 b2, .int .i64 b3, .int .i64 b4, .int .i64 b5] 28 (0, 0)) := by
    rw [← hW]
    repeat (first | (refine alloc_at ?_; first | (simp; done) | (simp; omega)) | refine drew_row ?_ | refine alloc_past ?_ | assumption)
  have q2 : W0.heap[(w.heap.size + 2 : Nat)]? = some (tb 37 fun _ => 0) := by
    rw [← hW]
    repeat (first | (refine alloc_at ?_; first | (simp; done) | (simp; omega)) | refine drew_row ?_ | refine alloc_past ?_ | assumption)
  have q3 : W0.heap[(w.heap.size + 3 : Nat)]? = some (tb 37 fun _ => 0) := by
    rw [← hW]
    repeat (first | (refine alloc_at ?_; first | (simp; done) | (simp; omega)) | refine drew_row ?_ | refine alloc_past ?_ | assumption)
  have hk : KR 4 [(w.heap.size + 3, tb 37 fun _ => 0), (w.heap.size, Obj.cells #[.int .i64 a0, .int .i64 a1, .int .i64 a2, .int .i64 a3, .int .i64 a4, .int .i64 a5] 28 (0, 0)), (w.heap.size + 1, Obj.cells #[.int .i64 b0, .int .i64 b1, .int .i64 b2, .int .i64 b3, .int .i64 b4, .int .i64 b5] 28 (0, 0)), (w.heap.size + 2, tb 37 fun _ => 0)] w W0 := ⟨by simp [q0, q1, q2, q3], by rw [← hW]; simp, by rw [← hW]; (repeat (first | exact Below.refl _ _ | assumption | refine Below.setCell ?_ (by first | (simp; done) | (simp; omega)) _ | refine Below.alloc ?_ (by first | (simp; done) | (simp; omega)) _ | refine Below.drew ?_))⟩
  clear hW q0 q1 q2 q3
  have a_c := fun j => cell_of_row W0 _ j _ _ _ (hk.row (g := w.heap.size) (o := Obj.cells #[.int .i64 a0, .int .i64 a1, .int .i64 a2, .int .i64 a3, .int .i64 a4, .int .i64 a5] 28 (0, 0)) (by simp))
  go_wp2_with fail
  refine (H0.out _).mono ?_
  rintro e W1 ⟨rfl, hb⟩
  have hk := hk.far hb rfl
  clear hb a_c
  have a_c := fun j => cell_of_row W1 _ j _ _ _ (hk.row (g := w.heap.size + 1) (o := Obj.cells #[.int .i64 b0, .int .i64 b1, .int .i64 b2, .int .i64 b3, .int .i64 b4, .int .i64 b5] 28 (0, 0)) (by simp))
  go_wp2_with fail
  refine (H1.out _).mono ?_
  rintro e W2 ⟨rfl, hb⟩
  have hk := hk.far hb rfl
  clear hb a_c
  have q3 := hk.row (g := w.heap.size + 3) (o := tb 37 fun _ => 0) (List.mem_cons_self ..)
  have q2 := hk.row (g := w.heap.size + 2) (o := tb 37 fun _ => 0) (by simp)
  have hB := hk.2.2
  clear hk
  go_wp2_with (first | ((with_reducible refine wpL37 (w.heap.size + 3) 37 (fun _ => 0) q3 _ Try.underlying37 ?_ ?_ ?_ ?_); rfl; rfl; kernel_rfl) | ((with_reducible refine wpS37 (w.heap.size + 2) (fun _ => 0) 37 _ q2 ?_ ?_ ?_ ?_); rfl; rfl; kernel_rfl))
  have hr := tb_sets (fun _ => 0) q2
  have hB' := setCells_below (b := w.heap.size + 2) (cs37 fun _ => 0) 0 hB (by omega)
  clear q2 q3 hB
  generalize (World.setCells _ _ _ _ : World) = X at hr hB' ⊢
  exact bodyPost_ret (v := .tuple #[tv fun _ => 0, .bool false]) (res36b (a := 4) (b := 5) (t := 37) rfl rfl rfl (run_load37 hr _ _ Try.underlying37 rfl (by kernel_rfl))) rfl ⟨rfl, hB'⟩
/- Pt9 -/
/-- At how many cells a stamp has so many cells in common with a sheet. -/
def tbm (f g : Fn6) : Nat → Int := ht9 (fun k => cn9 f g (k / 6) (k % 6)) 36
theorem tbm_nat (f g : Fn6) (j : Nat) : ∃ ft : Nat, tbm f g j = (ft : Int) ∧ ft ≤ 36 := by
  have := ht9_bd (fun k => cn9 f g (k / 6) (k % 6)) 36 j
  exact ⟨(tbm f g j).toNat, by unfold tbm; omega, by unfold tbm; omega⟩
theorem itab_h (f g : Fn6) : Hid (∀ w, Calls Try.prog 43 #[.agg #[.int .i64 (rowv (f 0)), .int .i64 (rowv (f 1)), .int .i64 (rowv (f 2)), .int .i64 (rowv (f 3)), .int .i64 (rowv (f 4)), .int .i64 (rowv (f 5))], .agg #[.int .i64 (rowv (g 0)), .int .i64 (rowv (g 1)), .int .i64 (rowv (g 2)), .int .i64 (rowv (g 3)), .int .i64 (rowv (g 4)), .int .i64 (rowv (g 5))]] w fun e w' => e = .returned (.tuple #[tv (tbm f g), .bool true]) ∧ Below w.heap.size w w') := Lib.hid (itable_yes f g (sh_ai (rowv (f 0)) (rowv (f 1)) (rowv (f 2)) (rowv (f 3)) (rowv (f 4)) (rowv (f 5)) (sh_of f)) (sh_ai (rowv (g 0)) (rowv (g 1)) (rowv (g 2)) (rowv (g 3)) (rowv (g 4)) (rowv (g 5)) (sh_of g)))
theorem itab_bad (a0 a1 a2 a3 a4 a5 : Int) (b0 b1 b2 b3 b4 b5 : Int) (h : (ok a0 && ok a1 && ok a2 && ok a3 && ok a4 && ok a5) = false ∨ (ok b0 && ok b1 && ok b2 && ok b3 && ok b4 && ok b5) = false) : Hid (∀ w, Calls Try.prog 43 #[.agg #[.int .i64 a0, .int .i64 a1, .int .i64 a2, .int .i64 a3, .int .i64 a4, .int .i64 a5], .agg #[.int .i64 b0, .int .i64 b1, .int .i64 b2, .int .i64 b3, .int .i64 b4, .int .i64 b5]] w fun e w' => e = .returned (.tuple #[tv fun _ => 0, .bool false]) ∧ Below w.heap.size w w') := by
  cases ha : (ok a0 && ok a1 && ok a2 && ok a3 && ok a4 && ok a5)
  · exact Lib.hid (itable_n0 a0 a1 a2 a3 a4 a5 b0 b1 b2 b3 b4 b5 (sh_ai a0 a1 a2 a3 a4 a5 ha))
  · rcases h with h | h
    · rw [ha] at h; cases h
    · exact Lib.hid (itable_n1 a0 a1 a2 a3 a4 a5 b0 b1 b2 b3 b4 b5 (sh_ai a0 a1 a2 a3 a4 a5 ha) (sh_ai b0 b1 b2 b3 b4 b5 h))
/- Ty9 -/
/-- The most among the first k, and the first place that has it. -/
def mx9 (c : Nat → Nat) : Nat → Int
  | 0 => -1
  | k + 1 => if mx9 c k < (c k : Int) then (c k : Int) else mx9 c k
def am9 (c : Nat → Nat) : Nat → Nat
  | 0 => 0
  | k + 1 => if mx9 c k < (c k : Int) then k else am9 c k
theorem mx9_ge (c : Nat → Nat) : ∀ k i, i < k → (c i : Int) ≤ mx9 c k
  | k + 1, i, h => by
    unfold mx9
    by_cases e : i = k
    · subst e; split <;> omega
    · have := mx9_ge c k i (by omega)
      split <;> omega
theorem am9_spec (c : Nat → Nat) : ∀ k, 0 < k → am9 c k < k ∧ mx9 c k = (c (am9 c k) : Int) ∧ ∀ i, i < am9 c k → (c i : Int) < mx9 c k
  | 1, _ => by
    have h : mx9 c 0 < (c 0 : Int) := by show (-1 : Int) < _; omega
    refine ⟨?_, ?_, ?_⟩
    · show (if mx9 c 0 < (c 0 : Int) then 0 else am9 c 0) < 1
      rw [if_pos h]; omega
    · show (if mx9 c 0 < (c 0 : Int) then (c 0 : Int) else mx9 c 0) = (c (if mx9 c 0 < (c 0 : Int) then 0 else am9 c 0) : Int)
      rw [if_pos h, if_pos h]
    · intro i hi
      have : am9 c 1 = 0 := by show (if mx9 c 0 < (c 0 : Int) then 0 else am9 c 0) = 0; rw [if_pos h]
      omega
  | k + 2, _ => by
    obtain ⟨h1, h2, h3⟩ := am9_spec c (k + 1) (by omega)
    have e1 : mx9 c (k + 2) = if mx9 c (k + 1) < (c (k + 1) : Int) then (c (k + 1) : Int) else mx9 c (k + 1) := rfl
    have e2 : am9 c (k + 2) = if mx9 c (k + 1) < (c (k + 1) : Int) then k + 1 else am9 c (k + 1) := rfl
    by_cases h : mx9 c (k + 1) < (c (k + 1) : Int)
    · rw [if_pos h] at e1 e2
      rw [e1, e2]
      exact ⟨by omega, rfl, fun i hi => by have := mx9_ge c (k + 1) i hi; omega⟩
    · rw [if_neg h] at e1 e2
      rw [e1, e2]
      exact ⟨by omega, h2, h3⟩
theorem ht9_zero (c : Nat → Nat) (k j : Nat) : ht9 c k j = 0 ↔ ∀ i, i < k → c i ≠ j := by
  rw [ht9_count]
  constructor
  · intro h i hi e
    have h0 : ((List.range k).map c).count j = 0 := by omega
    exact List.count_eq_zero.mp h0 (e ▸ List.mem_map.mpr ⟨i, List.mem_range.mpr hi, rfl⟩)
  · intro h
    have h0 : ((List.range k).map c).count j = 0 := List.count_eq_zero.mpr (by
      intro hm
      obtain ⟨i, hi, e⟩ := List.mem_map.mp hm
      exact h i (List.mem_range.mp hi) e)
    omega
theorem int_pred {j : Nat} (h : 0 < j) : Value.int .i64 ((j : Int) - 1) = .int .i64 ((j - 1 : Nat) : Int) := by rw [show ((j - 1 : Nat) : Int) = (j : Int) - 1 by omega]
set_option maxRecDepth 20000 in
set_option maxHeartbeats 4000000 in
theorem ibc_go (a0 a1 a2 a3 a4 a5 : Int) (b0 b1 b2 b3 b4 b5 : Int) (m : Nat → Int) (cn : Nat → Nat → Nat) (am M : Nat) (ham : am < 36) (hM : M ≤ 36) (hz : ∀ j, M < j → j ≤ 36 → m j = 0) (hnz : ¬ m M = 0) (hca : cn (am % 6) (am / 6) = M) (hcl : ∀ x y, x < 6 → y < 6 → 6 * y + x < am → cn x y < M) (HT : Hid (∀ w, Calls Try.prog 43 #[.agg #[.int .i64 a0, .int .i64 a1, .int .i64 a2, .int .i64 a3, .int .i64 a4, .int .i64 a5], .agg #[.int .i64 b0, .int .i64 b1, .int .i64 b2, .int .i64 b3, .int .i64 b4, .int .i64 b5]] w fun e w' => e = .returned (.tuple #[tv m, .bool true]) ∧ Below w.heap.size w w'))(HC : Hid (∀ x y : Nat, x < 6 → y < 6 → ∀ w, Calls Try.prog 106 #[.agg #[.int .i64 a0, .int .i64 a1, .int .i64 a2, .int .i64 a3, .int .i64 a4, .int .i64 a5], .agg #[.int .i64 b0, .int .i64 b1, .int .i64 b2, .int .i64 b3, .int .i64 b4, .int .i64 b5], .agg #[.int .i64 (x : Int), .int .i64 (y : Int)]] w fun e w' => e = .returned (.int .i64 ((cn x y : Nat) : Int)) ∧ Below w.heap.size w w')) (w : World) : Calls Try.prog 50 #[.agg #[.int .i64 a0, .int .i64 a1, .int .i64 a2, .int .i64 a3, .int .i64 a4, .int .i64 a5], .agg #[.int .i64 b0, .int .i64 b1, .int .i64 b2, .int .i64 b3, .int .i64 b4, .int .i64 b5]] w fun e w' => e = .returned (.tuple #[.agg #[.int .i64 ((am % 6 : Nat) : Int), .int .i64 ((am / 6 : Nat) : Int)], .int .i64 (M : Int), .bool true]) ∧ Below w.heap.size w w' := by
  have hM0 : (0 : Int) ≤ M := by omega
  go_enter Try.func50, Try.ntmps50
  go_wp2_with fail
  generalize hW : (World.alloc _ _ : World) = W0
  have q0 : W0.heap[(w.heap.size : Nat)]? = some (Obj.cells #[.int .i64 a0, .int .i64 a1, .int .i64 a2, .int .i64 a3, .int .i64 a4, .int .i64 a5] 28 (0, 0)) := by
    rw [← hW]
    repeat (first | (refine alloc_at ?_; first | (simp; done) | (simp; omega)) | refine drew_row ?_ | refine alloc_past ?_ | assumption)
  have q1 : W0.heap[(w.heap.size + 1 : Nat)]? = some (Obj.cells #[.int .i64 b0, .int .i64 b1, .int .i64 b2, .int .i64 b3, .int .i64 b4, .int .i64 b5] 28 (0, 0)) := by
    rw [← hW]
    repeat (first | (refine alloc_at ?_; first | (simp; done) | (simp; omega)) | refine drew_row ?_ | refine alloc_past ?_ | assumption)
  have hq : W0.heap[(w.heap.size + 2 : Nat)]? = some (Obj.cells #[.int .i64 0, .int .i64 0] 25 (0, 0)) := by
    rw [← hW]
    repeat (first | (refine alloc_at ?_; first | (simp; done) | (simp; omega)) | refine drew_row ?_ | refine alloc_past ?_ | assumption)
  have hk : KR 2 [(w.heap.size, Obj.cells #[.int .i64 a0, .int .i64 a1, .int .i64 a2, .int .i64 a3, .int .i64 a4, .int .i64 a5] 28 (0, 0)), (w.heap.size + 1, Obj.cells #[.int .i64 b0, .int .i64 b1, .int .i64 b2, .int .i64 b3, .int .i64 b4, .int .i64 b5] 28 (0, 0))] w W0 := ⟨by simp [q0, q1], by rw [← hW]; simp, by rw [← hW]; (repeat (first | exact Below.refl _ _ | assumption | refine Below.setCell ?_ (by first | (simp; done) | (simp; omega)) _ | refine Below.alloc ?_ (by first | (simp; done) | (simp; omega)) _ | refine Below.drew ?_))⟩
  clear hW q0 q1
  go_step3
  have r0_c := fun j => cell_of_row W0 _ j _ _ _ (hk.row (g := w.heap.size) (List.mem_cons_self ..))
  have r1_c := fun j => cell_of_row W0 _ j _ _ _ (hk.row (g := w.heap.size + 1) (List.mem_cons_of_mem _ (List.mem_cons_self ..)))
  have z_c := fun j => cell_of_row W0 _ j _ _ _ hq
  have z_f := fun j => frozen_of_row W0 _ j _ _ hq
  go_wp2_with fail
  refine (HT.out _).mono ?_
  rintro e W1 ⟨rfl, hb⟩
  clear r0_c r1_c z_c z_f
  have hk := hk.far hb rfl
  have hq := rowk hq hb rfl
  have HZ : Hid ((W1.alloc (.cells #[.int .i64 0, .int .i64 0, .int .i64 0, .int .i64 0, .int .i64 0, .int .i64 0, .int .i64 0, .int .i64 0, .int .i64 0, .int .i64 0, .int .i64 0, .int .i64 0, .int .i64 0, .int .i64 0, .int .i64 0, .int .i64 0, .int .i64 0, .int .i64 0, .int .i64 0, .int .i64 0, .int .i64 0, .int .i64 0, .int .i64 0, .int .i64 0, .int .i64 0, .int .i64 0, .int .i64 0, .int .i64 0, .int .i64 0, .int .i64 0, .int .i64 0, .int .i64 0, .int .i64 0, .int .i64 0, .int .i64 0, .int .i64 0, .int .i64 0] 37)).heap[W1.heap.size]? = some (tb 37 fun _ => 0)) := Lib.hid (alloc_at rfl)
  have hlk := KR.le hk
  have S2 : Hid (KR 2 [(w.heap.size, Obj.cells #[.int .i64 a0, .int .i64 a1, .int .i64 a2, .int .i64 a3, .int .i64 a4, .int .i64 a5] 28 (0, 0)), (w.heap.size + 1, Obj.cells #[.int .i64 b0, .int .i64 b1, .int .i64 b2, .int .i64 b3, .int .i64 b4, .int .i64 b5] 28 (0, 0))] w ((W1.alloc (.cells #[.int .i64 0, .int .i64 0, .int .i64 0, .int .i64 0, .int .i64 0, .int .i64 0, .int .i64 0, .int .i64 0, .int .i64 0, .int .i64 0, .int .i64 0, .int .i64 0, .int .i64 0, .int .i64 0, .int .i64 0, .int .i64 0, .int .i64 0, .int .i64 0, .int .i64 0, .int .i64 0, .int .i64 0, .int .i64 0, .int .i64 0, .int .i64 0, .int .i64 0, .int .i64 0, .int .i64 0, .int .i64 0, .int .i64 0, .int .i64 0, .int .i64 0, .int .i64 0, .int .i64 0, .int .i64 0, .int .i64 0, .int .i64 0, .int .i64 0] 37)).setCells W1.heap.size 0 (cs37 m)) ∧ ((W1.alloc (.cells #[.int .i64 0, .int .i64 0, .int .i64 0, .int .i64 0, .int .i64 0, .int .i64 0, .int .i64 0, .int .i64 0, .int .i64 0, .int .i64 0, .int .i64 0, .int .i64 0, .int .i64 0, .int .i64 0, .int .i64 0, .int .i64 0, .int .i64 0, .int .i64 0, .int .i64 0, .int .i64 0, .int .i64 0, .int .i64 0, .int .i64 0, .int .i64 0, .int .i64 0, .int .i64 0, .int .i64 0, .int .i64 0, .int .i64 0, .int .i64 0, .int .i64 0, .int .i64 0, .int .i64 0, .int .i64 0, .int .i64 0, .int .i64 0, .int .i64 0] 37)).setCells W1.heap.size 0 (cs37 m)).heap[W1.heap.size]? = some (tb 37 m) ∧ w.heap.size + 2 ≤ W1.heap.size ∧ ((W1.alloc (.cells #[.int .i64 0, .int .i64 0, .int .i64 0, .int .i64 0, .int .i64 0, .int .i64 0, .int .i64 0, .int .i64 0, .int .i64 0, .int .i64 0, .int .i64 0, .int .i64 0, .int .i64 0, .int .i64 0, .int .i64 0, .int .i64 0, .int .i64 0, .int .i64 0, .int .i64 0, .int .i64 0, .int .i64 0, .int .i64 0, .int .i64 0, .int .i64 0, .int .i64 0, .int .i64 0, .int .i64 0, .int .i64 0, .int .i64 0, .int .i64 0, .int .i64 0, .int .i64 0, .int .i64 0, .int .i64 0, .int .i64 0, .int .i64 0, .int .i64 0] 37)).setCells W1.heap.size 0 (cs37 m)).heap[w.heap.size + 2]? = some (Obj.cells #[.int .i64 0, .int .i64 0] 25 (0, 0))) := by
    have hS : Below W1.heap.size W1 ((W1.alloc (.cells #[.int .i64 0, .int .i64 0, .int .i64 0, .int .i64 0, .int .i64 0, .int .i64 0, .int .i64 0, .int .i64 0, .int .i64 0, .int .i64 0, .int .i64 0, .int .i64 0, .int .i64 0, .int .i64 0, .int .i64 0, .int .i64 0, .int .i64 0, .int .i64 0, .int .i64 0, .int .i64 0, .int .i64 0, .int .i64 0, .int .i64 0, .int .i64 0, .int .i64 0, .int .i64 0, .int .i64 0, .int .i64 0, .int .i64 0, .int .i64 0, .int .i64 0, .int .i64 0, .int .i64 0, .int .i64 0, .int .i64 0, .int .i64 0, .int .i64 0] 37)).setCells W1.heap.size 0 (cs37 m)) := setCells_below (cs37 m) 0 ((Below.refl _ _).alloc (Nat.le_refl _) _) (Nat.le_refl _)
    exact Lib.hid ⟨hk.far hS rfl, tb_sets m HZ.out, hlk, rowk hq hS rfl⟩
  clear hb hk hlk hq
  go_wp2_with ((with_reducible refine wpS37 W1.heap.size m 37 _ HZ.out ?_ ?_ ?_ ?_); rfl; rfl; kernel_rfl; clear HZ; generalize (World.setCells _ _ _ _ : World) = X at S2 ⊢; generalize W1.heap.size = G at S2 ⊢; have hk := S2.out.1; have hr := S2.out.2.1; have hlk := S2.out.2.2.1; have hq := S2.out.2.2.2; clear S2)
  have hB3 : w.heap.size + 3 ≤ X.heap.size := by have := row_lt hq; omega
  have HS := Lib.hid (show KR 2 [(w.heap.size, Obj.cells #[.int .i64 a0, .int .i64 a1, .int .i64 a2, .int .i64 a3, .int .i64 a4, .int .i64 a5] 28 (0, 0)), (w.heap.size + 1, Obj.cells #[.int .i64 b0, .int .i64 b1, .int .i64 b2, .int .i64 b3, .int .i64 b4, .int .i64 b5] 28 (0, 0))] w X ∧ X.heap[w.heap.size + 2]? = some (Obj.cells #[.int .i64 0, .int .i64 0] 25 (0, 0)) ∧ X.heap[G]? = some (tb 37 m) from ⟨hk, hq, hr⟩)
  clear hk hq hr HT hlk
  go_loop [9] (fun n => ∃ j : Nat, M ≤ j ∧ j ≤ 36 ∧ n = .int .i64 j) (fun n => (intOf n).toNat)
  case atStart => exact ⟨36, hM, by omega, rfl⟩
  case round =>
    obtain ⟨j, hj1, hj2, rfl⟩ := hrel
    have hc := (tb_cell HS.out.2.2 j).trans (if_pos (by omega))
    have hji : (j : Int) < 37 := by omega
    have hj0 : (0 : Int) ≤ j := by omega
    by_cases hjm : j = M
    · obtain rfl : M = j := hjm.symm
      have hne := hnz
      have hneb : (m M == 0) = false := by simpa using hnz
      have HNZ := Lib.hid hnz
      generalize hmj : m M = u at hc hne hneb
      clear hmj hnz hz
      have hl1 := KR.le HS.out.1
      have S3 : Hid (KR 2 [(w.heap.size, Obj.cells #[.int .i64 a0, .int .i64 a1, .int .i64 a2, .int .i64 a3, .int .i64 a4, .int .i64 a5] 28 (0, 0)), (w.heap.size + 1, Obj.cells #[.int .i64 b0, .int .i64 b1, .int .i64 b2, .int .i64 b3, .int .i64 b4, .int .i64 b5] 28 (0, 0))] w (X.alloc (.cells #[.int .i64 0, .int .i64 0] 25)) ∧ (X.alloc (.cells #[.int .i64 0, .int .i64 0] 25)).heap[w.heap.size + 2]? = some (Obj.cells #[.int .i64 0, .int .i64 0] 25 (0, 0)) ∧ (∃ u v, (X.alloc (.cells #[.int .i64 0, .int .i64 0] 25)).heap[X.heap.size]? = some (Obj.cells #[.int .i64 u, .int .i64 v] 25 (0, 0))) ∧ w.heap.size + 3 ≤ X.heap.size) := Lib.hid ⟨HS.out.1.al, alloc_past HS.out.2.1, ⟨0, 0, alloc_at rfl⟩, hB3⟩
      go_wp2_with fail
      go_step3
      go_wp2_with fail
      clear hc hne hneb HS hl1 hB3
      generalize X.heap.size = Bb at S3 ⊢
      generalize (World.alloc _ _ : World) = Y at S3 ⊢
      go_loopw [28] (fun n wr => ∃ y : Nat, 6 * y ≤ am ∧ n = .int .i64 y ∧ Hid (KR 2 [(w.heap.size, Obj.cells #[.int .i64 a0, .int .i64 a1, .int .i64 a2, .int .i64 a3, .int .i64 a4, .int .i64 a5] 28 (0, 0)), (w.heap.size + 1, Obj.cells #[.int .i64 b0, .int .i64 b1, .int .i64 b2, .int .i64 b3, .int .i64 b4, .int .i64 b5] 28 (0, 0))] w wr ∧ wr.heap[w.heap.size + 2]? = some (Obj.cells #[.int .i64 0, .int .i64 0] 25 (0, 0)) ∧ (∃ u v, wr.heap[Bb]? = some (Obj.cells #[.int .i64 u, .int .i64 v] 25 (0, 0))) ∧ w.heap.size + 3 ≤ Bb)) (fun n _ => 6 - (intOf n).toNat)
      case atStart => exact ⟨0, by omega, rfl, S3⟩
      case round =>
        obtain ⟨y, hy, rfl, HX⟩ := hrel
        clear S3
        have hyi : (y : Int) < 6 := by omega
        have hy6 : y < 6 := by omega
        have hly2 : decide ((y : Int) < (6 : Int)) = true := decide_eq_true hyi
        go_wp2_with fail
        try rw [hly2]
        clear hly2
        go_loopw [31] (fun n wr => ∃ x : Nat, x ≤ 6 ∧ 6 * y + x ≤ am ∧ n = .int .i64 x ∧ Hid (KR 2 [(w.heap.size, Obj.cells #[.int .i64 a0, .int .i64 a1, .int .i64 a2, .int .i64 a3, .int .i64 a4, .int .i64 a5] 28 (0, 0)), (w.heap.size + 1, Obj.cells #[.int .i64 b0, .int .i64 b1, .int .i64 b2, .int .i64 b3, .int .i64 b4, .int .i64 b5] 28 (0, 0))] w wr ∧ wr.heap[w.heap.size + 2]? = some (Obj.cells #[.int .i64 0, .int .i64 0] 25 (0, 0)) ∧ (∃ u v, wr.heap[Bb]? = some (Obj.cells #[.int .i64 u, .int .i64 v] 25 (0, 0))) ∧ w.heap.size + 3 ≤ Bb)) (fun n _ => 6 - (intOf n).toNat)
        case atStart => exact ⟨0, by omega, by omega, rfl, HX⟩
        case round =>
          obtain ⟨x, hx, hxy, rfl, HS⟩ := hrel
          clear HX
          by_cases hlx : x < 6
          · have hxi : (x : Int) < 6 := by omega
            have HCx := Lib.hid (HC.out x y hlx hy6)
            obtain ⟨hk, hq, ⟨u1, v1, hb1⟩, hB⟩ := HS.out
            have b_c := fun j => cell_of_row wr _ j _ _ _ hb1
            have b_f := fun j => frozen_of_row wr _ j _ _ hb1
            have r0_c := fun j => cell_of_row wr _ j _ _ _ (hk.row (g := w.heap.size) (List.mem_cons_self ..))
            have r1_c := fun j => cell_of_row wr _ j _ _ _ (hk.row (g := w.heap.size + 1) (List.mem_cons_of_mem _ (List.mem_cons_self ..)))
            have n1 : ¬ Bb = w.heap.size := by omega
            have n2 : ¬ w.heap.size = Bb := by omega
            have n3 : ¬ Bb = w.heap.size + 1 := by omega
            have n4 : ¬ w.heap.size + 1 = Bb := by omega
            have S5 : Hid ((fun WW => KR 2 [(w.heap.size, Obj.cells #[.int .i64 a0, .int .i64 a1, .int .i64 a2, .int .i64 a3, .int .i64 a4, .int .i64 a5] 28 (0, 0)), (w.heap.size + 1, Obj.cells #[.int .i64 b0, .int .i64 b1, .int .i64 b2, .int .i64 b3, .int .i64 b4, .int .i64 b5] 28 (0, 0))] w WW ∧ WW.heap[w.heap.size + 2]? = some (Obj.cells #[.int .i64 0, .int .i64 0] 25 (0, 0)) ∧ (∃ u v, WW.heap[Bb]? = some (Obj.cells #[.int .i64 u, .int .i64 v] 25 (0, 0))) ∧ w.heap.size + 3 ≤ Bb) ((wr.setCell ⟨Bb, 0, none⟩ (.int .i64 (x : Int))).setCell ⟨Bb, 1, none⟩ (.int .i64 (y : Int))) ∧ ((wr.setCell ⟨Bb, 0, none⟩ (.int .i64 (x : Int))).setCell ⟨Bb, 1, none⟩ (.int .i64 (y : Int))).heap[Bb]? = some (Obj.cells #[.int .i64 (x : Int), .int .i64 (y : Int)] 25 (0, 0))) := Lib.hid ⟨⟨(hk.set (by omega)).set (by omega), by rw [Below.heap_setCell _ _ _ _ (show w.heap.size + 2 ≠ Bb by omega), Below.heap_setCell _ _ _ _ (show w.heap.size + 2 ≠ Bb by omega)]; exact hq, ⟨x, y, row2 _ _ _ _ hb1⟩, hB⟩, row2 _ _ _ _ hb1⟩
            go_wp2_with fail
            clear b_c b_f r0_c r1_c hk hq hb1 HS n1 n2 n3 n4
            generalize (World.setCell _ _ _ : World) = Z at S5 ⊢
            refine (HCx.out _).mono ?_
            rintro e w1 ⟨rfl, hb⟩
            have hk := S5.out.1.1.far hb rfl
            have hq := rowk S5.out.1.2.1 hb rfl
            have hb1 := rowk S5.out.2 hb rfl
            clear hb S5 HCx
            by_cases hat : 6 * y + x = am
            · have hcm : cn x y = M := by rw [← hca, ← hat, show (6 * y + x) % 6 = x by omega, show (6 * y + x) / 6 = y by omega]
              rw [hcm]
              have ex : am % 6 = x := by omega
              have ey : am / 6 = y := by omega
              have EX := Lib.hid ex
              have EY := Lib.hid ey
              clear ex ey hcm
              have b_c := fun j => cell_of_row w1 _ j _ _ _ hb1
              have z_c := fun j => cell_of_row w1 _ j _ _ _ hq
              have z_f := fun j => frozen_of_row w1 _ j _ _ hq
              have hBB := hk.2.2
              clear hk hq hb1 HC
              go_wp2_with fail
              try rw [Exit.noGoto_ret]
              refine bodyPost_ret (v := .tuple #[.agg #[.int .i64 (x : Int), .int .i64 (y : Int)], .int .i64 (M : Int), .bool true]) (by simp [results, Try.results50, go_sem, z_c]) rfl ⟨by (have e1 := EX.out; have e2 := EY.out; simp; omega), ?_⟩
              exact (hBB.setCell (by first | (simp; done) | (simp; omega)) _).setCell (by first | (simp; done) | (simp; omega)) _
            · have hlt := hcl x y hlx hy6 (by omega)
              have hneq : ¬ ((cn x y : Nat) : Int) = (M : Int) := by omega
              have hneb : (((cn x y : Nat) : Int) == (M : Int)) = false := by simpa using hneq
              have hnn : ¬ cn x y = M := by omega
              have S6 : Hid (KR 2 [(w.heap.size, Obj.cells #[.int .i64 a0, .int .i64 a1, .int .i64 a2, .int .i64 a3, .int .i64 a4, .int .i64 a5] 28 (0, 0)), (w.heap.size + 1, Obj.cells #[.int .i64 b0, .int .i64 b1, .int .i64 b2, .int .i64 b3, .int .i64 b4, .int .i64 b5] 28 (0, 0))] w w1 ∧ w1.heap[w.heap.size + 2]? = some (Obj.cells #[.int .i64 0, .int .i64 0] 25 (0, 0)) ∧ (∃ u v, w1.heap[Bb]? = some (Obj.cells #[.int .i64 u, .int .i64 v] 25 (0, 0))) ∧ w.heap.size + 3 ≤ Bb) := Lib.hid ⟨hk, hq, ⟨_, _, hb1⟩, hB⟩
              generalize cn x y = cxy at *
              clear hk hq hb1
              go_wp2_with fail
              go_roundw
              case rel => exact ⟨x + 1, by omega, by omega, by go_num, S6⟩
              case measure => simp [intOf]; omega
          · obtain rfl : x = 6 := by omega
            go_wp2_with fail
            go_roundw
            case rel => exact ⟨y + 1, by omega, by go_num, HS⟩
            case measure => simp [intOf]; omega
    · have h0 := hz j (by omega) hj2
      rw [h0] at hc
      have hj1' : 0 < j := by omega
      have HJ := Lib.hid (int_pred hj1')
      go_wp2_with fail
      go_round
      case rel => exact ⟨j - 1, by omega, by omega, HJ.out⟩
      case measure => simp [intOf]; omega
set_option maxRecDepth 20000 in
set_option maxHeartbeats 2000000 in
theorem ibc_n (a0 a1 a2 a3 a4 a5 : Int) (b0 b1 b2 b3 b4 b5 : Int) (m : Nat → Int) (HT : Hid (∀ w, Calls Try.prog 43 #[.agg #[.int .i64 a0, .int .i64 a1, .int .i64 a2, .int .i64 a3, .int .i64 a4, .int .i64 a5], .agg #[.int .i64 b0, .int .i64 b1, .int .i64 b2, .int .i64 b3, .int .i64 b4, .int .i64 b5]] w fun e w' => e = .returned (.tuple #[tv m, .bool false]) ∧ Below w.heap.size w w')) (w : World) : Calls Try.prog 50 #[.agg #[.int .i64 a0, .int .i64 a1, .int .i64 a2, .int .i64 a3, .int .i64 a4, .int .i64 a5], .agg #[.int .i64 b0, .int .i64 b1, .int .i64 b2, .int .i64 b3, .int .i64 b4, .int .i64 b5]] w fun e w' => e = .returned (.tuple #[.agg #[.int .i64 0, .int .i64 0], .int .i64 0, .bool false]) ∧ Below w.heap.size w w' := by
  go_enter Try.func50, Try.ntmps50
  go_wp2_with fail
  generalize hW : (World.alloc _ _ : World) = W0
  have q0 : W0.heap[(w.heap.size : Nat)]? = some (Obj.cells #[.int .i64 a0, .int .i64 a1, .int .i64 a2, .int .i64 a3, .int .i64 a4, .int .i64 a5] 28 (0, 0)) := by
    rw [← hW]
    repeat (first | (refine alloc_at ?_; first | (simp; done) | (simp; omega)) | refine drew_row ?_ | refine alloc_past ?_ | assumption)
  have q1 : W0.heap[(w.heap.size + 1 : Nat)]? = some (Obj.cells #[.int .i64 b0, .int .i64 b1, .int .i64 b2, .int .i64 b3, .int .i64 b4, .int .i64 b5] 28 (0, 0)) := by
    rw [← hW]
    repeat (first | (refine alloc_at ?_; first | (simp; done) | (simp; omega)) | refine drew_row ?_ | refine alloc_past ?_ | assumption)
  have hq : W0.heap[(w.heap.size + 2 : Nat)]? = some (Obj.cells #[.int .i64 0, .int .i64 0] 25 (0, 0)) := by
    rw [← hW]
    repeat (first | (refine alloc_at ?_; first | (simp; done) | (simp; omega)) | refine drew_row ?_ | refine alloc_past ?_ | assumption)
  have hk : KR 2 [(w.heap.size, Obj.cells #[.int .i64 a0, .int .i64 a1, .int .i64 a2, .int .i64 a3, .int .i64 a4, .int .i64 a5] 28 (0, 0)), (w.heap.size + 1, Obj.cells #[.int .i64 b0, .int .i64 b1, .int .i64 b2, .int .i64 b3, .int .i64 b4, .int .i64 b5] 28 (0, 0))] w W0 := ⟨by simp [q0, q1], by rw [← hW]; simp, by rw [← hW]; (repeat (first | exact Below.refl _ _ | assumption | refine Below.setCell ?_ (by first | (simp; done) | (simp; omega)) _ | refine Below.alloc ?_ (by first | (simp; done) | (simp; omega)) _ | refine Below.drew ?_))⟩
  clear hW q0 q1
  go_step3
  have r0_c := fun j => cell_of_row W0 _ j _ _ _ (hk.row (g := w.heap.size) (List.mem_cons_self ..))
  have r1_c := fun j => cell_of_row W0 _ j _ _ _ (hk.row (g := w.heap.size + 1) (List.mem_cons_of_mem _ (List.mem_cons_self ..)))
  have z_c := fun j => cell_of_row W0 _ j _ _ _ hq
  have z_f := fun j => frozen_of_row W0 _ j _ _ hq
  go_wp2_with fail
  refine (HT.out _).mono ?_
  rintro e W1 ⟨rfl, hb⟩
  clear r0_c r1_c z_c z_f
  have hk := hk.far hb rfl
  have hq := rowk hq hb rfl
  have HZ : Hid ((W1.alloc (.cells #[.int .i64 0, .int .i64 0, .int .i64 0, .int .i64 0, .int .i64 0, .int .i64 0, .int .i64 0, .int .i64 0, .int .i64 0, .int .i64 0, .int .i64 0, .int .i64 0, .int .i64 0, .int .i64 0, .int .i64 0, .int .i64 0, .int .i64 0, .int .i64 0, .int .i64 0, .int .i64 0, .int .i64 0, .int .i64 0, .int .i64 0, .int .i64 0, .int .i64 0, .int .i64 0, .int .i64 0, .int .i64 0, .int .i64 0, .int .i64 0, .int .i64 0, .int .i64 0, .int .i64 0, .int .i64 0, .int .i64 0, .int .i64 0, .int .i64 0] 37)).heap[W1.heap.size]? = some (tb 37 fun _ => 0)) := Lib.hid (alloc_at rfl)
  have hlk := KR.le hk
  have S2 : Hid (KR 2 [(w.heap.size, Obj.cells #[.int .i64 a0, .int .i64 a1, .int .i64 a2, .int .i64 a3, .int .i64 a4, .int .i64 a5] 28 (0, 0)), (w.heap.size + 1, Obj.cells #[.int .i64 b0, .int .i64 b1, .int .i64 b2, .int .i64 b3, .int .i64 b4, .int .i64 b5] 28 (0, 0))] w ((W1.alloc (.cells #[.int .i64 0, .int .i64 0, .int .i64 0, .int .i64 0, .int .i64 0, .int .i64 0, .int .i64 0, .int .i64 0, .int .i64 0, .int .i64 0, .int .i64 0, .int .i64 0, .int .i64 0, .int .i64 0, .int .i64 0, .int .i64 0, .int .i64 0, .int .i64 0, .int .i64 0, .int .i64 0, .int .i64 0, .int .i64 0, .int .i64 0, .int .i64 0, .int .i64 0, .int .i64 0, .int .i64 0, .int .i64 0, .int .i64 0, .int .i64 0, .int .i64 0, .int .i64 0, .int .i64 0, .int .i64 0, .int .i64 0, .int .i64 0, .int .i64 0] 37)).setCells W1.heap.size 0 (cs37 m)) ∧ ((W1.alloc (.cells #[.int .i64 0, .int .i64 0, .int .i64 0, .int .i64 0, .int .i64 0, .int .i64 0, .int .i64 0, .int .i64 0, .int .i64 0, .int .i64 0, .int .i64 0, .int .i64 0, .int .i64 0, .int .i64 0, .int .i64 0, .int .i64 0, .int .i64 0, .int .i64 0, .int .i64 0, .int .i64 0, .int .i64 0, .int .i64 0, .int .i64 0, .int .i64 0, .int .i64 0, .int .i64 0, .int .i64 0, .int .i64 0, .int .i64 0, .int .i64 0, .int .i64 0, .int .i64 0, .int .i64 0, .int .i64 0, .int .i64 0, .int .i64 0, .int .i64 0] 37)).setCells W1.heap.size 0 (cs37 m)).heap[W1.heap.size]? = some (tb 37 m) ∧ w.heap.size + 2 ≤ W1.heap.size ∧ ((W1.alloc (.cells #[.int .i64 0, .int .i64 0, .int .i64 0, .int .i64 0, .int .i64 0, .int .i64 0, .int .i64 0, .int .i64 0, .int .i64 0, .int .i64 0, .int .i64 0, .int .i64 0, .int .i64 0, .int .i64 0, .int .i64 0, .int .i64 0, .int .i64 0, .int .i64 0, .int .i64 0, .int .i64 0, .int .i64 0, .int .i64 0, .int .i64 0, .int .i64 0, .int .i64 0, .int .i64 0, .int .i64 0, .int .i64 0, .int .i64 0, .int .i64 0, .int .i64 0, .int .i64 0, .int .i64 0, .int .i64 0, .int .i64 0, .int .i64 0, .int .i64 0] 37)).setCells W1.heap.size 0 (cs37 m)).heap[w.heap.size + 2]? = some (Obj.cells #[.int .i64 0, .int .i64 0] 25 (0, 0))) := by
    have hS : Below W1.heap.size W1 ((W1.alloc (.cells #[.int .i64 0, .int .i64 0, .int .i64 0, .int .i64 0, .int .i64 0, .int .i64 0, .int .i64 0, .int .i64 0, .int .i64 0, .int .i64 0, .int .i64 0, .int .i64 0, .int .i64 0, .int .i64 0, .int .i64 0, .int .i64 0, .int .i64 0, .int .i64 0, .int .i64 0, .int .i64 0, .int .i64 0, .int .i64 0, .int .i64 0, .int .i64 0, .int .i64 0, .int .i64 0, .int .i64 0, .int .i64 0, .int .i64 0, .int .i64 0, .int .i64 0, .int .i64 0, .int .i64 0, .int .i64 0, .int .i64 0, .int .i64 0, .int .i64 0] 37)).setCells W1.heap.size 0 (cs37 m)) := setCells_below (cs37 m) 0 ((Below.refl _ _).alloc (Nat.le_refl _) _) (Nat.le_refl _)
    exact Lib.hid ⟨hk.far hS rfl, tb_sets m HZ.out, hlk, rowk hq hS rfl⟩
  clear hb hk hlk hq
  go_wp2_with ((with_reducible refine wpS37 W1.heap.size m 37 _ HZ.out ?_ ?_ ?_ ?_); rfl; rfl; kernel_rfl; clear HZ; generalize (World.setCells _ _ _ _ : World) = X at S2 ⊢; generalize W1.heap.size = G at S2 ⊢; have hk := S2.out.1; have hr := S2.out.2.1; have hlk := S2.out.2.2.1; have hq := S2.out.2.2.2; clear S2; obtain ⟨z_c, z1, zf0, zf1⟩ := zero2 hq)
  have hB := hk.2.2
  try rw [Exit.noGoto_ret]
  refine bodyPost_ret (v := .tuple #[.agg #[.int .i64 0, .int .i64 0], .int .i64 0, .bool false]) (by simp [results, Try.results50, go_sem, z_c, z1]) rfl ⟨rfl, ?_⟩
  exact (hB.setCell (by first | (simp; done) | (simp; omega)) _).setCell (by first | (simp; done) | (simp; omega)) _
/- Tz9 -/
theorem SRf {w U : World} {f g : Fn6} (h : KR 2 [(w.heap.size, Obj.cells #[.int .i64 (rowv (f 0)), .int .i64 (rowv (f 1)), .int .i64 (rowv (f 2)), .int .i64 (rowv (f 3)), .int .i64 (rowv (f 4)), .int .i64 (rowv (f 5))] 28 (0, 0)), (w.heap.size + 1, Obj.cells #[.int .i64 (rowv (g 0)), .int .i64 (rowv (g 1)), .int .i64 (rowv (g 2)), .int .i64 (rowv (g 3)), .int .i64 (rowv (g 4)), .int .i64 (rowv (g 5))] 28 (0, 0))] w U) : U.cell? ⟨w.heap.size, 0, none⟩ = some (.int .i64 (rowv (f 0))) ∧ U.cell? ⟨w.heap.size, 1, none⟩ = some (.int .i64 (rowv (f 1))) ∧ U.cell? ⟨w.heap.size, 2, none⟩ = some (.int .i64 (rowv (f 2))) ∧ U.cell? ⟨w.heap.size, 3, none⟩ = some (.int .i64 (rowv (f 3))) ∧ U.cell? ⟨w.heap.size, 4, none⟩ = some (.int .i64 (rowv (f 4))) ∧ U.cell? ⟨w.heap.size, 5, none⟩ = some (.int .i64 (rowv (f 5))) ∧ U.cell? ⟨w.heap.size + 1, 0, none⟩ = some (.int .i64 (rowv (g 0))) ∧ U.cell? ⟨w.heap.size + 1, 1, none⟩ = some (.int .i64 (rowv (g 1))) ∧ U.cell? ⟨w.heap.size + 1, 2, none⟩ = some (.int .i64 (rowv (g 2))) ∧ U.cell? ⟨w.heap.size + 1, 3, none⟩ = some (.int .i64 (rowv (g 3))) ∧ U.cell? ⟨w.heap.size + 1, 4, none⟩ = some (.int .i64 (rowv (g 4))) ∧ U.cell? ⟨w.heap.size + 1, 5, none⟩ = some (.int .i64 (rowv (g 5))) ∧ KR 2 [(w.heap.size, Obj.cells #[.int .i64 (rowv (f 0)), .int .i64 (rowv (f 1)), .int .i64 (rowv (f 2)), .int .i64 (rowv (f 3)), .int .i64 (rowv (f 4)), .int .i64 (rowv (f 5))] 28 (0, 0)), (w.heap.size + 1, Obj.cells #[.int .i64 (rowv (g 0)), .int .i64 (rowv (g 1)), .int .i64 (rowv (g 2)), .int .i64 (rowv (g 3)), .int .i64 (rowv (g 4)), .int .i64 (rowv (g 5))] 28 (0, 0))] w U := SR2 h
set_option maxRecDepth 20000 in
set_option maxHeartbeats 4000000 in
theorem sbc_y (f g : Fn6) (HA : Hid (∀ w, Calls Try.prog 98 #[.agg #[.int .i64 (rowv (f 0)), .int .i64 (rowv (f 1)), .int .i64 (rowv (f 2)), .int .i64 (rowv (f 3)), .int .i64 (rowv (f 4)), .int .i64 (rowv (f 5))]] w fun e w' => e = .returned (.bool true) ∧ Below w.heap.size w w'))(HB : Hid (∀ w, Calls Try.prog 98 #[.agg #[.int .i64 (rowv (g 0)), .int .i64 (rowv (g 1)), .int .i64 (rowv (g 2)), .int .i64 (rowv (g 3)), .int .i64 (rowv (g 4)), .int .i64 (rowv (g 5))]] w fun e w' => e = .returned (.bool true) ∧ Below w.heap.size w w')) (w : World) : Calls Try.prog 49 #[.agg #[.int .i64 (rowv (f 0)), .int .i64 (rowv (f 1)), .int .i64 (rowv (f 2)), .int .i64 (rowv (f 3)), .int .i64 (rowv (f 4)), .int .i64 (rowv (f 5))], .agg #[.int .i64 (rowv (g 0)), .int .i64 (rowv (g 1)), .int .i64 (rowv (g 2)), .int .i64 (rowv (g 3)), .int .i64 (rowv (g 4)), .int .i64 (rowv (g 5))]] w fun e w' => e = .returned (.tuple #[.agg #[.int .i64 ((am9 (fun k => cn9 f g (k % 6) (k / 6)) 36 % 6 : Nat) : Int), .int .i64 ((am9 (fun k => cn9 f g (k % 6) (k / 6)) 36 / 6 : Nat) : Int)], .int .i64 (mx9 (fun k => cn9 f g (k % 6) (k / 6)) 36), .bool true]) ∧ Below w.heap.size w w' := by
  obtain ⟨cc, hcc⟩ : ∃ cc : Nat → Nat, cc = fun k => cn9 f g (k % 6) (k / 6) := ⟨_, rfl⟩
  have HCC := Lib.hid hcc
  rw [← hcc]
  clear hcc
  go_enter Try.func49, Try.ntmps49
  go_wp2_with fail
  generalize hW : (World.alloc _ _ : World) = W0
  have q0 : W0.heap[(w.heap.size : Nat)]? = some (Obj.cells #[.int .i64 (rowv (f 0)), .int .i64 (rowv (f 1)), .int .i64 (rowv (f 2)), .int .i64 (rowv (f 3)), .int .i64 (rowv (f 4)), .int .i64 (rowv (f 5))] 28 (0, 0)) := by
    rw [← hW]
    repeat (first | (refine alloc_at ?_; first | (simp; done) | (simp; omega)) | refine drew_row ?_ | refine alloc_past ?_ | assumption)
  have q1 : W0.heap[(w.heap.size + 1 : Nat)]? = some (Obj.cells #[.int .i64 (rowv (g 0)), .int .i64 (rowv (g 1)), .int .i64 (rowv (g 2)), .int .i64 (rowv (g 3)), .int .i64 (rowv (g 4)), .int .i64 (rowv (g 5))] 28 (0, 0)) := by
    rw [← hW]
    repeat (first | (refine alloc_at ?_; first | (simp; done) | (simp; omega)) | refine drew_row ?_ | refine alloc_past ?_ | assumption)
  have hq : W0.heap[(w.heap.size + 2 : Nat)]? = some (Obj.cells #[.int .i64 0, .int .i64 0] 25 (0, 0)) := by
    rw [← hW]
    repeat (first | (refine alloc_at ?_; first | (simp; done) | (simp; omega)) | refine drew_row ?_ | refine alloc_past ?_ | assumption)
  have hk : KR 2 [(w.heap.size, Obj.cells #[.int .i64 (rowv (f 0)), .int .i64 (rowv (f 1)), .int .i64 (rowv (f 2)), .int .i64 (rowv (f 3)), .int .i64 (rowv (f 4)), .int .i64 (rowv (f 5))] 28 (0, 0)), (w.heap.size + 1, Obj.cells #[.int .i64 (rowv (g 0)), .int .i64 (rowv (g 1)), .int .i64 (rowv (g 2)), .int .i64 (rowv (g 3)), .int .i64 (rowv (g 4)), .int .i64 (rowv (g 5))] 28 (0, 0))] w W0 := ⟨by simp [q0, q1], by rw [← hW]; simp, by rw [← hW]; (repeat (first | exact Below.refl _ _ | assumption | refine Below.setCell ?_ (by first | (simp; done) | (simp; omega)) _ | refine Below.alloc ?_ (by first | (simp; done) | (simp; omega)) _ | refine Below.drew ?_))⟩
  have hbq : W0.heap[(w.heap.size + 3 : Nat)]? = some (Obj.cells #[.int .i64 0, .int .i64 0] 25 (0, 0)) := by
    rw [← hW]
    repeat (first | (refine alloc_at ?_; first | (simp; done) | (simp; omega)) | refine drew_row ?_ | refine alloc_past ?_ | assumption)
  clear hW q0 q1
  have r0_c := fun j => cell_of_row W0 _ j _ _ _ (hk.row (g := w.heap.size) (List.mem_cons_self ..))
  have r1_c := fun j => cell_of_row W0 _ j _ _ _ (hk.row (g := w.heap.size + 1) (List.mem_cons_of_mem _ (List.mem_cons_self ..)))
  have z_c := fun j => cell_of_row W0 _ j _ _ _ hq
  have z_f := fun j => frozen_of_row W0 _ j _ _ hq
  go_wp2_with fail
  refine (HA.out _).mono ?_
  rintro e W1 ⟨rfl, hb⟩
  clear r0_c r1_c z_c z_f
  have hk := hk.far hb rfl
  have hq := rowk hq hb rfl
  have hbq := rowk hbq hb rfl
  clear hb
  have r0_c := fun j => cell_of_row W1 _ j _ _ _ (hk.row (g := w.heap.size) (List.mem_cons_self ..))
  have r1_c := fun j => cell_of_row W1 _ j _ _ _ (hk.row (g := w.heap.size + 1) (List.mem_cons_of_mem _ (List.mem_cons_self ..)))
  have z_c := fun j => cell_of_row W1 _ j _ _ _ hq
  have z_f := fun j => frozen_of_row W1 _ j _ _ hq
  go_wp2_with fail
  refine (HB.out _).mono ?_
  rintro e W2 ⟨rfl, hb⟩
  clear r0_c r1_c z_c z_f
  have hk := hk.far hb rfl
  have hq := rowk hq hb rfl
  have hbq := rowk hbq hb rfl
  clear hb
  go_wp2_with fail
  have S0 : Hid (KR 2 [(w.heap.size, Obj.cells #[.int .i64 (rowv (f 0)), .int .i64 (rowv (f 1)), .int .i64 (rowv (f 2)), .int .i64 (rowv (f 3)), .int .i64 (rowv (f 4)), .int .i64 (rowv (f 5))] 28 (0, 0)), (w.heap.size + 1, Obj.cells #[.int .i64 (rowv (g 0)), .int .i64 (rowv (g 1)), .int .i64 (rowv (g 2)), .int .i64 (rowv (g 3)), .int .i64 (rowv (g 4)), .int .i64 (rowv (g 5))] 28 (0, 0))] w W2 ∧ W2.heap[w.heap.size + 2]? = some (Obj.cells #[.int .i64 0, .int .i64 0] 25 (0, 0)) ∧ W2.heap[w.heap.size + 3]? = some (Obj.cells #[.int .i64 ((am9 cc (6 * 0) % 6 : Nat) : Int), .int .i64 ((am9 cc (6 * 0) / 6 : Nat) : Int)] 25 (0, 0))) := Lib.hid ⟨hk, hq, by simpa [am9] using hbq⟩
  clear hk hq hbq HA HB
  go_loopw [8, 9] (fun q n wr => ∃ y : Nat, y ≤ 6 ∧ n = .int .i64 y ∧ q = .int .i64 (mx9 cc (6 * y)) ∧ Hid (KR 2 [(w.heap.size, Obj.cells #[.int .i64 (rowv (f 0)), .int .i64 (rowv (f 1)), .int .i64 (rowv (f 2)), .int .i64 (rowv (f 3)), .int .i64 (rowv (f 4)), .int .i64 (rowv (f 5))] 28 (0, 0)), (w.heap.size + 1, Obj.cells #[.int .i64 (rowv (g 0)), .int .i64 (rowv (g 1)), .int .i64 (rowv (g 2)), .int .i64 (rowv (g 3)), .int .i64 (rowv (g 4)), .int .i64 (rowv (g 5))] 28 (0, 0))] w wr ∧ wr.heap[w.heap.size + 2]? = some (Obj.cells #[.int .i64 0, .int .i64 0] 25 (0, 0)) ∧ wr.heap[w.heap.size + 3]? = some (Obj.cells #[.int .i64 ((am9 cc (6 * y) % 6 : Nat) : Int), .int .i64 ((am9 cc (6 * y) / 6 : Nat) : Int)] 25 (0, 0)))) (fun _ n _ => 6 - (intOf n).toNat)
  case atStart => exact ⟨0, by omega, rfl, rfl, S0⟩
  case round =>
    obtain ⟨y, hy, rfl, rfl, HX⟩ := hrel
    clear S0
    by_cases hly : y < 6
    · have hyi : (y : Int) < 6 := by omega
      have hly2 : decide ((y : Int) < (6 : Int)) = true := decide_eq_true hyi
      go_wp2_with fail
      try rw [hly2]
      clear hly2
      go_loopw [8, 10] (fun q n wr => ∃ x : Nat, x ≤ 6 ∧ n = .int .i64 x ∧ q = .int .i64 (mx9 cc (6 * y + x)) ∧ Hid (KR 2 [(w.heap.size, Obj.cells #[.int .i64 (rowv (f 0)), .int .i64 (rowv (f 1)), .int .i64 (rowv (f 2)), .int .i64 (rowv (f 3)), .int .i64 (rowv (f 4)), .int .i64 (rowv (f 5))] 28 (0, 0)), (w.heap.size + 1, Obj.cells #[.int .i64 (rowv (g 0)), .int .i64 (rowv (g 1)), .int .i64 (rowv (g 2)), .int .i64 (rowv (g 3)), .int .i64 (rowv (g 4)), .int .i64 (rowv (g 5))] 28 (0, 0))] w wr ∧ wr.heap[w.heap.size + 2]? = some (Obj.cells #[.int .i64 0, .int .i64 0] 25 (0, 0)) ∧ wr.heap[w.heap.size + 3]? = some (Obj.cells #[.int .i64 ((am9 cc (6 * y + x) % 6 : Nat) : Int), .int .i64 ((am9 cc (6 * y + x) / 6 : Nat) : Int)] 25 (0, 0)))) (fun _ n _ => 6 - (intOf n).toNat)
      case atStart => exact ⟨0, by omega, rfl, rfl, HX⟩
      case round =>
        obtain ⟨x, hx, rfl, rfl, HS⟩ := hrel
        clear HX
        by_cases hlx : x < 6
        · have hxi : (x : Int) < 6 := by omega
          have hx0 : (0 : Int) ≤ x := by omega
          have hy0 : (0 : Int) ≤ y := by omega
          have H1 := Lib.hid (l2shift_7 g hlx hly)
          have H2 := Lib.hid (land_f f (sf x y g))
          have hcv : cc (6 * y + x) = cn9 f g x y := by rw [HCC.out]; show cn9 f g ((6 * y + x) % 6) ((6 * y + x) / 6) = _; rw [show (6 * y + x) % 6 = x by omega, show (6 * y + x) / 6 = y by omega]
          have H3 : Hid (∀ w, Calls Try.prog 91 #[.agg #[.int .i64 (rowv (af f (sf x y g) 0)), .int .i64 (rowv (af f (sf x y g) 1)), .int .i64 (rowv (af f (sf x y g) 2)), .int .i64 (rowv (af f (sf x y g) 3)), .int .i64 (rowv (af f (sf x y g) 4)), .int .i64 (rowv (af f (sf x y g) 5))]] w fun e w' => e = .returned (.int .i64 ((cc (6 * y + x) : Nat) : Int)) ∧ Below w.heap.size w w') := Lib.hid (fun w => hcv ▸ (cn9_eq f g x y).1 ▸ lcount_s (af f (sf x y g)) w)
          have hm : mx9 cc (6 * y + x + 1) = if mx9 cc (6 * y + x) < (cc (6 * y + x) : Int) then (cc (6 * y + x) : Int) else mx9 cc (6 * y + x) := rfl
          have ha : am9 cc (6 * y + x + 1) = if mx9 cc (6 * y + x) < (cc (6 * y + x) : Int) then 6 * y + x else am9 cc (6 * y + x) := rfl
          have HM := Lib.hid hm
          have HN := Lib.hid ha
          obtain ⟨hk, hq, hbq⟩ := HS.out
          have HS2 := HS
          clear hm ha hcv HS
          obtain ⟨p1, hp1⟩ : ∃ p : Int, p = ((am9 cc (6 * y + x) % 6 : Nat) : Int) := ⟨_, rfl⟩
          obtain ⟨p2, hp2⟩ : ∃ p : Int, p = ((am9 cc (6 * y + x) / 6 : Nat) : Int) := ⟨_, rfl⟩
          rw [← hp1, ← hp2] at hbq
          have HP1 := Lib.hid hp1
          have HP2 := Lib.hid hp2
          obtain ⟨ck, hck⟩ : ∃ c : Nat, c = cc (6 * y + x) := ⟨_, rfl⟩
          obtain ⟨mm, hmm⟩ : ∃ z : Int, z = mx9 cc (6 * y + x) := ⟨_, rfl⟩
          rw [← hck] at H3 HM HN
          rw [← hmm] at HM HN ⊢
          clear hp1 hp2 hck hmm HS2
          generalize af f (sf x y g) = q at *
          generalize sf x y g = p at *
          have hz0 := KR.le hk
          go_wp2_with fail
          set_option maxRecDepth 8000 in
          go_region_held3 (fun U => U.cell? ⟨w.heap.size, 0, none⟩ = some (.int .i64 (rowv (f 0))) ∧ U.cell? ⟨w.heap.size, 1, none⟩ = some (.int .i64 (rowv (f 1))) ∧ U.cell? ⟨w.heap.size, 2, none⟩ = some (.int .i64 (rowv (f 2))) ∧ U.cell? ⟨w.heap.size, 3, none⟩ = some (.int .i64 (rowv (f 3))) ∧ U.cell? ⟨w.heap.size, 4, none⟩ = some (.int .i64 (rowv (f 4))) ∧ U.cell? ⟨w.heap.size, 5, none⟩ = some (.int .i64 (rowv (f 5))) ∧ U.cell? ⟨w.heap.size + 1, 0, none⟩ = some (.int .i64 (rowv (g 0))) ∧ U.cell? ⟨w.heap.size + 1, 1, none⟩ = some (.int .i64 (rowv (g 1))) ∧ U.cell? ⟨w.heap.size + 1, 2, none⟩ = some (.int .i64 (rowv (g 2))) ∧ U.cell? ⟨w.heap.size + 1, 3, none⟩ = some (.int .i64 (rowv (g 3))) ∧ U.cell? ⟨w.heap.size + 1, 4, none⟩ = some (.int .i64 (rowv (g 4))) ∧ U.cell? ⟨w.heap.size + 1, 5, none⟩ = some (.int .i64 (rowv (g 5))) ∧ KR 2 [(w.heap.size, Obj.cells #[.int .i64 (rowv (f 0)), .int .i64 (rowv (f 1)), .int .i64 (rowv (f 2)), .int .i64 (rowv (f 3)), .int .i64 (rowv (f 4)), .int .i64 (rowv (f 5))] 28 (0, 0)), (w.heap.size + 1, Obj.cells #[.int .i64 (rowv (g 0)), .int .i64 (rowv (g 1)), .int .i64 (rowv (g 2)), .int .i64 (rowv (g 3)), .int .i64 (rowv (g 4)), .int .i64 (rowv (g 5))] 28 (0, 0))] w U) (with_reducible refine SRf ?_; (repeat (first | with_reducible assumption | with_reducible refine KR.al ?_ | with_reducible refine KR.drew ?_ | with_reducible refine KR.set ?_ (by first | omega | (simp; omega))))) (first | (go_at_call 115; with_reducible refine (H1.out _).mono ?_; rintro e w' ⟨rfl, hb'⟩; have hk : KR 2 [(w.heap.size, Obj.cells #[.int .i64 (rowv (f 0)), .int .i64 (rowv (f 1)), .int .i64 (rowv (f 2)), .int .i64 (rowv (f 3)), .int .i64 (rowv (f 4)), .int .i64 (rowv (f 5))] 28 (0, 0)), (w.heap.size + 1, Obj.cells #[.int .i64 (rowv (g 0)), .int .i64 (rowv (g 1)), .int .i64 (rowv (g 2)), .int .i64 (rowv (g 3)), .int .i64 (rowv (g 4)), .int .i64 (rowv (g 5))] 28 (0, 0))] w w' := KR.far (by (repeat (first | with_reducible assumption | with_reducible refine KR.al ?_ | with_reducible refine KR.drew ?_ | with_reducible refine KR.set ?_ (by first | omega | (simp; omega))))) hb' rfl; have hz0 := KR.le hk; have hq : w'.heap[w.heap.size + 2]? = some (Obj.cells #[.int .i64 0, .int .i64 0] 25 (0, 0)) := rowk (by first | with_reducible assumption | (with_reducible refine drew_row ?_; with_reducible assumption)) hb' rfl; have hbq : w'.heap[w.heap.size + 3]? = some (Obj.cells #[.int .i64 p1, .int .i64 p2] 25 (0, 0)) := rowk (by first | with_reducible assumption | (with_reducible refine drew_row ?_; with_reducible assumption)) hb' rfl) | (go_at_call 114; with_reducible refine (H2.out _).mono ?_; rintro e w' ⟨rfl, hb'⟩; have hk : KR 2 [(w.heap.size, Obj.cells #[.int .i64 (rowv (f 0)), .int .i64 (rowv (f 1)), .int .i64 (rowv (f 2)), .int .i64 (rowv (f 3)), .int .i64 (rowv (f 4)), .int .i64 (rowv (f 5))] 28 (0, 0)), (w.heap.size + 1, Obj.cells #[.int .i64 (rowv (g 0)), .int .i64 (rowv (g 1)), .int .i64 (rowv (g 2)), .int .i64 (rowv (g 3)), .int .i64 (rowv (g 4)), .int .i64 (rowv (g 5))] 28 (0, 0))] w w' := KR.far (by (repeat (first | with_reducible assumption | with_reducible refine KR.al ?_ | with_reducible refine KR.drew ?_ | with_reducible refine KR.set ?_ (by first | omega | (simp; omega))))) hb' rfl; have hz0 := KR.le hk; have hq : w'.heap[w.heap.size + 2]? = some (Obj.cells #[.int .i64 0, .int .i64 0] 25 (0, 0)) := rowk (by first | with_reducible assumption | (with_reducible refine drew_row ?_; with_reducible assumption)) hb' rfl; have hbq : w'.heap[w.heap.size + 3]? = some (Obj.cells #[.int .i64 p1, .int .i64 p2] 25 (0, 0)) := rowk (by first | with_reducible assumption | (with_reducible refine drew_row ?_; with_reducible assumption)) hb' rfl) | (go_at_call 91; with_reducible refine (H3.out _).mono ?_; rintro e w' ⟨rfl, hb'⟩; have hk : KR 2 [(w.heap.size, Obj.cells #[.int .i64 (rowv (f 0)), .int .i64 (rowv (f 1)), .int .i64 (rowv (f 2)), .int .i64 (rowv (f 3)), .int .i64 (rowv (f 4)), .int .i64 (rowv (f 5))] 28 (0, 0)), (w.heap.size + 1, Obj.cells #[.int .i64 (rowv (g 0)), .int .i64 (rowv (g 1)), .int .i64 (rowv (g 2)), .int .i64 (rowv (g 3)), .int .i64 (rowv (g 4)), .int .i64 (rowv (g 5))] 28 (0, 0))] w w' := KR.far (by (repeat (first | with_reducible assumption | with_reducible refine KR.al ?_ | with_reducible refine KR.drew ?_ | with_reducible refine KR.set ?_ (by first | omega | (simp; omega))))) hb' rfl; have hz0 := KR.le hk; have hq : w'.heap[w.heap.size + 2]? = some (Obj.cells #[.int .i64 0, .int .i64 0] 25 (0, 0)) := rowk (by first | with_reducible assumption | (with_reducible refine drew_row ?_; with_reducible assumption)) hb' rfl; have hbq : w'.heap[w.heap.size + 3]? = some (Obj.cells #[.int .i64 p1, .int .i64 p2] 25 (0, 0)) := rowk (by first | with_reducible assumption | (with_reducible refine drew_row ?_; with_reducible assumption)) hb' rfl))
          all_goals
            clear H1 H2 H3
            have b_c := fun j => cell_of_row w' _ j _ _ _ hbq
            have b_f := fun j => frozen_of_row w' _ j _ _ hbq
            by_cases hgt : mm < (ck : Int)
            · have hgt2 : (ck : Int) > mm := hgt
              have e1 : mx9 cc (6 * y + x + 1) = (ck : Int) := by have := HM.out; rw [if_pos hgt] at this; exact this
              have e2 : am9 cc (6 * y + x + 1) = 6 * y + x := by have := HN.out; rw [if_pos hgt] at this; exact this
              have E1 := Lib.hid e1
              have E2 := Lib.hid e2
              have hk2 := hk
              clear e1 e2 HM HN
              have S5 : Hid (KR 2 [(w.heap.size, Obj.cells #[.int .i64 (rowv (f 0)), .int .i64 (rowv (f 1)), .int .i64 (rowv (f 2)), .int .i64 (rowv (f 3)), .int .i64 (rowv (f 4)), .int .i64 (rowv (f 5))] 28 (0, 0)), (w.heap.size + 1, Obj.cells #[.int .i64 (rowv (g 0)), .int .i64 (rowv (g 1)), .int .i64 (rowv (g 2)), .int .i64 (rowv (g 3)), .int .i64 (rowv (g 4)), .int .i64 (rowv (g 5))] 28 (0, 0))] w ((w'.setCell ⟨w.heap.size + 3, 0, none⟩ (.int .i64 (x : Int))).setCell ⟨w.heap.size + 3, 1, none⟩ (.int .i64 (y : Int))) ∧ ((w'.setCell ⟨w.heap.size + 3, 0, none⟩ (.int .i64 (x : Int))).setCell ⟨w.heap.size + 3, 1, none⟩ (.int .i64 (y : Int))).heap[w.heap.size + 2]? = some (Obj.cells #[.int .i64 0, .int .i64 0] 25 (0, 0)) ∧ ((w'.setCell ⟨w.heap.size + 3, 0, none⟩ (.int .i64 (x : Int))).setCell ⟨w.heap.size + 3, 1, none⟩ (.int .i64 (y : Int))).heap[w.heap.size + 3]? = some (Obj.cells #[.int .i64 (x : Int), .int .i64 (y : Int)] 25 (0, 0))) := Lib.hid ⟨(hk.set (by omega)).set (by omega), by rw [Below.heap_setCell _ _ _ _ (show w.heap.size + 2 ≠ w.heap.size + 3 by omega), Below.heap_setCell _ _ _ _ (show w.heap.size + 2 ≠ w.heap.size + 3 by omega)]; exact hq, row2 _ _ _ _ hbq⟩
              go_wp2_with fail
              go_roundw
              case rel => exact ⟨x + 1, by omega, by go_num, by rw [show 6 * y + (x + 1) = 6 * y + x + 1 by omega, E1.out], Lib.hid (by rw [show 6 * y + (x + 1) = 6 * y + x + 1 by omega, E2.out, show (6 * y + x) % 6 = x by omega, show (6 * y + x) / 6 = y by omega]; exact S5.out)⟩
              case measure => simp [intOf]; omega
            · have e1 : mx9 cc (6 * y + x + 1) = mm := by have := HM.out; rw [if_neg hgt] at this; exact this
              have e2 : am9 cc (6 * y + x + 1) = am9 cc (6 * y + x) := by have := HN.out; rw [if_neg hgt] at this; exact this
              have E1 := Lib.hid e1
              have E2 := Lib.hid e2
              clear e1 e2 HM HN
              have S5 : Hid (KR 2 [(w.heap.size, Obj.cells #[.int .i64 (rowv (f 0)), .int .i64 (rowv (f 1)), .int .i64 (rowv (f 2)), .int .i64 (rowv (f 3)), .int .i64 (rowv (f 4)), .int .i64 (rowv (f 5))] 28 (0, 0)), (w.heap.size + 1, Obj.cells #[.int .i64 (rowv (g 0)), .int .i64 (rowv (g 1)), .int .i64 (rowv (g 2)), .int .i64 (rowv (g 3)), .int .i64 (rowv (g 4)), .int .i64 (rowv (g 5))] 28 (0, 0))] w w' ∧ w'.heap[w.heap.size + 2]? = some (Obj.cells #[.int .i64 0, .int .i64 0] 25 (0, 0)) ∧ w'.heap[w.heap.size + 3]? = some (Obj.cells #[.int .i64 p1, .int .i64 p2] 25 (0, 0))) := Lib.hid ⟨hk, hq, hbq⟩
              go_wp2_with fail
              go_roundw
              case rel => exact ⟨x + 1, by omega, by go_num, by rw [show 6 * y + (x + 1) = 6 * y + x + 1 by omega, E1.out], Lib.hid (by rw [show 6 * y + (x + 1) = 6 * y + x + 1 by omega, E2.out, ← HP1.out, ← HP2.out]; exact S5.out)⟩
              case measure => simp [intOf]; omega
        · obtain rfl : x = 6 := by omega
          go_wp2_with fail
          go_roundw
          case rel => exact ⟨y + 1, by omega, by go_num, by rw [show 6 * (y + 1) = 6 * y + 6 by omega], Lib.hid (by rw [show 6 * (y + 1) = 6 * y + 6 by omega]; exact HS.out)⟩
          case measure => simp [intOf]; omega
    · obtain rfl : y = 6 := by omega
      obtain ⟨hk, hq, hbq⟩ := HX.out
      rw [show 6 * 6 = 36 from rfl] at hbq ⊢
      have b_c := fun j => cell_of_row wr _ j _ _ _ hbq
      have z_c := fun j => cell_of_row wr _ j _ _ _ hq
      have z_f := fun j => frozen_of_row wr _ j _ _ hq
      have hB := hk.2.2
      clear hk hq hbq HX
      obtain ⟨p1, hp1⟩ : ∃ p : Int, p = ((am9 cc 36 % 6 : Nat) : Int) := ⟨_, rfl⟩
      obtain ⟨p2, hp2⟩ : ∃ p : Int, p = ((am9 cc 36 / 6 : Nat) : Int) := ⟨_, rfl⟩
      rw [← hp1, ← hp2] at b_c
      have HP1 := Lib.hid hp1
      have HP2 := Lib.hid hp2
      clear hp1 hp2
      go_wp2_with fail
      refine bodyPost_ret (v := .tuple #[.agg #[.int .i64 p1, .int .i64 p2], .int .i64 (mx9 cc 36), .bool true]) (by simp [results, Try.results49, go_sem, z_c]) rfl ⟨by rw [HP1.out, HP2.out], ?_⟩
      exact (hB.setCell (by first | (simp; done) | (simp; omega)) _).setCell (by first | (simp; done) | (simp; omega)) _
set_option maxHeartbeats 2000000 in
theorem sbc_n0 (a0 a1 a2 a3 a4 a5 : Int) (b0 b1 b2 b3 b4 b5 : Int) (HA : Hid (∀ w, Calls Try.prog 98 #[.agg #[.int .i64 a0, .int .i64 a1, .int .i64 a2, .int .i64 a3, .int .i64 a4, .int .i64 a5]] w fun e w' => e = .returned (.bool false) ∧ Below w.heap.size w w')) (w : World) : Calls Try.prog 49 #[.agg #[.int .i64 a0, .int .i64 a1, .int .i64 a2, .int .i64 a3, .int .i64 a4, .int .i64 a5], .agg #[.int .i64 b0, .int .i64 b1, .int .i64 b2, .int .i64 b3, .int .i64 b4, .int .i64 b5]] w fun e w' => e = .returned (.tuple #[.agg #[.int .i64 0, .int .i64 0], .int .i64 0, .bool false]) ∧ Below w.heap.size w w' := by
  go_enter Try.func49, Try.ntmps49
  go_wp2_with fail
  generalize hW : (World.alloc _ _ : World) = W0
  have q0 : W0.heap[(w.heap.size : Nat)]? = some (Obj.cells #[.int .i64 a0, .int .i64 a1, .int .i64 a2, .int .i64 a3, .int .i64 a4, .int .i64 a5] 28 (0, 0)) := by
    rw [← hW]
    repeat (first | (refine alloc_at ?_; first | (simp; done) | (simp; omega)) | refine drew_row ?_ | refine alloc_past ?_ | assumption)
  have q1 : W0.heap[(w.heap.size + 1 : Nat)]? = some (Obj.cells #[.int .i64 b0, .int .i64 b1, .int .i64 b2, .int .i64 b3, .int .i64 b4, .int .i64 b5] 28 (0, 0)) := by
    rw [← hW]
    repeat (first | (refine alloc_at ?_; first | (simp; done) | (simp; omega)) | refine drew_row ?_ | refine alloc_past ?_ | assumption)
  have hq : W0.heap[(w.heap.size + 2 : Nat)]? = some (Obj.cells #[.int .i64 0, .int .i64 0] 25 (0, 0)) := by
    rw [← hW]
    repeat (first | (refine alloc_at ?_; first | (simp; done) | (simp; omega)) | refine drew_row ?_ | refine alloc_past ?_ | assumption)
  have hk : KR 2 [(w.heap.size, Obj.cells #[.int .i64 a0, .int .i64 a1, .int .i64 a2, .int .i64 a3, .int .i64 a4, .int .i64 a5] 28 (0, 0)), (w.heap.size + 1, Obj.cells #[.int .i64 b0, .int .i64 b1, .int .i64 b2, .int .i64 b3, .int .i64 b4, .int .i64 b5] 28 (0, 0))] w W0 := ⟨by simp [q0, q1], by rw [← hW]; simp, by rw [← hW]; (repeat (first | exact Below.refl _ _ | assumption | refine Below.setCell ?_ (by first | (simp; done) | (simp; omega)) _ | refine Below.alloc ?_ (by first | (simp; done) | (simp; omega)) _ | refine Below.drew ?_))⟩
  have hbq : W0.heap[(w.heap.size + 3 : Nat)]? = some (Obj.cells #[.int .i64 0, .int .i64 0] 25 (0, 0)) := by
    rw [← hW]
    repeat (first | (refine alloc_at ?_; first | (simp; done) | (simp; omega)) | refine drew_row ?_ | refine alloc_past ?_ | assumption)
  clear hW q0 q1
  have r0_c := fun j => cell_of_row W0 _ j _ _ _ (hk.row (g := w.heap.size) (List.mem_cons_self ..))
  have r1_c := fun j => cell_of_row W0 _ j _ _ _ (hk.row (g := w.heap.size + 1) (List.mem_cons_of_mem _ (List.mem_cons_self ..)))
  have z_c := fun j => cell_of_row W0 _ j _ _ _ hq
  have z_f := fun j => frozen_of_row W0 _ j _ _ hq
  go_wp2_with fail
  refine (HA.out _).mono ?_
  rintro e W1 ⟨rfl, hb⟩
  clear r0_c r1_c z_c z_f
  have hk := hk.far hb rfl
  have hq := rowk hq hb rfl
  have hbq := rowk hbq hb rfl
  clear hb
  have r0_c := fun j => cell_of_row W1 _ j _ _ _ (hk.row (g := w.heap.size) (List.mem_cons_self ..))
  have r1_c := fun j => cell_of_row W1 _ j _ _ _ (hk.row (g := w.heap.size + 1) (List.mem_cons_of_mem _ (List.mem_cons_self ..)))
  have z_c := fun j => cell_of_row W1 _ j _ _ _ hq
  have z_f := fun j => frozen_of_row W1 _ j _ _ hq
  have b_c := fun j => cell_of_row W1 _ j _ _ _ hbq
  go_wp2_with fail
  have hB := hk.2.2
  refine bodyPost_ret (v := .tuple #[.agg #[.int .i64 0, .int .i64 0], .int .i64 0, .bool false]) (by simp [results, Try.results49, go_sem, z_c]) rfl ⟨rfl, ?_⟩
  exact (hB.setCell (by first | (simp; done) | (simp; omega)) _).setCell (by first | (simp; done) | (simp; omega)) _
set_option maxHeartbeats 2000000 in
theorem sbc_n1 (a0 a1 a2 a3 a4 a5 : Int) (b0 b1 b2 b3 b4 b5 : Int) (HA : Hid (∀ w, Calls Try.prog 98 #[.agg #[.int .i64 a0, .int .i64 a1, .int .i64 a2, .int .i64 a3, .int .i64 a4, .int .i64 a5]] w fun e w' => e = .returned (.bool true) ∧ Below w.heap.size w w'))(HB : Hid (∀ w, Calls Try.prog 98 #[.agg #[.int .i64 b0, .int .i64 b1, .int .i64 b2, .int .i64 b3, .int .i64 b4, .int .i64 b5]] w fun e w' => e = .returned (.bool false) ∧ Below w.heap.size w w')) (w : World) : Calls Try.prog 49 #[.agg #[.int .i64 a0, .int .i64 a1, .int .i64 a2, .int .i64 a3, .int .i64 a4, .int .i64 a5], .agg #[.int .i64 b0, .int .i64 b1, .int .i64 b2, .int .i64 b3, .int .i64 b4, .int .i64 b5]] w fun e w' => e = .returned (.tuple #[.agg #[.int .i64 0, .int .i64 0], .int .i64 0, .bool false]) ∧ Below w.heap.size w w' := by
  go_enter Try.func49, Try.ntmps49
  go_wp2_with fail
  generalize hW : (World.alloc _ _ : World) = W0
  have q0 : W0.heap[(w.heap.size : Nat)]? = some (Obj.cells #[.int .i64 a0, .int .i64 a1, .int .i64 a2, .int .i64 a3, .int .i64 a4, .int .i64 a5] 28 (0, 0)) := by
    rw [← hW]
    repeat (first | (refine alloc_at ?_; first | (simp; done) | (simp; omega)) | refine drew_row ?_ | refine alloc_past ?_ | assumption)
  have q1 : W0.heap[(w.heap.size + 1 : Nat)]? = some (Obj.cells #[.int .i64 b0, .int .i64 b1, .int .i64 b2, .int .i64 b3, .int .i64 b4, .int .i64 b5] 28 (0, 0)) := by
    rw [← hW]
    repeat (first | (refine alloc_at ?_; first | (simp; done) | (simp; omega)) | refine drew_row ?_ | refine alloc_past ?_ | assumption)
  have hq : W0.heap[(w.heap.size + 2 : Nat)]? = some (Obj.cells #[.int .i64 0, .int .i64 0] 25 (0, 0)) := by
    rw [← hW]
    repeat (first | (refine alloc_at ?_; first | (simp; done) | (simp; omega)) | refine drew_row ?_ | refine alloc_past ?_ | assumption)
  have hk : KR 2 [(w.heap.size, Obj.cells #[.int .i64 a0, .int .i64 a1, .int .i64 a2, .int .i64 a3, .int .i64 a4, .int .i64 a5] 28 (0, 0)), (w.heap.size + 1, Obj.cells #[.int .i64 b0, .int .i64 b1, .int .i64 b2, .int .i64 b3, .int .i64 b4, .int .i64 b5] 28 (0, 0))] w W0 := ⟨by simp [q0, q1], by rw [← hW]; simp, by rw [← hW]; (repeat (first | exact Below.refl _ _ | assumption | refine Below.setCell ?_ (by first | (simp; done) | (simp; omega)) _ | refine Below.alloc ?_ (by first | (simp; done) | (simp; omega)) _ | refine Below.drew ?_))⟩
  have hbq : W0.heap[(w.heap.size + 3 : Nat)]? = some (Obj.cells #[.int .i64 0, .int .i64 0] 25 (0, 0)) := by
    rw [← hW]
    repeat (first | (refine alloc_at ?_; first | (simp; done) | (simp; omega)) | refine drew_row ?_ | refine alloc_past ?_ | assumption)
  clear hW q0 q1
  have r0_c := fun j => cell_of_row W0 _ j _ _ _ (hk.row (g := w.heap.size) (List.mem_cons_self ..))
  have r1_c := fun j => cell_of_row W0 _ j _ _ _ (hk.row (g := w.heap.size + 1) (List.mem_cons_of_mem _ (List.mem_cons_self ..)))
  have z_c := fun j => cell_of_row W0 _ j _ _ _ hq
  have z_f := fun j => frozen_of_row W0 _ j _ _ hq
  go_wp2_with fail
  refine (HA.out _).mono ?_
  rintro e W1 ⟨rfl, hb⟩
  clear r0_c r1_c z_c z_f
  have hk := hk.far hb rfl
  have hq := rowk hq hb rfl
  have hbq := rowk hbq hb rfl
  clear hb
  have r0_c := fun j => cell_of_row W1 _ j _ _ _ (hk.row (g := w.heap.size) (List.mem_cons_self ..))
  have r1_c := fun j => cell_of_row W1 _ j _ _ _ (hk.row (g := w.heap.size + 1) (List.mem_cons_of_mem _ (List.mem_cons_self ..)))
  have z_c := fun j => cell_of_row W1 _ j _ _ _ hq
  have z_f := fun j => frozen_of_row W1 _ j _ _ hq
  go_wp2_with fail
  refine (HB.out _).mono ?_
  rintro e W2 ⟨rfl, hb⟩
  clear r0_c r1_c z_c z_f
  have hk := hk.far hb rfl
  have hq := rowk hq hb rfl
  have hbq := rowk hbq hb rfl
  clear hb
  have r0_c := fun j => cell_of_row W2 _ j _ _ _ (hk.row (g := w.heap.size) (List.mem_cons_self ..))
  have r1_c := fun j => cell_of_row W2 _ j _ _ _ (hk.row (g := w.heap.size + 1) (List.mem_cons_of_mem _ (List.mem_cons_self ..)))
  have z_c := fun j => cell_of_row W2 _ j _ _ _ hq
  have z_f := fun j => frozen_of_row W2 _ j _ _ hq
  have b_c := fun j => cell_of_row W2 _ j _ _ _ hbq
  go_wp2_with fail
  have hB := hk.2.2
  refine bodyPost_ret (v := .tuple #[.agg #[.int .i64 0, .int .i64 0], .int .i64 0, .bool false]) (by simp [results, Try.results49, go_sem, z_c]) rfl ⟨rfl, ?_⟩
  exact (hB.setCell (by first | (simp; done) | (simp; omega)) _).setCell (by first | (simp; done) | (simp; omega)) _
/- Pi9 -/
theorem bc_pair (a0 a1 a2 a3 a4 a5 : Int) (b0 b1 b2 b3 b4 b5 : Int) : ∃ (r0 r1 q : Int) (t : Bool), (∀ w, Calls Try.prog 49 #[.agg #[.int .i64 a0, .int .i64 a1, .int .i64 a2, .int .i64 a3, .int .i64 a4, .int .i64 a5], .agg #[.int .i64 b0, .int .i64 b1, .int .i64 b2, .int .i64 b3, .int .i64 b4, .int .i64 b5]] w fun e w' => e = .returned (.tuple #[.agg #[.int .i64 r0, .int .i64 r1], .int .i64 q, .bool t]) ∧ Below w.heap.size w w') ∧ (∀ w, Calls Try.prog 50 #[.agg #[.int .i64 a0, .int .i64 a1, .int .i64 a2, .int .i64 a3, .int .i64 a4, .int .i64 a5], .agg #[.int .i64 b0, .int .i64 b1, .int .i64 b2, .int .i64 b3, .int .i64 b4, .int .i64 b5]] w fun e w' => e = .returned (.tuple #[.agg #[.int .i64 r0, .int .i64 r1], .int .i64 q, .bool t]) ∧ Below w.heap.size w w') := by
  cases ha : (ok a0 && ok a1 && ok a2 && ok a3 && ok a4 && ok a5)
  · exact ⟨0, 0, 0, false, sbc_n0 a0 a1 a2 a3 a4 a5 b0 b1 b2 b3 b4 b5 (sh_as a0 a1 a2 a3 a4 a5 ha), ibc_n a0 a1 a2 a3 a4 a5 b0 b1 b2 b3 b4 b5 (fun _ => 0) (itab_bad a0 a1 a2 a3 a4 a5 b0 b1 b2 b3 b4 b5 (.inl ha))⟩
  · cases hb : (ok b0 && ok b1 && ok b2 && ok b3 && ok b4 && ok b5)
    · exact ⟨0, 0, 0, false, sbc_n1 a0 a1 a2 a3 a4 a5 b0 b1 b2 b3 b4 b5 (sh_as a0 a1 a2 a3 a4 a5 ha) (sh_as b0 b1 b2 b3 b4 b5 hb), ibc_n a0 a1 a2 a3 a4 a5 b0 b1 b2 b3 b4 b5 (fun _ => 0) (itab_bad a0 a1 a2 a3 a4 a5 b0 b1 b2 b3 b4 b5 (.inr hb))⟩
    · obtain ⟨f, rfl, rfl, rfl, rfl, rfl, rfl⟩ := sheet_bits a0 a1 a2 a3 a4 a5 ha
      obtain ⟨g, rfl, rfl, rfl, rfl, rfl, rfl⟩ := sheet_bits b0 b1 b2 b3 b4 b5 hb
      have hS := sbc_y f g (sh_as (rowv (f 0)) (rowv (f 1)) (rowv (f 2)) (rowv (f 3)) (rowv (f 4)) (rowv (f 5)) (sh_of f)) (sh_as (rowv (g 0)) (rowv (g 1)) (rowv (g 2)) (rowv (g 3)) (rowv (g 4)) (rowv (g 5)) (sh_of g))
      obtain ⟨h1, h2, h3⟩ := am9_spec (fun k => cn9 f g (k % 6) (k / 6)) 36 (by decide)
      have hge := mx9_ge (fun k => cn9 f g (k % 6) (k / 6)) 36
      have hzz := ht9_zero (fun k => cn9 f g (k % 6) (k / 6)) 36
      rw [← ht9_swap (cn9 f g)] at hzz
      rw [h2] at hS hge h3
      refine ⟨_, _, _, true, hS, ibc_go (rowv (f 0)) (rowv (f 1)) (rowv (f 2)) (rowv (f 3)) (rowv (f 4)) (rowv (f 5)) (rowv (g 0)) (rowv (g 1)) (rowv (g 2)) (rowv (g 3)) (rowv (g 4)) (rowv (g 5)) (tbm f g) (cn9 f g) _ _ h1 ?_ ?_ ?_ rfl ?_ (itab_h f g) (Lib.hid (fun x y hx hy w => commonat_f f g hx hy w))⟩
      · have := (cn9_eq f g (am9 (fun k => cn9 f g (k % 6) (k / 6)) 36 % 6) (am9 (fun k => cn9 f g (k % 6) (k / 6)) 36 / 6)).2
        omega
      · intro j hj hj2
        refine (hzz j).mpr fun i hi e => ?_
        have h := hge i hi
        try dsimp only at h
        try dsimp only at e
        omega
      · intro h
        exact (hzz _).mp h _ h1 rfl
      · intro x y hx hy hlt
        have h := h3 (6 * y + x) hlt
        try dsimp only at h
        rw [show (6 * y + x) % 6 = x by omega, show (6 * y + x) / 6 = y by omega] at h
        omega
end Go.Proofs.Ythphkhcppljdlaa
