/- MERGED, for one claim's sake: Tv9, Tt9, Tu9, Te9, Tx9, Pt9, Pf9, Pg9. -/
import Derived.Test.YthphkhcppljdlaaPv8
import Derived.Test.YthphkhcppljdlaaTd9
import Derived.Test.YthphkhcppljdlaaMx7
import Derived.Test.YthphkhcppljdlaaQ7
import Derived.Test.YthphkhcppljdlaaFs
import Derived.Test.YthphkhcppljdlaaPb
import Derived.Test.YthphkhcppljdlaaWc
import Derived.Test.YthphkhcppljdlaaSz
import Derived.WalkKit
import Derived.ProofKit
import Derived.OpenShut
import Derived.Lib.Hide
import Derived.WalkSpells
import Derived.Below
import Derived.BigQuiet
import Derived.LoopN
import Derived.RegionTactic
import Derived.Deep.RegionHeld3
namespace Go.Proofs.Ythphkhcppljdlaa
open Go.ChangeShapes Go.WideShapes Go.ChangeAt Go.RowKit
set_option linter.unusedVariables false
/- Tv9 -/
/-- 37 cells. -/
def cs37 (m : Nat → Int) : List Value := (List.range 37).map fun j => Value.int .i64 (m j)
theorem cs37_len (m : Nat → Int) : (cs37 m).length = 37 := by simp [cs37]
theorem cs37_at (m : Nat → Int) (j : Nat) : (cs37 m)[j]? = if j < 37 then some (.int .i64 (m j)) else none := by
  unfold cs37
  by_cases h : j < 37 <;> simp [h]
theorem cs37_one (m : Nat → Int) : ∀ v ∈ cs37 m, v.oneCell' = true := by
  intro v hv
  unfold cs37 at hv
  obtain ⟨j, _, rfl⟩ := List.mem_map.mp hv
  rfl
theorem cs37_congr {f g : Nat → Int} (h : ∀ j, j < 37 → f j = g j) : cs37 f = cs37 g := List.map_congr_left fun j hj => by rw [h j (List.mem_range.mp hj)]
/-- A picture's value. -/
def tv (m : Nat → Int) : Value := .agg (cs37 m).toArray
/-- A picture in a block of its own. -/
def tb (T : TypeId) (m : Nat → Int) : Obj := .cells (cs37 m).toArray T (0, 0)
theorem tv_congr {f g : Nat → Int} (h : ∀ j, j < 37 → f j = g j) : tv f = tv g := by unfold tv; rw [cs37_congr h]
theorem tb_congr {T : TypeId} {f g : Nat → Int} (h : ∀ j, j < 37 → f j = g j) : tb T f = tb T g := by unfold tb; rw [cs37_congr h]
theorem tv_inj {f g : Nat → Int} (h : tv f = tv g) (j : Nat) (hj : j < 37) : f j = g j := by
  have h1 : cs37 f = cs37 g := by
    have := congrArg Value.cells h
    simpa [tv, Value.cells] using this
  have h2 := congrArg (fun l => l[j]?) h1
  simp only [cs37_at, if_pos hj] at h2
  simpa using h2
theorem tb_cell {W : World} {g : Nat} {T : TypeId} {m : Nat → Int} (h : W.heap[g]? = some (tb T m)) (j : Nat) : W.cell? ⟨g, j, none⟩ = if j < 37 then some (.int .i64 (m j)) else none := by
  unfold tb at h
  rw [cell_of_row W g j _ _ _ h, ← cs37_at m j]
  simp
theorem tb_frozen {W : World} {g : Nat} {T : TypeId} {m : Nat → Int} (h : W.heap[g]? = some (tb T m)) (j : Nat) : W.frozen? ⟨g, j, none⟩ = false := by
  unfold tb at h
  exact frozen_of_row W g j _ _ h
theorem tb_range {W : World} {g : Nat} {T : TypeId} {m : Nat → Int} (h : W.heap[g]? = some (tb T m)) : W.rangeAt g 0 (cs37 m) := by
  intro j v hv
  rw [Nat.zero_add, tb_cell h, ← cs37_at m j]
  exact hv
theorem tb_there {W : World} {g : Nat} {T : TypeId} {m : Nat → Int} (h : W.heap[g]? = some (tb T m)) : W.there g 0 37 := by
  intro j hj
  refine ⟨?_, tb_frozen h _⟩
  rw [Nat.zero_add, tb_cell h, if_pos hj]
  rfl
theorem tb_set {W : World} {g k : Nat} {T : TypeId} {m : Nat → Int} (v : Int) (hk : k < 37) (h : W.heap[g]? = some (tb T m)) : (W.setCell ⟨g, k, none⟩ (.int .i64 v)).heap[g]? = some (tb T (uq m k v)) := by
  unfold tb at h ⊢
  rw [heap_setCell_same W g k _ _ _ h]
  congr 2
  apply Array.ext'
  simp only [List.setIfInBounds_toArray]
  apply List.ext_getElem?
  intro i
  rw [cs37_at, List.getElem?_set, cs37_at, cs37_len]
  unfold uq
  by_cases e : k = i
  · subst e; simp [hk]
  · rw [if_neg e, if_neg (show ¬ i = k from fun e' => e e'.symm)]
theorem tb_sets {W : World} {g : Nat} {T : TypeId} {m : Nat → Int} (q : Nat → Int) (h : W.heap[g]? = some (tb T m)) : (W.setCells g 0 (cs37 q)).heap[g]? = some (tb T q) := by
  unfold tb at h ⊢
  rw [setCells_row (cs37 q) 0 W (cs37 m) h (by rw [cs37_len, cs37_len]; omega)]
  rw [List.take_zero, List.nil_append, List.drop_of_length_le (by rw [cs37_len, cs37_len]; omega), List.append_nil]
section
variable {P : Program} {ops : Array Oper} {rest : List Oper} {o : Oper} {a : Act} {w : World} {Q : Exit → Act → World → Prop}
/-- A picture that comes in gets a block. -/
theorem wpList_box37 (hg : o.guard = none) (t : TypeId) (x : Operand) (ho : o.op = .box t x) (m : Nat → Int) (hx : a.eval x = tv m) (h : wpList P ops Q rest (a.put o.dst (.pointer (some ⟨w.heap.size, 0, none⟩))) (w.alloc (tb t m))) : wpList P ops Q (o :: rest) a w := by
  refine wpList_plain hg fun K hK => ?_
  unfold Oper.wp execOp
  simp only [ho, hx, Sem.run_bind, Instr.box, newVar, newRow, run_newObj_alloc, Sem.run_pure, Result.andThen_ok]
  exact hK _ _ h
/-- A picture is read. -/
theorem wpList_load37 (hg : o.guard = none) (ty : TypeId) (x : Operand) (ho : o.op = .load ty x) (g : Nat) (hx : a.eval x = .pointer (some ⟨g, 0, none⟩)) (T : TypeId) (m : Nat → Int) (hW : w.heap[g]? = some (tb T m)) (d : TypeDesc) (hu : P.underlying ty = some d) (hd : d.isRow = true) (hi : (P.info? ty).map (·.size) = some 37) (h : wpList P ops Q rest (a.put o.dst (tv m)) w) : wpList P ops Q (o :: rest) a w :=
  wpList_load_mid hg ty x ho g 0 hx (cs37 m) d (tb_range hW) hu hd (by rw [hi, cs37_len]) h
/-- A picture is written. -/
theorem wpList_store37 (hg : o.guard = none) (ty : TypeId) (x y : Operand) (ho : o.op = .store ty x y) (g : Nat) (hx : a.eval x = .pointer (some ⟨g, 0, none⟩)) (q : Nat → Int) (hy : a.eval y = tv q) (T : TypeId) (m : Nat → Int) (hW : w.heap[g]? = some (tb T m)) (hi : (P.info? ty).map (·.size) = some 37) (h : wpList P ops Q rest (a.put o.dst undef) (w.setCells g 0 (cs37 q))) : wpList P ops Q (o :: rest) a w :=
  wpList_store_mid hg ty x y ho g 0 (cs37 q).toArray hx hy (by rw [List.size_toArray, cs37_len]; exact tb_there hW) (by rw [hi, List.size_toArray, cs37_len]) (all_oneCell_toArray (cs37_one q)) h
end
section
variable {P : Program} {ops : Array Oper} {rest : List Oper} {a : Act} {w : World} {Q : Exit → Act → World → Prop} {dst : Option Tmp} {type : TypeId} {pos : String} {after : Array Edge} {x y : Operand} {ty : TypeId}
theorem wpB37 (m : Nat → Int) (hx : a.eval x = tv m) (h : wpList P ops Q rest (a.put dst (.pointer (some ⟨w.heap.size, 0, none⟩))) (w.alloc (tb ty m))) : wpList P ops Q (⟨dst, .box ty x, type, pos, after, none⟩ :: rest) a w :=
  wpList_box37 (o := ⟨dst, .box ty x, type, pos, after, none⟩) rfl ty x rfl m hx h
theorem wpL37 (g : Nat) (T : TypeId) (m : Nat → Int) (hW : w.heap[g]? = some (tb T m)) (d : TypeDesc) (hu : P.underlying ty = some d) (hx : a.eval x = .pointer (some ⟨g, 0, none⟩)) (hd : d.isRow = true) (hi : (P.info? ty).map (·.size) = some 37) (h : wpList P ops Q rest (a.put dst (tv m)) w) : wpList P ops Q (⟨dst, .load ty x, type, pos, after, none⟩ :: rest) a w :=
  wpList_load37 (o := ⟨dst, .load ty x, type, pos, after, none⟩) rfl ty x rfl g hx T m hW d hu hd hi h
theorem wpS37 (g : Nat) (q : Nat → Int) (T : TypeId) (m : Nat → Int) (hW : w.heap[g]? = some (tb T m)) (hx : a.eval x = .pointer (some ⟨g, 0, none⟩)) (hy : a.eval y = tv q) (hi : (P.info? ty).map (·.size) = some 37) (h : wpList P ops Q rest (a.put dst undef) (w.setCells g 0 (cs37 q))) : wpList P ops Q (⟨dst, .store ty x y, type, pos, after, none⟩ :: rest) a w :=
  wpList_store37 (o := ⟨dst, .store ty x y, type, pos, after, none⟩) rfl ty x y rfl g hx q hy T m hW hi h
end
theorem run_load37 {P : Program} {X : World} {g : Nat} {T : TypeId} {m : Nat → Int} (hW : X.heap[g]? = some (tb T m)) (ty : TypeId) (d : TypeDesc) (hu : P.underlying ty = some d) (hd : d.isRow = true) (hi : (P.info? ty).map (·.size) = some 37) : (loadVar ty ⟨g, 0, none⟩).run P X = .ok (tv m) X :=
  run_loadVar_mid X g 0 ty (cs37 m) d (tb_range hW) hu hd (by rw [hi, cs37_len])
theorem alT (W : World) : (Instr.alloc 37 true (.tuple #[])).run Try.prog W = .ok (.pointer (some ⟨W.heap.size, 0, none⟩)) (W.alloc (tb 37 fun _ => 0)) := by kernel_rfl
theorem bdT (W : World) : (Instr.build 37 #[]).run Try.prog W = .ok (tv fun _ => 0) W := by kernel_rfl
section
variable {ops : Array Oper} {rest : List Oper} {a : Act} {w : World} {Q : Exit → Act → World → Prop} {dst : Option Tmp} {type : TypeId} {pos : String} {after : Array Edge}
theorem wpAlT (N : Nat) (hN : w.heap.size = N) (h : wpList Try.prog ops Q rest (a.put dst (.pointer (some ⟨N, 0, none⟩))) (w.alloc (tb 37 fun _ => 0))) : wpList Try.prog ops Q (⟨dst, .alloc 37, type, pos, after, none⟩ :: rest) a w := by
  subst hN
  refine wpList_plain rfl fun K hK => ?_
  unfold Oper.wp execOp
  simp only [Sem.run_bind, Sem.run_pure, Result.andThen_ok, alT]
  exact hK _ _ h
theorem wpBdT (h : wpList Try.prog ops Q rest (a.put dst (tv fun _ => 0)) w) : wpList Try.prog ops Q (⟨dst, .build 37 #[], type, pos, after, none⟩ :: rest) a w := by
  refine wpList_plain rfl fun K hK => ?_
  unfold Oper.wp execOp
  simp only [Array.map_empty, Sem.run_bind, Sem.run_pure, Result.andThen_ok, bdT]
  exact hK _ _ h
end
theorem ix37 (m : Nat → Int) : ∀ (k : Nat) (hk : k < 37) (W : World), (Instr.index 37 (tv m) (.int .i64 (k : Int))).run Try.prog W = .ok (.int .i64 (m k)) W
  | 0, _, W => by kernel_rfl
  | 1, _, W => by kernel_rfl
  | 2, _, W => by kernel_rfl
  | 3, _, W => by kernel_rfl
  | 4, _, W => by kernel_rfl
  | 5, _, W => by kernel_rfl
  | 6, _, W => by kernel_rfl
  | 7, _, W => by kernel_rfl
  | 8, _, W => by kernel_rfl
  | 9, _, W => by kernel_rfl
  | 10, _, W => by kernel_rfl
  | 11, _, W => by kernel_rfl
  | 12, _, W => by kernel_rfl
  | 13, _, W => by kernel_rfl
  | 14, _, W => by kernel_rfl
  | 15, _, W => by kernel_rfl
  | 16, _, W => by kernel_rfl
  | 17, _, W => by kernel_rfl
  | 18, _, W => by kernel_rfl
  | 19, _, W => by kernel_rfl
  | 20, _, W => by kernel_rfl
  | 21, _, W => by kernel_rfl
  | 22, _, W => by kernel_rfl
  | 23, _, W => by kernel_rfl
  | 24, _, W => by kernel_rfl
  | 25, _, W => by kernel_rfl
  | 26, _, W => by kernel_rfl
  | 27, _, W => by kernel_rfl
  | 28, _, W => by kernel_rfl
  | 29, _, W => by kernel_rfl
  | 30, _, W => by kernel_rfl
  | 31, _, W => by kernel_rfl
  | 32, _, W => by kernel_rfl
  | 33, _, W => by kernel_rfl
  | 34, _, W => by kernel_rfl
  | 35, _, W => by kernel_rfl
  | 36, _, W => by kernel_rfl
  | k + 37, h, _ => absurd h (by omega)
/-- How often each number has come up among the first k. -/
def ht9 (c : Nat → Nat) : Nat → Nat → Int
  | 0 => fun _ => 0
  | k + 1 => uq (ht9 c k) (c k) (ht9 c k (c k) + 1)
theorem ht9_count (c : Nat → Nat) : ∀ k j, ht9 c k j = ((((List.range k).map c).count j : Nat) : Int)
  | 0, j => rfl
  | k + 1, j => by
    show uq (ht9 c k) (c k) (ht9 c k (c k) + 1) j = _
    unfold uq
    rw [List.range_succ, List.map_append, List.count_append, ht9_count c k, ht9_count c k]
    by_cases h : j = c k
    · subst h; simp
    · have : ¬ c k = j := fun e => h e.symm
      simp [h, this]
theorem ht9_bd (c : Nat → Nat) (k j : Nat) : 0 ≤ ht9 c k j ∧ ht9 c k j ≤ k := by
  rw [ht9_count]
  have := List.count_le_length (a := j) (l := (List.range k).map c)
  simp at this
  omega
def sg9 (k : Nat) : Nat := (k % 6) * 6 + k / 6
theorem sg9_perm : ((List.range 36).map sg9).Perm (List.range 36) := by decide
theorem ht9_swap (F : Nat → Nat → Nat) : ht9 (fun k => F (k / 6) (k % 6)) 36 = ht9 (fun k => F (k % 6) (k / 6)) 36 := by
  funext j
  rw [ht9_count, ht9_count]
  have e : (List.range 36).map (fun k => F (k % 6) (k / 6)) = ((List.range 36).map sg9).map (fun k => F (k / 6) (k % 6)) := by
    rw [List.map_map]
    refine List.map_congr_left fun k hk => ?_
    have hk := List.mem_range.mp hk
    show _ = F (sg9 k / 6) (sg9 k % 6)
    unfold sg9
    rw [show (k % 6 * 6 + k / 6) / 6 = k % 6 by omega, show (k % 6 * 6 + k / 6) % 6 = k / 6 by omega]
  rw [e, (sg9_perm.map _).count_eq]
/- Tt9 -/
set_option maxHeartbeats 2000000 in
theorem commonat_go (a0 a1 a2 a3 a4 a5 : Int) (b0 b1 b2 b3 b4 b5 : Int) (x y : Int) (p0 p1 p2 p3 p4 p5 : Int) (q0 q1 q2 q3 q4 q5 : Int) (fd : Nat) (h : Int) (H1 : Hid (∀ w, Calls Try.prog 168 #[.agg #[.int .i64 b0, .int .i64 b1, .int .i64 b2, .int .i64 b3, .int .i64 b4, .int .i64 b5], .agg #[.int .i64 x, .int .i64 y]] w fun e w' => e = .returned (.agg #[.int .i64 p0, .int .i64 p1, .int .i64 p2, .int .i64 p3, .int .i64 p4, .int .i64 p5]) ∧ Below w.heap.size w w'))(H2 : Hid (∀ w, Calls Try.prog 132 #[.agg #[.int .i64 a0, .int .i64 a1, .int .i64 a2, .int .i64 a3, .int .i64 a4, .int .i64 a5], .agg #[.int .i64 p0, .int .i64 p1, .int .i64 p2, .int .i64 p3, .int .i64 p4, .int .i64 p5]] w fun e w' => e = .returned (.agg #[.int .i64 q0, .int .i64 q1, .int .i64 q2, .int .i64 q3, .int .i64 q4, .int .i64 q5]) ∧ Below w.heap.size w w'))(H3 : Hid (∀ w, Calls Try.prog 103 #[.agg #[.int .i64 q0, .int .i64 q1, .int .i64 q2, .int .i64 q3, .int .i64 q4, .int .i64 q5]] w fun e w' => e = .returned (.int .u64 (fd : Int)) ∧ Below w.heap.size w w'))(H4 : Hid (∀ w, Calls Try.prog 104 #[.int .u64 (fd : Int)] w fun e w' => e = .returned (.int .i64 h) ∧ Below w.heap.size w w')) (w : World) : Calls Try.prog 106 #[.agg #[.int .i64 a0, .int .i64 a1, .int .i64 a2, .int .i64 a3, .int .i64 a4, .int .i64 a5], .agg #[.int .i64 b0, .int .i64 b1, .int .i64 b2, .int .i64 b3, .int .i64 b4, .int .i64 b5], .agg #[.int .i64 x, .int .i64 y]] w fun e w' => e = .returned (.int .i64 h) ∧ Below w.heap.size w w' := by
  go_enter Try.func106, Try.ntmps106
  go_wp2_with fail
  generalize hW : (World.alloc _ _ : World) = W0
  have q0 : W0.heap[(w.heap.size : Nat)]? = some (Obj.cells #[.int .i64 a0, .int .i64 a1, .int .i64 a2, .int .i64 a3, .int .i64 a4, .int .i64 a5] 28 (0, 0)) := by
    rw [← hW]
    repeat (first | (refine alloc_at ?_; first | (simp; done) | (simp; omega)) | refine drew_row ?_ | refine alloc_past ?_ | assumption)
  have q1 : W0.heap[(w.heap.size + 1 : Nat)]? = some (Obj.cells #[.int .i64 b0, .int .i64 b1, .int .i64 b2, .int .i64 b3, .int .i64 b4, .int .i64 b5] 28 (0, 0)) := by
    rw [← hW]
    repeat (first | (refine alloc_at ?_; first | (simp; done) | (simp; omega)) | refine drew_row ?_ | refine alloc_past ?_ | assumption)
  have q2 : W0.heap[(w.heap.size + 2 : Nat)]? = some (Obj.cells #[.int .i64 x, .int .i64 y] 25 (0, 0)) := by
    rw [← hW]
    repeat (first | (refine alloc_at ?_; first | (simp; done) | (simp; omega)) | refine drew_row ?_ | refine alloc_past ?_ | assumption)
  have hk : KR 3 [(w.heap.size, Obj.cells #[.int .i64 a0, .int .i64 a1, .int .i64 a2, .int .i64 a3, .int .i64 a4, .int .i64 a5] 28 (0, 0)), (w.heap.size + 1, Obj.cells #[.int .i64 b0, .int .i64 b1, .int .i64 b2, .int .i64 b3, .int .i64 b4, .int .i64 b5] 28 (0, 0)), (w.heap.size + 2, Obj.cells #[.int .i64 x, .int .i64 y] 25 (0, 0))] w W0 := ⟨by simp [q0, q1, q2], by rw [← hW]; simp, by rw [← hW]; (repeat (first | exact Below.refl _ _ | assumption | refine Below.setCell ?_ (by first | (simp; done) | (simp; omega)) _ | refine Below.alloc ?_ (by first | (simp; done) | (simp; omega)) _ | refine Below.drew ?_))⟩
  clear hW q0 q1 q2
  have r0_c := fun j => cell_of_row W0 _ j _ _ _ (hk.row (g := w.heap.size) (List.mem_cons_self ..))
  have r1_c := fun j => cell_of_row W0 _ j _ _ _ (hk.row (g := w.heap.size + 1) (List.mem_cons_of_mem _ (List.mem_cons_self ..)))
  have r2_c := fun j => cell_of_row W0 _ j _ _ _ (hk.row (g := w.heap.size + 2) (List.mem_cons_of_mem _ (List.mem_cons_of_mem _ (List.mem_cons_self ..))))
  go_wp2_with fail
  clear r0_c r1_c r2_c
  have hz0 := KR.le hk
  set_option maxRecDepth 8000 in
  go_region_held3 (fun U => U.cell? ⟨w.heap.size, 0, none⟩ = some (.int .i64 a0) ∧ U.cell? ⟨w.heap.size, 1, none⟩ = some (.int .i64 a1) ∧ U.cell? ⟨w.heap.size, 2, none⟩ = some (.int .i64 a2) ∧ U.cell? ⟨w.heap.size, 3, none⟩ = some (.int .i64 a3) ∧ U.cell? ⟨w.heap.size, 4, none⟩ = some (.int .i64 a4) ∧ U.cell? ⟨w.heap.size, 5, none⟩ = some (.int .i64 a5) ∧ U.cell? ⟨w.heap.size + 1, 0, none⟩ = some (.int .i64 b0) ∧ U.cell? ⟨w.heap.size + 1, 1, none⟩ = some (.int .i64 b1) ∧ U.cell? ⟨w.heap.size + 1, 2, none⟩ = some (.int .i64 b2) ∧ U.cell? ⟨w.heap.size + 1, 3, none⟩ = some (.int .i64 b3) ∧ U.cell? ⟨w.heap.size + 1, 4, none⟩ = some (.int .i64 b4) ∧ U.cell? ⟨w.heap.size + 1, 5, none⟩ = some (.int .i64 b5) ∧ U.cell? ⟨w.heap.size + 2, 0, none⟩ = some (.int .i64 x) ∧ U.cell? ⟨w.heap.size + 2, 1, none⟩ = some (.int .i64 y) ∧ KR 3 [(w.heap.size, Obj.cells #[.int .i64 a0, .int .i64 a1, .int .i64 a2, .int .i64 a3, .int .i64 a4, .int .i64 a5] 28 (0, 0)), (w.heap.size + 1, Obj.cells #[.int .i64 b0, .int .i64 b1, .int .i64 b2, .int .i64 b3, .int .i64 b4, .int .i64 b5] 28 (0, 0)), (w.heap.size + 2, Obj.cells #[.int .i64 x, .int .i64 y] 25 (0, 0))] w U) (with_reducible refine SR3 ?_; (repeat (first | with_reducible assumption | with_reducible refine KR.al ?_ | with_reducible refine KR.drew ?_ | with_reducible refine KR.set ?_ (by first | omega | (simp; omega))))) (first | (go_at_call 168; with_reducible refine (H1.out _).mono ?_; rintro e w' ⟨rfl, hb'⟩; have hk : KR 3 [(w.heap.size, Obj.cells #[.int .i64 a0, .int .i64 a1, .int .i64 a2, .int .i64 a3, .int .i64 a4, .int .i64 a5] 28 (0, 0)), (w.heap.size + 1, Obj.cells #[.int .i64 b0, .int .i64 b1, .int .i64 b2, .int .i64 b3, .int .i64 b4, .int .i64 b5] 28 (0, 0)), (w.heap.size + 2, Obj.cells #[.int .i64 x, .int .i64 y] 25 (0, 0))] w w' := KR.far (by (repeat (first | with_reducible assumption | with_reducible refine KR.al ?_ | with_reducible refine KR.drew ?_ | with_reducible refine KR.set ?_ (by first | omega | (simp; omega))))) hb' rfl; have hz0 := KR.le hk) | (go_at_call 132; with_reducible refine (H2.out _).mono ?_; rintro e w' ⟨rfl, hb'⟩; have hk : KR 3 [(w.heap.size, Obj.cells #[.int .i64 a0, .int .i64 a1, .int .i64 a2, .int .i64 a3, .int .i64 a4, .int .i64 a5] 28 (0, 0)), (w.heap.size + 1, Obj.cells #[.int .i64 b0, .int .i64 b1, .int .i64 b2, .int .i64 b3, .int .i64 b4, .int .i64 b5] 28 (0, 0)), (w.heap.size + 2, Obj.cells #[.int .i64 x, .int .i64 y] 25 (0, 0))] w w' := KR.far (by (repeat (first | with_reducible assumption | with_reducible refine KR.al ?_ | with_reducible refine KR.drew ?_ | with_reducible refine KR.set ?_ (by first | omega | (simp; omega))))) hb' rfl; have hz0 := KR.le hk) | (go_at_call 103; with_reducible refine (H3.out _).mono ?_; rintro e w' ⟨rfl, hb'⟩; have hk : KR 3 [(w.heap.size, Obj.cells #[.int .i64 a0, .int .i64 a1, .int .i64 a2, .int .i64 a3, .int .i64 a4, .int .i64 a5] 28 (0, 0)), (w.heap.size + 1, Obj.cells #[.int .i64 b0, .int .i64 b1, .int .i64 b2, .int .i64 b3, .int .i64 b4, .int .i64 b5] 28 (0, 0)), (w.heap.size + 2, Obj.cells #[.int .i64 x, .int .i64 y] 25 (0, 0))] w w' := KR.far (by (repeat (first | with_reducible assumption | with_reducible refine KR.al ?_ | with_reducible refine KR.drew ?_ | with_reducible refine KR.set ?_ (by first | omega | (simp; omega))))) hb' rfl; have hz0 := KR.le hk) | (go_at_call 104; with_reducible refine (H4.out _).mono ?_; rintro e w' ⟨rfl, hb'⟩; have hk : KR 3 [(w.heap.size, Obj.cells #[.int .i64 a0, .int .i64 a1, .int .i64 a2, .int .i64 a3, .int .i64 a4, .int .i64 a5] 28 (0, 0)), (w.heap.size + 1, Obj.cells #[.int .i64 b0, .int .i64 b1, .int .i64 b2, .int .i64 b3, .int .i64 b4, .int .i64 b5] 28 (0, 0)), (w.heap.size + 2, Obj.cells #[.int .i64 x, .int .i64 y] 25 (0, 0))] w w' := KR.far (by (repeat (first | with_reducible assumption | with_reducible refine KR.al ?_ | with_reducible refine KR.drew ?_ | with_reducible refine KR.set ?_ (by first | omega | (simp; omega))))) hb' rfl; have hz0 := KR.le hk))
  all_goals
    have r0_c := fun j => cell_of_row w' _ j _ _ _ (hk.row (g := w.heap.size) (List.mem_cons_self ..))
    have r1_c := fun j => cell_of_row w' _ j _ _ _ (hk.row (g := w.heap.size + 1) (List.mem_cons_of_mem _ (List.mem_cons_self ..)))
    have r2_c := fun j => cell_of_row w' _ j _ _ _ (hk.row (g := w.heap.size + 2) (List.mem_cons_of_mem _ (List.mem_cons_of_mem _ (List.mem_cons_self ..))))
    go_wp2_with fail
    go_ret
    exact ⟨rfl, hk.2.2⟩
/-- How many cells a sheet has in common with a stamp that is shifted to a cell. -/
def cn9 (f g : Fn6) (x y : Nat) : Nat := (pc36 (af f (sf x y g))).toNat
theorem cn9_eq (f g : Fn6) (x y : Nat) : pc36 (af f (sf x y g)) = ((cn9 f g x y : Nat) : Int) ∧ cn9 f g x y < 37 := by
  have := pc36_bd (af f (sf x y g))
  unfold cn9
  omega
theorem commonat_f (f g : Fn6) {x y : Nat} (hx : x < 6) (hy : y < 6) (w : World) : Calls Try.prog 106 #[.agg #[.int .i64 (rowv (f 0)), .int .i64 (rowv (f 1)), .int .i64 (rowv (f 2)), .int .i64 (rowv (f 3)), .int .i64 (rowv (f 4)), .int .i64 (rowv (f 5))], .agg #[.int .i64 (rowv (g 0)), .int .i64 (rowv (g 1)), .int .i64 (rowv (g 2)), .int .i64 (rowv (g 3)), .int .i64 (rowv (g 4)), .int .i64 (rowv (g 5))], .agg #[.int .i64 (x : Int), .int .i64 (y : Int)]] w fun e w' => e = .returned (.int .i64 ((cn9 f g x y : Nat) : Int)) ∧ Below w.heap.size w w' :=
  commonat_go (rowv (f 0)) (rowv (f 1)) (rowv (f 2)) (rowv (f 3)) (rowv (f 4)) (rowv (f 5)) (rowv (g 0)) (rowv (g 1)) (rowv (g 2)) (rowv (g 3)) (rowv (g 4)) (rowv (g 5)) (x : Int) (y : Int) (rowv (sf x y g 0)) (rowv (sf x y g 1)) (rowv (sf x y g 2)) (rowv (sf x y g 3)) (rowv (sf x y g 4)) (rowv (sf x y g 5)) (rowv (af f (sf x y g) 0)) (rowv (af f (sf x y g) 1)) (rowv (af f (sf x y g) 2)) (rowv (af f (sf x y g) 3)) (rowv (af f (sf x y g) 4)) (rowv (af f (sf x y g) 5)) (fd36 (af f (sf x y g))) _ (Lib.hid (shiftedby_n g hx hy)) (Lib.hid (ishared_f f (sf x y g))) (Lib.hid (fieldof_s (af f (sf x y g)))) (Lib.hid (fun w => (cn9_eq f g x y).1 ▸ fsize_s (af f (sf x y g)) w)) w
theorem KR.one {n : Nat} {l : List (Nat × Obj)} {w U : World} {g k : Nat} {o o' : Obj} {v : Value} (h : KR n ((g, o) :: l) w U) (hl : ∀ p ∈ l, p.1 ≠ g) (hg : w.heap.size ≤ g) (hr : (U.setCell ⟨g, k, none⟩ v).heap[g]? = some o') : KR n ((g, o') :: l) w (U.setCell ⟨g, k, none⟩ v) := by
  refine ⟨fun p hp => ?_, by simpa using h.2.1, h.2.2.setCell hg _⟩
  rcases List.mem_cons.mp hp with rfl | hp
  · exact ⟨(h.1 _ (List.mem_cons_self ..)).1, hr⟩
  · refine ⟨(h.1 _ (List.mem_cons_of_mem _ hp)).1, ?_⟩
    rw [Below.heap_setCell _ _ _ _ (hl p hp)]
    exact (h.1 _ (List.mem_cons_of_mem _ hp)).2
set_option maxRecDepth 20000 in
set_option maxHeartbeats 4000000 in
theorem itable_yes (f g : Fn6) (H0 : Hid (∀ w, Calls Try.prog 102 #[.agg #[.int .i64 (rowv (f 0)), .int .i64 (rowv (f 1)), .int .i64 (rowv (f 2)), .int .i64 (rowv (f 3)), .int .i64 (rowv (f 4)), .int .i64 (rowv (f 5))]] w fun e w' => e = .returned (.bool true) ∧ Below w.heap.size w w'))(H1 : Hid (∀ w, Calls Try.prog 102 #[.agg #[.int .i64 (rowv (g 0)), .int .i64 (rowv (g 1)), .int .i64 (rowv (g 2)), .int .i64 (rowv (g 3)), .int .i64 (rowv (g 4)), .int .i64 (rowv (g 5))]] w fun e w' => e = .returned (.bool true) ∧ Below w.heap.size w w')) (w : World) : Calls Try.prog 43 #[.agg #[.int .i64 (rowv (f 0)), .int .i64 (rowv (f 1)), .int .i64 (rowv (f 2)), .int .i64 (rowv (f 3)), .int .i64 (rowv (f 4)), .int .i64 (rowv (f 5))], .agg #[.int .i64 (rowv (g 0)), .int .i64 (rowv (g 1)), .int .i64 (rowv (g 2)), .int .i64 (rowv (g 3)), .int .i64 (rowv (g 4)), .int .i64 (rowv (g 5))]] w fun e w' => e = .returned (.tuple #[tv (ht9 (fun k => cn9 f g (k / 6) (k % 6)) 36), .bool true]) ∧ Below w.heap.size w w' := by
  have HV := Lib.hid vectors_f
  go_enter Try.func43, Try.ntmps43
  go_wp2_with (first | ((with_reducible refine wpAlT (w.heap.size + 2) ?_ ?_); (simp; done)) | ((with_reducible refine wpAlT (w.heap.size + 3) ?_ ?_); (simp; done)))
  generalize hW : (World.alloc _ _ : World) = W0
  have q0 : W0.heap[(w.heap.size : Nat)]? = some (o6 f) := by
    rw [← hW]
    repeat (first | (refine alloc_at ?_; first | (simp; done) | (simp; omega)) | refine drew_row ?_ | refine alloc_past ?_ | assumption)
  have q1 : W0.heap[(w.heap.size + 1 : Nat)]? = some (o6 g) := by
    rw [← hW]
    repeat (first | (refine alloc_at ?_; first | (simp; done) | (simp; omega)) | refine drew_row ?_ | refine alloc_past ?_ | assumption)
  have q2 : W0.heap[(w.heap.size + 2 : Nat)]? = some (tb 37 fun _ => 0) := by
    rw [← hW]
    repeat (first | (refine alloc_at ?_; first | (simp; done) | (simp; omega)) | refine drew_row ?_ | refine alloc_past ?_ | assumption)
  have q3 : W0.heap[(w.heap.size + 3 : Nat)]? = some (tb 37 fun _ => 0) := by
    rw [← hW]
    repeat (first | (refine alloc_at ?_; first | (simp; done) | (simp; omega)) | refine drew_row ?_ | refine alloc_past ?_ | assumption)
  have hk : KR 4 [(w.heap.size + 3, tb 37 (fun _ => 0)), (w.heap.size, o6 f), (w.heap.size + 1, o6 g), (w.heap.size + 2, tb 37 fun _ => 0)] w W0 := ⟨by simp [q0, q1, q2, q3], by rw [← hW]; simp, by rw [← hW]; (repeat (first | exact Below.refl _ _ | assumption | refine Below.setCell ?_ (by first | (simp; done) | (simp; omega)) _ | refine Below.alloc ?_ (by first | (simp; done) | (simp; omega)) _ | refine Below.drew ?_))⟩
  clear hW q0 q1 q2 q3
  have a_c := fun j => cell_of_row W0 _ j _ _ _ (hk.row (g := w.heap.size) (o := o6 f) (by simp))
  go_wp2_with fail
  refine (H0.out _).mono ?_
  rintro e W1 ⟨rfl, hb⟩
  have hk := hk.far hb rfl
  clear hb a_c
  have a_c := fun j => cell_of_row W1 _ j _ _ _ (hk.row (g := w.heap.size + 1) (o := o6 g) (by simp))
  go_wp2_with fail
  refine (H1.out _).mono ?_
  rintro e W2 ⟨rfl, hb⟩
  have hk := hk.far hb rfl
  clear hb a_c H0 H1
  go_wp2_with fail
  refine (HV.out _).mono ?_
  intro e W4 hp
  obtain ⟨gl, cl, rfl, ho, hb⟩ := LP.out hp
  have hl := (ho.lt gl rfl).1
  have ho0 := own_mono ho (Nat.zero_le _)
  have hz := KR.le hk
  have S4 : Hid (KR 4 [(w.heap.size + 3, tb 37 (fun _ => 0)), (w.heap.size, o6 f), (w.heap.size + 1, o6 g), (w.heap.size + 2, tb 37 fun _ => 0)] w W4 ∧ W4.ownsRow 0 25 2 (.slice (some ⟨gl, 0, none⟩) (vl 36).length cl) (vl 36).length (cv (vl 36)) ∧ w.heap.size + 3 ≠ gl) := Lib.hid ⟨hk.far hb rfl, ho0, by omega⟩
  clear hk ho0 hp hb HV hl ho hz
  have h36 : ((vl 36).length : Int) = 36 := by rw [vl_len]; rfl
  go_wp2_with fail
  go_loopw [20] (fun n wr => ∃ k : Nat, k ≤ 36 ∧ n = .int .i64 k ∧ Hid (KR 4 [(w.heap.size + 3, tb 37 (ht9 (fun k => cn9 f g (k / 6) (k % 6)) k)), (w.heap.size, o6 f), (w.heap.size + 1, o6 g), (w.heap.size + 2, tb 37 fun _ => 0)] w wr ∧ wr.ownsRow 0 25 2 (.slice (some ⟨gl, 0, none⟩) (vl 36).length cl) (vl 36).length (cv (vl 36)) ∧ w.heap.size + 3 ≠ gl)) (fun n _ => 36 - (intOf n).toNat)
  case atStart => exact ⟨0, by omega, rfl, S4⟩
  case round =>
    obtain ⟨k, hk, rfl, HS⟩ := hrel
    clear S4
    by_cases hlt : k < 36
    · have hlt' : (k : Int) < 36 := by omega
      have hltv : k < (vl 36).length := by rw [vl_len]; exact hlt
      have hk0 : (0 : Int) ≤ k := by omega
      have hx : k / 6 < 6 := by omega
      have hy : k % 6 < 6 := Nat.mod_lt _ (by decide)
      have HC := Lib.hid (commonat_f f g hx hy)
      obtain ⟨p1, p2⟩ := cv_at (vl 36) k hltv
      rw [vl_get 36 k hltv] at p1 p2
      have a1 := own_at HS.out.2.1 p1
      have a2 := own_at HS.out.2.1 p2
      dsimp only at a1 a2
      clear p1 p2
      have hbd := ht9_bd (fun k => cn9 f g (k / 6) (k % 6)) k (cn9 f g (k / 6) (k % 6))
      have hc37 := (cn9_eq f g (k / 6) (k % 6)).2
      have HST : Hid (uq (ht9 (fun k => cn9 f g (k / 6) (k % 6)) k) (cn9 f g (k / 6) (k % 6)) (ht9 (fun k => cn9 f g (k / 6) (k % 6)) k (cn9 f g (k / 6) (k % 6)) + 1) = ht9 (fun k => cn9 f g (k / 6) (k % 6)) (k + 1)) := Lib.hid rfl
      have hkr := HS.out.1
      have HO := Lib.hid HS.out.2
      clear HS
      generalize ht9 (fun k => cn9 f g (k / 6) (k % 6)) k = m at hkr HST hbd
      generalize cn9 f g (k / 6) (k % 6) = c at *
      generalize k / 6 = x at *
      generalize k % 6 = y at *
      have s_c := fun j => cell_of_row (wr.alloc (.cells #[.int .i64 (x : Int), .int .i64 (y : Int)] 25)) _ j _ _ _ (alloc_past (hkr.row (g := w.heap.size) (o := o6 f) (by simp)))
      have t_c := fun j => cell_of_row (wr.alloc (.cells #[.int .i64 (x : Int), .int .i64 (y : Int)] 25)) _ j _ _ _ (alloc_past (hkr.row (g := w.heap.size + 1) (o := o6 g) (by simp)))
      have n_c := fun j => cell_of_row (wr.alloc (.cells #[.int .i64 (x : Int), .int .i64 (y : Int)] 25)) _ j _ _ _ (alloc_at (g := wr.heap.size) rfl)
      go_wp2_with fail
      refine (HC.out _).mono ?_
      rintro e w1 ⟨rfl, hb⟩
      clear s_c t_c n_c a1 a2 HC
      have hk1 := (hkr.al (o := .cells #[.int .i64 (x : Int), .int .i64 (y : Int)] 25)).far hb rfl
      have ho1 := (HO.out.1.alloc (.cells #[.int .i64 (x : Int), .int .i64 (y : Int)] 25)).kept (grown_below hb rfl) (.inr (by simp [Value.ownBlock]))
      clear hb hkr
      have hrow := hk1.row (g := w.heap.size + 3) (o := tb 37 m) (List.mem_cons_self ..)
      have hcell : w1.cell? ⟨w.heap.size + 3, c, none⟩ = some (.int .i64 (m c)) := by rw [tb_cell hrow, if_pos hc37]
      have hfz : w1.frozen? ⟨w.heap.size + 3, c, none⟩ = false := tb_frozen hrow c
      have hci : (c : Int) < 37 := by omega
      have hc0 : (0 : Int) ≤ c := by omega
      obtain ⟨v, hv⟩ : ∃ v, v = m c + 1 := ⟨_, rfl⟩
      have hw : wrap64 (m c + 1) = v := by rw [hv]; exact wr9 (by omega) (by omega)
      rw [← hv] at HST
      have HP := Lib.hid (hk1.one (k := c) (v := .int .i64 v) (o' := tb 37 (uq m c v)) (by intro p hp; simp only [List.mem_cons, List.mem_nil_iff, or_false] at hp; rcases hp with rfl | rfl | rfl <;> (dsimp only; omega)) (by omega) (tb_set v hc37 hrow))
      have HQ := Lib.hid (ho1.kept (grow_set w1 ⟨w.heap.size + 3, c, none⟩ (.int .i64 v)) (.inr (by have := HO.out.2; simp only [Value.ownBlock, ne_eq, Option.some.injEq]; omega)))
      clear hk1 ho1 hrow hv hbd
      generalize m c = u at *
      go_wp2_with fail
      go_roundw
      case rel => exact ⟨k + 1, by omega, by go_num, Lib.hid ⟨by rw [← HST.out]; exact HP.out, HQ.out, HO.out.2⟩⟩
      case measure => simp [intOf]; omega
    · obtain rfl : k = 36 := by omega
      have hkr := HS.out.1
      clear HS
      obtain ⟨m, hm⟩ : ∃ m, m = ht9 (fun k => cn9 f g (k / 6) (k % 6)) 36 := ⟨_, rfl⟩
      rw [← hm] at hkr
      have HM := Lib.hid hm
      clear hm
      have q3 := hkr.row (g := w.heap.size + 3) (o := tb 37 m) (List.mem_cons_self ..)
      have q2 := hkr.row (g := w.heap.size + 2) (o := tb 37 fun _ => 0) (by simp)
      have hB := hkr.2.2
      clear hkr
      go_wp2_with (first | ((with_reducible refine wpL37 (w.heap.size + 3) 37 m q3 _ Try.underlying37 ?_ ?_ ?_ ?_); rfl; rfl; kernel_rfl) | ((with_reducible refine wpS37 (w.heap.size + 2) m 37 _ q2 ?_ ?_ ?_ ?_); rfl; rfl; kernel_rfl))
      have hr := tb_sets m q2
      have hB' := setCells_below (b := w.heap.size + 2) (cs37 m) 0 hB (by omega)
      clear q2 q3 hB
      generalize (World.setCells _ _ _ _ : World) = X at hr hB' ⊢
      exact bodyPost_ret (v := .tuple #[tv m, .bool true]) (res36b (a := 4) (b := 5) (t := 37) rfl rfl rfl (run_load37 hr _ _ Try.underlying37 rfl (by kernel_rfl))) rfl ⟨by rw [HM.out], hB'⟩
set_option maxRecDepth 20000 in
set_option maxHeartbeats 2000000 in
theorem itable_n0 (a0 a1 a2 a3 a4 a5 : Int) (b0 b1 b2 b3 b4 b5 : Int) (H0 : Hid (∀ w, Calls Try.prog 102 #[.agg #[.int .i64 a0, .int .i64 a1, .int .i64 a2, .int .i64 a3, .int .i64 a4, .int .i64 a5]] w fun e w' => e = .returned (.bool false) ∧ Below w.heap.size w w')) (w : World) : Calls Try.prog 43 #[.agg #[.int .i64 a0, .int .i64 a1, .int .i64 a2, .int .i64 a3, .int .i64 a4, .int .i64 a5], .agg #[.int .i64 b0, .int .i64 b1, .int .i64 b2, .int .i64 b3, .int .i64 b4, .int .i64 b5]] w fun e w' => e = .returned (.tuple #[tv fun _ => 0, .bool false]) ∧ Below w.heap.size w w' := by
  go_enter Try.func43, Try.ntmps43
  go_wp2_with (first | ((with_reducible refine wpAlT (w.heap.size + 2) ?_ ?_); (simp; done)) | ((with_reducible refine wpAlT (w.heap.size + 3) ?_ ?_); (simp; done)))
  generalize hW : (World.alloc _ _ : World) = W0
  have q0 : W0.heap[(w.heap.size : Nat)]? = some (Obj.cells #[.int .i64 a0, .int .i64 a1, .int .i64 a2, .int .i64 a3, .int .i64 a4, .int .i64 a5] 28 (0, 0)) := by
    rw [← hW]
    repeat (first | (refine alloc_at ?_; first | (simp; done) | (simp; omega)) | refine drew_row ?_ | refine alloc_past ?_ | assumption)
  have q1 : W0.heap[(w.heap.size + 1 : Nat)]? = some (Obj.cells #[.int .i64 b0, .int .i64 b1, .int .i64 b2, .int .i64 b3, .int .i64 b4, .int .i64 b5] 28 (0, 0)) := by
    rw [← hW]
    repeat (first | (refine alloc_at ?_; first | (simp; done) | (simp; omega)) | refine drew_row ?_ | refine alloc_past ?_ | assumption)
  have q2 : W0.heap[(w.heap.size + 2 : Nat)]? = some (tb 37 fun _ => 0) := by
    rw [← hW]
    repeat (first | (refine alloc_at ?_; first | (simp; done) | (simp; omega)) | refine drew_row ?_ | refine alloc_past ?_ | assumption)
  have q3 : W0.heap[(w.heap.size + 3 : Nat)]? = some (tb 37 fun _ => 0) := by
    rw [← hW]
    repeat (first | (refine alloc_at ?_; first | (simp; done) | (simp; omega)) | refine drew_row ?_ | refine alloc_past ?_ | assumption)
  have hk : KR 4 [(w.heap.size + 3, tb 37 fun _ => 0), (w.heap.size, Obj.cells #[.int .i64 a0, .int .i64 a1, .int .i64 a2, .int .i64 a3, .int .i64 a4, .int .i64 a5] 28 (0, 0)), (w.heap.size + 1, Obj.cells #[.int .i64 b0, .int .i64 b1, .int .i64 b2, .int .i64 b3, .int .i64 b4, .int .i64 b5] 28 (0, 0)), (w.heap.size + 2, tb 37 fun _ => 0)] w W0 := ⟨by simp [q0, q1, q2, q3], by rw [← hW]; simp, by rw [← hW]; (repeat (first | exact Below.refl _ _ | assumption | refine Below.setCell ?_ (by first | (simp; done) | (simp; omega)) _ | refine Below.alloc ?_ (by first | (simp; done) | (simp; omega)) _ | refine Below.drew ?_))⟩
  clear hW q0 q1 q2 q3
  have a_c := fun j => cell_of_row W0 _ j _ _ _ (hk.row (g := w.heap.size) (o := Obj.cells #[.int .i64 a0, .int .i64 a1, .int .i64 a2, .int .i64 a3, .int .i64 a4, .int .i64 a5] 28 (0, 0)) (by simp))
  go_wp2_with fail
  refine (H0.out _).mono ?_
  rintro e W1 ⟨rfl, hb⟩
  have hk := hk.far hb rfl
  clear hb a_c
  have q3 := hk.row (g := w.heap.size + 3) (o := tb 37 fun _ => 0) (List.mem_cons_self ..)
  have q2 := hk.row (g := w.heap.size + 2) (o := tb 37 fun _ => 0) (by simp)
  have hB := hk.2.2
  clear hk
  go_wp2_with (first | ((with_reducible refine wpL37 (w.heap.size + 3) 37 (fun _ => 0) q3 _ Try.underlying37 ?_ ?_ ?_ ?_); rfl; rfl; kernel_rfl) | ((with_reducible refine wpS37 (w.heap.size + 2) (fun _ => 0) 37 _ q2 ?_ ?_ ?_ ?_); rfl; rfl; kernel_rfl))
  have hr := tb_sets (fun _ => 0) q2
  have hB' := setCells_below (b := w.heap.size + 2) (cs37 fun _ => 0) 0 hB (by omega)
  clear q2 q3 hB
  generalize (World.setCells _ _ _ _ : World) = X at hr hB' ⊢
  exact bodyPost_ret (v := .tuple #[tv fun _ => 0, .bool false]) (res36b (a := 4) (b := 5) (t := 37) rfl rfl rfl (run_load37 hr _ _ Try.underlying37 rfl (by kernel_rfl))) rfl ⟨rfl, hB'⟩
set_option maxRecDepth 20000 in
set_option maxHeartbeats 2000000 in
theorem itable_n1 (a0 a1 a2 a3 a4 a5 : Int) (b0 b1 b2 b3 b4 b5 : Int) (H0 : Hid (∀ w, Calls Try.prog 102 #[.agg #[.int .i64 a0, .int .i64 a1, .int .i64 a2, .int .i64 a3, .int .i64 a4, .int .i64 a5]] w fun e w' => e = .returned (.bool true) ∧ Below w.heap.size w w'))(H1 : Hid (∀ w, Calls Try.prog 102 #[.agg #[.int .i64 b0, .int .i64 b1, .int .i64 b2, .int .i64 b3, .int .i64 b4, .int .i64 b5]] w fun e w' => e = .returned (.bool false) ∧ Below w.heap.size w w')) (w : World) : Calls Try.prog 43 #[.agg #[.int .i64 a0, .int .i64 a1, .int .i64 a2, .int .i64 a3, .int .i64 a4, .int .i64 a5], .agg #[.int .i64 b0, .int .i64 b1, .int .i64 b2, .int .i64 b3, .int .i64 b4, .int .i64 b5]] w fun e w' => e = .returned (.tuple #[tv fun _ => 0, .bool false]) ∧ Below w.heap.size w w' := by
  go_enter Try.func43, Try.ntmps43
  go_wp2_with (first | ((with_reducible refine wpAlT (w.heap.size + 2) ?_ ?_); (simp; done)) | ((with_reducible refine wpAlT (w.heap.size + 3) ?_ ?_); (simp; done)))
  generalize hW : (World.alloc _ _ : World) = W0
  have q0 : W0.heap[(w.heap.size : Nat)]? = some (Obj.cells #[.int .i64 a0, .int .i64 a1, .int .i64 a2, .int .i64 a3, .int .i64 a4, .int .i64 a5] 28 (0, 0)) := by
    rw [← hW]
    repeat (first | (refine alloc_at ?_; first | (simp; done) | (simp; omega)) | refine drew_row ?_ | refine alloc_past ?_ | assumption)
  have q1 : W0.heap[(w.heap.size + 1 : Nat)]? = some (Obj.cells #[.int .i64 b0, .int .i64 b1, .int .i64 b2, .int .i64 b3, .int .i64 b4, .int .i64 b5] 28 (0, 0)) := by
    rw [← hW]
    repeat (first | (refine alloc_at ?_; first | (simp; done) | (simp; omega)) | refine drew_row ?_ | refine alloc_past ?_ | assumption)
  have q2 : W0.heap[(w.heap.size + 2 : Nat)]? = some (tb 37 fun _ => 0) := by
    rw [← hW]
    repeat (first | (refine alloc_at ?_; first | (simp; done) | (simp; omega)) | refine drew_row ?_ | refine alloc_past ?_ | assumption)
  have q3 : W0.heap[(w.heap.size + 3 : Nat)]? = some (tb 37 fun _ => 0) := by
    rw [← hW]
    repeat (first | (refine alloc_at ?_; first | (simp; done) | (simp; omega)) | refine drew_row ?_ | refine alloc_past ?_ | assumption)
  have hk : KR 4 [(w.heap.size + 3, tb 37 fun _ => 0), (w.heap.size, Obj.cells #[.int .i64 a0, .int .i64 a1, .int .i64 a2, .int .i64 a3, .int .i64 a4, .int .i64 a5] 28 (0, 0)), (w.heap.size + 1, Obj.cells #[.int .i64 b0, .int .i64 b1, .int .i64 b2, .int .i64 b3, .int .i64 b4, .int .i64 b5] 28 (0, 0)), (w.heap.size + 2, tb 37 fun _ => 0)] w W0 := ⟨by simp [q0, q1, q2, q3], by rw [← hW]; simp, by rw [← hW]; (repeat (first | exact Below.refl _ _ | assumption | refine Below.setCell ?_ (by first | (simp; done) | (simp; omega)) _ | refine Below.alloc ?_ (by first | (simp; done) | (simp; omega)) _ | refine Below.drew ?_))⟩
  clear hW q0 q1 q2 q3
  have a_c := fun j => cell_of_row W0 _ j _ _ _ (hk.row (g := w.heap.size) (o := Obj.cells #[.int .i64 a0, .int .i64 a1, .int .i64 a2, .int .i64 a3, .int .i64 a4, .int .i64 a5] 28 (0, 0)) (by simp))
  go_wp2_with fail
  refine (H0.out _).mono ?_
  rintro e W1 ⟨rfl, hb⟩
  have hk := hk.far hb rfl
  clear hb a_c
  have a_c := fun j => cell_of_row W1 _ j _ _ _ (hk.row (g := w.heap.size + 1) (o := Obj.cells #[.int .i64 b0, .int .i64 b1, .int .i64 b2, .int .i64 b3, .int .i64 b4, .int .i64 b5] 28 (0, 0)) (by simp))
  go_wp2_with fail
  refine (H1.out _).mono ?_
  rintro e W2 ⟨rfl, hb⟩
  have hk := hk.far hb rfl
  clear hb a_c
  have q3 := hk.row (g := w.heap.size + 3) (o := tb 37 fun _ => 0) (List.mem_cons_self ..)
  have q2 := hk.row (g := w.heap.size + 2) (o := tb 37 fun _ => 0) (by simp)
  have hB := hk.2.2
  clear hk
  go_wp2_with (first | ((with_reducible refine wpL37 (w.heap.size + 3) 37 (fun _ => 0) q3 _ Try.underlying37 ?_ ?_ ?_ ?_); rfl; rfl; kernel_rfl) | ((with_reducible refine wpS37 (w.heap.size + 2) (fun _ => 0) 37 _ q2 ?_ ?_ ?_ ?_); rfl; rfl; kernel_rfl))
  have hr := tb_sets (fun _ => 0) q2
  have hB' := setCells_below (b := w.heap.size + 2) (cs37 fun _ => 0) 0 hB (by omega)
  clear q2 q3 hB
  generalize (World.setCells _ _ _ _ : World) = X at hr hB' ⊢
  exact bodyPost_ret (v := .tuple #[tv fun _ => 0, .bool false]) (res36b (a := 4) (b := 5) (t := 37) rfl rfl rfl (run_load37 hr _ _ Try.underlying37 rfl (by kernel_rfl))) rfl ⟨rfl, hB'⟩
/- Tu9 -/
/-- Midway: both sheets, the answer's room, and the numbers so far. -/
def Tw9 (w : World) (f g : Fn6) (U : World) : Prop := ∃ m, KR 4 [(w.heap.size + 3, tb 37 (m)), (w.heap.size, o6 f), (w.heap.size + 1, o6 g), (w.heap.size + 2, tb 37 fun _ => 0)] w U
/-- What a world has in a block's cell. -/
def wm9 (U : World) (g j : Nat) : Int := intOf ((U.cell? ⟨g, j, none⟩).getD undef)
theorem tb_wm {m : Nat → Int} {U : World} {g : Nat} {T : TypeId} (h : U.heap[g]? = some (tb T m)) (j : Nat) : U.cell? ⟨g, j, none⟩ = if j < 37 then some (.int .i64 (wm9 U g j)) else none := by
  by_cases hj : j < 37
  · unfold wm9
    rw [tb_cell h, if_pos hj, if_pos hj]
    rfl
  · rw [tb_cell h, if_neg hj, if_neg hj]
theorem ST4 {w U : World} {f g : Fn6} {m : Nat → Int} (h : KR 4 [(w.heap.size + 3, tb 37 (m)), (w.heap.size, o6 f), (w.heap.size + 1, o6 g), (w.heap.size + 2, tb 37 fun _ => 0)] w U) : U.cell? ⟨w.heap.size, 0, none⟩ = some (.int .i64 (rowv (f 0))) ∧ U.cell? ⟨w.heap.size, 1, none⟩ = some (.int .i64 (rowv (f 1))) ∧ U.cell? ⟨w.heap.size, 2, none⟩ = some (.int .i64 (rowv (f 2))) ∧ U.cell? ⟨w.heap.size, 3, none⟩ = some (.int .i64 (rowv (f 3))) ∧ U.cell? ⟨w.heap.size, 4, none⟩ = some (.int .i64 (rowv (f 4))) ∧ U.cell? ⟨w.heap.size, 5, none⟩ = some (.int .i64 (rowv (f 5))) ∧ U.cell? ⟨w.heap.size + 1, 0, none⟩ = some (.int .i64 (rowv (g 0))) ∧ U.cell? ⟨w.heap.size + 1, 1, none⟩ = some (.int .i64 (rowv (g 1))) ∧ U.cell? ⟨w.heap.size + 1, 2, none⟩ = some (.int .i64 (rowv (g 2))) ∧ U.cell? ⟨w.heap.size + 1, 3, none⟩ = some (.int .i64 (rowv (g 3))) ∧ U.cell? ⟨w.heap.size + 1, 4, none⟩ = some (.int .i64 (rowv (g 4))) ∧ U.cell? ⟨w.heap.size + 1, 5, none⟩ = some (.int .i64 (rowv (g 5))) ∧ (∀ j, U.cell? ⟨w.heap.size + 3, j, none⟩ = if j < 37 then some (.int .i64 (wm9 U (w.heap.size + 3) j)) else none) ∧ (∀ j, U.frozen? ⟨w.heap.size + 3, j, none⟩ = false) ∧ Tw9 w f g U := by
  have h0 := fun j => cell_of_row U _ j _ _ _ (h.row (g := w.heap.size) (o := o6 f) (by simp))
  have h1 := fun j => cell_of_row U _ j _ _ _ (h.row (g := w.heap.size + 1) (o := o6 g) (by simp))
  have h3 := h.row (g := w.heap.size + 3) (o := tb 37 m) (List.mem_cons_self ..)
  exact ⟨h0 0, h0 1, h0 2, h0 3, h0 4, h0 5, h1 0, h1 1, h1 2, h1 3, h1 4, h1 5, tb_wm h3, fun j => tb_frozen h3 j, m, h⟩
theorem T4.put {w U : World} {f g : Fn6} {m : Nat → Int} {c : Nat} (h : KR 4 [(w.heap.size + 3, tb 37 (m)), (w.heap.size, o6 f), (w.heap.size + 1, o6 g), (w.heap.size + 2, tb 37 fun _ => 0)] w U) (hc : c < 37) (v : Int) : KR 4 [(w.heap.size + 3, tb 37 (uq m c v)), (w.heap.size, o6 f), (w.heap.size + 1, o6 g), (w.heap.size + 2, tb 37 fun _ => 0)] w (U.setCell ⟨w.heap.size + 3, c, none⟩ (.int .i64 v)) :=
  h.one (by intro p hp; simp only [List.mem_cons, List.mem_nil_iff, or_false] at hp; rcases hp with rfl | rfl | rfl <;> (dsimp only; omega)) (by omega) (tb_set v hc (h.row (List.mem_cons_self ..)))
set_option maxRecDepth 20000 in
set_option maxHeartbeats 4000000 in
theorem ltable_f (f g : Fn6) (w : World) : Calls Try.prog 99 #[.agg #[.int .i64 (rowv (f 0)), .int .i64 (rowv (f 1)), .int .i64 (rowv (f 2)), .int .i64 (rowv (f 3)), .int .i64 (rowv (f 4)), .int .i64 (rowv (f 5))], .agg #[.int .i64 (rowv (g 0)), .int .i64 (rowv (g 1)), .int .i64 (rowv (g 2)), .int .i64 (rowv (g 3)), .int .i64 (rowv (g 4)), .int .i64 (rowv (g 5))]] w fun e w' => e = .returned (tv (ht9 (fun k => cn9 f g (k % 6) (k / 6)) 36)) ∧ Below w.heap.size w w' := by
  have HZ : Hid (((((w.alloc (.cells #[.int .i64 (rowv (f 0)), .int .i64 (rowv (f 1)), .int .i64 (rowv (f 2)), .int .i64 (rowv (f 3)), .int .i64 (rowv (f 4)), .int .i64 (rowv (f 5))] 28)).alloc (.cells #[.int .i64 (rowv (g 0)), .int .i64 (rowv (g 1)), .int .i64 (rowv (g 2)), .int .i64 (rowv (g 3)), .int .i64 (rowv (g 4)), .int .i64 (rowv (g 5))] 28)).alloc (.cells #[.int .i64 0, .int .i64 0, .int .i64 0, .int .i64 0, .int .i64 0, .int .i64 0, .int .i64 0, .int .i64 0, .int .i64 0, .int .i64 0, .int .i64 0, .int .i64 0, .int .i64 0, .int .i64 0, .int .i64 0, .int .i64 0, .int .i64 0, .int .i64 0, .int .i64 0, .int .i64 0, .int .i64 0, .int .i64 0, .int .i64 0, .int .i64 0, .int .i64 0, .int .i64 0, .int .i64 0, .int .i64 0, .int .i64 0, .int .i64 0, .int .i64 0, .int .i64 0, .int .i64 0, .int .i64 0, .int .i64 0, .int .i64 0, .int .i64 0] 37)).alloc (.cells #[.int .i64 0, .int .i64 0, .int .i64 0, .int .i64 0, .int .i64 0, .int .i64 0, .int .i64 0, .int .i64 0, .int .i64 0, .int .i64 0, .int .i64 0, .int .i64 0, .int .i64 0, .int .i64 0, .int .i64 0, .int .i64 0, .int .i64 0, .int .i64 0, .int .i64 0, .int .i64 0, .int .i64 0, .int .i64 0, .int .i64 0, .int .i64 0, .int .i64 0, .int .i64 0, .int .i64 0, .int .i64 0, .int .i64 0, .int .i64 0, .int .i64 0, .int .i64 0, .int .i64 0, .int .i64 0, .int .i64 0, .int .i64 0, .int .i64 0] 37)).heap[w.heap.size + 3]? = some (tb 37 fun _ => 0)) := Lib.hid (alloc_at (by simp))
  go_enter Try.func99, Try.ntmps99
  go_wp2_with (first | ((with_reducible refine wpAlT (w.heap.size + 2) ?_ ?_); (simp; done)) | ((with_reducible refine wpAlT (w.heap.size + 3) ?_ ?_); (simp; done)) | (with_reducible refine wpBdT ?_) | ((with_reducible refine wpS37 (w.heap.size + 3) (fun _ => 0) 37 _ HZ.out ?_ ?_ ?_ ?_); rfl; rfl; kernel_rfl))
  generalize hW : (World.setCells _ _ _ _ : World) = W0
  have q0 : W0.heap[(w.heap.size : Nat)]? = some (o6 f) := by
    rw [← hW, setCells_other (by omega)]
    repeat (first | (refine alloc_at ?_; first | (simp; done) | (simp; omega)) | refine drew_row ?_ | refine alloc_past ?_ | assumption)
  have q1 : W0.heap[(w.heap.size + 1 : Nat)]? = some (o6 g) := by
    rw [← hW, setCells_other (by omega)]
    repeat (first | (refine alloc_at ?_; first | (simp; done) | (simp; omega)) | refine drew_row ?_ | refine alloc_past ?_ | assumption)
  have q2 : W0.heap[(w.heap.size + 2 : Nat)]? = some (tb 37 fun _ => 0) := by
    rw [← hW, setCells_other (by omega)]
    repeat (first | (refine alloc_at ?_; first | (simp; done) | (simp; omega)) | refine drew_row ?_ | refine alloc_past ?_ | assumption)
  have q3 : W0.heap[(w.heap.size + 3 : Nat)]? = some (tb 37 fun _ => 0) := by
    rw [← hW]
    exact tb_sets (fun _ => 0) HZ.out
  have S1 : Hid (KR 4 [(w.heap.size + 3, tb 37 (fun _ => 0)), (w.heap.size, o6 f), (w.heap.size + 1, o6 g), (w.heap.size + 2, tb 37 fun _ => 0)] w W0) := Lib.hid ⟨by simp [q0, q1, q2, q3], by rw [← hW, setCells_size]; simp, by rw [← hW]; exact setCells_below _ _ (by (repeat (first | exact Below.refl _ _ | assumption | refine Below.setCell ?_ (by first | (simp; done) | (simp; omega)) _ | refine Below.alloc ?_ (by first | (simp; done) | (simp; omega)) _ | refine Below.drew ?_))) (by omega)⟩
  clear hW q0 q1 q2 q3 HZ
  go_loopw [6] (fun n wr => ∃ y : Nat, y ≤ 6 ∧ n = .int .i64 y ∧ Hid (KR 4 [(w.heap.size + 3, tb 37 (ht9 (fun k => cn9 f g (k % 6) (k / 6)) (6 * y))), (w.heap.size, o6 f), (w.heap.size + 1, o6 g), (w.heap.size + 2, tb 37 fun _ => 0)] w wr)) (fun n _ => 6 - (intOf n).toNat)
  case atStart => exact ⟨0, by omega, rfl, S1⟩
  case round =>
    obtain ⟨y, hy, rfl, HX⟩ := hrel
    by_cases hly : y < 6
    · have hyi : (y : Int) < 6 := by omega
      have hly2 : decide ((y : Int) < (6 : Int)) = true := decide_eq_true hyi
      go_wp2_with fail
      try rw [hly2]
      clear hly2
      go_loopw [7] (fun n wr => ∃ x : Nat, x ≤ 6 ∧ n = .int .i64 x ∧ Hid (KR 4 [(w.heap.size + 3, tb 37 (ht9 (fun k => cn9 f g (k % 6) (k / 6)) (6 * y + x))), (w.heap.size, o6 f), (w.heap.size + 1, o6 g), (w.heap.size + 2, tb 37 fun _ => 0)] w wr)) (fun n _ => 6 - (intOf n).toNat)
      case atStart => exact ⟨0, by omega, rfl, HX⟩
      case round =>
        obtain ⟨x, hx, rfl, HS⟩ := hrel
        by_cases hlx : x < 6
        · have hxi : (x : Int) < 6 := by omega
          have hx0 : (0 : Int) ≤ x := by omega
          have hy0 : (0 : Int) ≤ y := by omega
          have H1 := Lib.hid (l2shift_7 g hlx hly)
          have H2 := Lib.hid (land_f f (sf x y g))
          have H3 : Hid (∀ w, Calls Try.prog 91 #[.agg #[.int .i64 (rowv (af f (sf x y g) 0)), .int .i64 (rowv (af f (sf x y g) 1)), .int .i64 (rowv (af f (sf x y g) 2)), .int .i64 (rowv (af f (sf x y g) 3)), .int .i64 (rowv (af f (sf x y g) 4)), .int .i64 (rowv (af f (sf x y g) 5))]] w fun e w' => e = .returned (.int .i64 ((cn9 f g x y : Nat) : Int)) ∧ Below w.heap.size w w') := Lib.hid (fun w => (cn9_eq f g x y).1 ▸ lcount_s (af f (sf x y g)) w)
          have HST : Hid (uq (ht9 (fun k => cn9 f g (k % 6) (k / 6)) (6 * y + x)) (cn9 f g x y) (ht9 (fun k => cn9 f g (k % 6) (k / 6)) (6 * y + x) (cn9 f g x y) + 1) = ht9 (fun k => cn9 f g (k % 6) (k / 6)) (6 * y + x + 1)) := Lib.hid (by
            show _ = uq (ht9 (fun k => cn9 f g (k % 6) (k / 6)) (6 * y + x)) (cn9 f g ((6 * y + x) % 6) ((6 * y + x) / 6)) (ht9 (fun k => cn9 f g (k % 6) (k / 6)) (6 * y + x) (cn9 f g ((6 * y + x) % 6) ((6 * y + x) / 6)) + 1)
            rw [show (6 * y + x) % 6 = x by omega, show (6 * y + x) / 6 = y by omega])
          have hbd := ht9_bd (fun k => cn9 f g (k % 6) (k / 6)) (6 * y + x) (cn9 f g x y)
          have hc37 := (cn9_eq f g x y).2
          have hq := HS.out
          clear HS HX S1
          generalize ht9 (fun k => cn9 f g (k % 6) (k / 6)) (6 * y + x) = m at hq HST hbd
          generalize cn9 f g x y = c at *
          generalize af f (sf x y g) = q at *
          generalize sf x y g = p at *
          have hci : (c : Int) < 37 := by omega
          have hc0 : (0 : Int) ≤ c := by omega
          obtain ⟨v, hv⟩ : ∃ v, v = m c + 1 := ⟨_, rfl⟩
          have hw : IntKind.i64.wrap (m c + 1) = v := by rw [hv]; exact iw9 (by omega) (by omega)
          have hw2 : wrap64 (m c + 1) = v := by rw [hv]; exact wr9 (by omega) (by omega)
          rw [← hv] at HST
          clear hv hbd
          go_wp2_with fail
          have HD := Lib.hid hq
          have d_c := fun j => cell_of_row wr.drew _ j _ _ _ (HD.out.drew.row (g := w.heap.size) (o := o6 f) (by simp))
          have dg_c := fun j => cell_of_row wr.drew _ j _ _ _ (HD.out.drew.row (g := w.heap.size + 1) (o := o6 g) (by simp))
          set_option maxRecDepth 8000 in
          go_region_with (first | (go_at_call 115; with_reducible refine (H1.out _).mono ?_; rintro e w' ⟨rfl, hb'⟩; have HE := Lib.hid (HD.out.drew.far hb' rfl); have e_c := fun j => cell_of_row w' _ j _ _ _ (HE.out.row (g := w.heap.size) (o := o6 f) (by simp))) | (go_at_call 114; with_reducible refine (H2.out _).mono ?_; rintro e w2 ⟨rfl, hb'⟩; have HG := Lib.hid (HE.out.far hb' rfl); clear e_c) | (go_at_call 91; with_reducible refine (H3.out _).mono ?_; rintro e w3 ⟨rfl, hb'⟩; have HK := Lib.hid (HG.out.far hb' rfl); clear d_c dg_c; have b_c : w3.cell? ⟨w.heap.size + 3, c, none⟩ = some (.int .i64 (m c)) := (tb_cell (HK.out.row (g := w.heap.size + 3) (o := tb 37 m) (List.mem_cons_self ..)) c).trans (if_pos hc37); have b_f : w3.frozen? ⟨w.heap.size + 3, c, none⟩ = false := tb_frozen (HK.out.row (g := w.heap.size + 3) (o := tb 37 m) (List.mem_cons_self ..)) c))
          all_goals
            have HJ := Lib.hid (T4.put HK.out hc37 v)
            clear HK HG HE HD b_c b_f hq H1 H2 H3
            go_wp2_with fail
            go_roundw
            case rel => exact ⟨x + 1, by omega, by go_num, Lib.hid (by rw [show 6 * y + (x + 1) = 6 * y + x + 1 by omega, ← HST.out]; exact HJ.out)⟩
            case measure => simp [intOf]; omega
        · obtain rfl : x = 6 := by omega
          clear HX S1
          go_wp2_with fail
          go_roundw
          case rel => exact ⟨y + 1, by omega, by go_num, Lib.hid (by rw [show 6 * (y + 1) = 6 * y + 6 by omega]; exact HS.out)⟩
          case measure => simp [intOf]; omega
    · obtain rfl : y = 6 := by omega
      have hkr := HX.out
      clear HX S1
      rw [show 6 * 6 = 36 from rfl] at hkr
      obtain ⟨m, hm⟩ : ∃ m, m = ht9 (fun k => cn9 f g (k % 6) (k / 6)) 36 := ⟨_, rfl⟩
      rw [← hm] at hkr
      have HM := Lib.hid hm
      clear hm
      have q3 := hkr.row (g := w.heap.size + 3) (o := tb 37 m) (List.mem_cons_self ..)
      have q2 := hkr.row (g := w.heap.size + 2) (o := tb 37 fun _ => 0) (by simp)
      have hB := hkr.2.2
      clear hkr
      go_wp2_with (first | ((with_reducible refine wpL37 (w.heap.size + 3) 37 m q3 _ Try.underlying37 ?_ ?_ ?_ ?_); rfl; rfl; kernel_rfl) | ((with_reducible refine wpS37 (w.heap.size + 2) m 37 _ q2 ?_ ?_ ?_ ?_); rfl; rfl; kernel_rfl))
      have hr := tb_sets m q2
      have hB' := setCells_below (b := w.heap.size + 2) (cs37 m) 0 hB (by omega)
      clear q2 q3 hB
      generalize (World.setCells _ _ _ _ : World) = X at hr hB' ⊢
      exact bodyPost_ret (v := tv m) (res36 (a := 4) (t := 37) rfl rfl (run_load37 hr _ _ Try.underlying37 rfl (by kernel_rfl))) rfl ⟨by rw [HM.out], hB'⟩
/- Te9 -/
theorem ST2 {w U : World} {ta tb b0 b1 b2 b3 b4 b5 : Int} (h : KR 2 [(w.heap.size, Obj.cells #[.int .i64 ta, .int .i64 tb] 165 (0, 0)), (w.heap.size + 1, Obj.cells #[.int .i64 b0, .int .i64 b1, .int .i64 b2, .int .i64 b3, .int .i64 b4, .int .i64 b5] 28 (0, 0))] w U) : U.cell? ⟨w.heap.size, 0, none⟩ = some (.int .i64 ta) ∧ U.cell? ⟨w.heap.size, 1, none⟩ = some (.int .i64 tb) ∧ U.cell? ⟨w.heap.size + 1, 0, none⟩ = some (.int .i64 b0) ∧ U.cell? ⟨w.heap.size + 1, 1, none⟩ = some (.int .i64 b1) ∧ U.cell? ⟨w.heap.size + 1, 2, none⟩ = some (.int .i64 b2) ∧ U.cell? ⟨w.heap.size + 1, 3, none⟩ = some (.int .i64 b3) ∧ U.cell? ⟨w.heap.size + 1, 4, none⟩ = some (.int .i64 b4) ∧ U.cell? ⟨w.heap.size + 1, 5, none⟩ = some (.int .i64 b5) ∧ KR 2 [(w.heap.size, Obj.cells #[.int .i64 ta, .int .i64 tb] 165 (0, 0)), (w.heap.size + 1, Obj.cells #[.int .i64 b0, .int .i64 b1, .int .i64 b2, .int .i64 b3, .int .i64 b4, .int .i64 b5] 28 (0, 0))] w U :=
  have h0 := fun j => cell_of_row U _ j _ _ _ (h.row (g := w.heap.size) (List.mem_cons_self ..))
  have h1 := fun j => cell_of_row U _ j _ _ _ (h.row (g := w.heap.size + 1) (List.mem_cons_of_mem _ (List.mem_cons_self ..)))
  ⟨h0 0, h0 1, h1 0, h1 1, h1 2, h1 3, h1 4, h1 5, h⟩
set_option maxHeartbeats 2000000 in
theorem mb_n0 (b0 b1 b2 b3 b4 b5 : Int) (K ta tb n : Int) (HB : Hid (∀ w, Calls Try.prog 102 #[.agg #[.int .i64 b0, .int .i64 b1, .int .i64 b2, .int .i64 b3, .int .i64 b4, .int .i64 b5]] w fun e w' => e = .returned (.bool false) ∧ Below w.heap.size w w')) (w : World) : Calls Try.prog 166 #[.int .i64 K, .agg #[.int .i64 ta, .int .i64 tb], .agg #[.int .i64 b0, .int .i64 b1, .int .i64 b2, .int .i64 b3, .int .i64 b4, .int .i64 b5], .int .i64 n] w fun e w' => e = .returned (.tuple #[.agg #[.int .i64 0, .int .i64 0], .bool false]) ∧ Below w.heap.size w w' := by
  go_enter Try.func166, Try.ntmps166
  go_wp2_with fail
  generalize hW : (World.alloc _ _ : World) = W0
  have q0 : W0.heap[(w.heap.size : Nat)]? = some (Obj.cells #[.int .i64 ta, .int .i64 tb] 165 (0, 0)) := by
    rw [← hW]
    repeat (first | (refine alloc_at ?_; first | (simp; done) | (simp; omega)) | refine drew_row ?_ | refine alloc_past ?_ | assumption)
  have q1 : W0.heap[(w.heap.size + 1 : Nat)]? = some (Obj.cells #[.int .i64 b0, .int .i64 b1, .int .i64 b2, .int .i64 b3, .int .i64 b4, .int .i64 b5] 28 (0, 0)) := by
    rw [← hW]
    repeat (first | (refine alloc_at ?_; first | (simp; done) | (simp; omega)) | refine drew_row ?_ | refine alloc_past ?_ | assumption)
  have hq : W0.heap[(w.heap.size + 2 : Nat)]? = some (Obj.cells #[.int .i64 0, .int .i64 0] 25 (0, 0)) := by
    rw [← hW]
    repeat (first | (refine alloc_at ?_; first | (simp; done) | (simp; omega)) | refine drew_row ?_ | refine alloc_past ?_ | assumption)
  have hk : KR 2 [(w.heap.size, Obj.cells #[.int .i64 ta, .int .i64 tb] 165 (0, 0)), (w.heap.size + 1, Obj.cells #[.int .i64 b0, .int .i64 b1, .int .i64 b2, .int .i64 b3, .int .i64 b4, .int .i64 b5] 28 (0, 0))] w W0 := ⟨by simp [q0, q1], by rw [← hW]; simp, by rw [← hW]; (repeat (first | exact Below.refl _ _ | assumption | refine Below.setCell ?_ (by first | (simp; done) | (simp; omega)) _ | refine Below.alloc ?_ (by first | (simp; done) | (simp; omega)) _ | refine Below.drew ?_))⟩
  clear hW q0 q1
  have r0_c := fun j => cell_of_row W0 _ j _ _ _ (hk.row (g := w.heap.size) (List.mem_cons_self ..))
  have r1_c := fun j => cell_of_row W0 _ j _ _ _ (hk.row (g := w.heap.size + 1) (List.mem_cons_of_mem _ (List.mem_cons_self ..)))
  have z_c := fun j => cell_of_row W0 _ j _ _ _ hq
  have z_f := fun j => frozen_of_row W0 _ j _ _ hq
  go_wp2_with fail
  refine (HB.out _).mono ?_
  rintro e W1 ⟨rfl, hb⟩
  clear r0_c r1_c z_c z_f
  have hk := hk.far hb rfl
  have hq := rowk hq hb rfl
  clear hb
  have r0_c := fun j => cell_of_row W1 _ j _ _ _ (hk.row (g := w.heap.size) (List.mem_cons_self ..))
  have r1_c := fun j => cell_of_row W1 _ j _ _ _ (hk.row (g := w.heap.size + 1) (List.mem_cons_of_mem _ (List.mem_cons_self ..)))
  have z_c := fun j => cell_of_row W1 _ j _ _ _ hq
  have z_f := fun j => frozen_of_row W1 _ j _ _ hq
  go_wp2_with fail
  have hB := hk.2.2
  refine bodyPost_ret (v := .tuple #[.agg #[.int .i64 0, .int .i64 0], .bool false]) (by simp [results, Try.results166, go_sem, z_c]) rfl ⟨rfl, ?_⟩
  exact (hB.setCell (by first | (simp; done) | (simp; omega)) _).setCell (by first | (simp; done) | (simp; omega)) _
set_option maxHeartbeats 2000000 in
theorem mb_n1 (b0 b1 b2 b3 b4 b5 : Int) (K ta tb n : Int) (hn : n < 0) (HB : Hid (∀ w, Calls Try.prog 102 #[.agg #[.int .i64 b0, .int .i64 b1, .int .i64 b2, .int .i64 b3, .int .i64 b4, .int .i64 b5]] w fun e w' => e = .returned (.bool true) ∧ Below w.heap.size w w')) (w : World) : Calls Try.prog 166 #[.int .i64 K, .agg #[.int .i64 ta, .int .i64 tb], .agg #[.int .i64 b0, .int .i64 b1, .int .i64 b2, .int .i64 b3, .int .i64 b4, .int .i64 b5], .int .i64 n] w fun e w' => e = .returned (.tuple #[.agg #[.int .i64 0, .int .i64 0], .bool false]) ∧ Below w.heap.size w w' := by
  go_enter Try.func166, Try.ntmps166
  go_wp2_with fail
  generalize hW : (World.alloc _ _ : World) = W0
  have q0 : W0.heap[(w.heap.size : Nat)]? = some (Obj.cells #[.int .i64 ta, .int .i64 tb] 165 (0, 0)) := by
    rw [← hW]
    repeat (first | (refine alloc_at ?_; first | (simp; done) | (simp; omega)) | refine drew_row ?_ | refine alloc_past ?_ | assumption)
  have q1 : W0.heap[(w.heap.size + 1 : Nat)]? = some (Obj.cells #[.int .i64 b0, .int .i64 b1, .int .i64 b2, .int .i64 b3, .int .i64 b4, .int .i64 b5] 28 (0, 0)) := by
    rw [← hW]
    repeat (first | (refine alloc_at ?_; first | (simp; done) | (simp; omega)) | refine drew_row ?_ | refine alloc_past ?_ | assumption)
  have hq : W0.heap[(w.heap.size + 2 : Nat)]? = some (Obj.cells #[.int .i64 0, .int .i64 0] 25 (0, 0)) := by
    rw [← hW]
    repeat (first | (refine alloc_at ?_; first | (simp; done) | (simp; omega)) | refine drew_row ?_ | refine alloc_past ?_ | assumption)
  have hk : KR 2 [(w.heap.size, Obj.cells #[.int .i64 ta, .int .i64 tb] 165 (0, 0)), (w.heap.size + 1, Obj.cells #[.int .i64 b0, .int .i64 b1, .int .i64 b2, .int .i64 b3, .int .i64 b4, .int .i64 b5] 28 (0, 0))] w W0 := ⟨by simp [q0, q1], by rw [← hW]; simp, by rw [← hW]; (repeat (first | exact Below.refl _ _ | assumption | refine Below.setCell ?_ (by first | (simp; done) | (simp; omega)) _ | refine Below.alloc ?_ (by first | (simp; done) | (simp; omega)) _ | refine Below.drew ?_))⟩
  clear hW q0 q1
  have r0_c := fun j => cell_of_row W0 _ j _ _ _ (hk.row (g := w.heap.size) (List.mem_cons_self ..))
  have r1_c := fun j => cell_of_row W0 _ j _ _ _ (hk.row (g := w.heap.size + 1) (List.mem_cons_of_mem _ (List.mem_cons_self ..)))
  have z_c := fun j => cell_of_row W0 _ j _ _ _ hq
  have z_f := fun j => frozen_of_row W0 _ j _ _ hq
  go_wp2_with fail
  refine (HB.out _).mono ?_
  rintro e W1 ⟨rfl, hb⟩
  clear r0_c r1_c z_c z_f
  have hk := hk.far hb rfl
  have hq := rowk hq hb rfl
  clear hb
  have r0_c := fun j => cell_of_row W1 _ j _ _ _ (hk.row (g := w.heap.size) (List.mem_cons_self ..))
  have r1_c := fun j => cell_of_row W1 _ j _ _ _ (hk.row (g := w.heap.size + 1) (List.mem_cons_of_mem _ (List.mem_cons_self ..)))
  have z_c := fun j => cell_of_row W1 _ j _ _ _ hq
  have z_f := fun j => frozen_of_row W1 _ j _ _ hq
  go_wp2_with fail
  have hB := hk.2.2
  refine bodyPost_ret (v := .tuple #[.agg #[.int .i64 0, .int .i64 0], .bool false]) (by simp [results, Try.results166, go_sem, z_c]) rfl ⟨rfl, ?_⟩
  exact (hB.setCell (by first | (simp; done) | (simp; omega)) _).setCell (by first | (simp; done) | (simp; omega)) _
set_option maxHeartbeats 2000000 in
theorem mb_n2 (b0 b1 b2 b3 b4 b5 : Int) (K ta tb n : Int) (hn : 6 < n) (hn2 : ¬ n < 0) (HB : Hid (∀ w, Calls Try.prog 102 #[.agg #[.int .i64 b0, .int .i64 b1, .int .i64 b2, .int .i64 b3, .int .i64 b4, .int .i64 b5]] w fun e w' => e = .returned (.bool true) ∧ Below w.heap.size w w')) (w : World) : Calls Try.prog 166 #[.int .i64 K, .agg #[.int .i64 ta, .int .i64 tb], .agg #[.int .i64 b0, .int .i64 b1, .int .i64 b2, .int .i64 b3, .int .i64 b4, .int .i64 b5], .int .i64 n] w fun e w' => e = .returned (.tuple #[.agg #[.int .i64 0, .int .i64 0], .bool false]) ∧ Below w.heap.size w w' := by
  go_enter Try.func166, Try.ntmps166
  go_wp2_with fail
  generalize hW : (World.alloc _ _ : World) = W0
  have q0 : W0.heap[(w.heap.size : Nat)]? = some (Obj.cells #[.int .i64 ta, .int .i64 tb] 165 (0, 0)) := by
    rw [← hW]
    repeat (first | (refine alloc_at ?_; first | (simp; done) | (simp; omega)) | refine drew_row ?_ | refine alloc_past ?_ | assumption)
  have q1 : W0.heap[(w.heap.size + 1 : Nat)]? = some (Obj.cells #[.int .i64 b0, .int .i64 b1, .int .i64 b2, .int .i64 b3, .int .i64 b4, .int .i64 b5] 28 (0, 0)) := by
    rw [← hW]
    repeat (first | (refine alloc_at ?_; first | (simp; done) | (simp; omega)) | refine drew_row ?_ | refine alloc_past ?_ | assumption)
  have hq : W0.heap[(w.heap.size + 2 : Nat)]? = some (Obj.cells #[.int .i64 0, .int .i64 0] 25 (0, 0)) := by
    rw [← hW]
    repeat (first | (refine alloc_at ?_; first | (simp; done) | (simp; omega)) | refine drew_row ?_ | refine alloc_past ?_ | assumption)
  have hk : KR 2 [(w.heap.size, Obj.cells #[.int .i64 ta, .int .i64 tb] 165 (0, 0)), (w.heap.size + 1, Obj.cells #[.int .i64 b0, .int .i64 b1, .int .i64 b2, .int .i64 b3, .int .i64 b4, .int .i64 b5] 28 (0, 0))] w W0 := ⟨by simp [q0, q1], by rw [← hW]; simp, by rw [← hW]; (repeat (first | exact Below.refl _ _ | assumption | refine Below.setCell ?_ (by first | (simp; done) | (simp; omega)) _ | refine Below.alloc ?_ (by first | (simp; done) | (simp; omega)) _ | refine Below.drew ?_))⟩
  clear hW q0 q1
  have r0_c := fun j => cell_of_row W0 _ j _ _ _ (hk.row (g := w.heap.size) (List.mem_cons_self ..))
  have r1_c := fun j => cell_of_row W0 _ j _ _ _ (hk.row (g := w.heap.size + 1) (List.mem_cons_of_mem _ (List.mem_cons_self ..)))
  have z_c := fun j => cell_of_row W0 _ j _ _ _ hq
  have z_f := fun j => frozen_of_row W0 _ j _ _ hq
  go_wp2_with fail
  refine (HB.out _).mono ?_
  rintro e W1 ⟨rfl, hb⟩
  clear r0_c r1_c z_c z_f
  have hk := hk.far hb rfl
  have hq := rowk hq hb rfl
  clear hb
  have r0_c := fun j => cell_of_row W1 _ j _ _ _ (hk.row (g := w.heap.size) (List.mem_cons_self ..))
  have r1_c := fun j => cell_of_row W1 _ j _ _ _ (hk.row (g := w.heap.size + 1) (List.mem_cons_of_mem _ (List.mem_cons_self ..)))
  have z_c := fun j => cell_of_row W1 _ j _ _ _ hq
  have z_f := fun j => frozen_of_row W1 _ j _ _ hq
  go_wp2_with fail
  have hB := hk.2.2
  refine bodyPost_ret (v := .tuple #[.agg #[.int .i64 0, .int .i64 0], .bool false]) (by simp [results, Try.results166, go_sem, z_c]) rfl ⟨rfl, ?_⟩
  exact (hB.setCell (by first | (simp; done) | (simp; omega)) _).setCell (by first | (simp; done) | (simp; omega)) _
set_option maxHeartbeats 4000000 in
theorem mb_y (b0 b1 b2 b3 b4 b5 : Int) (K : Int) (k h a b n : Nat) (fd : Nat) (P c1 c2 : Int) (hn : n ≤ 6) (HB : Hid (∀ w, Calls Try.prog 102 #[.agg #[.int .i64 b0, .int .i64 b1, .int .i64 b2, .int .i64 b3, .int .i64 b4, .int .i64 b5]] w fun e w' => e = .returned (.bool true) ∧ Below w.heap.size w w'))(HF : Hid (∀ w, Calls Try.prog 103 #[.agg #[.int .i64 b0, .int .i64 b1, .int .i64 b2, .int .i64 b3, .int .i64 b4, .int .i64 b5]] w fun e w' => e = .returned (.int .u64 (fd : Int)) ∧ Below w.heap.size w w'))(HS : Hid (∀ w, Calls Try.prog 104 #[.int .u64 (fd : Int)] w fun e w' => e = .returned (.int .i64 (h : Int)) ∧ Below w.heap.size w w'))(HP : Hid (∀ m, m < n → ∀ w, Calls Try.prog 205 #[.agg #[.int .i64 (((tn9 k h (a, b) (m)).1 : Nat) : Int), .int .i64 (((tn9 k h (a, b) (m)).2 : Nat) : Int)], .int .i64 K, .int .i64 (h : Int)] w fun e w' => e = .returned (.agg #[.int .i64 (((tn9 k h (a, b) (m + 1)).1 : Nat) : Int), .int .i64 (((tn9 k h (a, b) (m + 1)).2 : Nat) : Int)]) ∧ Below w.heap.size w w'))(HL : Hid (∀ w, Calls Try.prog 113 #[.int .i64 (n : Int)] w fun e w' => e = .returned (.int .i64 P) ∧ Below w.heap.size w w'))(HX : Hid (∀ w, Calls Try.prog 101 #[.int .i64 (((tn9 k h (a, b) (n)).2 : Nat) : Int), .int .i64 P] w fun e w' => e = .returned (.agg #[.int .i64 c1, .int .i64 c2]) ∧ Below w.heap.size w w')) (w : World) : Calls Try.prog 166 #[.int .i64 K, .agg #[.int .i64 (a : Int), .int .i64 (b : Int)], .agg #[.int .i64 b0, .int .i64 b1, .int .i64 b2, .int .i64 b3, .int .i64 b4, .int .i64 b5], .int .i64 (n : Int)] w fun e w' => e = .returned (.tuple #[.agg #[.int .i64 c1, .int .i64 c2], .bool true]) ∧ Below w.heap.size w w' := by
  have hn0 : ¬ (n : Int) < 0 := by omega
  have hn6 : ¬ (6 : Int) < n := by omega
  go_enter Try.func166, Try.ntmps166
  go_wp2_with fail
  generalize hW : (World.alloc _ _ : World) = W0
  have q0 : W0.heap[(w.heap.size : Nat)]? = some (Obj.cells #[.int .i64 (a : Int), .int .i64 (b : Int)] 165 (0, 0)) := by
    rw [← hW]
    repeat (first | (refine alloc_at ?_; first | (simp; done) | (simp; omega)) | refine drew_row ?_ | refine alloc_past ?_ | assumption)
  have q1 : W0.heap[(w.heap.size + 1 : Nat)]? = some (Obj.cells #[.int .i64 b0, .int .i64 b1, .int .i64 b2, .int .i64 b3, .int .i64 b4, .int .i64 b5] 28 (0, 0)) := by
    rw [← hW]
    repeat (first | (refine alloc_at ?_; first | (simp; done) | (simp; omega)) | refine drew_row ?_ | refine alloc_past ?_ | assumption)
  have hq : W0.heap[(w.heap.size + 2 : Nat)]? = some (Obj.cells #[.int .i64 0, .int .i64 0] 25 (0, 0)) := by
    rw [← hW]
    repeat (first | (refine alloc_at ?_; first | (simp; done) | (simp; omega)) | refine drew_row ?_ | refine alloc_past ?_ | assumption)
  have hk : KR 2 [(w.heap.size, Obj.cells #[.int .i64 (a : Int), .int .i64 (b : Int)] 165 (0, 0)), (w.heap.size + 1, Obj.cells #[.int .i64 b0, .int .i64 b1, .int .i64 b2, .int .i64 b3, .int .i64 b4, .int .i64 b5] 28 (0, 0))] w W0 := ⟨by simp [q0, q1], by rw [← hW]; simp, by rw [← hW]; (repeat (first | exact Below.refl _ _ | assumption | refine Below.setCell ?_ (by first | (simp; done) | (simp; omega)) _ | refine Below.alloc ?_ (by first | (simp; done) | (simp; omega)) _ | refine Below.drew ?_))⟩
  clear hW q0 q1
  have r0_c := fun j => cell_of_row W0 _ j _ _ _ (hk.row (g := w.heap.size) (List.mem_cons_self ..))
  have r1_c := fun j => cell_of_row W0 _ j _ _ _ (hk.row (g := w.heap.size + 1) (List.mem_cons_of_mem _ (List.mem_cons_self ..)))
  have z_c := fun j => cell_of_row W0 _ j _ _ _ hq
  have z_f := fun j => frozen_of_row W0 _ j _ _ hq
  go_wp2_with fail
  refine (HB.out _).mono ?_
  rintro e W1 ⟨rfl, hb⟩
  clear r0_c r1_c z_c z_f
  have hk := hk.far hb rfl
  have hq := rowk hq hb rfl
  clear hb
  have r0_c := fun j => cell_of_row W1 _ j _ _ _ (hk.row (g := w.heap.size) (List.mem_cons_self ..))
  have r1_c := fun j => cell_of_row W1 _ j _ _ _ (hk.row (g := w.heap.size + 1) (List.mem_cons_of_mem _ (List.mem_cons_self ..)))
  have z_c := fun j => cell_of_row W1 _ j _ _ _ hq
  have z_f := fun j => frozen_of_row W1 _ j _ _ hq
  go_wp2_with fail
  refine (HF.out _).mono ?_
  rintro e W2 ⟨rfl, hb⟩
  clear r0_c r1_c z_c z_f
  have hk := hk.far hb rfl
  have hq := rowk hq hb rfl
  clear hb
  have r0_c := fun j => cell_of_row W2 _ j _ _ _ (hk.row (g := w.heap.size) (List.mem_cons_self ..))
  have r1_c := fun j => cell_of_row W2 _ j _ _ _ (hk.row (g := w.heap.size + 1) (List.mem_cons_of_mem _ (List.mem_cons_self ..)))
  have z_c := fun j => cell_of_row W2 _ j _ _ _ hq
  have z_f := fun j => frozen_of_row W2 _ j _ _ hq
  go_wp2_with fail
  refine (HS.out _).mono ?_
  rintro e W3 ⟨rfl, hb⟩
  clear r0_c r1_c z_c z_f
  have hk := hk.far hb rfl
  have hq := rowk hq hb rfl
  clear hb
  have r0_c := fun j => cell_of_row W3 _ j _ _ _ (hk.row (g := w.heap.size) (List.mem_cons_self ..))
  have r1_c := fun j => cell_of_row W3 _ j _ _ _ (hk.row (g := w.heap.size + 1) (List.mem_cons_of_mem _ (List.mem_cons_self ..)))
  have z_c := fun j => cell_of_row W3 _ j _ _ _ hq
  have z_f := fun j => frozen_of_row W3 _ j _ _ hq
  go_wp2_with fail
  clear r0_c r1_c z_c z_f
  have HS0 : Hid (KR 3 [(w.heap.size, Obj.cells #[.int .i64 ((((tn9 k h (a, b) (0)).1 : Nat) : Int)), .int .i64 ((((tn9 k h (a, b) (0)).2 : Nat) : Int))] 165 (0, 0)), (w.heap.size + 1, Obj.cells #[.int .i64 b0, .int .i64 b1, .int .i64 b2, .int .i64 b3, .int .i64 b4, .int .i64 b5] 28 (0, 0)), (w.heap.size + 2, Obj.cells #[.int .i64 0, .int .i64 0] 25 (0, 0))] w W3) := Lib.hid ⟨fun p hp => by
    simp only [List.mem_cons, List.mem_nil_iff, or_false] at hp
    rcases hp with rfl | rfl | rfl
    · exact ⟨by simp, hk.row (List.mem_cons_self ..)⟩
    · exact ⟨by simp, hk.row (List.mem_cons_of_mem _ (List.mem_cons_self ..))⟩
    · exact ⟨by simp, hq⟩, by have := row_lt hq; omega, hk.2.2⟩
  clear hk hq HB HF HS
  go_loopw [27] (fun i wr => ∃ m : Nat, m ≤ n ∧ i = .int .i64 m ∧ Hid (KR 3 [(w.heap.size, Obj.cells #[.int .i64 ((((tn9 k h (a, b) (m)).1 : Nat) : Int)), .int .i64 ((((tn9 k h (a, b) (m)).2 : Nat) : Int))] 165 (0, 0)), (w.heap.size + 1, Obj.cells #[.int .i64 b0, .int .i64 b1, .int .i64 b2, .int .i64 b3, .int .i64 b4, .int .i64 b5] 28 (0, 0)), (w.heap.size + 2, Obj.cells #[.int .i64 0, .int .i64 0] 25 (0, 0))] w wr)) (fun i _ => n - (intOf i).toNat)
  case atStart => exact ⟨0, by omega, rfl, HS0⟩
  case round =>
    obtain ⟨m, hm, rfl, HW⟩ := hrel
    clear HS0
    by_cases hlt : m < n
    · have hlt' : (m : Int) < n := by omega
      have HPm := Lib.hid (HP.out m hlt)
      have hk := HW.out
      clear HW HX HL
      obtain ⟨x1, hx1⟩ : ∃ z : Int, z = (((tn9 k h (a, b) (m)).1 : Nat) : Int) := ⟨_, rfl⟩
      obtain ⟨y1, hy1⟩ : ∃ z : Int, z = (((tn9 k h (a, b) (m)).2 : Nat) : Int) := ⟨_, rfl⟩
      obtain ⟨x2, hx2⟩ : ∃ z : Int, z = (((tn9 k h (a, b) (m + 1)).1 : Nat) : Int) := ⟨_, rfl⟩
      obtain ⟨y2, hy2⟩ : ∃ z : Int, z = (((tn9 k h (a, b) (m + 1)).2 : Nat) : Int) := ⟨_, rfl⟩
      rw [← hx1, ← hy1, ← hx2, ← hy2] at HPm
      rw [← hx1, ← hy1] at hk
      have HX2 := Lib.hid hx2
      have HY2 := Lib.hid hy2
      clear hx1 hy1 hx2 hy2
      have a_c := fun j => cell_of_row wr _ j _ _ _ (hk.row (g := w.heap.size) (List.mem_cons_self ..))
      go_wp2_with fail
      refine (HPm.out _).mono ?_
      rintro e w1 ⟨rfl, hb⟩
      have hk1 := hk.far hb rfl
      clear hb hk a_c
      have a_c := fun j => cell_of_row w1 _ j _ _ _ (hk1.row (g := w.heap.size) (List.mem_cons_self ..))
      have a_f := fun j => frozen_of_row w1 _ j _ _ (hk1.row (g := w.heap.size) (List.mem_cons_self ..))
      go_wp2_with fail
      go_roundw
      case rel => exact ⟨m + 1, by omega, by go_num, Lib.hid (by rw [← HX2.out, ← HY2.out]; exact hk1.two (by simp) (Nat.le_refl _))⟩
      case measure => simp [intOf]; omega
    · obtain rfl : m = n := by omega
      have hk3 := HW.out
      clear HW HP
      obtain ⟨x1, hx1⟩ : ∃ z : Int, z = (((tn9 k h (a, b) (m)).1 : Nat) : Int) := ⟨_, rfl⟩
      obtain ⟨y1, hy1⟩ : ∃ z : Int, z = (((tn9 k h (a, b) (m)).2 : Nat) : Int) := ⟨_, rfl⟩
      rw [← hy1] at HX
      rw [← hx1, ← hy1] at hk3
      clear hx1 hy1
      have hq : wr.heap[w.heap.size + 2]? = some (Obj.cells #[.int .i64 0, .int .i64 0] 25 (0, 0)) := hk3.row (List.mem_cons_of_mem _ (List.mem_cons_of_mem _ (List.mem_cons_self ..)))
      have hk : KR 2 [(w.heap.size, Obj.cells #[.int .i64 (x1), .int .i64 (y1)] 165 (0, 0)), (w.heap.size + 1, Obj.cells #[.int .i64 b0, .int .i64 b1, .int .i64 b2, .int .i64 b3, .int .i64 b4, .int .i64 b5] 28 (0, 0))] w wr := hk3.sub (by
        intro p hp
        simp only [List.mem_cons, List.mem_nil_iff, or_false] at hp
        rcases hp with rfl | rfl
        · exact ⟨List.mem_cons_self .., by simp⟩
        · exact ⟨List.mem_cons_of_mem _ (List.mem_cons_self ..), by simp⟩) (by omega)
      clear hk3
      have hz0 := KR.le hk
      go_wp2_with fail
      set_option maxRecDepth 8000 in
      go_region_held3 (fun U => U.cell? ⟨w.heap.size, 0, none⟩ = some (.int .i64 x1) ∧ U.cell? ⟨w.heap.size, 1, none⟩ = some (.int .i64 y1) ∧ U.cell? ⟨w.heap.size + 1, 0, none⟩ = some (.int .i64 b0) ∧ U.cell? ⟨w.heap.size + 1, 1, none⟩ = some (.int .i64 b1) ∧ U.cell? ⟨w.heap.size + 1, 2, none⟩ = some (.int .i64 b2) ∧ U.cell? ⟨w.heap.size + 1, 3, none⟩ = some (.int .i64 b3) ∧ U.cell? ⟨w.heap.size + 1, 4, none⟩ = some (.int .i64 b4) ∧ U.cell? ⟨w.heap.size + 1, 5, none⟩ = some (.int .i64 b5) ∧ KR 2 [(w.heap.size, Obj.cells #[.int .i64 (x1), .int .i64 (y1)] 165 (0, 0)), (w.heap.size + 1, Obj.cells #[.int .i64 b0, .int .i64 b1, .int .i64 b2, .int .i64 b3, .int .i64 b4, .int .i64 b5] 28 (0, 0))] w U) (with_reducible refine ST2 ?_; (repeat (first | with_reducible assumption | with_reducible refine KR.al ?_ | with_reducible refine KR.drew ?_ | with_reducible refine KR.set ?_ (by first | omega | (simp; omega))))) (first | (go_at_call 113; with_reducible refine (HL.out _).mono ?_; rintro e w' ⟨rfl, hb'⟩; have hk : KR 2 [(w.heap.size, Obj.cells #[.int .i64 (x1), .int .i64 (y1)] 165 (0, 0)), (w.heap.size + 1, Obj.cells #[.int .i64 b0, .int .i64 b1, .int .i64 b2, .int .i64 b3, .int .i64 b4, .int .i64 b5] 28 (0, 0))] w w' := KR.far (by (repeat (first | with_reducible assumption | with_reducible refine KR.al ?_ | with_reducible refine KR.drew ?_ | with_reducible refine KR.set ?_ (by first | omega | (simp; omega))))) hb' rfl; have hz0 := KR.le hk; have hq : w'.heap[w.heap.size + 2]? = some (Obj.cells #[.int .i64 0, .int .i64 0] 25 (0, 0)) := rowk (by first | with_reducible assumption | (with_reducible refine drew_row ?_; with_reducible assumption)) hb' rfl; have z_c := fun j => cell_of_row w' _ j _ _ _ hq; have z_f := fun j => frozen_of_row w' _ j _ _ hq) | (go_at_call 101; with_reducible refine (HX.out _).mono ?_; rintro e w' ⟨rfl, hb'⟩; have hk : KR 2 [(w.heap.size, Obj.cells #[.int .i64 (x1), .int .i64 (y1)] 165 (0, 0)), (w.heap.size + 1, Obj.cells #[.int .i64 b0, .int .i64 b1, .int .i64 b2, .int .i64 b3, .int .i64 b4, .int .i64 b5] 28 (0, 0))] w w' := KR.far (by (repeat (first | with_reducible assumption | with_reducible refine KR.al ?_ | with_reducible refine KR.drew ?_ | with_reducible refine KR.set ?_ (by first | omega | (simp; omega))))) hb' rfl; have hz0 := KR.le hk; have hq : w'.heap[w.heap.size + 2]? = some (Obj.cells #[.int .i64 0, .int .i64 0] 25 (0, 0)) := rowk (by first | with_reducible assumption | (with_reducible refine drew_row ?_; with_reducible assumption)) hb' rfl; have z_c := fun j => cell_of_row w' _ j _ _ _ hq; have z_f := fun j => frozen_of_row w' _ j _ _ hq))
      all_goals
        go_wp2_with fail
        have hB := hk.2.2
        refine bodyPost_ret (v := .tuple #[.agg #[.int .i64 c1, .int .i64 c2], .bool true]) (by simp [results, Try.results166, go_sem, z_c]) rfl ⟨rfl, ?_⟩
        exact (hB.setCell (by first | (simp; done) | (simp; omega)) _).setCell (by first | (simp; done) | (simp; omega)) _
set_option maxHeartbeats 2000000 in
theorem ms_n (a0 a1 a2 a3 a4 a5 : Int) (b0 b1 b2 b3 b4 b5 : Int) (K n : Int) (HZ : Hid (∀ w, Calls Try.prog 56 #[.agg #[.int .i64 a0, .int .i64 a1, .int .i64 a2, .int .i64 a3, .int .i64 a4, .int .i64 a5]] w fun e w' => e = .returned (.tuple #[.int .i64 0, .bool false]) ∧ Below w.heap.size w w')) (w : World) : Calls Try.prog 97 #[.int .i64 K, .agg #[.int .i64 a0, .int .i64 a1, .int .i64 a2, .int .i64 a3, .int .i64 a4, .int .i64 a5], .agg #[.int .i64 b0, .int .i64 b1, .int .i64 b2, .int .i64 b3, .int .i64 b4, .int .i64 b5], .int .i64 n] w fun e w' => e = .returned (.tuple #[.agg #[.int .i64 0, .int .i64 0], .bool false]) ∧ Below w.heap.size w w' := by
  go_enter Try.func97, Try.ntmps97
  go_wp2_with fail
  generalize hW : (World.alloc _ _ : World) = W0
  have q0 : W0.heap[(w.heap.size : Nat)]? = some (Obj.cells #[.int .i64 a0, .int .i64 a1, .int .i64 a2, .int .i64 a3, .int .i64 a4, .int .i64 a5] 28 (0, 0)) := by
    rw [← hW]
    repeat (first | (refine alloc_at ?_; first | (simp; done) | (simp; omega)) | refine drew_row ?_ | refine alloc_past ?_ | assumption)
  have q1 : W0.heap[(w.heap.size + 1 : Nat)]? = some (Obj.cells #[.int .i64 b0, .int .i64 b1, .int .i64 b2, .int .i64 b3, .int .i64 b4, .int .i64 b5] 28 (0, 0)) := by
    rw [← hW]
    repeat (first | (refine alloc_at ?_; first | (simp; done) | (simp; omega)) | refine drew_row ?_ | refine alloc_past ?_ | assumption)
  have hq : W0.heap[(w.heap.size + 2 : Nat)]? = some (Obj.cells #[.int .i64 0, .int .i64 0] 25 (0, 0)) := by
    rw [← hW]
    repeat (first | (refine alloc_at ?_; first | (simp; done) | (simp; omega)) | refine drew_row ?_ | refine alloc_past ?_ | assumption)
  have hk : KR 2 [(w.heap.size, Obj.cells #[.int .i64 a0, .int .i64 a1, .int .i64 a2, .int .i64 a3, .int .i64 a4, .int .i64 a5] 28 (0, 0)), (w.heap.size + 1, Obj.cells #[.int .i64 b0, .int .i64 b1, .int .i64 b2, .int .i64 b3, .int .i64 b4, .int .i64 b5] 28 (0, 0))] w W0 := ⟨by simp [q0, q1], by rw [← hW]; simp, by rw [← hW]; (repeat (first | exact Below.refl _ _ | assumption | refine Below.setCell ?_ (by first | (simp; done) | (simp; omega)) _ | refine Below.alloc ?_ (by first | (simp; done) | (simp; omega)) _ | refine Below.drew ?_))⟩
  clear hW q0 q1
  have r0_c := fun j => cell_of_row W0 _ j _ _ _ (hk.row (g := w.heap.size) (List.mem_cons_self ..))
  have r1_c := fun j => cell_of_row W0 _ j _ _ _ (hk.row (g := w.heap.size + 1) (List.mem_cons_of_mem _ (List.mem_cons_self ..)))
  have z_c := fun j => cell_of_row W0 _ j _ _ _ hq
  have z_f := fun j => frozen_of_row W0 _ j _ _ hq
  go_wp2_with fail
  refine (HZ.out _).mono ?_
  rintro e W1 ⟨rfl, hb⟩
  clear r0_c r1_c z_c z_f
  have hk := hk.far hb rfl
  have hq := rowk hq hb rfl
  clear hb
  have r0_c := fun j => cell_of_row W1 _ j _ _ _ (hk.row (g := w.heap.size) (List.mem_cons_self ..))
  have r1_c := fun j => cell_of_row W1 _ j _ _ _ (hk.row (g := w.heap.size + 1) (List.mem_cons_of_mem _ (List.mem_cons_self ..)))
  have z_c := fun j => cell_of_row W1 _ j _ _ _ hq
  have z_f := fun j => frozen_of_row W1 _ j _ _ hq
  go_wp2_with fail
  have hB := hk.2.2
  refine bodyPost_ret (v := .tuple #[.agg #[.int .i64 0, .int .i64 0], .bool false]) (by simp [results, Try.results97, go_sem, z_c]) rfl ⟨rfl, ?_⟩
  exact (hB.setCell (by first | (simp; done) | (simp; omega)) _).setCell (by first | (simp; done) | (simp; omega)) _
set_option maxHeartbeats 2000000 in
theorem ms_y (a0 a1 a2 a3 a4 a5 : Int) (b0 b1 b2 b3 b4 b5 : Int) (K n : Int) (sz wh c1 c2 : Int) (t : Bool) (hw : wrap64 (36 - sz) = wh) (hwi : IntKind.i64.wrap (36 - sz) = wh)(HZ : Hid (∀ w, Calls Try.prog 56 #[.agg #[.int .i64 a0, .int .i64 a1, .int .i64 a2, .int .i64 a3, .int .i64 a4, .int .i64 a5]] w fun e w' => e = .returned (.tuple #[.int .i64 sz, .bool true]) ∧ Below w.heap.size w w'))(HM : Hid (∀ w, Calls Try.prog 166 #[.int .i64 K, .agg #[.int .i64 wh, .int .i64 sz], .agg #[.int .i64 b0, .int .i64 b1, .int .i64 b2, .int .i64 b3, .int .i64 b4, .int .i64 b5], .int .i64 n] w fun e w' => e = .returned (.tuple #[.agg #[.int .i64 c1, .int .i64 c2], .bool t]) ∧ Below w.heap.size w w')) (w : World) : Calls Try.prog 97 #[.int .i64 K, .agg #[.int .i64 a0, .int .i64 a1, .int .i64 a2, .int .i64 a3, .int .i64 a4, .int .i64 a5], .agg #[.int .i64 b0, .int .i64 b1, .int .i64 b2, .int .i64 b3, .int .i64 b4, .int .i64 b5], .int .i64 n] w fun e w' => e = .returned (.tuple #[.agg #[.int .i64 c1, .int .i64 c2], .bool t]) ∧ Below w.heap.size w w' := by
  go_enter Try.func97, Try.ntmps97
  go_wp2_with fail
  generalize hW : (World.alloc _ _ : World) = W0
  have q0 : W0.heap[(w.heap.size : Nat)]? = some (Obj.cells #[.int .i64 a0, .int .i64 a1, .int .i64 a2, .int .i64 a3, .int .i64 a4, .int .i64 a5] 28 (0, 0)) := by
    rw [← hW]
    repeat (first | (refine alloc_at ?_; first | (simp; done) | (simp; omega)) | refine drew_row ?_ | refine alloc_past ?_ | assumption)
  have q1 : W0.heap[(w.heap.size + 1 : Nat)]? = some (Obj.cells #[.int .i64 b0, .int .i64 b1, .int .i64 b2, .int .i64 b3, .int .i64 b4, .int .i64 b5] 28 (0, 0)) := by
    rw [← hW]
    repeat (first | (refine alloc_at ?_; first | (simp; done) | (simp; omega)) | refine drew_row ?_ | refine alloc_past ?_ | assumption)
  have hq : W0.heap[(w.heap.size + 2 : Nat)]? = some (Obj.cells #[.int .i64 0, .int .i64 0] 25 (0, 0)) := by
    rw [← hW]
    repeat (first | (refine alloc_at ?_; first | (simp; done) | (simp; omega)) | refine drew_row ?_ | refine alloc_past ?_ | assumption)
  have hk : KR 2 [(w.heap.size, Obj.cells #[.int .i64 a0, .int .i64 a1, .int .i64 a2, .int .i64 a3, .int .i64 a4, .int .i64 a5] 28 (0, 0)), (w.heap.size + 1, Obj.cells #[.int .i64 b0, .int .i64 b1, .int .i64 b2, .int .i64 b3, .int .i64 b4, .int .i64 b5] 28 (0, 0))] w W0 := ⟨by simp [q0, q1], by rw [← hW]; simp, by rw [← hW]; (repeat (first | exact Below.refl _ _ | assumption | refine Below.setCell ?_ (by first | (simp; done) | (simp; omega)) _ | refine Below.alloc ?_ (by first | (simp; done) | (simp; omega)) _ | refine Below.drew ?_))⟩
  clear hW q0 q1
  have r0_c := fun j => cell_of_row W0 _ j _ _ _ (hk.row (g := w.heap.size) (List.mem_cons_self ..))
  have r1_c := fun j => cell_of_row W0 _ j _ _ _ (hk.row (g := w.heap.size + 1) (List.mem_cons_of_mem _ (List.mem_cons_self ..)))
  have z_c := fun j => cell_of_row W0 _ j _ _ _ hq
  have z_f := fun j => frozen_of_row W0 _ j _ _ hq
  go_wp2_with fail
  refine (HZ.out _).mono ?_
  rintro e W1 ⟨rfl, hb⟩
  clear r0_c r1_c z_c z_f
  have hk := hk.far hb rfl
  have hq := rowk hq hb rfl
  clear hb
  have r0_c := fun j => cell_of_row W1 _ j _ _ _ (hk.row (g := w.heap.size) (List.mem_cons_self ..))
  have r1_c := fun j => cell_of_row W1 _ j _ _ _ (hk.row (g := w.heap.size + 1) (List.mem_cons_of_mem _ (List.mem_cons_self ..)))
  have z_c := fun j => cell_of_row W1 _ j _ _ _ hq
  have z_f := fun j => frozen_of_row W1 _ j _ _ hq
  go_wp2_with fail
  refine (HM.out _).mono ?_
  rintro e W2 ⟨rfl, hb⟩
  clear r0_c r1_c z_c z_f
  have hk := hk.far hb rfl
  have hq := rowk hq hb rfl
  clear hb
  have r0_c := fun j => cell_of_row W2 _ j _ _ _ (hk.row (g := w.heap.size) (List.mem_cons_self ..))
  have r1_c := fun j => cell_of_row W2 _ j _ _ _ (hk.row (g := w.heap.size + 1) (List.mem_cons_of_mem _ (List.mem_cons_self ..)))
  have z_c := fun j => cell_of_row W2 _ j _ _ _ hq
  have z_f := fun j => frozen_of_row W2 _ j _ _ hq
  go_wp2_with fail
  have hB := hk.2.2
  refine bodyPost_ret (v := .tuple #[.agg #[.int .i64 c1, .int .i64 c2], .bool t]) (by simp [results, Try.results97, go_sem, z_c]) rfl ⟨rfl, ?_⟩
  exact (hB.setCell (by first | (simp; done) | (simp; omega)) _).setCell (by first | (simp; done) | (simp; omega)) _
set_option maxHeartbeats 2000000 in
theorem cb_n (a0 a1 a2 a3 a4 a5 : Int) (b0 b1 b2 b3 b4 b5 : Int) (K x y n : Int) (HZ : Hid (∀ w, Calls Try.prog 59 #[.agg #[.int .i64 a0, .int .i64 a1, .int .i64 a2, .int .i64 a3, .int .i64 a4, .int .i64 a5], .agg #[.int .i64 x, .int .i64 y]] w fun e w' => e = .returned (.tuple #[.bool false, .bool false]) ∧ Below w.heap.size w w')) (w : World) : Calls Try.prog 96 #[.int .i64 K, .agg #[.int .i64 a0, .int .i64 a1, .int .i64 a2, .int .i64 a3, .int .i64 a4, .int .i64 a5], .agg #[.int .i64 b0, .int .i64 b1, .int .i64 b2, .int .i64 b3, .int .i64 b4, .int .i64 b5], .agg #[.int .i64 x, .int .i64 y], .int .i64 n] w fun e w' => e = .returned (.tuple #[.agg #[.int .i64 0, .int .i64 0], .bool false]) ∧ Below w.heap.size w w' := by
  go_enter Try.func96, Try.ntmps96
  go_wp2_with fail
  generalize hW : (World.alloc _ _ : World) = W0
  have q0 : W0.heap[(w.heap.size : Nat)]? = some (Obj.cells #[.int .i64 a0, .int .i64 a1, .int .i64 a2, .int .i64 a3, .int .i64 a4, .int .i64 a5] 28 (0, 0)) := by
    rw [← hW]
    repeat (first | (refine alloc_at ?_; first | (simp; done) | (simp; omega)) | refine drew_row ?_ | refine alloc_past ?_ | assumption)
  have q1 : W0.heap[(w.heap.size + 1 : Nat)]? = some (Obj.cells #[.int .i64 b0, .int .i64 b1, .int .i64 b2, .int .i64 b3, .int .i64 b4, .int .i64 b5] 28 (0, 0)) := by
    rw [← hW]
    repeat (first | (refine alloc_at ?_; first | (simp; done) | (simp; omega)) | refine drew_row ?_ | refine alloc_past ?_ | assumption)
  have q2 : W0.heap[(w.heap.size + 2 : Nat)]? = some (Obj.cells #[.int .i64 x, .int .i64 y] 25 (0, 0)) := by
    rw [← hW]
    repeat (first | (refine alloc_at ?_; first | (simp; done) | (simp; omega)) | refine drew_row ?_ | refine alloc_past ?_ | assumption)
  have hq : W0.heap[(w.heap.size + 3 : Nat)]? = some (Obj.cells #[.int .i64 0, .int .i64 0] 25 (0, 0)) := by
    rw [← hW]
    repeat (first | (refine alloc_at ?_; first | (simp; done) | (simp; omega)) | refine drew_row ?_ | refine alloc_past ?_ | assumption)
  have hk : KR 3 [(w.heap.size, Obj.cells #[.int .i64 a0, .int .i64 a1, .int .i64 a2, .int .i64 a3, .int .i64 a4, .int .i64 a5] 28 (0, 0)), (w.heap.size + 1, Obj.cells #[.int .i64 b0, .int .i64 b1, .int .i64 b2, .int .i64 b3, .int .i64 b4, .int .i64 b5] 28 (0, 0)), (w.heap.size + 2, Obj.cells #[.int .i64 x, .int .i64 y] 25 (0, 0))] w W0 := ⟨by simp [q0, q1, q2], by rw [← hW]; simp, by rw [← hW]; (repeat (first | exact Below.refl _ _ | assumption | refine Below.setCell ?_ (by first | (simp; done) | (simp; omega)) _ | refine Below.alloc ?_ (by first | (simp; done) | (simp; omega)) _ | refine Below.drew ?_))⟩
  clear hW q0 q1 q2
  have r0_c := fun j => cell_of_row W0 _ j _ _ _ (hk.row (g := w.heap.size) (List.mem_cons_self ..))
  have r1_c := fun j => cell_of_row W0 _ j _ _ _ (hk.row (g := w.heap.size + 1) (List.mem_cons_of_mem _ (List.mem_cons_self ..)))
  have r2_c := fun j => cell_of_row W0 _ j _ _ _ (hk.row (g := w.heap.size + 2) (List.mem_cons_of_mem _ (List.mem_cons_of_mem _ (List.mem_cons_self ..))))
  have z_c := fun j => cell_of_row W0 _ j _ _ _ hq
  have z_f := fun j => frozen_of_row W0 _ j _ _ hq
  go_wp2_with fail
  refine (HZ.out _).mono ?_
  rintro e W1 ⟨rfl, hb⟩
  clear r0_c r1_c r2_c z_c z_f
  have hk := hk.far hb rfl
  have hq := rowk hq hb rfl
  clear hb
  have r0_c := fun j => cell_of_row W1 _ j _ _ _ (hk.row (g := w.heap.size) (List.mem_cons_self ..))
  have r1_c := fun j => cell_of_row W1 _ j _ _ _ (hk.row (g := w.heap.size + 1) (List.mem_cons_of_mem _ (List.mem_cons_self ..)))
  have r2_c := fun j => cell_of_row W1 _ j _ _ _ (hk.row (g := w.heap.size + 2) (List.mem_cons_of_mem _ (List.mem_cons_of_mem _ (List.mem_cons_self ..))))
  have z_c := fun j => cell_of_row W1 _ j _ _ _ hq
  have z_f := fun j => frozen_of_row W1 _ j _ _ hq
  go_wp2_with fail
  have hB := hk.2.2
  refine bodyPost_ret (v := .tuple #[.agg #[.int .i64 0, .int .i64 0], .bool false]) (by simp [results, Try.results96, go_sem, z_c]) rfl ⟨rfl, ?_⟩
  exact (hB.setCell (by first | (simp; done) | (simp; omega)) _).setCell (by first | (simp; done) | (simp; omega)) _
set_option maxHeartbeats 2000000 in
theorem cb_b (a0 a1 a2 a3 a4 a5 : Int) (b0 b1 b2 b3 b4 b5 : Int) (K x y n : Int) (c1 c2 : Int) (t : Bool) (HZ : Hid (∀ w, Calls Try.prog 59 #[.agg #[.int .i64 a0, .int .i64 a1, .int .i64 a2, .int .i64 a3, .int .i64 a4, .int .i64 a5], .agg #[.int .i64 x, .int .i64 y]] w fun e w' => e = .returned (.tuple #[.bool true, .bool true]) ∧ Below w.heap.size w w'))(HM : Hid (∀ w, Calls Try.prog 166 #[.int .i64 K, .agg #[.int .i64 0, .int .i64 1], .agg #[.int .i64 b0, .int .i64 b1, .int .i64 b2, .int .i64 b3, .int .i64 b4, .int .i64 b5], .int .i64 n] w fun e w' => e = .returned (.tuple #[.agg #[.int .i64 c1, .int .i64 c2], .bool t]) ∧ Below w.heap.size w w')) (w : World) : Calls Try.prog 96 #[.int .i64 K, .agg #[.int .i64 a0, .int .i64 a1, .int .i64 a2, .int .i64 a3, .int .i64 a4, .int .i64 a5], .agg #[.int .i64 b0, .int .i64 b1, .int .i64 b2, .int .i64 b3, .int .i64 b4, .int .i64 b5], .agg #[.int .i64 x, .int .i64 y], .int .i64 n] w fun e w' => e = .returned (.tuple #[.agg #[.int .i64 c1, .int .i64 c2], .bool t]) ∧ Below w.heap.size w w' := by
  go_enter Try.func96, Try.ntmps96
  go_wp2_with fail
  generalize hW : (World.alloc _ _ : World) = W0
  have q0 : W0.heap[(w.heap.size : Nat)]? = some (Obj.cells #[.int .i64 a0, .int .i64 a1, .int .i64 a2, .int .i64 a3, .int .i64 a4, .int .i64 a5] 28 (0, 0)) := by
    rw [← hW]
    repeat (first | (refine alloc_at ?_; first | (simp; done) | (simp; omega)) | refine drew_row ?_ | refine alloc_past ?_ | assumption)
  have q1 : W0.heap[(w.heap.size + 1 : Nat)]? = some (Obj.cells #[.int .i64 b0, .int .i64 b1, .int .i64 b2, .int .i64 b3, .int .i64 b4, .int .i64 b5] 28 (0, 0)) := by
    rw [← hW]
    repeat (first | (refine alloc_at ?_; first | (simp; done) | (simp; omega)) | refine drew_row ?_ | refine alloc_past ?_ | assumption)
  have q2 : W0.heap[(w.heap.size + 2 : Nat)]? = some (Obj.cells #[.int .i64 x, .int .i64 y] 25 (0, 0)) := by
    rw [← hW]
    repeat (first | (refine alloc_at ?_; first | (simp; done) | (simp; omega)) | refine drew_row ?_ | refine alloc_past ?_ | assumption)
  have hq : W0.heap[(w.heap.size + 3 : Nat)]? = some (Obj.cells #[.int .i64 0, .int .i64 0] 25 (0, 0)) := by
    rw [← hW]
    repeat (first | (refine alloc_at ?_; first | (simp; done) | (simp; omega)) | refine drew_row ?_ | refine alloc_past ?_ | assumption)
  have hk : KR 3 [(w.heap.size, Obj.cells #[.int .i64 a0, .int .i64 a1, .int .i64 a2, .int .i64 a3, .int .i64 a4, .int .i64 a5] 28 (0, 0)), (w.heap.size + 1, Obj.cells #[.int .i64 b0, .int .i64 b1, .int .i64 b2, .int .i64 b3, .int .i64 b4, .int .i64 b5] 28 (0, 0)), (w.heap.size + 2, Obj.cells #[.int .i64 x, .int .i64 y] 25 (0, 0))] w W0 := ⟨by simp [q0, q1, q2], by rw [← hW]; simp, by rw [← hW]; (repeat (first | exact Below.refl _ _ | assumption | refine Below.setCell ?_ (by first | (simp; done) | (simp; omega)) _ | refine Below.alloc ?_ (by first | (simp; done) | (simp; omega)) _ | refine Below.drew ?_))⟩
  clear hW q0 q1 q2
  have r0_c := fun j => cell_of_row W0 _ j _ _ _ (hk.row (g := w.heap.size) (List.mem_cons_self ..))
  have r1_c := fun j => cell_of_row W0 _ j _ _ _ (hk.row (g := w.heap.size + 1) (List.mem_cons_of_mem _ (List.mem_cons_self ..)))
  have r2_c := fun j => cell_of_row W0 _ j _ _ _ (hk.row (g := w.heap.size + 2) (List.mem_cons_of_mem _ (List.mem_cons_of_mem _ (List.mem_cons_self ..))))
  have z_c := fun j => cell_of_row W0 _ j _ _ _ hq
  have z_f := fun j => frozen_of_row W0 _ j _ _ hq
  go_wp2_with fail
  refine (HZ.out _).mono ?_
  rintro e W1 ⟨rfl, hb⟩
  clear r0_c r1_c r2_c z_c z_f
  have hk := hk.far hb rfl
  have hq := rowk hq hb rfl
  clear hb
  have hl := KR.le hk
  have hql := row_lt hq
  have r0_c := fun j => cell_of_row W1 _ j _ _ _ (hk.row (g := w.heap.size) (List.mem_cons_self ..))
  have r1_c := fun j => cell_of_row W1 _ j _ _ _ (hk.row (g := w.heap.size + 1) (List.mem_cons_of_mem _ (List.mem_cons_self ..)))
  have r2_c := fun j => cell_of_row W1 _ j _ _ _ (hk.row (g := w.heap.size + 2) (List.mem_cons_of_mem _ (List.mem_cons_of_mem _ (List.mem_cons_self ..))))
  have z_c := fun j => cell_of_row W1 _ j _ _ _ hq
  have z_f := fun j => frozen_of_row W1 _ j _ _ hq
  have s_c := fun j => cell_of_row (W1.alloc (.cells #[.int .i64 1, .int .i64 0] 165)) _ j _ _ _ (alloc_past (hk.row (g := w.heap.size + 1) (List.mem_cons_of_mem _ (List.mem_cons_self ..))))
  have l1 : w.heap.size + 1 < W1.heap.size := by omega
  have l2 : ¬ w.heap.size + 1 = W1.heap.size := by omega
  have l3 : ¬ W1.heap.size = w.heap.size + 1 := by omega
  go_wp2_with fail
  refine (HM.out _).mono ?_
  rintro e W2 ⟨rfl, hb⟩
  have hq2 : W2.heap[w.heap.size + 3]? = some (Obj.cells #[.int .i64 0, .int .i64 0] 25 (0, 0)) := rowk (alloc_past hq) hb rfl
  have hB := (hk.2.2.alloc hk.2.2.size (.cells #[.int .i64 0, .int .i64 1] 165)).trans (hb.mono (by simp; omega))
  clear r0_c r1_c r2_c z_c z_f
  clear hb s_c hk hq hql hl l1 l2 l3
  have z_c := fun j => cell_of_row W2 _ j _ _ _ hq2
  have z_f := fun j => frozen_of_row W2 _ j _ _ hq2
  go_wp2_with fail
  refine bodyPost_ret (v := .tuple #[.agg #[.int .i64 c1, .int .i64 c2], .bool t]) (by simp [results, Try.results96, go_sem, z_c]) rfl ⟨rfl, ?_⟩
  exact (hB.setCell (by first | (simp; done) | (simp; omega)) _).setCell (by first | (simp; done) | (simp; omega)) _
set_option maxHeartbeats 2000000 in
theorem cb_w (a0 a1 a2 a3 a4 a5 : Int) (b0 b1 b2 b3 b4 b5 : Int) (K x y n : Int) (c1 c2 : Int) (t : Bool) (HZ : Hid (∀ w, Calls Try.prog 59 #[.agg #[.int .i64 a0, .int .i64 a1, .int .i64 a2, .int .i64 a3, .int .i64 a4, .int .i64 a5], .agg #[.int .i64 x, .int .i64 y]] w fun e w' => e = .returned (.tuple #[.bool false, .bool true]) ∧ Below w.heap.size w w'))(HM : Hid (∀ w, Calls Try.prog 166 #[.int .i64 K, .agg #[.int .i64 1, .int .i64 0], .agg #[.int .i64 b0, .int .i64 b1, .int .i64 b2, .int .i64 b3, .int .i64 b4, .int .i64 b5], .int .i64 n] w fun e w' => e = .returned (.tuple #[.agg #[.int .i64 c1, .int .i64 c2], .bool t]) ∧ Below w.heap.size w w')) (w : World) : Calls Try.prog 96 #[.int .i64 K, .agg #[.int .i64 a0, .int .i64 a1, .int .i64 a2, .int .i64 a3, .int .i64 a4, .int .i64 a5], .agg #[.int .i64 b0, .int .i64 b1, .int .i64 b2, .int .i64 b3, .int .i64 b4, .int .i64 b5], .agg #[.int .i64 x, .int .i64 y], .int .i64 n] w fun e w' => e = .returned (.tuple #[.agg #[.int .i64 c1, .int .i64 c2], .bool t]) ∧ Below w.heap.size w w' := by
  go_enter Try.func96, Try.ntmps96
  go_wp2_with fail
  generalize hW : (World.alloc _ _ : World) = W0
  have q0 : W0.heap[(w.heap.size : Nat)]? = some (Obj.cells #[.int .i64 a0, .int .i64 a1, .int .i64 a2, .int .i64 a3, .int .i64 a4, .int .i64 a5] 28 (0, 0)) := by
    rw [← hW]
    repeat (first | (refine alloc_at ?_; first | (simp; done) | (simp; omega)) | refine drew_row ?_ | refine alloc_past ?_ | assumption)
  have q1 : W0.heap[(w.heap.size + 1 : Nat)]? = some (Obj.cells #[.int .i64 b0, .int .i64 b1, .int .i64 b2, .int .i64 b3, .int .i64 b4, .int .i64 b5] 28 (0, 0)) := by
    rw [← hW]
    repeat (first | (refine alloc_at ?_; first | (simp; done) | (simp; omega)) | refine drew_row ?_ | refine alloc_past ?_ | assumption)
  have q2 : W0.heap[(w.heap.size + 2 : Nat)]? = some (Obj.cells #[.int .i64 x, .int .i64 y] 25 (0, 0)) := by
    rw [← hW]
    repeat (first | (refine alloc_at ?_; first | (simp; done) | (simp; omega)) | refine drew_row ?_ | refine alloc_past ?_ | assumption)
  have hq : W0.heap[(w.heap.size + 3 : Nat)]? = some (Obj.cells #[.int .i64 0, .int .i64 0] 25 (0, 0)) := by
    rw [← hW]
    repeat (first | (refine alloc_at ?_; first | (simp; done) | (simp; omega)) | refine drew_row ?_ | refine alloc_past ?_ | assumption)
  have hk : KR 3 [(w.heap.size, Obj.cells #[.int .i64 a0, .int .i64 a1, .int .i64 a2, .int .i64 a3, .int .i64 a4, .int .i64 a5] 28 (0, 0)), (w.heap.size + 1, Obj.cells #[.int .i64 b0, .int .i64 b1, .int .i64 b2, .int .i64 b3, .int .i64 b4, .int .i64 b5] 28 (0, 0)), (w.heap.size + 2, Obj.cells #[.int .i64 x, .int .i64 y] 25 (0, 0))] w W0 := ⟨by simp [q0, q1, q2], by rw [← hW]; simp, by rw [← hW]; (repeat (first | exact Below.refl _ _ | assumption | refine Below.setCell ?_ (by first | (simp; done) | (simp; omega)) _ | refine Below.alloc ?_ (by first | (simp; done) | (simp; omega)) _ | refine Below.drew ?_))⟩
  clear hW q0 q1 q2
  have r0_c := fun j => cell_of_row W0 _ j _ _ _ (hk.row (g := w.heap.size) (List.mem_cons_self ..))
  have r1_c := fun j => cell_of_row W0 _ j _ _ _ (hk.row (g := w.heap.size + 1) (List.mem_cons_of_mem _ (List.mem_cons_self ..)))
  have r2_c := fun j => cell_of_row W0 _ j _ _ _ (hk.row (g := w.heap.size + 2) (List.mem_cons_of_mem _ (List.mem_cons_of_mem _ (List.mem_cons_self ..))))
  have z_c := fun j => cell_of_row W0 _ j _ _ _ hq
  have z_f := fun j => frozen_of_row W0 _ j _ _ hq
  go_wp2_with fail
  refine (HZ.out _).mono ?_
  rintro e W1 ⟨rfl, hb⟩
  clear r0_c r1_c r2_c z_c z_f
  have hk := hk.far hb rfl
  have hq := rowk hq hb rfl
  clear hb
  have hl := KR.le hk
  have hql := row_lt hq
  have r0_c := fun j => cell_of_row W1 _ j _ _ _ (hk.row (g := w.heap.size) (List.mem_cons_self ..))
  have r1_c := fun j => cell_of_row W1 _ j _ _ _ (hk.row (g := w.heap.size + 1) (List.mem_cons_of_mem _ (List.mem_cons_self ..)))
  have r2_c := fun j => cell_of_row W1 _ j _ _ _ (hk.row (g := w.heap.size + 2) (List.mem_cons_of_mem _ (List.mem_cons_of_mem _ (List.mem_cons_self ..))))
  have z_c := fun j => cell_of_row W1 _ j _ _ _ hq
  have z_f := fun j => frozen_of_row W1 _ j _ _ hq
  have s_c := fun j => cell_of_row (W1.alloc (.cells #[.int .i64 1, .int .i64 0] 165)) _ j _ _ _ (alloc_past (hk.row (g := w.heap.size + 1) (List.mem_cons_of_mem _ (List.mem_cons_self ..))))
  have l1 : w.heap.size + 1 < W1.heap.size := by omega
  have l2 : ¬ w.heap.size + 1 = W1.heap.size := by omega
  have l3 : ¬ W1.heap.size = w.heap.size + 1 := by omega
  go_wp2_with fail
  refine (HM.out _).mono ?_
  rintro e W2 ⟨rfl, hb⟩
  have hq2 : W2.heap[w.heap.size + 3]? = some (Obj.cells #[.int .i64 0, .int .i64 0] 25 (0, 0)) := rowk (alloc_past hq) hb rfl
  have hB := (hk.2.2.alloc hk.2.2.size (.cells #[.int .i64 1, .int .i64 0] 165)).trans (hb.mono (by simp; omega))
  clear r0_c r1_c r2_c z_c z_f
  clear hb s_c hk hq hql hl l1 l2 l3
  have z_c := fun j => cell_of_row W2 _ j _ _ _ hq2
  have z_f := fun j => frozen_of_row W2 _ j _ _ hq2
  go_wp2_with fail
  refine bodyPost_ret (v := .tuple #[.agg #[.int .i64 c1, .int .i64 c2], .bool t]) (by simp [results, Try.results96, go_sem, z_c]) rfl ⟨rfl, ?_⟩
  exact (hB.setCell (by first | (simp; done) | (simp; omega)) _).setCell (by first | (simp; done) | (simp; omega)) _
set_option maxHeartbeats 2000000 in
theorem ict_a (a0 a1 a2 a3 a4 a5 : Int) (b0 b1 b2 b3 b4 b5 : Int) (x y n : Int) (c1 c2 : Int) (t : Bool) (HM : Hid (∀ w, Calls Try.prog 96 #[.int .i64 0, .agg #[.int .i64 a0, .int .i64 a1, .int .i64 a2, .int .i64 a3, .int .i64 a4, .int .i64 a5], .agg #[.int .i64 b0, .int .i64 b1, .int .i64 b2, .int .i64 b3, .int .i64 b4, .int .i64 b5], .agg #[.int .i64 x, .int .i64 y], .int .i64 n] w fun e w' => e = .returned (.tuple #[.agg #[.int .i64 c1, .int .i64 c2], .bool t]) ∧ Below w.heap.size w w')) (w : World) : Calls Try.prog 26 #[.agg #[.int .i64 a0, .int .i64 a1, .int .i64 a2, .int .i64 a3, .int .i64 a4, .int .i64 a5], .agg #[.int .i64 b0, .int .i64 b1, .int .i64 b2, .int .i64 b3, .int .i64 b4, .int .i64 b5], .agg #[.int .i64 x, .int .i64 y], .int .i64 n] w fun e w' => e = .returned (.tuple #[.agg #[.int .i64 c1, .int .i64 c2], .bool t]) ∧ Below w.heap.size w w' := by
  go_enter Try.func26, Try.ntmps26
  go_wp2_with fail
  generalize hW : (World.alloc _ _ : World) = W0
  have q0 : W0.heap[(w.heap.size : Nat)]? = some (Obj.cells #[.int .i64 a0, .int .i64 a1, .int .i64 a2, .int .i64 a3, .int .i64 a4, .int .i64 a5] 28 (0, 0)) := by
    rw [← hW]
    repeat (first | (refine alloc_at ?_; first | (simp; done) | (simp; omega)) | refine drew_row ?_ | refine alloc_past ?_ | assumption)
  have q1 : W0.heap[(w.heap.size + 1 : Nat)]? = some (Obj.cells #[.int .i64 b0, .int .i64 b1, .int .i64 b2, .int .i64 b3, .int .i64 b4, .int .i64 b5] 28 (0, 0)) := by
    rw [← hW]
    repeat (first | (refine alloc_at ?_; first | (simp; done) | (simp; omega)) | refine drew_row ?_ | refine alloc_past ?_ | assumption)
  have q2 : W0.heap[(w.heap.size + 2 : Nat)]? = some (Obj.cells #[.int .i64 x, .int .i64 y] 25 (0, 0)) := by
    rw [← hW]
    repeat (first | (refine alloc_at ?_; first | (simp; done) | (simp; omega)) | refine drew_row ?_ | refine alloc_past ?_ | assumption)
  have hq : W0.heap[(w.heap.size + 3 : Nat)]? = some (Obj.cells #[.int .i64 0, .int .i64 0] 25 (0, 0)) := by
    rw [← hW]
    repeat (first | (refine alloc_at ?_; first | (simp; done) | (simp; omega)) | refine drew_row ?_ | refine alloc_past ?_ | assumption)
  have hk : KR 3 [(w.heap.size, Obj.cells #[.int .i64 a0, .int .i64 a1, .int .i64 a2, .int .i64 a3, .int .i64 a4, .int .i64 a5] 28 (0, 0)), (w.heap.size + 1, Obj.cells #[.int .i64 b0, .int .i64 b1, .int .i64 b2, .int .i64 b3, .int .i64 b4, .int .i64 b5] 28 (0, 0)), (w.heap.size + 2, Obj.cells #[.int .i64 x, .int .i64 y] 25 (0, 0))] w W0 := ⟨by simp [q0, q1, q2], by rw [← hW]; simp, by rw [← hW]; (repeat (first | exact Below.refl _ _ | assumption | refine Below.setCell ?_ (by first | (simp; done) | (simp; omega)) _ | refine Below.alloc ?_ (by first | (simp; done) | (simp; omega)) _ | refine Below.drew ?_))⟩
  clear hW q0 q1 q2
  have r0_c := fun j => cell_of_row W0 _ j _ _ _ (hk.row (g := w.heap.size) (List.mem_cons_self ..))
  have r1_c := fun j => cell_of_row W0 _ j _ _ _ (hk.row (g := w.heap.size + 1) (List.mem_cons_of_mem _ (List.mem_cons_self ..)))
  have r2_c := fun j => cell_of_row W0 _ j _ _ _ (hk.row (g := w.heap.size + 2) (List.mem_cons_of_mem _ (List.mem_cons_of_mem _ (List.mem_cons_self ..))))
  have z_c := fun j => cell_of_row W0 _ j _ _ _ hq
  have z_f := fun j => frozen_of_row W0 _ j _ _ hq
  go_wp2_with fail
  refine (HM.out _).mono ?_
  rintro e W1 ⟨rfl, hb⟩
  clear r0_c r1_c r2_c z_c z_f
  have hk := hk.far hb rfl
  have hq := rowk hq hb rfl
  clear hb
  have r0_c := fun j => cell_of_row W1 _ j _ _ _ (hk.row (g := w.heap.size) (List.mem_cons_self ..))
  have r1_c := fun j => cell_of_row W1 _ j _ _ _ (hk.row (g := w.heap.size + 1) (List.mem_cons_of_mem _ (List.mem_cons_self ..)))
  have r2_c := fun j => cell_of_row W1 _ j _ _ _ (hk.row (g := w.heap.size + 2) (List.mem_cons_of_mem _ (List.mem_cons_of_mem _ (List.mem_cons_self ..))))
  have z_c := fun j => cell_of_row W1 _ j _ _ _ hq
  have z_f := fun j => frozen_of_row W1 _ j _ _ hq
  go_wp2_with fail
  have hB := hk.2.2
  refine bodyPost_ret (v := .tuple #[.agg #[.int .i64 c1, .int .i64 c2], .bool t]) (by simp [results, Try.results26, go_sem, z_c]) rfl ⟨rfl, ?_⟩
  exact (hB.setCell (by first | (simp; done) | (simp; omega)) _).setCell (by first | (simp; done) | (simp; omega)) _
set_option maxHeartbeats 2000000 in
theorem ici_a (a0 a1 a2 a3 a4 a5 : Int) (b0 b1 b2 b3 b4 b5 : Int) (x y n : Int) (c1 c2 : Int) (t : Bool) (HM : Hid (∀ w, Calls Try.prog 96 #[.int .i64 1, .agg #[.int .i64 a0, .int .i64 a1, .int .i64 a2, .int .i64 a3, .int .i64 a4, .int .i64 a5], .agg #[.int .i64 b0, .int .i64 b1, .int .i64 b2, .int .i64 b3, .int .i64 b4, .int .i64 b5], .agg #[.int .i64 x, .int .i64 y], .int .i64 n] w fun e w' => e = .returned (.tuple #[.agg #[.int .i64 c1, .int .i64 c2], .bool t]) ∧ Below w.heap.size w w')) (w : World) : Calls Try.prog 31 #[.agg #[.int .i64 a0, .int .i64 a1, .int .i64 a2, .int .i64 a3, .int .i64 a4, .int .i64 a5], .agg #[.int .i64 b0, .int .i64 b1, .int .i64 b2, .int .i64 b3, .int .i64 b4, .int .i64 b5], .agg #[.int .i64 x, .int .i64 y], .int .i64 n] w fun e w' => e = .returned (.tuple #[.agg #[.int .i64 c1, .int .i64 c2], .bool t]) ∧ Below w.heap.size w w' := by
  go_enter Try.func31, Try.ntmps31
  go_wp2_with fail
  generalize hW : (World.alloc _ _ : World) = W0
  have q0 : W0.heap[(w.heap.size : Nat)]? = some (Obj.cells #[.int .i64 a0, .int .i64 a1, .int .i64 a2, .int .i64 a3, .int .i64 a4, .int .i64 a5] 28 (0, 0)) := by
    rw [← hW]
    repeat (first | (refine alloc_at ?_; first | (simp; done) | (simp; omega)) | refine drew_row ?_ | refine alloc_past ?_ | assumption)
  have q1 : W0.heap[(w.heap.size + 1 : Nat)]? = some (Obj.cells #[.int .i64 b0, .int .i64 b1, .int .i64 b2, .int .i64 b3, .int .i64 b4, .int .i64 b5] 28 (0, 0)) := by
    rw [← hW]
    repeat (first | (refine alloc_at ?_; first | (simp; done) | (simp; omega)) | refine drew_row ?_ | refine alloc_past ?_ | assumption)
  have q2 : W0.heap[(w.heap.size + 2 : Nat)]? = some (Obj.cells #[.int .i64 x, .int .i64 y] 25 (0, 0)) := by
    rw [← hW]
    repeat (first | (refine alloc_at ?_; first | (simp; done) | (simp; omega)) | refine drew_row ?_ | refine alloc_past ?_ | assumption)
  have hq : W0.heap[(w.heap.size + 3 : Nat)]? = some (Obj.cells #[.int .i64 0, .int .i64 0] 25 (0, 0)) := by
    rw [← hW]
    repeat (first | (refine alloc_at ?_; first | (simp; done) | (simp; omega)) | refine drew_row ?_ | refine alloc_past ?_ | assumption)
  have hk : KR 3 [(w.heap.size, Obj.cells #[.int .i64 a0, .int .i64 a1, .int .i64 a2, .int .i64 a3, .int .i64 a4, .int .i64 a5] 28 (0, 0)), (w.heap.size + 1, Obj.cells #[.int .i64 b0, .int .i64 b1, .int .i64 b2, .int .i64 b3, .int .i64 b4, .int .i64 b5] 28 (0, 0)), (w.heap.size + 2, Obj.cells #[.int .i64 x, .int .i64 y] 25 (0, 0))] w W0 := ⟨by simp [q0, q1, q2], by rw [← hW]; simp, by rw [← hW]; (repeat (first | exact Below.refl _ _ | assumption | refine Below.setCell ?_ (by first | (simp; done) | (simp; omega)) _ | refine Below.alloc ?_ (by first | (simp; done) | (simp; omega)) _ | refine Below.drew ?_))⟩
  clear hW q0 q1 q2
  have r0_c := fun j => cell_of_row W0 _ j _ _ _ (hk.row (g := w.heap.size) (List.mem_cons_self ..))
  have r1_c := fun j => cell_of_row W0 _ j _ _ _ (hk.row (g := w.heap.size + 1) (List.mem_cons_of_mem _ (List.mem_cons_self ..)))
  have r2_c := fun j => cell_of_row W0 _ j _ _ _ (hk.row (g := w.heap.size + 2) (List.mem_cons_of_mem _ (List.mem_cons_of_mem _ (List.mem_cons_self ..))))
  have z_c := fun j => cell_of_row W0 _ j _ _ _ hq
  have z_f := fun j => frozen_of_row W0 _ j _ _ hq
  go_wp2_with fail
  refine (HM.out _).mono ?_
  rintro e W1 ⟨rfl, hb⟩
  clear r0_c r1_c r2_c z_c z_f
  have hk := hk.far hb rfl
  have hq := rowk hq hb rfl
  clear hb
  have r0_c := fun j => cell_of_row W1 _ j _ _ _ (hk.row (g := w.heap.size) (List.mem_cons_self ..))
  have r1_c := fun j => cell_of_row W1 _ j _ _ _ (hk.row (g := w.heap.size + 1) (List.mem_cons_of_mem _ (List.mem_cons_self ..)))
  have r2_c := fun j => cell_of_row W1 _ j _ _ _ (hk.row (g := w.heap.size + 2) (List.mem_cons_of_mem _ (List.mem_cons_of_mem _ (List.mem_cons_self ..))))
  have z_c := fun j => cell_of_row W1 _ j _ _ _ hq
  have z_f := fun j => frozen_of_row W1 _ j _ _ hq
  go_wp2_with fail
  have hB := hk.2.2
  refine bodyPost_ret (v := .tuple #[.agg #[.int .i64 c1, .int .i64 c2], .bool t]) (by simp [results, Try.results31, go_sem, z_c]) rfl ⟨rfl, ?_⟩
  exact (hB.setCell (by first | (simp; done) | (simp; omega)) _).setCell (by first | (simp; done) | (simp; omega)) _
set_option maxHeartbeats 2000000 in
theorem imt_a (a0 a1 a2 a3 a4 a5 : Int) (b0 b1 b2 b3 b4 b5 : Int) (n : Int) (c1 c2 : Int) (t : Bool) (HM : Hid (∀ w, Calls Try.prog 97 #[.int .i64 0, .agg #[.int .i64 a0, .int .i64 a1, .int .i64 a2, .int .i64 a3, .int .i64 a4, .int .i64 a5], .agg #[.int .i64 b0, .int .i64 b1, .int .i64 b2, .int .i64 b3, .int .i64 b4, .int .i64 b5], .int .i64 n] w fun e w' => e = .returned (.tuple #[.agg #[.int .i64 c1, .int .i64 c2], .bool t]) ∧ Below w.heap.size w w')) (w : World) : Calls Try.prog 29 #[.agg #[.int .i64 a0, .int .i64 a1, .int .i64 a2, .int .i64 a3, .int .i64 a4, .int .i64 a5], .agg #[.int .i64 b0, .int .i64 b1, .int .i64 b2, .int .i64 b3, .int .i64 b4, .int .i64 b5], .int .i64 n] w fun e w' => e = .returned (.tuple #[.agg #[.int .i64 c1, .int .i64 c2], .bool t]) ∧ Below w.heap.size w w' := by
  go_enter Try.func29, Try.ntmps29
  go_wp2_with fail
  generalize hW : (World.alloc _ _ : World) = W0
  have q0 : W0.heap[(w.heap.size : Nat)]? = some (Obj.cells #[.int .i64 a0, .int .i64 a1, .int .i64 a2, .int .i64 a3, .int .i64 a4, .int .i64 a5] 28 (0, 0)) := by
    rw [← hW]
    repeat (first | (refine alloc_at ?_; first | (simp; done) | (simp; omega)) | refine drew_row ?_ | refine alloc_past ?_ | assumption)
  have q1 : W0.heap[(w.heap.size + 1 : Nat)]? = some (Obj.cells #[.int .i64 b0, .int .i64 b1, .int .i64 b2, .int .i64 b3, .int .i64 b4, .int .i64 b5] 28 (0, 0)) := by
    rw [← hW]
    repeat (first | (refine alloc_at ?_; first | (simp; done) | (simp; omega)) | refine drew_row ?_ | refine alloc_past ?_ | assumption)
  have hq : W0.heap[(w.heap.size + 2 : Nat)]? = some (Obj.cells #[.int .i64 0, .int .i64 0] 25 (0, 0)) := by
    rw [← hW]
    repeat (first | (refine alloc_at ?_; first | (simp; done) | (simp; omega)) | refine drew_row ?_ | refine alloc_past ?_ | assumption)
  have hk : KR 2 [(w.heap.size, Obj.cells #[.int .i64 a0, .int .i64 a1, .int .i64 a2, .int .i64 a3, .int .i64 a4, .int .i64 a5] 28 (0, 0)), (w.heap.size + 1, Obj.cells #[.int .i64 b0, .int .i64 b1, .int .i64 b2, .int .i64 b3, .int .i64 b4, .int .i64 b5] 28 (0, 0))] w W0 := ⟨by simp [q0, q1], by rw [← hW]; simp, by rw [← hW]; (repeat (first | exact Below.refl _ _ | assumption | refine Below.setCell ?_ (by first | (simp; done) | (simp; omega)) _ | refine Below.alloc ?_ (by first | (simp; done) | (simp; omega)) _ | refine Below.drew ?_))⟩
  clear hW q0 q1
  have r0_c := fun j => cell_of_row W0 _ j _ _ _ (hk.row (g := w.heap.size) (List.mem_cons_self ..))
  have r1_c := fun j => cell_of_row W0 _ j _ _ _ (hk.row (g := w.heap.size + 1) (List.mem_cons_of_mem _ (List.mem_cons_self ..)))
  have z_c := fun j => cell_of_row W0 _ j _ _ _ hq
  have z_f := fun j => frozen_of_row W0 _ j _ _ hq
  go_wp2_with fail
  refine (HM.out _).mono ?_
  rintro e W1 ⟨rfl, hb⟩
  clear r0_c r1_c z_c z_f
  have hk := hk.far hb rfl
  have hq := rowk hq hb rfl
  clear hb
  have r0_c := fun j => cell_of_row W1 _ j _ _ _ (hk.row (g := w.heap.size) (List.mem_cons_self ..))
  have r1_c := fun j => cell_of_row W1 _ j _ _ _ (hk.row (g := w.heap.size + 1) (List.mem_cons_of_mem _ (List.mem_cons_self ..)))
  have z_c := fun j => cell_of_row W1 _ j _ _ _ hq
  have z_f := fun j => frozen_of_row W1 _ j _ _ hq
  go_wp2_with fail
  have hB := hk.2.2
  refine bodyPost_ret (v := .tuple #[.agg #[.int .i64 c1, .int .i64 c2], .bool t]) (by simp [results, Try.results29, go_sem, z_c]) rfl ⟨rfl, ?_⟩
  exact (hB.setCell (by first | (simp; done) | (simp; omega)) _).setCell (by first | (simp; done) | (simp; omega)) _
set_option maxHeartbeats 2000000 in
theorem imi_a (a0 a1 a2 a3 a4 a5 : Int) (b0 b1 b2 b3 b4 b5 : Int) (n : Int) (c1 c2 : Int) (t : Bool) (HM : Hid (∀ w, Calls Try.prog 97 #[.int .i64 1, .agg #[.int .i64 a0, .int .i64 a1, .int .i64 a2, .int .i64 a3, .int .i64 a4, .int .i64 a5], .agg #[.int .i64 b0, .int .i64 b1, .int .i64 b2, .int .i64 b3, .int .i64 b4, .int .i64 b5], .int .i64 n] w fun e w' => e = .returned (.tuple #[.agg #[.int .i64 c1, .int .i64 c2], .bool t]) ∧ Below w.heap.size w w')) (w : World) : Calls Try.prog 33 #[.agg #[.int .i64 a0, .int .i64 a1, .int .i64 a2, .int .i64 a3, .int .i64 a4, .int .i64 a5], .agg #[.int .i64 b0, .int .i64 b1, .int .i64 b2, .int .i64 b3, .int .i64 b4, .int .i64 b5], .int .i64 n] w fun e w' => e = .returned (.tuple #[.agg #[.int .i64 c1, .int .i64 c2], .bool t]) ∧ Below w.heap.size w w' := by
  go_enter Try.func33, Try.ntmps33
  go_wp2_with fail
  generalize hW : (World.alloc _ _ : World) = W0
  have q0 : W0.heap[(w.heap.size : Nat)]? = some (Obj.cells #[.int .i64 a0, .int .i64 a1, .int .i64 a2, .int .i64 a3, .int .i64 a4, .int .i64 a5] 28 (0, 0)) := by
    rw [← hW]
    repeat (first | (refine alloc_at ?_; first | (simp; done) | (simp; omega)) | refine drew_row ?_ | refine alloc_past ?_ | assumption)
  have q1 : W0.heap[(w.heap.size + 1 : Nat)]? = some (Obj.cells #[.int .i64 b0, .int .i64 b1, .int .i64 b2, .int .i64 b3, .int .i64 b4, .int .i64 b5] 28 (0, 0)) := by
    rw [← hW]
    repeat (first | (refine alloc_at ?_; first | (simp; done) | (simp; omega)) | refine drew_row ?_ | refine alloc_past ?_ | assumption)
  have hq : W0.heap[(w.heap.size + 2 : Nat)]? = some (Obj.cells #[.int .i64 0, .int .i64 0] 25 (0, 0)) := by
    rw [← hW]
    repeat (first | (refine alloc_at ?_; first | (simp; done) | (simp; omega)) | refine drew_row ?_ | refine alloc_past ?_ | assumption)
  have hk : KR 2 [(w.heap.size, Obj.cells #[.int .i64 a0, .int .i64 a1, .int .i64 a2, .int .i64 a3, .int .i64 a4, .int .i64 a5] 28 (0, 0)), (w.heap.size + 1, Obj.cells #[.int .i64 b0, .int .i64 b1, .int .i64 b2, .int .i64 b3, .int .i64 b4, .int .i64 b5] 28 (0, 0))] w W0 := ⟨by simp [q0, q1], by rw [← hW]; simp, by rw [← hW]; (repeat (first | exact Below.refl _ _ | assumption | refine Below.setCell ?_ (by first | (simp; done) | (simp; omega)) _ | refine Below.alloc ?_ (by first | (simp; done) | (simp; omega)) _ | refine Below.drew ?_))⟩
  clear hW q0 q1
  have r0_c := fun j => cell_of_row W0 _ j _ _ _ (hk.row (g := w.heap.size) (List.mem_cons_self ..))
  have r1_c := fun j => cell_of_row W0 _ j _ _ _ (hk.row (g := w.heap.size + 1) (List.mem_cons_of_mem _ (List.mem_cons_self ..)))
  have z_c := fun j => cell_of_row W0 _ j _ _ _ hq
  have z_f := fun j => frozen_of_row W0 _ j _ _ hq
  go_wp2_with fail
  refine (HM.out _).mono ?_
  rintro e W1 ⟨rfl, hb⟩
  clear r0_c r1_c z_c z_f
  have hk := hk.far hb rfl
  have hq := rowk hq hb rfl
  clear hb
  have r0_c := fun j => cell_of_row W1 _ j _ _ _ (hk.row (g := w.heap.size) (List.mem_cons_self ..))
  have r1_c := fun j => cell_of_row W1 _ j _ _ _ (hk.row (g := w.heap.size + 1) (List.mem_cons_of_mem _ (List.mem_cons_self ..)))
  have z_c := fun j => cell_of_row W1 _ j _ _ _ hq
  have z_f := fun j => frozen_of_row W1 _ j _ _ hq
  go_wp2_with fail
  have hB := hk.2.2
  refine bodyPost_ret (v := .tuple #[.agg #[.int .i64 c1, .int .i64 c2], .bool t]) (by simp [results, Try.results33, go_sem, z_c]) rfl ⟨rfl, ?_⟩
  exact (hB.setCell (by first | (simp; done) | (simp; omega)) _).setCell (by first | (simp; done) | (simp; omega)) _
set_option maxHeartbeats 2000000 in
theorem imw_a (a0 a1 a2 a3 a4 a5 : Int) (b0 b1 b2 b3 b4 b5 : Int) (n : Int) (c1 c2 : Int) (t : Bool) (HM : Hid (∀ w, Calls Try.prog 97 #[.int .i64 2, .agg #[.int .i64 a0, .int .i64 a1, .int .i64 a2, .int .i64 a3, .int .i64 a4, .int .i64 a5], .agg #[.int .i64 b0, .int .i64 b1, .int .i64 b2, .int .i64 b3, .int .i64 b4, .int .i64 b5], .int .i64 n] w fun e w' => e = .returned (.tuple #[.agg #[.int .i64 c1, .int .i64 c2], .bool t]) ∧ Below w.heap.size w w')) (w : World) : Calls Try.prog 35 #[.agg #[.int .i64 a0, .int .i64 a1, .int .i64 a2, .int .i64 a3, .int .i64 a4, .int .i64 a5], .agg #[.int .i64 b0, .int .i64 b1, .int .i64 b2, .int .i64 b3, .int .i64 b4, .int .i64 b5], .int .i64 n] w fun e w' => e = .returned (.tuple #[.agg #[.int .i64 c1, .int .i64 c2], .bool t]) ∧ Below w.heap.size w w' := by
  go_enter Try.func35, Try.ntmps35
  go_wp2_with fail
  generalize hW : (World.alloc _ _ : World) = W0
  have q0 : W0.heap[(w.heap.size : Nat)]? = some (Obj.cells #[.int .i64 a0, .int .i64 a1, .int .i64 a2, .int .i64 a3, .int .i64 a4, .int .i64 a5] 28 (0, 0)) := by
    rw [← hW]
    repeat (first | (refine alloc_at ?_; first | (simp; done) | (simp; omega)) | refine drew_row ?_ | refine alloc_past ?_ | assumption)
  have q1 : W0.heap[(w.heap.size + 1 : Nat)]? = some (Obj.cells #[.int .i64 b0, .int .i64 b1, .int .i64 b2, .int .i64 b3, .int .i64 b4, .int .i64 b5] 28 (0, 0)) := by
    rw [← hW]
    repeat (first | (refine alloc_at ?_; first | (simp; done) | (simp; omega)) | refine drew_row ?_ | refine alloc_past ?_ | assumption)
  have hq : W0.heap[(w.heap.size + 2 : Nat)]? = some (Obj.cells #[.int .i64 0, .int .i64 0] 25 (0, 0)) := by
    rw [← hW]
    repeat (first | (refine alloc_at ?_; first | (simp; done) | (simp; omega)) | refine drew_row ?_ | refine alloc_past ?_ | assumption)
  have hk : KR 2 [(w.heap.size, Obj.cells #[.int .i64 a0, .int .i64 a1, .int .i64 a2, .int .i64 a3, .int .i64 a4, .int .i64 a5] 28 (0, 0)), (w.heap.size + 1, Obj.cells #[.int .i64 b0, .int .i64 b1, .int .i64 b2, .int .i64 b3, .int .i64 b4, .int .i64 b5] 28 (0, 0))] w W0 := ⟨by simp [q0, q1], by rw [← hW]; simp, by rw [← hW]; (repeat (first | exact Below.refl _ _ | assumption | refine Below.setCell ?_ (by first | (simp; done) | (simp; omega)) _ | refine Below.alloc ?_ (by first | (simp; done) | (simp; omega)) _ | refine Below.drew ?_))⟩
  clear hW q0 q1
  have r0_c := fun j => cell_of_row W0 _ j _ _ _ (hk.row (g := w.heap.size) (List.mem_cons_self ..))
  have r1_c := fun j => cell_of_row W0 _ j _ _ _ (hk.row (g := w.heap.size + 1) (List.mem_cons_of_mem _ (List.mem_cons_self ..)))
  have z_c := fun j => cell_of_row W0 _ j _ _ _ hq
  have z_f := fun j => frozen_of_row W0 _ j _ _ hq
  go_wp2_with fail
  refine (HM.out _).mono ?_
  rintro e W1 ⟨rfl, hb⟩
  clear r0_c r1_c z_c z_f
  have hk := hk.far hb rfl
  have hq := rowk hq hb rfl
  clear hb
  have r0_c := fun j => cell_of_row W1 _ j _ _ _ (hk.row (g := w.heap.size) (List.mem_cons_self ..))
  have r1_c := fun j => cell_of_row W1 _ j _ _ _ (hk.row (g := w.heap.size + 1) (List.mem_cons_of_mem _ (List.mem_cons_self ..)))
  have z_c := fun j => cell_of_row W1 _ j _ _ _ hq
  have z_f := fun j => frozen_of_row W1 _ j _ _ hq
  go_wp2_with fail
  have hB := hk.2.2
  refine bodyPost_ret (v := .tuple #[.agg #[.int .i64 c1, .int .i64 c2], .bool t]) (by simp [results, Try.results35, go_sem, z_c]) rfl ⟨rfl, ?_⟩
  exact (hB.setCell (by first | (simp; done) | (simp; omega)) _).setCell (by first | (simp; done) | (simp; omega)) _
set_option maxHeartbeats 2000000 in
theorem imc_y (a0 a1 a2 a3 a4 a5 : Int) (b0 b1 b2 b3 b4 b5 : Int) (fa fb : Nat) (h sz yy c1 c2 : Int) (hy : wrap64 (sz * h) = yy) (hyi : IntKind.i64.wrap (sz * h) = yy)(HA : Hid (∀ w, Calls Try.prog 102 #[.agg #[.int .i64 a0, .int .i64 a1, .int .i64 a2, .int .i64 a3, .int .i64 a4, .int .i64 a5]] w fun e w' => e = .returned (.bool true) ∧ Below w.heap.size w w'))(HB : Hid (∀ w, Calls Try.prog 102 #[.agg #[.int .i64 b0, .int .i64 b1, .int .i64 b2, .int .i64 b3, .int .i64 b4, .int .i64 b5]] w fun e w' => e = .returned (.bool true) ∧ Below w.heap.size w w'))(HFa : Hid (∀ w, Calls Try.prog 103 #[.agg #[.int .i64 a0, .int .i64 a1, .int .i64 a2, .int .i64 a3, .int .i64 a4, .int .i64 a5]] w fun e w' => e = .returned (.int .u64 (fa : Int)) ∧ Below w.heap.size w w'))(HFb : Hid (∀ w, Calls Try.prog 103 #[.agg #[.int .i64 b0, .int .i64 b1, .int .i64 b2, .int .i64 b3, .int .i64 b4, .int .i64 b5]] w fun e w' => e = .returned (.int .u64 (fb : Int)) ∧ Below w.heap.size w w'))(HSa : Hid (∀ w, Calls Try.prog 104 #[.int .u64 (fa : Int)] w fun e w' => e = .returned (.int .i64 sz) ∧ Below w.heap.size w w'))(HSb : Hid (∀ w, Calls Try.prog 104 #[.int .u64 (fb : Int)] w fun e w' => e = .returned (.int .i64 h) ∧ Below w.heap.size w w'))(HX : Hid (∀ w, Calls Try.prog 101 #[.int .i64 yy, .int .i64 36] w fun e w' => e = .returned (.agg #[.int .i64 c1, .int .i64 c2]) ∧ Below w.heap.size w w')) (w : World) : Calls Try.prog 41 #[.agg #[.int .i64 a0, .int .i64 a1, .int .i64 a2, .int .i64 a3, .int .i64 a4, .int .i64 a5], .agg #[.int .i64 b0, .int .i64 b1, .int .i64 b2, .int .i64 b3, .int .i64 b4, .int .i64 b5]] w fun e w' => e = .returned (.tuple #[.agg #[.int .i64 c1, .int .i64 c2], .bool true]) ∧ Below w.heap.size w w' := by
  go_enter Try.func41, Try.ntmps41
  go_wp2_with fail
  generalize hW : (World.alloc _ _ : World) = W0
  have q0 : W0.heap[(w.heap.size : Nat)]? = some (Obj.cells #[.int .i64 a0, .int .i64 a1, .int .i64 a2, .int .i64 a3, .int .i64 a4, .int .i64 a5] 28 (0, 0)) := by
    rw [← hW]
    repeat (first | (refine alloc_at ?_; first | (simp; done) | (simp; omega)) | refine drew_row ?_ | refine alloc_past ?_ | assumption)
  have q1 : W0.heap[(w.heap.size + 1 : Nat)]? = some (Obj.cells #[.int .i64 b0, .int .i64 b1, .int .i64 b2, .int .i64 b3, .int .i64 b4, .int .i64 b5] 28 (0, 0)) := by
    rw [← hW]
    repeat (first | (refine alloc_at ?_; first | (simp; done) | (simp; omega)) | refine drew_row ?_ | refine alloc_past ?_ | assumption)
  have hq : W0.heap[(w.heap.size + 2 : Nat)]? = some (Obj.cells #[.int .i64 0, .int .i64 0] 25 (0, 0)) := by
    rw [← hW]
    repeat (first | (refine alloc_at ?_; first | (simp; done) | (simp; omega)) | refine drew_row ?_ | refine alloc_past ?_ | assumption)
  have hk : KR 2 [(w.heap.size, Obj.cells #[.int .i64 a0, .int .i64 a1, .int .i64 a2, .int .i64 a3, .int .i64 a4, .int .i64 a5] 28 (0, 0)), (w.heap.size + 1, Obj.cells #[.int .i64 b0, .int .i64 b1, .int .i64 b2, .int .i64 b3, .int .i64 b4, .int .i64 b5] 28 (0, 0))] w W0 := ⟨by simp [q0, q1], by rw [← hW]; simp, by rw [← hW]; (repeat (first | exact Below.refl _ _ | assumption | refine Below.setCell ?_ (by first | (simp; done) | (simp; omega)) _ | refine Below.alloc ?_ (by first | (simp; done) | (simp; omega)) _ | refine Below.drew ?_))⟩
  clear hW q0 q1
  have r0_c := fun j => cell_of_row W0 _ j _ _ _ (hk.row (g := w.heap.size) (List.mem_cons_self ..))
  have r1_c := fun j => cell_of_row W0 _ j _ _ _ (hk.row (g := w.heap.size + 1) (List.mem_cons_of_mem _ (List.mem_cons_self ..)))
  have z_c := fun j => cell_of_row W0 _ j _ _ _ hq
  have z_f := fun j => frozen_of_row W0 _ j _ _ hq
  go_wp2_with fail
  refine (HA.out _).mono ?_
  rintro e W1 ⟨rfl, hb⟩
  clear r0_c r1_c z_c z_f
  have hk := hk.far hb rfl
  have hq := rowk hq hb rfl
  clear hb
  have r0_c := fun j => cell_of_row W1 _ j _ _ _ (hk.row (g := w.heap.size) (List.mem_cons_self ..))
  have r1_c := fun j => cell_of_row W1 _ j _ _ _ (hk.row (g := w.heap.size + 1) (List.mem_cons_of_mem _ (List.mem_cons_self ..)))
  have z_c := fun j => cell_of_row W1 _ j _ _ _ hq
  have z_f := fun j => frozen_of_row W1 _ j _ _ hq
  go_wp2_with fail
  refine (HB.out _).mono ?_
  rintro e W2 ⟨rfl, hb⟩
  clear r0_c r1_c z_c z_f
  have hk := hk.far hb rfl
  have hq := rowk hq hb rfl
  clear hb
  have r0_c := fun j => cell_of_row W2 _ j _ _ _ (hk.row (g := w.heap.size) (List.mem_cons_self ..))
  have r1_c := fun j => cell_of_row W2 _ j _ _ _ (hk.row (g := w.heap.size + 1) (List.mem_cons_of_mem _ (List.mem_cons_self ..)))
  have z_c := fun j => cell_of_row W2 _ j _ _ _ hq
  have z_f := fun j => frozen_of_row W2 _ j _ _ hq
  go_wp2_with fail
  clear r0_c r1_c z_c z_f
  have hz0 := KR.le hk
  set_option maxRecDepth 8000 in
  go_region_held3 (fun U => U.cell? ⟨w.heap.size, 0, none⟩ = some (.int .i64 a0) ∧ U.cell? ⟨w.heap.size, 1, none⟩ = some (.int .i64 a1) ∧ U.cell? ⟨w.heap.size, 2, none⟩ = some (.int .i64 a2) ∧ U.cell? ⟨w.heap.size, 3, none⟩ = some (.int .i64 a3) ∧ U.cell? ⟨w.heap.size, 4, none⟩ = some (.int .i64 a4) ∧ U.cell? ⟨w.heap.size, 5, none⟩ = some (.int .i64 a5) ∧ U.cell? ⟨w.heap.size + 1, 0, none⟩ = some (.int .i64 b0) ∧ U.cell? ⟨w.heap.size + 1, 1, none⟩ = some (.int .i64 b1) ∧ U.cell? ⟨w.heap.size + 1, 2, none⟩ = some (.int .i64 b2) ∧ U.cell? ⟨w.heap.size + 1, 3, none⟩ = some (.int .i64 b3) ∧ U.cell? ⟨w.heap.size + 1, 4, none⟩ = some (.int .i64 b4) ∧ U.cell? ⟨w.heap.size + 1, 5, none⟩ = some (.int .i64 b5) ∧ KR 2 [(w.heap.size, Obj.cells #[.int .i64 a0, .int .i64 a1, .int .i64 a2, .int .i64 a3, .int .i64 a4, .int .i64 a5] 28 (0, 0)), (w.heap.size + 1, Obj.cells #[.int .i64 b0, .int .i64 b1, .int .i64 b2, .int .i64 b3, .int .i64 b4, .int .i64 b5] 28 (0, 0))] w U) (with_reducible refine SR2 ?_; (repeat (first | with_reducible assumption | with_reducible refine KR.al ?_ | with_reducible refine KR.drew ?_ | with_reducible refine KR.set ?_ (by first | omega | (simp; omega))))) (first | (go_at_call 103; with_reducible refine (HFa.out _).mono ?_; rintro e w' ⟨rfl, hb'⟩; have hk : KR 2 [(w.heap.size, Obj.cells #[.int .i64 a0, .int .i64 a1, .int .i64 a2, .int .i64 a3, .int .i64 a4, .int .i64 a5] 28 (0, 0)), (w.heap.size + 1, Obj.cells #[.int .i64 b0, .int .i64 b1, .int .i64 b2, .int .i64 b3, .int .i64 b4, .int .i64 b5] 28 (0, 0))] w w' := KR.far (by (repeat (first | with_reducible assumption | with_reducible refine KR.al ?_ | with_reducible refine KR.drew ?_ | with_reducible refine KR.set ?_ (by first | omega | (simp; omega))))) hb' rfl; have hz0 := KR.le hk; have hq : w'.heap[w.heap.size + 2]? = some (Obj.cells #[.int .i64 0, .int .i64 0] 25 (0, 0)) := rowk (by first | with_reducible assumption | (with_reducible refine drew_row ?_; with_reducible assumption)) hb' rfl; have z_c := fun j => cell_of_row w' _ j _ _ _ hq; have z_f := fun j => frozen_of_row w' _ j _ _ hq) | (go_at_call 103; with_reducible refine (HFb.out _).mono ?_; rintro e w' ⟨rfl, hb'⟩; have hk : KR 2 [(w.heap.size, Obj.cells #[.int .i64 a0, .int .i64 a1, .int .i64 a2, .int .i64 a3, .int .i64 a4, .int .i64 a5] 28 (0, 0)), (w.heap.size + 1, Obj.cells #[.int .i64 b0, .int .i64 b1, .int .i64 b2, .int .i64 b3, .int .i64 b4, .int .i64 b5] 28 (0, 0))] w w' := KR.far (by (repeat (first | with_reducible assumption | with_reducible refine KR.al ?_ | with_reducible refine KR.drew ?_ | with_reducible refine KR.set ?_ (by first | omega | (simp; omega))))) hb' rfl; have hz0 := KR.le hk; have hq : w'.heap[w.heap.size + 2]? = some (Obj.cells #[.int .i64 0, .int .i64 0] 25 (0, 0)) := rowk (by first | with_reducible assumption | (with_reducible refine drew_row ?_; with_reducible assumption)) hb' rfl; have z_c := fun j => cell_of_row w' _ j _ _ _ hq; have z_f := fun j => frozen_of_row w' _ j _ _ hq) | (go_at_call 104; with_reducible refine (HSa.out _).mono ?_; rintro e w' ⟨rfl, hb'⟩; have hk : KR 2 [(w.heap.size, Obj.cells #[.int .i64 a0, .int .i64 a1, .int .i64 a2, .int .i64 a3, .int .i64 a4, .int .i64 a5] 28 (0, 0)), (w.heap.size + 1, Obj.cells #[.int .i64 b0, .int .i64 b1, .int .i64 b2, .int .i64 b3, .int .i64 b4, .int .i64 b5] 28 (0, 0))] w w' := KR.far (by (repeat (first | with_reducible assumption | with_reducible refine KR.al ?_ | with_reducible refine KR.drew ?_ | with_reducible refine KR.set ?_ (by first | omega | (simp; omega))))) hb' rfl; have hz0 := KR.le hk; have hq : w'.heap[w.heap.size + 2]? = some (Obj.cells #[.int .i64 0, .int .i64 0] 25 (0, 0)) := rowk (by first | with_reducible assumption | (with_reducible refine drew_row ?_; with_reducible assumption)) hb' rfl; have z_c := fun j => cell_of_row w' _ j _ _ _ hq; have z_f := fun j => frozen_of_row w' _ j _ _ hq) | (go_at_call 104; with_reducible refine (HSb.out _).mono ?_; rintro e w' ⟨rfl, hb'⟩; have hk : KR 2 [(w.heap.size, Obj.cells #[.int .i64 a0, .int .i64 a1, .int .i64 a2, .int .i64 a3, .int .i64 a4, .int .i64 a5] 28 (0, 0)), (w.heap.size + 1, Obj.cells #[.int .i64 b0, .int .i64 b1, .int .i64 b2, .int .i64 b3, .int .i64 b4, .int .i64 b5] 28 (0, 0))] w w' := KR.far (by (repeat (first | with_reducible assumption | with_reducible refine KR.al ?_ | with_reducible refine KR.drew ?_ | with_reducible refine KR.set ?_ (by first | omega | (simp; omega))))) hb' rfl; have hz0 := KR.le hk; have hq : w'.heap[w.heap.size + 2]? = some (Obj.cells #[.int .i64 0, .int .i64 0] 25 (0, 0)) := rowk (by first | with_reducible assumption | (with_reducible refine drew_row ?_; with_reducible assumption)) hb' rfl; have z_c := fun j => cell_of_row w' _ j _ _ _ hq; have z_f := fun j => frozen_of_row w' _ j _ _ hq) | (go_at_call 101; with_reducible refine (HX.out _).mono ?_; rintro e w' ⟨rfl, hb'⟩; have hk : KR 2 [(w.heap.size, Obj.cells #[.int .i64 a0, .int .i64 a1, .int .i64 a2, .int .i64 a3, .int .i64 a4, .int .i64 a5] 28 (0, 0)), (w.heap.size + 1, Obj.cells #[.int .i64 b0, .int .i64 b1, .int .i64 b2, .int .i64 b3, .int .i64 b4, .int .i64 b5] 28 (0, 0))] w w' := KR.far (by (repeat (first | with_reducible assumption | with_reducible refine KR.al ?_ | with_reducible refine KR.drew ?_ | with_reducible refine KR.set ?_ (by first | omega | (simp; omega))))) hb' rfl; have hz0 := KR.le hk; have hq : w'.heap[w.heap.size + 2]? = some (Obj.cells #[.int .i64 0, .int .i64 0] 25 (0, 0)) := rowk (by first | with_reducible assumption | (with_reducible refine drew_row ?_; with_reducible assumption)) hb' rfl; have z_c := fun j => cell_of_row w' _ j _ _ _ hq; have z_f := fun j => frozen_of_row w' _ j _ _ hq))
  all_goals
    have r0_c := fun j => cell_of_row w' _ j _ _ _ (hk.row (g := w.heap.size) (List.mem_cons_self ..))
    have r1_c := fun j => cell_of_row w' _ j _ _ _ (hk.row (g := w.heap.size + 1) (List.mem_cons_of_mem _ (List.mem_cons_self ..)))
    go_wp2_with fail
    have hB := hk.2.2
    refine bodyPost_ret (v := .tuple #[.agg #[.int .i64 c1, .int .i64 c2], .bool true]) (by simp [results, Try.results41, go_sem, z_c]) rfl ⟨rfl, ?_⟩
    exact (hB.setCell (by first | (simp; done) | (simp; omega)) _).setCell (by first | (simp; done) | (simp; omega)) _
set_option maxHeartbeats 2000000 in
theorem imc_n0 (a0 a1 a2 a3 a4 a5 : Int) (b0 b1 b2 b3 b4 b5 : Int) (HA : Hid (∀ w, Calls Try.prog 102 #[.agg #[.int .i64 a0, .int .i64 a1, .int .i64 a2, .int .i64 a3, .int .i64 a4, .int .i64 a5]] w fun e w' => e = .returned (.bool false) ∧ Below w.heap.size w w')) (w : World) : Calls Try.prog 41 #[.agg #[.int .i64 a0, .int .i64 a1, .int .i64 a2, .int .i64 a3, .int .i64 a4, .int .i64 a5], .agg #[.int .i64 b0, .int .i64 b1, .int .i64 b2, .int .i64 b3, .int .i64 b4, .int .i64 b5]] w fun e w' => e = .returned (.tuple #[.agg #[.int .i64 0, .int .i64 0], .bool false]) ∧ Below w.heap.size w w' := by
  go_enter Try.func41, Try.ntmps41
  go_wp2_with fail
  generalize hW : (World.alloc _ _ : World) = W0
  have q0 : W0.heap[(w.heap.size : Nat)]? = some (Obj.cells #[.int .i64 a0, .int .i64 a1, .int .i64 a2, .int .i64 a3, .int .i64 a4, .int .i64 a5] 28 (0, 0)) := by
    rw [← hW]
    repeat (first | (refine alloc_at ?_; first | (simp; done) | (simp; omega)) | refine drew_row ?_ | refine alloc_past ?_ | assumption)
  have q1 : W0.heap[(w.heap.size + 1 : Nat)]? = some (Obj.cells #[.int .i64 b0, .int .i64 b1, .int .i64 b2, .int .i64 b3, .int .i64 b4, .int .i64 b5] 28 (0, 0)) := by
    rw [← hW]
    repeat (first | (refine alloc_at ?_; first | (simp; done) | (simp; omega)) | refine drew_row ?_ | refine alloc_past ?_ | assumption)
  have hq : W0.heap[(w.heap.size + 2 : Nat)]? = some (Obj.cells #[.int .i64 0, .int .i64 0] 25 (0, 0)) := by
    rw [← hW]
    repeat (first | (refine alloc_at ?_; first | (simp; done) | (simp; omega)) | refine drew_row ?_ | refine alloc_past ?_ | assumption)
  have hk : KR 2 [(w.heap.size, Obj.cells #[.int .i64 a0, .int .i64 a1, .int .i64 a2, .int .i64 a3, .int .i64 a4, .int .i64 a5] 28 (0, 0)), (w.heap.size + 1, Obj.cells #[.int .i64 b0, .int .i64 b1, .int .i64 b2, .int .i64 b3, .int .i64 b4, .int .i64 b5] 28 (0, 0))] w W0 := ⟨by simp [q0, q1], by rw [← hW]; simp, by rw [← hW]; (repeat (first | exact Below.refl _ _ | assumption | refine Below.setCell ?_ (by first | (simp; done) | (simp; omega)) _ | refine Below.alloc ?_ (by first | (simp; done) | (simp; omega)) _ | refine Below.drew ?_))⟩
  clear hW q0 q1
  have r0_c := fun j => cell_of_row W0 _ j _ _ _ (hk.row (g := w.heap.size) (List.mem_cons_self ..))
  have r1_c := fun j => cell_of_row W0 _ j _ _ _ (hk.row (g := w.heap.size + 1) (List.mem_cons_of_mem _ (List.mem_cons_self ..)))
  have z_c := fun j => cell_of_row W0 _ j _ _ _ hq
  have z_f := fun j => frozen_of_row W0 _ j _ _ hq
  go_wp2_with fail
  refine (HA.out _).mono ?_
  rintro e W1 ⟨rfl, hb⟩
  clear r0_c r1_c z_c z_f
  have hk := hk.far hb rfl
  have hq := rowk hq hb rfl
  clear hb
  have r0_c := fun j => cell_of_row W1 _ j _ _ _ (hk.row (g := w.heap.size) (List.mem_cons_self ..))
  have r1_c := fun j => cell_of_row W1 _ j _ _ _ (hk.row (g := w.heap.size + 1) (List.mem_cons_of_mem _ (List.mem_cons_self ..)))
  have z_c := fun j => cell_of_row W1 _ j _ _ _ hq
  have z_f := fun j => frozen_of_row W1 _ j _ _ hq
  go_wp2_with fail
  have hB := hk.2.2
  refine bodyPost_ret (v := .tuple #[.agg #[.int .i64 0, .int .i64 0], .bool false]) (by simp [results, Try.results41, go_sem, z_c]) rfl ⟨rfl, ?_⟩
  exact (hB.setCell (by first | (simp; done) | (simp; omega)) _).setCell (by first | (simp; done) | (simp; omega)) _
set_option maxHeartbeats 2000000 in
theorem imc_n1 (a0 a1 a2 a3 a4 a5 : Int) (b0 b1 b2 b3 b4 b5 : Int) (HA : Hid (∀ w, Calls Try.prog 102 #[.agg #[.int .i64 a0, .int .i64 a1, .int .i64 a2, .int .i64 a3, .int .i64 a4, .int .i64 a5]] w fun e w' => e = .returned (.bool true) ∧ Below w.heap.size w w'))(HB : Hid (∀ w, Calls Try.prog 102 #[.agg #[.int .i64 b0, .int .i64 b1, .int .i64 b2, .int .i64 b3, .int .i64 b4, .int .i64 b5]] w fun e w' => e = .returned (.bool false) ∧ Below w.heap.size w w')) (w : World) : Calls Try.prog 41 #[.agg #[.int .i64 a0, .int .i64 a1, .int .i64 a2, .int .i64 a3, .int .i64 a4, .int .i64 a5], .agg #[.int .i64 b0, .int .i64 b1, .int .i64 b2, .int .i64 b3, .int .i64 b4, .int .i64 b5]] w fun e w' => e = .returned (.tuple #[.agg #[.int .i64 0, .int .i64 0], .bool false]) ∧ Below w.heap.size w w' := by
  go_enter Try.func41, Try.ntmps41
  go_wp2_with fail
  generalize hW : (World.alloc _ _ : World) = W0
  have q0 : W0.heap[(w.heap.size : Nat)]? = some (Obj.cells #[.int .i64 a0, .int .i64 a1, .int .i64 a2, .int .i64 a3, .int .i64 a4, .int .i64 a5] 28 (0, 0)) := by
    rw [← hW]
    repeat (first | (refine alloc_at ?_; first | (simp; done) | (simp; omega)) | refine drew_row ?_ | refine alloc_past ?_ | assumption)
  have q1 : W0.heap[(w.heap.size + 1 : Nat)]? = some (Obj.cells #[.int .i64 b0, .int .i64 b1, .int .i64 b2, .int .i64 b3, .int .i64 b4, .int .i64 b5] 28 (0, 0)) := by
    rw [← hW]
    repeat (first | (refine alloc_at ?_; first | (simp; done) | (simp; omega)) | refine drew_row ?_ | refine alloc_past ?_ | assumption)
  have hq : W0.heap[(w.heap.size + 2 : Nat)]? = some (Obj.cells #[.int .i64 0, .int .i64 0] 25 (0, 0)) := by
    rw [← hW]
    repeat (first | (refine alloc_at ?_; first | (simp; done) | (simp; omega)) | refine drew_row ?_ | refine alloc_past ?_ | assumption)
  have hk : KR 2 [(w.heap.size, Obj.cells #[.int .i64 a0, .int .i64 a1, .int .i64 a2, .int .i64 a3, .int .i64 a4, .int .i64 a5] 28 (0, 0)), (w.heap.size + 1, Obj.cells #[.int .i64 b0, .int .i64 b1, .int .i64 b2, .int .i64 b3, .int .i64 b4, .int .i64 b5] 28 (0, 0))] w W0 := ⟨by simp [q0, q1], by rw [← hW]; simp, by rw [← hW]; (repeat (first | exact Below.refl _ _ | assumption | refine Below.setCell ?_ (by first | (simp; done) | (simp; omega)) _ | refine Below.alloc ?_ (by first | (simp; done) | (simp; omega)) _ | refine Below.drew ?_))⟩
  clear hW q0 q1
  have r0_c := fun j => cell_of_row W0 _ j _ _ _ (hk.row (g := w.heap.size) (List.mem_cons_self ..))
  have r1_c := fun j => cell_of_row W0 _ j _ _ _ (hk.row (g := w.heap.size + 1) (List.mem_cons_of_mem _ (List.mem_cons_self ..)))
  have z_c := fun j => cell_of_row W0 _ j _ _ _ hq
  have z_f := fun j => frozen_of_row W0 _ j _ _ hq
  go_wp2_with fail
  refine (HA.out _).mono ?_
  rintro e W1 ⟨rfl, hb⟩
  clear r0_c r1_c z_c z_f
  have hk := hk.far hb rfl
  have hq := rowk hq hb rfl
  clear hb
  have r0_c := fun j => cell_of_row W1 _ j _ _ _ (hk.row (g := w.heap.size) (List.mem_cons_self ..))
  have r1_c := fun j => cell_of_row W1 _ j _ _ _ (hk.row (g := w.heap.size + 1) (List.mem_cons_of_mem _ (List.mem_cons_self ..)))
  have z_c := fun j => cell_of_row W1 _ j _ _ _ hq
  have z_f := fun j => frozen_of_row W1 _ j _ _ hq
  go_wp2_with fail
  refine (HB.out _).mono ?_
  rintro e W2 ⟨rfl, hb⟩
  clear r0_c r1_c z_c z_f
  have hk := hk.far hb rfl
  have hq := rowk hq hb rfl
  clear hb
  have r0_c := fun j => cell_of_row W2 _ j _ _ _ (hk.row (g := w.heap.size) (List.mem_cons_self ..))
  have r1_c := fun j => cell_of_row W2 _ j _ _ _ (hk.row (g := w.heap.size + 1) (List.mem_cons_of_mem _ (List.mem_cons_self ..)))
  have z_c := fun j => cell_of_row W2 _ j _ _ _ hq
  have z_f := fun j => frozen_of_row W2 _ j _ _ hq
  go_wp2_with fail
  have hB := hk.2.2
  refine bodyPost_ret (v := .tuple #[.agg #[.int .i64 0, .int .i64 0], .bool false]) (by simp [results, Try.results41, go_sem, z_c]) rfl ⟨rfl, ?_⟩
  exact (hB.setCell (by first | (simp; done) | (simp; omega)) _).setCell (by first | (simp; done) | (simp; omega)) _
/- Tx9 -/
theorem tb_c0 {W : World} {g : Nat} {m : Nat → Int} {T : TypeId} (h : W.heap[g]? = some (tb T m)) : W.cell? ⟨g, 0, none⟩ = some (.int .i64 (m 0)) := (tb_cell h 0).trans (if_pos (by decide))
set_option maxRecDepth 20000 in
set_option maxHeartbeats 2000000 in
theorem cf_y (a0 a1 a2 a3 a4 a5 : Int) (b0 b1 b2 b3 b4 b5 : Int) (m : Nat → Int) (fd h : Nat) (hh : h < 37) (HT : Hid (∀ w, Calls Try.prog 43 #[.agg #[.int .i64 a0, .int .i64 a1, .int .i64 a2, .int .i64 a3, .int .i64 a4, .int .i64 a5], .agg #[.int .i64 b0, .int .i64 b1, .int .i64 b2, .int .i64 b3, .int .i64 b4, .int .i64 b5]] w fun e w' => e = .returned (.tuple #[tv m, .bool true]) ∧ Below w.heap.size w w'))(HF : Hid (∀ w, Calls Try.prog 103 #[.agg #[.int .i64 b0, .int .i64 b1, .int .i64 b2, .int .i64 b3, .int .i64 b4, .int .i64 b5]] w fun e w' => e = .returned (.int .u64 (fd : Int)) ∧ Below w.heap.size w w'))(HS : Hid (∀ w, Calls Try.prog 104 #[.int .u64 (fd : Int)] w fun e w' => e = .returned (.int .i64 (h : Int)) ∧ Below w.heap.size w w')) (w : World) : Calls Try.prog 100 #[.agg #[.int .i64 a0, .int .i64 a1, .int .i64 a2, .int .i64 a3, .int .i64 a4, .int .i64 a5], .agg #[.int .i64 b0, .int .i64 b1, .int .i64 b2, .int .i64 b3, .int .i64 b4, .int .i64 b5]] w fun e w' => e = .returned (.tuple #[.int .i64 (m h), .bool true]) ∧ Below w.heap.size w w' := by
  go_enter Try.func100, Try.ntmps100
  go_wp2_with fail
  generalize hW : (World.alloc _ _ : World) = W0
  have q0 : W0.heap[(w.heap.size : Nat)]? = some (Obj.cells #[.int .i64 a0, .int .i64 a1, .int .i64 a2, .int .i64 a3, .int .i64 a4, .int .i64 a5] 28 (0, 0)) := by
    rw [← hW]
    repeat (first | (refine alloc_at ?_; first | (simp; done) | (simp; omega)) | refine drew_row ?_ | refine alloc_past ?_ | assumption)
  have q1 : W0.heap[(w.heap.size + 1 : Nat)]? = some (Obj.cells #[.int .i64 b0, .int .i64 b1, .int .i64 b2, .int .i64 b3, .int .i64 b4, .int .i64 b5] 28 (0, 0)) := by
    rw [← hW]
    repeat (first | (refine alloc_at ?_; first | (simp; done) | (simp; omega)) | refine drew_row ?_ | refine alloc_past ?_ | assumption)
  have hk : KR 2 [(w.heap.size, Obj.cells #[.int .i64 a0, .int .i64 a1, .int .i64 a2, .int .i64 a3, .int .i64 a4, .int .i64 a5] 28 (0, 0)), (w.heap.size + 1, Obj.cells #[.int .i64 b0, .int .i64 b1, .int .i64 b2, .int .i64 b3, .int .i64 b4, .int .i64 b5] 28 (0, 0))] w W0 := ⟨by simp [q0, q1], by rw [← hW]; simp, by rw [← hW]; (repeat (first | exact Below.refl _ _ | assumption | refine Below.setCell ?_ (by first | (simp; done) | (simp; omega)) _ | refine Below.alloc ?_ (by first | (simp; done) | (simp; omega)) _ | refine Below.drew ?_))⟩
  clear hW q0 q1
  have r0_c := fun j => cell_of_row W0 _ j _ _ _ (hk.row (g := w.heap.size) (List.mem_cons_self ..))
  have r1_c := fun j => cell_of_row W0 _ j _ _ _ (hk.row (g := w.heap.size + 1) (List.mem_cons_of_mem _ (List.mem_cons_self ..)))
  go_wp2_with fail
  refine (HT.out _).mono ?_
  rintro e W1 ⟨rfl, hb⟩
  clear r0_c r1_c
  have hk := hk.far hb rfl
  have HZ : Hid ((W1.alloc (.cells #[.int .i64 0, .int .i64 0, .int .i64 0, .int .i64 0, .int .i64 0, .int .i64 0, .int .i64 0, .int .i64 0, .int .i64 0, .int .i64 0, .int .i64 0, .int .i64 0, .int .i64 0, .int .i64 0, .int .i64 0, .int .i64 0, .int .i64 0, .int .i64 0, .int .i64 0, .int .i64 0, .int .i64 0, .int .i64 0, .int .i64 0, .int .i64 0, .int .i64 0, .int .i64 0, .int .i64 0, .int .i64 0, .int .i64 0, .int .i64 0, .int .i64 0, .int .i64 0, .int .i64 0, .int .i64 0, .int .i64 0, .int .i64 0, .int .i64 0] 37)).heap[W1.heap.size]? = some (tb 37 fun _ => 0)) := Lib.hid (alloc_at rfl)
  have hlk := KR.le hk
  have S2 : Hid (KR 2 [(w.heap.size, Obj.cells #[.int .i64 a0, .int .i64 a1, .int .i64 a2, .int .i64 a3, .int .i64 a4, .int .i64 a5] 28 (0, 0)), (w.heap.size + 1, Obj.cells #[.int .i64 b0, .int .i64 b1, .int .i64 b2, .int .i64 b3, .int .i64 b4, .int .i64 b5] 28 (0, 0))] w ((W1.alloc (.cells #[.int .i64 0, .int .i64 0, .int .i64 0, .int .i64 0, .int .i64 0, .int .i64 0, .int .i64 0, .int .i64 0, .int .i64 0, .int .i64 0, .int .i64 0, .int .i64 0, .int .i64 0, .int .i64 0, .int .i64 0, .int .i64 0, .int .i64 0, .int .i64 0, .int .i64 0, .int .i64 0, .int .i64 0, .int .i64 0, .int .i64 0, .int .i64 0, .int .i64 0, .int .i64 0, .int .i64 0, .int .i64 0, .int .i64 0, .int .i64 0, .int .i64 0, .int .i64 0, .int .i64 0, .int .i64 0, .int .i64 0, .int .i64 0, .int .i64 0] 37)).setCells W1.heap.size 0 (cs37 m)) ∧ ((W1.alloc (.cells #[.int .i64 0, .int .i64 0, .int .i64 0, .int .i64 0, .int .i64 0, .int .i64 0, .int .i64 0, .int .i64 0, .int .i64 0, .int .i64 0, .int .i64 0, .int .i64 0, .int .i64 0, .int .i64 0, .int .i64 0, .int .i64 0, .int .i64 0, .int .i64 0, .int .i64 0, .int .i64 0, .int .i64 0, .int .i64 0, .int .i64 0, .int .i64 0, .int .i64 0, .int .i64 0, .int .i64 0, .int .i64 0, .int .i64 0, .int .i64 0, .int .i64 0, .int .i64 0, .int .i64 0, .int .i64 0, .int .i64 0, .int .i64 0, .int .i64 0] 37)).setCells W1.heap.size 0 (cs37 m)).heap[W1.heap.size]? = some (tb 37 m) ∧ w.heap.size + 2 ≤ W1.heap.size) := by
    have hS : Below W1.heap.size W1 ((W1.alloc (.cells #[.int .i64 0, .int .i64 0, .int .i64 0, .int .i64 0, .int .i64 0, .int .i64 0, .int .i64 0, .int .i64 0, .int .i64 0, .int .i64 0, .int .i64 0, .int .i64 0, .int .i64 0, .int .i64 0, .int .i64 0, .int .i64 0, .int .i64 0, .int .i64 0, .int .i64 0, .int .i64 0, .int .i64 0, .int .i64 0, .int .i64 0, .int .i64 0, .int .i64 0, .int .i64 0, .int .i64 0, .int .i64 0, .int .i64 0, .int .i64 0, .int .i64 0, .int .i64 0, .int .i64 0, .int .i64 0, .int .i64 0, .int .i64 0, .int .i64 0] 37)).setCells W1.heap.size 0 (cs37 m)) := setCells_below (cs37 m) 0 ((Below.refl _ _).alloc (Nat.le_refl _) _) (Nat.le_refl _)
    exact Lib.hid ⟨hk.far hS rfl, tb_sets m HZ.out, hlk⟩
  clear hb hk hlk
  go_wp2_with ((with_reducible refine wpS37 W1.heap.size m 37 _ HZ.out ?_ ?_ ?_ ?_); rfl; rfl; kernel_rfl; clear HZ; generalize (World.setCells _ _ _ _ : World) = X at S2 ⊢; generalize W1.heap.size = G at S2 ⊢; have hk := S2.out.1; have hr := S2.out.2.1; have hlk := S2.out.2.2; clear S2; obtain ⟨u0, u1, u2, u3, u4, u5, v0, v1, v2, v3, v4, v5, uv⟩ := SR2 hk; clear uv)
  clear u0 u1 u2 u3 u4 u5 v0 v1 v2 v3 v4 v5
  refine (HF.out _).mono ?_
  rintro e W2 ⟨rfl, hb⟩
  have hk := hk.far hb rfl
  have hr := rowk hr hb rfl
  clear hb
  go_wp2_with fail
  refine (HS.out _).mono ?_
  rintro e W3 ⟨rfl, hb⟩
  have hk := hk.far hb rfl
  have hr := rowk hr hb rfl
  clear hb
  have hc : W3.cell? ⟨G, h, none⟩ = some (.int .i64 (m h)) := (tb_cell hr h).trans (if_pos hh)
  have hhi : (h : Int) < 37 := by omega
  have hh0 : (0 : Int) ≤ h := by omega
  clear hr
  go_wp2_with fail
  go_ret2
  exact ⟨rfl, hk.2.2⟩
set_option maxRecDepth 20000 in
set_option maxHeartbeats 2000000 in
theorem cf_n (a0 a1 a2 a3 a4 a5 : Int) (b0 b1 b2 b3 b4 b5 : Int) (m : Nat → Int) (HT : Hid (∀ w, Calls Try.prog 43 #[.agg #[.int .i64 a0, .int .i64 a1, .int .i64 a2, .int .i64 a3, .int .i64 a4, .int .i64 a5], .agg #[.int .i64 b0, .int .i64 b1, .int .i64 b2, .int .i64 b3, .int .i64 b4, .int .i64 b5]] w fun e w' => e = .returned (.tuple #[tv m, .bool false]) ∧ Below w.heap.size w w')) (w : World) : Calls Try.prog 100 #[.agg #[.int .i64 a0, .int .i64 a1, .int .i64 a2, .int .i64 a3, .int .i64 a4, .int .i64 a5], .agg #[.int .i64 b0, .int .i64 b1, .int .i64 b2, .int .i64 b3, .int .i64 b4, .int .i64 b5]] w fun e w' => e = .returned (.tuple #[.int .i64 0, .bool false]) ∧ Below w.heap.size w w' := by
  go_enter Try.func100, Try.ntmps100
  go_wp2_with fail
  generalize hW : (World.alloc _ _ : World) = W0
  have q0 : W0.heap[(w.heap.size : Nat)]? = some (Obj.cells #[.int .i64 a0, .int .i64 a1, .int .i64 a2, .int .i64 a3, .int .i64 a4, .int .i64 a5] 28 (0, 0)) := by
    rw [← hW]
    repeat (first | (refine alloc_at ?_; first | (simp; done) | (simp; omega)) | refine drew_row ?_ | refine alloc_past ?_ | assumption)
  have q1 : W0.heap[(w.heap.size + 1 : Nat)]? = some (Obj.cells #[.int .i64 b0, .int .i64 b1, .int .i64 b2, .int .i64 b3, .int .i64 b4, .int .i64 b5] 28 (0, 0)) := by
    rw [← hW]
    repeat (first | (refine alloc_at ?_; first | (simp; done) | (simp; omega)) | refine drew_row ?_ | refine alloc_past ?_ | assumption)
  have hk : KR 2 [(w.heap.size, Obj.cells #[.int .i64 a0, .int .i64 a1, .int .i64 a2, .int .i64 a3, .int .i64 a4, .int .i64 a5] 28 (0, 0)), (w.heap.size + 1, Obj.cells #[.int .i64 b0, .int .i64 b1, .int .i64 b2, .int .i64 b3, .int .i64 b4, .int .i64 b5] 28 (0, 0))] w W0 := ⟨by simp [q0, q1], by rw [← hW]; simp, by rw [← hW]; (repeat (first | exact Below.refl _ _ | assumption | refine Below.setCell ?_ (by first | (simp; done) | (simp; omega)) _ | refine Below.alloc ?_ (by first | (simp; done) | (simp; omega)) _ | refine Below.drew ?_))⟩
  clear hW q0 q1
  have r0_c := fun j => cell_of_row W0 _ j _ _ _ (hk.row (g := w.heap.size) (List.mem_cons_self ..))
  have r1_c := fun j => cell_of_row W0 _ j _ _ _ (hk.row (g := w.heap.size + 1) (List.mem_cons_of_mem _ (List.mem_cons_self ..)))
  go_wp2_with fail
  refine (HT.out _).mono ?_
  rintro e W1 ⟨rfl, hb⟩
  clear r0_c r1_c
  have hk := hk.far hb rfl
  have HZ : Hid ((W1.alloc (.cells #[.int .i64 0, .int .i64 0, .int .i64 0, .int .i64 0, .int .i64 0, .int .i64 0, .int .i64 0, .int .i64 0, .int .i64 0, .int .i64 0, .int .i64 0, .int .i64 0, .int .i64 0, .int .i64 0, .int .i64 0, .int .i64 0, .int .i64 0, .int .i64 0, .int .i64 0, .int .i64 0, .int .i64 0, .int .i64 0, .int .i64 0, .int .i64 0, .int .i64 0, .int .i64 0, .int .i64 0, .int .i64 0, .int .i64 0, .int .i64 0, .int .i64 0, .int .i64 0, .int .i64 0, .int .i64 0, .int .i64 0, .int .i64 0, .int .i64 0] 37)).heap[W1.heap.size]? = some (tb 37 fun _ => 0)) := Lib.hid (alloc_at rfl)
  have hlk := KR.le hk
  have S2 : Hid (KR 2 [(w.heap.size, Obj.cells #[.int .i64 a0, .int .i64 a1, .int .i64 a2, .int .i64 a3, .int .i64 a4, .int .i64 a5] 28 (0, 0)), (w.heap.size + 1, Obj.cells #[.int .i64 b0, .int .i64 b1, .int .i64 b2, .int .i64 b3, .int .i64 b4, .int .i64 b5] 28 (0, 0))] w ((W1.alloc (.cells #[.int .i64 0, .int .i64 0, .int .i64 0, .int .i64 0, .int .i64 0, .int .i64 0, .int .i64 0, .int .i64 0, .int .i64 0, .int .i64 0, .int .i64 0, .int .i64 0, .int .i64 0, .int .i64 0, .int .i64 0, .int .i64 0, .int .i64 0, .int .i64 0, .int .i64 0, .int .i64 0, .int .i64 0, .int .i64 0, .int .i64 0, .int .i64 0, .int .i64 0, .int .i64 0, .int .i64 0, .int .i64 0, .int .i64 0, .int .i64 0, .int .i64 0, .int .i64 0, .int .i64 0, .int .i64 0, .int .i64 0, .int .i64 0, .int .i64 0] 37)).setCells W1.heap.size 0 (cs37 m)) ∧ ((W1.alloc (.cells #[.int .i64 0, .int .i64 0, .int .i64 0, .int .i64 0, .int .i64 0, .int .i64 0, .int .i64 0, .int .i64 0, .int .i64 0, .int .i64 0, .int .i64 0, .int .i64 0, .int .i64 0, .int .i64 0, .int .i64 0, .int .i64 0, .int .i64 0, .int .i64 0, .int .i64 0, .int .i64 0, .int .i64 0, .int .i64 0, .int .i64 0, .int .i64 0, .int .i64 0, .int .i64 0, .int .i64 0, .int .i64 0, .int .i64 0, .int .i64 0, .int .i64 0, .int .i64 0, .int .i64 0, .int .i64 0, .int .i64 0, .int .i64 0, .int .i64 0] 37)).setCells W1.heap.size 0 (cs37 m)).heap[W1.heap.size]? = some (tb 37 m) ∧ w.heap.size + 2 ≤ W1.heap.size) := by
    have hS : Below W1.heap.size W1 ((W1.alloc (.cells #[.int .i64 0, .int .i64 0, .int .i64 0, .int .i64 0, .int .i64 0, .int .i64 0, .int .i64 0, .int .i64 0, .int .i64 0, .int .i64 0, .int .i64 0, .int .i64 0, .int .i64 0, .int .i64 0, .int .i64 0, .int .i64 0, .int .i64 0, .int .i64 0, .int .i64 0, .int .i64 0, .int .i64 0, .int .i64 0, .int .i64 0, .int .i64 0, .int .i64 0, .int .i64 0, .int .i64 0, .int .i64 0, .int .i64 0, .int .i64 0, .int .i64 0, .int .i64 0, .int .i64 0, .int .i64 0, .int .i64 0, .int .i64 0, .int .i64 0] 37)).setCells W1.heap.size 0 (cs37 m)) := setCells_below (cs37 m) 0 ((Below.refl _ _).alloc (Nat.le_refl _) _) (Nat.le_refl _)
    exact Lib.hid ⟨hk.far hS rfl, tb_sets m HZ.out, hlk⟩
  clear hb hk hlk
  go_wp2_with ((with_reducible refine wpS37 W1.heap.size m 37 _ HZ.out ?_ ?_ ?_ ?_); rfl; rfl; kernel_rfl; clear HZ; generalize (World.setCells _ _ _ _ : World) = X at S2 ⊢; generalize W1.heap.size = G at S2 ⊢; have hk := S2.out.1; have hr := S2.out.2.1; have hlk := S2.out.2.2; clear S2)
  go_ret2
  exact ⟨rfl, hk.2.2⟩
set_option maxHeartbeats 2000000 in
theorem icf_y (a0 a1 a2 a3 a4 a5 : Int) (b0 b1 b2 b3 b4 b5 : Int) (ft c1 c2 : Int) (HC : Hid (∀ w, Calls Try.prog 100 #[.agg #[.int .i64 a0, .int .i64 a1, .int .i64 a2, .int .i64 a3, .int .i64 a4, .int .i64 a5], .agg #[.int .i64 b0, .int .i64 b1, .int .i64 b2, .int .i64 b3, .int .i64 b4, .int .i64 b5]] w fun e w' => e = .returned (.tuple #[.int .i64 ft, .bool true]) ∧ Below w.heap.size w w'))(HX : Hid (∀ w, Calls Try.prog 101 #[.int .i64 ft, .int .i64 36] w fun e w' => e = .returned (.agg #[.int .i64 c1, .int .i64 c2]) ∧ Below w.heap.size w w')) (w : World) : Calls Try.prog 37 #[.agg #[.int .i64 a0, .int .i64 a1, .int .i64 a2, .int .i64 a3, .int .i64 a4, .int .i64 a5], .agg #[.int .i64 b0, .int .i64 b1, .int .i64 b2, .int .i64 b3, .int .i64 b4, .int .i64 b5]] w fun e w' => e = .returned (.tuple #[.agg #[.int .i64 c1, .int .i64 c2], .bool true]) ∧ Below w.heap.size w w' := by
  go_enter Try.func37, Try.ntmps37
  go_wp2_with fail
  generalize hW : (World.alloc _ _ : World) = W0
  have q0 : W0.heap[(w.heap.size : Nat)]? = some (Obj.cells #[.int .i64 a0, .int .i64 a1, .int .i64 a2, .int .i64 a3, .int .i64 a4, .int .i64 a5] 28 (0, 0)) := by
    rw [← hW]
    repeat (first | (refine alloc_at ?_; first | (simp; done) | (simp; omega)) | refine drew_row ?_ | refine alloc_past ?_ | assumption)
  have q1 : W0.heap[(w.heap.size + 1 : Nat)]? = some (Obj.cells #[.int .i64 b0, .int .i64 b1, .int .i64 b2, .int .i64 b3, .int .i64 b4, .int .i64 b5] 28 (0, 0)) := by
    rw [← hW]
    repeat (first | (refine alloc_at ?_; first | (simp; done) | (simp; omega)) | refine drew_row ?_ | refine alloc_past ?_ | assumption)
  have hq : W0.heap[(w.heap.size + 2 : Nat)]? = some (Obj.cells #[.int .i64 0, .int .i64 0] 25 (0, 0)) := by
    rw [← hW]
    repeat (first | (refine alloc_at ?_; first | (simp; done) | (simp; omega)) | refine drew_row ?_ | refine alloc_past ?_ | assumption)
  have hk : KR 2 [(w.heap.size, Obj.cells #[.int .i64 a0, .int .i64 a1, .int .i64 a2, .int .i64 a3, .int .i64 a4, .int .i64 a5] 28 (0, 0)), (w.heap.size + 1, Obj.cells #[.int .i64 b0, .int .i64 b1, .int .i64 b2, .int .i64 b3, .int .i64 b4, .int .i64 b5] 28 (0, 0))] w W0 := ⟨by simp [q0, q1], by rw [← hW]; simp, by rw [← hW]; (repeat (first | exact Below.refl _ _ | assumption | refine Below.setCell ?_ (by first | (simp; done) | (simp; omega)) _ | refine Below.alloc ?_ (by first | (simp; done) | (simp; omega)) _ | refine Below.drew ?_))⟩
  clear hW q0 q1
  have r0_c := fun j => cell_of_row W0 _ j _ _ _ (hk.row (g := w.heap.size) (List.mem_cons_self ..))
  have r1_c := fun j => cell_of_row W0 _ j _ _ _ (hk.row (g := w.heap.size + 1) (List.mem_cons_of_mem _ (List.mem_cons_self ..)))
  have z_c := fun j => cell_of_row W0 _ j _ _ _ hq
  have z_f := fun j => frozen_of_row W0 _ j _ _ hq
  go_wp2_with fail
  refine (HC.out _).mono ?_
  rintro e W1 ⟨rfl, hb⟩
  clear r0_c r1_c z_c z_f
  have hk := hk.far hb rfl
  have hq := rowk hq hb rfl
  clear hb
  have r0_c := fun j => cell_of_row W1 _ j _ _ _ (hk.row (g := w.heap.size) (List.mem_cons_self ..))
  have r1_c := fun j => cell_of_row W1 _ j _ _ _ (hk.row (g := w.heap.size + 1) (List.mem_cons_of_mem _ (List.mem_cons_self ..)))
  have z_c := fun j => cell_of_row W1 _ j _ _ _ hq
  have z_f := fun j => frozen_of_row W1 _ j _ _ hq
  go_wp2_with fail
  refine (HX.out _).mono ?_
  rintro e W2 ⟨rfl, hb⟩
  clear r0_c r1_c z_c z_f
  have hk := hk.far hb rfl
  have hq := rowk hq hb rfl
  clear hb
  have r0_c := fun j => cell_of_row W2 _ j _ _ _ (hk.row (g := w.heap.size) (List.mem_cons_self ..))
  have r1_c := fun j => cell_of_row W2 _ j _ _ _ (hk.row (g := w.heap.size + 1) (List.mem_cons_of_mem _ (List.mem_cons_self ..)))
  have z_c := fun j => cell_of_row W2 _ j _ _ _ hq
  have z_f := fun j => frozen_of_row W2 _ j _ _ hq
  go_wp2_with fail
  have hB := hk.2.2
  refine bodyPost_ret (v := .tuple #[.agg #[.int .i64 c1, .int .i64 c2], .bool true]) (by simp [results, Try.results37, go_sem, z_c]) rfl ⟨rfl, ?_⟩
  exact (hB.setCell (by first | (simp; done) | (simp; omega)) _).setCell (by first | (simp; done) | (simp; omega)) _
set_option maxHeartbeats 2000000 in
theorem icf_n (a0 a1 a2 a3 a4 a5 : Int) (b0 b1 b2 b3 b4 b5 : Int) (HC : Hid (∀ w, Calls Try.prog 100 #[.agg #[.int .i64 a0, .int .i64 a1, .int .i64 a2, .int .i64 a3, .int .i64 a4, .int .i64 a5], .agg #[.int .i64 b0, .int .i64 b1, .int .i64 b2, .int .i64 b3, .int .i64 b4, .int .i64 b5]] w fun e w' => e = .returned (.tuple #[.int .i64 0, .bool false]) ∧ Below w.heap.size w w')) (w : World) : Calls Try.prog 37 #[.agg #[.int .i64 a0, .int .i64 a1, .int .i64 a2, .int .i64 a3, .int .i64 a4, .int .i64 a5], .agg #[.int .i64 b0, .int .i64 b1, .int .i64 b2, .int .i64 b3, .int .i64 b4, .int .i64 b5]] w fun e w' => e = .returned (.tuple #[.agg #[.int .i64 0, .int .i64 0], .bool false]) ∧ Below w.heap.size w w' := by
  go_enter Try.func37, Try.ntmps37
  go_wp2_with fail
  generalize hW : (World.alloc _ _ : World) = W0
  have q0 : W0.heap[(w.heap.size : Nat)]? = some (Obj.cells #[.int .i64 a0, .int .i64 a1, .int .i64 a2, .int .i64 a3, .int .i64 a4, .int .i64 a5] 28 (0, 0)) := by
    rw [← hW]
    repeat (first | (refine alloc_at ?_; first | (simp; done) | (simp; omega)) | refine drew_row ?_ | refine alloc_past ?_ | assumption)
  have q1 : W0.heap[(w.heap.size + 1 : Nat)]? = some (Obj.cells #[.int .i64 b0, .int .i64 b1, .int .i64 b2, .int .i64 b3, .int .i64 b4, .int .i64 b5] 28 (0, 0)) := by
    rw [← hW]
    repeat (first | (refine alloc_at ?_; first | (simp; done) | (simp; omega)) | refine drew_row ?_ | refine alloc_past ?_ | assumption)
  have hq : W0.heap[(w.heap.size + 2 : Nat)]? = some (Obj.cells #[.int .i64 0, .int .i64 0] 25 (0, 0)) := by
    rw [← hW]
    repeat (first | (refine alloc_at ?_; first | (simp; done) | (simp; omega)) | refine drew_row ?_ | refine alloc_past ?_ | assumption)
  have hk : KR 2 [(w.heap.size, Obj.cells #[.int .i64 a0, .int .i64 a1, .int .i64 a2, .int .i64 a3, .int .i64 a4, .int .i64 a5] 28 (0, 0)), (w.heap.size + 1, Obj.cells #[.int .i64 b0, .int .i64 b1, .int .i64 b2, .int .i64 b3, .int .i64 b4, .int .i64 b5] 28 (0, 0))] w W0 := ⟨by simp [q0, q1], by rw [← hW]; simp, by rw [← hW]; (repeat (first | exact Below.refl _ _ | assumption | refine Below.setCell ?_ (by first | (simp; done) | (simp; omega)) _ | refine Below.alloc ?_ (by first | (simp; done) | (simp; omega)) _ | refine Below.drew ?_))⟩
  clear hW q0 q1
  have r0_c := fun j => cell_of_row W0 _ j _ _ _ (hk.row (g := w.heap.size) (List.mem_cons_self ..))
  have r1_c := fun j => cell_of_row W0 _ j _ _ _ (hk.row (g := w.heap.size + 1) (List.mem_cons_of_mem _ (List.mem_cons_self ..)))
  have z_c := fun j => cell_of_row W0 _ j _ _ _ hq
  have z_f := fun j => frozen_of_row W0 _ j _ _ hq
  go_wp2_with fail
  refine (HC.out _).mono ?_
  rintro e W1 ⟨rfl, hb⟩
  clear r0_c r1_c z_c z_f
  have hk := hk.far hb rfl
  have hq := rowk hq hb rfl
  clear hb
  have r0_c := fun j => cell_of_row W1 _ j _ _ _ (hk.row (g := w.heap.size) (List.mem_cons_self ..))
  have r1_c := fun j => cell_of_row W1 _ j _ _ _ (hk.row (g := w.heap.size + 1) (List.mem_cons_of_mem _ (List.mem_cons_self ..)))
  have z_c := fun j => cell_of_row W1 _ j _ _ _ hq
  have z_f := fun j => frozen_of_row W1 _ j _ _ hq
  go_wp2_with fail
  have hB := hk.2.2
  refine bodyPost_ret (v := .tuple #[.agg #[.int .i64 0, .int .i64 0], .bool false]) (by simp [results, Try.results37, go_sem, z_c]) rfl ⟨rfl, ?_⟩
  exact (hB.setCell (by first | (simp; done) | (simp; omega)) _).setCell (by first | (simp; done) | (simp; omega)) _
set_option maxHeartbeats 2000000 in
theorem imwt_y (a0 a1 a2 a3 a4 a5 : Int) (b0 b1 b2 b3 b4 b5 : Int) (ft c1 c2 : Int) (h0 : (ft == 0) = false) (h1 : ¬ ft = 0) (HC : Hid (∀ w, Calls Try.prog 100 #[.agg #[.int .i64 a0, .int .i64 a1, .int .i64 a2, .int .i64 a3, .int .i64 a4, .int .i64 a5], .agg #[.int .i64 b0, .int .i64 b1, .int .i64 b2, .int .i64 b3, .int .i64 b4, .int .i64 b5]] w fun e w' => e = .returned (.tuple #[.int .i64 ft, .bool true]) ∧ Below w.heap.size w w'))(HX : Hid (∀ w, Calls Try.prog 101 #[.int .i64 36, .int .i64 ft] w fun e w' => e = .returned (.agg #[.int .i64 c1, .int .i64 c2]) ∧ Below w.heap.size w w')) (w : World) : Calls Try.prog 48 #[.agg #[.int .i64 a0, .int .i64 a1, .int .i64 a2, .int .i64 a3, .int .i64 a4, .int .i64 a5], .agg #[.int .i64 b0, .int .i64 b1, .int .i64 b2, .int .i64 b3, .int .i64 b4, .int .i64 b5]] w fun e w' => e = .returned (.tuple #[.agg #[.int .i64 c1, .int .i64 c2], .bool true]) ∧ Below w.heap.size w w' := by
  go_enter Try.func48, Try.ntmps48
  go_wp2_with fail
  generalize hW : (World.alloc _ _ : World) = W0
  have q0 : W0.heap[(w.heap.size : Nat)]? = some (Obj.cells #[.int .i64 a0, .int .i64 a1, .int .i64 a2, .int .i64 a3, .int .i64 a4, .int .i64 a5] 28 (0, 0)) := by
    rw [← hW]
    repeat (first | (refine alloc_at ?_; first | (simp; done) | (simp; omega)) | refine drew_row ?_ | refine alloc_past ?_ | assumption)
  have q1 : W0.heap[(w.heap.size + 1 : Nat)]? = some (Obj.cells #[.int .i64 b0, .int .i64 b1, .int .i64 b2, .int .i64 b3, .int .i64 b4, .int .i64 b5] 28 (0, 0)) := by
    rw [← hW]
    repeat (first | (refine alloc_at ?_; first | (simp; done) | (simp; omega)) | refine drew_row ?_ | refine alloc_past ?_ | assumption)
  have hq : W0.heap[(w.heap.size + 2 : Nat)]? = some (Obj.cells #[.int .i64 0, .int .i64 0] 25 (0, 0)) := by
    rw [← hW]
    repeat (first | (refine alloc_at ?_; first | (simp; done) | (simp; omega)) | refine drew_row ?_ | refine alloc_past ?_ | assumption)
  have hk : KR 2 [(w.heap.size, Obj.cells #[.int .i64 a0, .int .i64 a1, .int .i64 a2, .int .i64 a3, .int .i64 a4, .int .i64 a5] 28 (0, 0)), (w.heap.size + 1, Obj.cells #[.int .i64 b0, .int .i64 b1, .int .i64 b2, .int .i64 b3, .int .i64 b4, .int .i64 b5] 28 (0, 0))] w W0 := ⟨by simp [q0, q1], by rw [← hW]; simp, by rw [← hW]; (repeat (first | exact Below.refl _ _ | assumption | refine Below.setCell ?_ (by first | (simp; done) | (simp; omega)) _ | refine Below.alloc ?_ (by first | (simp; done) | (simp; omega)) _ | refine Below.drew ?_))⟩
  clear hW q0 q1
  have r0_c := fun j => cell_of_row W0 _ j _ _ _ (hk.row (g := w.heap.size) (List.mem_cons_self ..))
  have r1_c := fun j => cell_of_row W0 _ j _ _ _ (hk.row (g := w.heap.size + 1) (List.mem_cons_of_mem _ (List.mem_cons_self ..)))
  have z_c := fun j => cell_of_row W0 _ j _ _ _ hq
  have z_f := fun j => frozen_of_row W0 _ j _ _ hq
  go_wp2_with fail
  refine (HC.out _).mono ?_
  rintro e W1 ⟨rfl, hb⟩
  clear r0_c r1_c z_c z_f
  have hk := hk.far hb rfl
  have hq := rowk hq hb rfl
  clear hb
  have r0_c := fun j => cell_of_row W1 _ j _ _ _ (hk.row (g := w.heap.size) (List.mem_cons_self ..))
  have r1_c := fun j => cell_of_row W1 _ j _ _ _ (hk.row (g := w.heap.size + 1) (List.mem_cons_of_mem _ (List.mem_cons_self ..)))
  have z_c := fun j => cell_of_row W1 _ j _ _ _ hq
  have z_f := fun j => frozen_of_row W1 _ j _ _ hq
  go_wp2_with fail
  refine (HX.out _).mono ?_
  rintro e W2 ⟨rfl, hb⟩
  clear r0_c r1_c z_c z_f
  have hk := hk.far hb rfl
  have hq := rowk hq hb rfl
  clear hb
  have r0_c := fun j => cell_of_row W2 _ j _ _ _ (hk.row (g := w.heap.size) (List.mem_cons_self ..))
  have r1_c := fun j => cell_of_row W2 _ j _ _ _ (hk.row (g := w.heap.size + 1) (List.mem_cons_of_mem _ (List.mem_cons_self ..)))
  have z_c := fun j => cell_of_row W2 _ j _ _ _ hq
  have z_f := fun j => frozen_of_row W2 _ j _ _ hq
  go_wp2_with fail
  have hB := hk.2.2
  refine bodyPost_ret (v := .tuple #[.agg #[.int .i64 c1, .int .i64 c2], .bool true]) (by simp [results, Try.results48, go_sem, z_c]) rfl ⟨rfl, ?_⟩
  exact (hB.setCell (by first | (simp; done) | (simp; omega)) _).setCell (by first | (simp; done) | (simp; omega)) _
set_option maxHeartbeats 2000000 in
theorem imwt_z (a0 a1 a2 a3 a4 a5 : Int) (b0 b1 b2 b3 b4 b5 : Int) (HC : Hid (∀ w, Calls Try.prog 100 #[.agg #[.int .i64 a0, .int .i64 a1, .int .i64 a2, .int .i64 a3, .int .i64 a4, .int .i64 a5], .agg #[.int .i64 b0, .int .i64 b1, .int .i64 b2, .int .i64 b3, .int .i64 b4, .int .i64 b5]] w fun e w' => e = .returned (.tuple #[.int .i64 0, .bool true]) ∧ Below w.heap.size w w')) (w : World) : Calls Try.prog 48 #[.agg #[.int .i64 a0, .int .i64 a1, .int .i64 a2, .int .i64 a3, .int .i64 a4, .int .i64 a5], .agg #[.int .i64 b0, .int .i64 b1, .int .i64 b2, .int .i64 b3, .int .i64 b4, .int .i64 b5]] w fun e w' => e = .returned (.tuple #[.agg #[.int .i64 0, .int .i64 0], .bool false]) ∧ Below w.heap.size w w' := by
  go_enter Try.func48, Try.ntmps48
  go_wp2_with fail
  generalize hW : (World.alloc _ _ : World) = W0
  have q0 : W0.heap[(w.heap.size : Nat)]? = some (Obj.cells #[.int .i64 a0, .int .i64 a1, .int .i64 a2, .int .i64 a3, .int .i64 a4, .int .i64 a5] 28 (0, 0)) := by
    rw [← hW]
    repeat (first | (refine alloc_at ?_; first | (simp; done) | (simp; omega)) | refine drew_row ?_ | refine alloc_past ?_ | assumption)
  have q1 : W0.heap[(w.heap.size + 1 : Nat)]? = some (Obj.cells #[.int .i64 b0, .int .i64 b1, .int .i64 b2, .int .i64 b3, .int .i64 b4, .int .i64 b5] 28 (0, 0)) := by
    rw [← hW]
    repeat (first | (refine alloc_at ?_; first | (simp; done) | (simp; omega)) | refine drew_row ?_ | refine alloc_past ?_ | assumption)
  have hq : W0.heap[(w.heap.size + 2 : Nat)]? = some (Obj.cells #[.int .i64 0, .int .i64 0] 25 (0, 0)) := by
    rw [← hW]
    repeat (first | (refine alloc_at ?_; first | (simp; done) | (simp; omega)) | refine drew_row ?_ | refine alloc_past ?_ | assumption)
  have hk : KR 2 [(w.heap.size, Obj.cells #[.int .i64 a0, .int .i64 a1, .int .i64 a2, .int .i64 a3, .int .i64 a4, .int .i64 a5] 28 (0, 0)), (w.heap.size + 1, Obj.cells #[.int .i64 b0, .int .i64 b1, .int .i64 b2, .int .i64 b3, .int .i64 b4, .int .i64 b5] 28 (0, 0))] w W0 := ⟨by simp [q0, q1], by rw [← hW]; simp, by rw [← hW]; (repeat (first | exact Below.refl _ _ | assumption | refine Below.setCell ?_ (by first | (simp; done) | (simp; omega)) _ | refine Below.alloc ?_ (by first | (simp; done) | (simp; omega)) _ | refine Below.drew ?_))⟩
  clear hW q0 q1
  have r0_c := fun j => cell_of_row W0 _ j _ _ _ (hk.row (g := w.heap.size) (List.mem_cons_self ..))
  have r1_c := fun j => cell_of_row W0 _ j _ _ _ (hk.row (g := w.heap.size + 1) (List.mem_cons_of_mem _ (List.mem_cons_self ..)))
  have z_c := fun j => cell_of_row W0 _ j _ _ _ hq
  have z_f := fun j => frozen_of_row W0 _ j _ _ hq
  go_wp2_with fail
  refine (HC.out _).mono ?_
  rintro e W1 ⟨rfl, hb⟩
  clear r0_c r1_c z_c z_f
  have hk := hk.far hb rfl
  have hq := rowk hq hb rfl
  clear hb
  have r0_c := fun j => cell_of_row W1 _ j _ _ _ (hk.row (g := w.heap.size) (List.mem_cons_self ..))
  have r1_c := fun j => cell_of_row W1 _ j _ _ _ (hk.row (g := w.heap.size + 1) (List.mem_cons_of_mem _ (List.mem_cons_self ..)))
  have z_c := fun j => cell_of_row W1 _ j _ _ _ hq
  have z_f := fun j => frozen_of_row W1 _ j _ _ hq
  go_wp2_with fail
  have hB := hk.2.2
  refine bodyPost_ret (v := .tuple #[.agg #[.int .i64 0, .int .i64 0], .bool false]) (by simp [results, Try.results48, go_sem, z_c]) rfl ⟨rfl, ?_⟩
  exact (hB.setCell (by first | (simp; done) | (simp; omega)) _).setCell (by first | (simp; done) | (simp; omega)) _
set_option maxHeartbeats 2000000 in
theorem imwt_n (a0 a1 a2 a3 a4 a5 : Int) (b0 b1 b2 b3 b4 b5 : Int) (HC : Hid (∀ w, Calls Try.prog 100 #[.agg #[.int .i64 a0, .int .i64 a1, .int .i64 a2, .int .i64 a3, .int .i64 a4, .int .i64 a5], .agg #[.int .i64 b0, .int .i64 b1, .int .i64 b2, .int .i64 b3, .int .i64 b4, .int .i64 b5]] w fun e w' => e = .returned (.tuple #[.int .i64 0, .bool false]) ∧ Below w.heap.size w w')) (w : World) : Calls Try.prog 48 #[.agg #[.int .i64 a0, .int .i64 a1, .int .i64 a2, .int .i64 a3, .int .i64 a4, .int .i64 a5], .agg #[.int .i64 b0, .int .i64 b1, .int .i64 b2, .int .i64 b3, .int .i64 b4, .int .i64 b5]] w fun e w' => e = .returned (.tuple #[.agg #[.int .i64 0, .int .i64 0], .bool false]) ∧ Below w.heap.size w w' := by
  go_enter Try.func48, Try.ntmps48
  go_wp2_with fail
  generalize hW : (World.alloc _ _ : World) = W0
  have q0 : W0.heap[(w.heap.size : Nat)]? = some (Obj.cells #[.int .i64 a0, .int .i64 a1, .int .i64 a2, .int .i64 a3, .int .i64 a4, .int .i64 a5] 28 (0, 0)) := by
    rw [← hW]
    repeat (first | (refine alloc_at ?_; first | (simp; done) | (simp; omega)) | refine drew_row ?_ | refine alloc_past ?_ | assumption)
  have q1 : W0.heap[(w.heap.size + 1 : Nat)]? = some (Obj.cells #[.int .i64 b0, .int .i64 b1, .int .i64 b2, .int .i64 b3, .int .i64 b4, .int .i64 b5] 28 (0, 0)) := by
    rw [← hW]
    repeat (first | (refine alloc_at ?_; first | (simp; done) | (simp; omega)) | refine drew_row ?_ | refine alloc_past ?_ | assumption)
  have hq : W0.heap[(w.heap.size + 2 : Nat)]? = some (Obj.cells #[.int .i64 0, .int .i64 0] 25 (0, 0)) := by
    rw [← hW]
    repeat (first | (refine alloc_at ?_; first | (simp; done) | (simp; omega)) | refine drew_row ?_ | refine alloc_past ?_ | assumption)
  have hk : KR 2 [(w.heap.size, Obj.cells #[.int .i64 a0, .int .i64 a1, .int .i64 a2, .int .i64 a3, .int .i64 a4, .int .i64 a5] 28 (0, 0)), (w.heap.size + 1, Obj.cells #[.int .i64 b0, .int .i64 b1, .int .i64 b2, .int .i64 b3, .int .i64 b4, .int .i64 b5] 28 (0, 0))] w W0 := ⟨by simp [q0, q1], by rw [← hW]; simp, by rw [← hW]; (repeat (first | exact Below.refl _ _ | assumption | refine Below.setCell ?_ (by first | (simp; done) | (simp; omega)) _ | refine Below.alloc ?_ (by first | (simp; done) | (simp; omega)) _ | refine Below.drew ?_))⟩
  clear hW q0 q1
  have r0_c := fun j => cell_of_row W0 _ j _ _ _ (hk.row (g := w.heap.size) (List.mem_cons_self ..))
  have r1_c := fun j => cell_of_row W0 _ j _ _ _ (hk.row (g := w.heap.size + 1) (List.mem_cons_of_mem _ (List.mem_cons_self ..)))
  have z_c := fun j => cell_of_row W0 _ j _ _ _ hq
  have z_f := fun j => frozen_of_row W0 _ j _ _ hq
  go_wp2_with fail
  refine (HC.out _).mono ?_
  rintro e W1 ⟨rfl, hb⟩
  clear r0_c r1_c z_c z_f
  have hk := hk.far hb rfl
  have hq := rowk hq hb rfl
  clear hb
  have r0_c := fun j => cell_of_row W1 _ j _ _ _ (hk.row (g := w.heap.size) (List.mem_cons_self ..))
  have r1_c := fun j => cell_of_row W1 _ j _ _ _ (hk.row (g := w.heap.size + 1) (List.mem_cons_of_mem _ (List.mem_cons_self ..)))
  have z_c := fun j => cell_of_row W1 _ j _ _ _ hq
  have z_f := fun j => frozen_of_row W1 _ j _ _ hq
  go_wp2_with fail
  have hB := hk.2.2
  refine bodyPost_ret (v := .tuple #[.agg #[.int .i64 0, .int .i64 0], .bool false]) (by simp [results, Try.results48, go_sem, z_c]) rfl ⟨rfl, ?_⟩
  exact (hB.setCell (by first | (simp; done) | (simp; omega)) _).setCell (by first | (simp; done) | (simp; omega)) _
set_option maxRecDepth 20000 in
set_option maxHeartbeats 2000000 in
theorem ica_y (a0 a1 a2 a3 a4 a5 : Int) (b0 b1 b2 b3 b4 b5 : Int) (m : Nat → Int) (ft c1 c2 : Int) (hf : m 0 = ft) (HT : Hid (∀ w, Calls Try.prog 43 #[.agg #[.int .i64 a0, .int .i64 a1, .int .i64 a2, .int .i64 a3, .int .i64 a4, .int .i64 a5], .agg #[.int .i64 b0, .int .i64 b1, .int .i64 b2, .int .i64 b3, .int .i64 b4, .int .i64 b5]] w fun e w' => e = .returned (.tuple #[tv m, .bool true]) ∧ Below w.heap.size w w'))(HX : Hid (∀ w, Calls Try.prog 101 #[.int .i64 ft, .int .i64 36] w fun e w' => e = .returned (.agg #[.int .i64 c1, .int .i64 c2]) ∧ Below w.heap.size w w')) (w : World) : Calls Try.prog 39 #[.agg #[.int .i64 a0, .int .i64 a1, .int .i64 a2, .int .i64 a3, .int .i64 a4, .int .i64 a5], .agg #[.int .i64 b0, .int .i64 b1, .int .i64 b2, .int .i64 b3, .int .i64 b4, .int .i64 b5]] w fun e w' => e = .returned (.tuple #[.agg #[.int .i64 c1, .int .i64 c2], .bool true]) ∧ Below w.heap.size w w' := by
  subst hf
  go_enter Try.func39, Try.ntmps39
  go_wp2_with fail
  generalize hW : (World.alloc _ _ : World) = W0
  have q0 : W0.heap[(w.heap.size : Nat)]? = some (Obj.cells #[.int .i64 a0, .int .i64 a1, .int .i64 a2, .int .i64 a3, .int .i64 a4, .int .i64 a5] 28 (0, 0)) := by
    rw [← hW]
    repeat (first | (refine alloc_at ?_; first | (simp; done) | (simp; omega)) | refine drew_row ?_ | refine alloc_past ?_ | assumption)
  have q1 : W0.heap[(w.heap.size + 1 : Nat)]? = some (Obj.cells #[.int .i64 b0, .int .i64 b1, .int .i64 b2, .int .i64 b3, .int .i64 b4, .int .i64 b5] 28 (0, 0)) := by
    rw [← hW]
    repeat (first | (refine alloc_at ?_; first | (simp; done) | (simp; omega)) | refine drew_row ?_ | refine alloc_past ?_ | assumption)
  have hq : W0.heap[(w.heap.size + 2 : Nat)]? = some (Obj.cells #[.int .i64 0, .int .i64 0] 25 (0, 0)) := by
    rw [← hW]
    repeat (first | (refine alloc_at ?_; first | (simp; done) | (simp; omega)) | refine drew_row ?_ | refine alloc_past ?_ | assumption)
  have hk : KR 2 [(w.heap.size, Obj.cells #[.int .i64 a0, .int .i64 a1, .int .i64 a2, .int .i64 a3, .int .i64 a4, .int .i64 a5] 28 (0, 0)), (w.heap.size + 1, Obj.cells #[.int .i64 b0, .int .i64 b1, .int .i64 b2, .int .i64 b3, .int .i64 b4, .int .i64 b5] 28 (0, 0))] w W0 := ⟨by simp [q0, q1], by rw [← hW]; simp, by rw [← hW]; (repeat (first | exact Below.refl _ _ | assumption | refine Below.setCell ?_ (by first | (simp; done) | (simp; omega)) _ | refine Below.alloc ?_ (by first | (simp; done) | (simp; omega)) _ | refine Below.drew ?_))⟩
  clear hW q0 q1
  have r0_c := fun j => cell_of_row W0 _ j _ _ _ (hk.row (g := w.heap.size) (List.mem_cons_self ..))
  have r1_c := fun j => cell_of_row W0 _ j _ _ _ (hk.row (g := w.heap.size + 1) (List.mem_cons_of_mem _ (List.mem_cons_self ..)))
  have z_c := fun j => cell_of_row W0 _ j _ _ _ hq
  have z_f := fun j => frozen_of_row W0 _ j _ _ hq
  go_wp2_with fail
  refine (HT.out _).mono ?_
  rintro e W1 ⟨rfl, hb⟩
  clear r0_c r1_c z_c z_f
  have hk := hk.far hb rfl
  have hq := rowk hq hb rfl
  have HZ : Hid ((W1.alloc (.cells #[.int .i64 0, .int .i64 0, .int .i64 0, .int .i64 0, .int .i64 0, .int .i64 0, .int .i64 0, .int .i64 0, .int .i64 0, .int .i64 0, .int .i64 0, .int .i64 0, .int .i64 0, .int .i64 0, .int .i64 0, .int .i64 0, .int .i64 0, .int .i64 0, .int .i64 0, .int .i64 0, .int .i64 0, .int .i64 0, .int .i64 0, .int .i64 0, .int .i64 0, .int .i64 0, .int .i64 0, .int .i64 0, .int .i64 0, .int .i64 0, .int .i64 0, .int .i64 0, .int .i64 0, .int .i64 0, .int .i64 0, .int .i64 0, .int .i64 0] 37)).heap[W1.heap.size]? = some (tb 37 fun _ => 0)) := Lib.hid (alloc_at rfl)
  have hlk := KR.le hk
  have S2 : Hid (KR 2 [(w.heap.size, Obj.cells #[.int .i64 a0, .int .i64 a1, .int .i64 a2, .int .i64 a3, .int .i64 a4, .int .i64 a5] 28 (0, 0)), (w.heap.size + 1, Obj.cells #[.int .i64 b0, .int .i64 b1, .int .i64 b2, .int .i64 b3, .int .i64 b4, .int .i64 b5] 28 (0, 0))] w ((W1.alloc (.cells #[.int .i64 0, .int .i64 0, .int .i64 0, .int .i64 0, .int .i64 0, .int .i64 0, .int .i64 0, .int .i64 0, .int .i64 0, .int .i64 0, .int .i64 0, .int .i64 0, .int .i64 0, .int .i64 0, .int .i64 0, .int .i64 0, .int .i64 0, .int .i64 0, .int .i64 0, .int .i64 0, .int .i64 0, .int .i64 0, .int .i64 0, .int .i64 0, .int .i64 0, .int .i64 0, .int .i64 0, .int .i64 0, .int .i64 0, .int .i64 0, .int .i64 0, .int .i64 0, .int .i64 0, .int .i64 0, .int .i64 0, .int .i64 0, .int .i64 0] 37)).setCells W1.heap.size 0 (cs37 m)) ∧ ((W1.alloc (.cells #[.int .i64 0, .int .i64 0, .int .i64 0, .int .i64 0, .int .i64 0, .int .i64 0, .int .i64 0, .int .i64 0, .int .i64 0, .int .i64 0, .int .i64 0, .int .i64 0, .int .i64 0, .int .i64 0, .int .i64 0, .int .i64 0, .int .i64 0, .int .i64 0, .int .i64 0, .int .i64 0, .int .i64 0, .int .i64 0, .int .i64 0, .int .i64 0, .int .i64 0, .int .i64 0, .int .i64 0, .int .i64 0, .int .i64 0, .int .i64 0, .int .i64 0, .int .i64 0, .int .i64 0, .int .i64 0, .int .i64 0, .int .i64 0, .int .i64 0] 37)).setCells W1.heap.size 0 (cs37 m)).heap[W1.heap.size]? = some (tb 37 m) ∧ w.heap.size + 2 ≤ W1.heap.size ∧ ((W1.alloc (.cells #[.int .i64 0, .int .i64 0, .int .i64 0, .int .i64 0, .int .i64 0, .int .i64 0, .int .i64 0, .int .i64 0, .int .i64 0, .int .i64 0, .int .i64 0, .int .i64 0, .int .i64 0, .int .i64 0, .int .i64 0, .int .i64 0, .int .i64 0, .int .i64 0, .int .i64 0, .int .i64 0, .int .i64 0, .int .i64 0, .int .i64 0, .int .i64 0, .int .i64 0, .int .i64 0, .int .i64 0, .int .i64 0, .int .i64 0, .int .i64 0, .int .i64 0, .int .i64 0, .int .i64 0, .int .i64 0, .int .i64 0, .int .i64 0, .int .i64 0] 37)).setCells W1.heap.size 0 (cs37 m)).heap[w.heap.size + 2]? = some (Obj.cells #[.int .i64 0, .int .i64 0] 25 (0, 0))) := by
    have hS : Below W1.heap.size W1 ((W1.alloc (.cells #[.int .i64 0, .int .i64 0, .int .i64 0, .int .i64 0, .int .i64 0, .int .i64 0, .int .i64 0, .int .i64 0, .int .i64 0, .int .i64 0, .int .i64 0, .int .i64 0, .int .i64 0, .int .i64 0, .int .i64 0, .int .i64 0, .int .i64 0, .int .i64 0, .int .i64 0, .int .i64 0, .int .i64 0, .int .i64 0, .int .i64 0, .int .i64 0, .int .i64 0, .int .i64 0, .int .i64 0, .int .i64 0, .int .i64 0, .int .i64 0, .int .i64 0, .int .i64 0, .int .i64 0, .int .i64 0, .int .i64 0, .int .i64 0, .int .i64 0] 37)).setCells W1.heap.size 0 (cs37 m)) := setCells_below (cs37 m) 0 ((Below.refl _ _).alloc (Nat.le_refl _) _) (Nat.le_refl _)
    exact Lib.hid ⟨hk.far hS rfl, tb_sets m HZ.out, hlk, rowk hq hS rfl⟩
  clear hb hk hlk hq
  go_wp2_with ((with_reducible refine wpS37 W1.heap.size m 37 _ HZ.out ?_ ?_ ?_ ?_); rfl; rfl; kernel_rfl; clear HZ; generalize (World.setCells _ _ _ _ : World) = X at S2 ⊢; generalize W1.heap.size = G at S2 ⊢; have hk := S2.out.1; have hr := S2.out.2.1; have hlk := S2.out.2.2.1; have hq := S2.out.2.2.2; clear S2; have x_c := tb_c0 hr)
  clear x_c
  refine (HX.out _).mono ?_
  rintro e W2 ⟨rfl, hb⟩
  have hk := hk.far hb rfl
  have hq := rowk hq hb rfl
  have z_c := fun j => cell_of_row W2 _ j _ _ _ hq
  have z_f := fun j => frozen_of_row W2 _ j _ _ hq
  clear hb hr
  go_wp2_with fail
  have hB := hk.2.2
  refine bodyPost_ret (v := .tuple #[.agg #[.int .i64 c1, .int .i64 c2], .bool true]) (by simp [results, Try.results39, go_sem, z_c]) rfl ⟨rfl, ?_⟩
  exact (hB.setCell (by first | (simp; done) | (simp; omega)) _).setCell (by first | (simp; done) | (simp; omega)) _
set_option maxRecDepth 20000 in
set_option maxHeartbeats 2000000 in
theorem ica_n (a0 a1 a2 a3 a4 a5 : Int) (b0 b1 b2 b3 b4 b5 : Int) (m : Nat → Int) (HT : Hid (∀ w, Calls Try.prog 43 #[.agg #[.int .i64 a0, .int .i64 a1, .int .i64 a2, .int .i64 a3, .int .i64 a4, .int .i64 a5], .agg #[.int .i64 b0, .int .i64 b1, .int .i64 b2, .int .i64 b3, .int .i64 b4, .int .i64 b5]] w fun e w' => e = .returned (.tuple #[tv m, .bool false]) ∧ Below w.heap.size w w')) (w : World) : Calls Try.prog 39 #[.agg #[.int .i64 a0, .int .i64 a1, .int .i64 a2, .int .i64 a3, .int .i64 a4, .int .i64 a5], .agg #[.int .i64 b0, .int .i64 b1, .int .i64 b2, .int .i64 b3, .int .i64 b4, .int .i64 b5]] w fun e w' => e = .returned (.tuple #[.agg #[.int .i64 0, .int .i64 0], .bool false]) ∧ Below w.heap.size w w' := by
  go_enter Try.func39, Try.ntmps39
  go_wp2_with fail
  generalize hW : (World.alloc _ _ : World) = W0
  have q0 : W0.heap[(w.heap.size : Nat)]? = some (Obj.cells #[.int .i64 a0, .int .i64 a1, .int .i64 a2, .int .i64 a3, .int .i64 a4, .int .i64 a5] 28 (0, 0)) := by
    rw [← hW]
    repeat (first | (refine alloc_at ?_; first | (simp; done) | (simp; omega)) | refine drew_row ?_ | refine alloc_past ?_ | assumption)
  have q1 : W0.heap[(w.heap.size + 1 : Nat)]? = some (Obj.cells #[.int .i64 b0, .int .i64 b1, .int .i64 b2, .int .i64 b3, .int .i64 b4, .int .i64 b5] 28 (0, 0)) := by
    rw [← hW]
    repeat (first | (refine alloc_at ?_; first | (simp; done) | (simp; omega)) | refine drew_row ?_ | refine alloc_past ?_ | assumption)
  have hq : W0.heap[(w.heap.size + 2 : Nat)]? = some (Obj.cells #[.int .i64 0, .int .i64 0] 25 (0, 0)) := by
    rw [← hW]
    repeat (first | (refine alloc_at ?_; first | (simp; done) | (simp; omega)) | refine drew_row ?_ | refine alloc_past ?_ | assumption)
  have hk : KR 2 [(w.heap.size, Obj.cells #[.int .i64 a0, .int .i64 a1, .int .i64 a2, .int .i64 a3, .int .i64 a4, .int .i64 a5] 28 (0, 0)), (w.heap.size + 1, Obj.cells #[.int .i64 b0, .int .i64 b1, .int .i64 b2, .int .i64 b3, .int .i64 b4, .int .i64 b5] 28 (0, 0))] w W0 := ⟨by simp [q0, q1], by rw [← hW]; simp, by rw [← hW]; (repeat (first | exact Below.refl _ _ | assumption | refine Below.setCell ?_ (by first | (simp; done) | (simp; omega)) _ | refine Below.alloc ?_ (by first | (simp; done) | (simp; omega)) _ | refine Below.drew ?_))⟩
  clear hW q0 q1
  have r0_c := fun j => cell_of_row W0 _ j _ _ _ (hk.row (g := w.heap.size) (List.mem_cons_self ..))
  have r1_c := fun j => cell_of_row W0 _ j _ _ _ (hk.row (g := w.heap.size + 1) (List.mem_cons_of_mem _ (List.mem_cons_self ..)))
  have z_c := fun j => cell_of_row W0 _ j _ _ _ hq
  have z_f := fun j => frozen_of_row W0 _ j _ _ hq
  go_wp2_with fail
  refine (HT.out _).mono ?_
  rintro e W1 ⟨rfl, hb⟩
  clear r0_c r1_c z_c z_f
  have hk := hk.far hb rfl
  have hq := rowk hq hb rfl
  have HZ : Hid ((W1.alloc (.cells #[.int .i64 0, .int .i64 0, .int .i64 0, .int .i64 0, .int .i64 0, .int .i64 0, .int .i64 0, .int .i64 0, .int .i64 0, .int .i64 0, .int .i64 0, .int .i64 0, .int .i64 0, .int .i64 0, .int .i64 0, .int .i64 0, .int .i64 0, .int .i64 0, .int .i64 0, .int .i64 0, .int .i64 0, .int .i64 0, .int .i64 0, .int .i64 0, .int .i64 0, .int .i64 0, .int .i64 0, .int .i64 0, .int .i64 0, .int .i64 0, .int .i64 0, .int .i64 0, .int .i64 0, .int .i64 0, .int .i64 0, .int .i64 0, .int .i64 0] 37)).heap[W1.heap.size]? = some (tb 37 fun _ => 0)) := Lib.hid (alloc_at rfl)
  have hlk := KR.le hk
  have S2 : Hid (KR 2 [(w.heap.size, Obj.cells #[.int .i64 a0, .int .i64 a1, .int .i64 a2, .int .i64 a3, .int .i64 a4, .int .i64 a5] 28 (0, 0)), (w.heap.size + 1, Obj.cells #[.int .i64 b0, .int .i64 b1, .int .i64 b2, .int .i64 b3, .int .i64 b4, .int .i64 b5] 28 (0, 0))] w ((W1.alloc (.cells #[.int .i64 0, .int .i64 0, .int .i64 0, .int .i64 0, .int .i64 0, .int .i64 0, .int .i64 0, .int .i64 0, .int .i64 0, .int .i64 0, .int .i64 0, .int .i64 0, .int .i64 0, .int .i64 0, .int .i64 0, .int .i64 0, .int .i64 0, .int .i64 0, .int .i64 0, .int .i64 0, .int .i64 0, .int .i64 0, .int .i64 0, .int .i64 0, .int .i64 0, .int .i64 0, .int .i64 0, .int .i64 0, .int .i64 0, .int .i64 0, .int .i64 0, .int .i64 0, .int .i64 0, .int .i64 0, .int .i64 0, .int .i64 0, .int .i64 0] 37)).setCells W1.heap.size 0 (cs37 m)) ∧ ((W1.alloc (.cells #[.int .i64 0, .int .i64 0, .int .i64 0, .int .i64 0, .int .i64 0, .int .i64 0, .int .i64 0, .int .i64 0, .int .i64 0, .int .i64 0, .int .i64 0, .int .i64 0, .int .i64 0, .int .i64 0, .int .i64 0, .int .i64 0, .int .i64 0, .int .i64 0, .int .i64 0, .int .i64 0, .int .i64 0, .int .i64 0, .int .i64 0, .int .i64 0, .int .i64 0, .int .i64 0, .int .i64 0, .int .i64 0, .int .i64 0, .int .i64 0, .int .i64 0, .int .i64 0, .int .i64 0, .int .i64 0, .int .i64 0, .int .i64 0, .int .i64 0] 37)).setCells W1.heap.size 0 (cs37 m)).heap[W1.heap.size]? = some (tb 37 m) ∧ w.heap.size + 2 ≤ W1.heap.size ∧ ((W1.alloc (.cells #[.int .i64 0, .int .i64 0, .int .i64 0, .int .i64 0, .int .i64 0, .int .i64 0, .int .i64 0, .int .i64 0, .int .i64 0, .int .i64 0, .int .i64 0, .int .i64 0, .int .i64 0, .int .i64 0, .int .i64 0, .int .i64 0, .int .i64 0, .int .i64 0, .int .i64 0, .int .i64 0, .int .i64 0, .int .i64 0, .int .i64 0, .int .i64 0, .int .i64 0, .int .i64 0, .int .i64 0, .int .i64 0, .int .i64 0, .int .i64 0, .int .i64 0, .int .i64 0, .int .i64 0, .int .i64 0, .int .i64 0, .int .i64 0, .int .i64 0] 37)).setCells W1.heap.size 0 (cs37 m)).heap[w.heap.size + 2]? = some (Obj.cells #[.int .i64 0, .int .i64 0] 25 (0, 0))) := by
    have hS : Below W1.heap.size W1 ((W1.alloc (.cells #[.int .i64 0, .int .i64 0, .int .i64 0, .int .i64 0, .int .i64 0, .int .i64 0, .int .i64 0, .int .i64 0, .int .i64 0, .int .i64 0, .int .i64 0, .int .i64 0, .int .i64 0, .int .i64 0, .int .i64 0, .int .i64 0, .int .i64 0, .int .i64 0, .int .i64 0, .int .i64 0, .int .i64 0, .int .i64 0, .int .i64 0, .int .i64 0, .int .i64 0, .int .i64 0, .int .i64 0, .int .i64 0, .int .i64 0, .int .i64 0, .int .i64 0, .int .i64 0, .int .i64 0, .int .i64 0, .int .i64 0, .int .i64 0, .int .i64 0] 37)).setCells W1.heap.size 0 (cs37 m)) := setCells_below (cs37 m) 0 ((Below.refl _ _).alloc (Nat.le_refl _) _) (Nat.le_refl _)
    exact Lib.hid ⟨hk.far hS rfl, tb_sets m HZ.out, hlk, rowk hq hS rfl⟩
  clear hb hk hlk hq
  go_wp2_with ((with_reducible refine wpS37 W1.heap.size m 37 _ HZ.out ?_ ?_ ?_ ?_); rfl; rfl; kernel_rfl; clear HZ; generalize (World.setCells _ _ _ _ : World) = X at S2 ⊢; generalize W1.heap.size = G at S2 ⊢; have hk := S2.out.1; have hr := S2.out.2.1; have hlk := S2.out.2.2.1; have hq := S2.out.2.2.2; clear S2; obtain ⟨z_c, z1, zf0, zf1⟩ := zero2 hq)
  have hB := hk.2.2
  refine bodyPost_ret (v := .tuple #[.agg #[.int .i64 0, .int .i64 0], .bool false]) (by simp [results, Try.results39, go_sem, z_c, z1]) rfl ⟨rfl, ?_⟩
  exact (hB.setCell (by first | (simp; done) | (simp; omega)) _).setCell (by first | (simp; done) | (simp; omega)) _
set_option maxHeartbeats 2000000 in
theorem scf_y (a0 a1 a2 a3 a4 a5 : Int) (b0 b1 b2 b3 b4 b5 : Int) (m : Nat → Int) (h : Int) (ft c1 c2 : Int) (hix : ∀ W, (Instr.index 37 (tv m) (.int .i64 (h : Int))).run Try.prog W = .ok (.int .i64 ft) W) (HA : Hid (∀ w, Calls Try.prog 98 #[.agg #[.int .i64 a0, .int .i64 a1, .int .i64 a2, .int .i64 a3, .int .i64 a4, .int .i64 a5]] w fun e w' => e = .returned (.bool true) ∧ Below w.heap.size w w'))(HB : Hid (∀ w, Calls Try.prog 98 #[.agg #[.int .i64 b0, .int .i64 b1, .int .i64 b2, .int .i64 b3, .int .i64 b4, .int .i64 b5]] w fun e w' => e = .returned (.bool true) ∧ Below w.heap.size w w'))(HL : Hid (∀ w, Calls Try.prog 99 #[.agg #[.int .i64 a0, .int .i64 a1, .int .i64 a2, .int .i64 a3, .int .i64 a4, .int .i64 a5], .agg #[.int .i64 b0, .int .i64 b1, .int .i64 b2, .int .i64 b3, .int .i64 b4, .int .i64 b5]] w fun e w' => e = .returned (tv m) ∧ Below w.heap.size w w'))(HN : Hid (∀ w, Calls Try.prog 91 #[.agg #[.int .i64 b0, .int .i64 b1, .int .i64 b2, .int .i64 b3, .int .i64 b4, .int .i64 b5]] w fun e w' => e = .returned (.int .i64 (h : Int)) ∧ Below w.heap.size w w'))(HX : Hid (∀ w, Calls Try.prog 94 #[.int .i64 ft, .int .i64 36] w fun e w' => e = .returned (.agg #[.int .i64 c1, .int .i64 c2]) ∧ Below w.heap.size w w')) (w : World) : Calls Try.prog 36 #[.agg #[.int .i64 a0, .int .i64 a1, .int .i64 a2, .int .i64 a3, .int .i64 a4, .int .i64 a5], .agg #[.int .i64 b0, .int .i64 b1, .int .i64 b2, .int .i64 b3, .int .i64 b4, .int .i64 b5]] w fun e w' => e = .returned (.tuple #[.agg #[.int .i64 c1, .int .i64 c2], .bool true]) ∧ Below w.heap.size w w' := by
  go_enter Try.func36, Try.ntmps36
  go_wp2_with fail
  generalize hW : (World.alloc _ _ : World) = W0
  have q0 : W0.heap[(w.heap.size : Nat)]? = some (Obj.cells #[.int .i64 a0, .int .i64 a1, .int .i64 a2, .int .i64 a3, .int .i64 a4, .int .i64 a5] 28 (0, 0)) := by
    rw [← hW]
    repeat (first | (refine alloc_at ?_; first | (simp; done) | (simp; omega)) | refine drew_row ?_ | refine alloc_past ?_ | assumption)
  have q1 : W0.heap[(w.heap.size + 1 : Nat)]? = some (Obj.cells #[.int .i64 b0, .int .i64 b1, .int .i64 b2, .int .i64 b3, .int .i64 b4, .int .i64 b5] 28 (0, 0)) := by
    rw [← hW]
    repeat (first | (refine alloc_at ?_; first | (simp; done) | (simp; omega)) | refine drew_row ?_ | refine alloc_past ?_ | assumption)
  have hq : W0.heap[(w.heap.size + 2 : Nat)]? = some (Obj.cells #[.int .i64 0, .int .i64 0] 25 (0, 0)) := by
    rw [← hW]
    repeat (first | (refine alloc_at ?_; first | (simp; done) | (simp; omega)) | refine drew_row ?_ | refine alloc_past ?_ | assumption)
  have hk : KR 2 [(w.heap.size, Obj.cells #[.int .i64 a0, .int .i64 a1, .int .i64 a2, .int .i64 a3, .int .i64 a4, .int .i64 a5] 28 (0, 0)), (w.heap.size + 1, Obj.cells #[.int .i64 b0, .int .i64 b1, .int .i64 b2, .int .i64 b3, .int .i64 b4, .int .i64 b5] 28 (0, 0))] w W0 := ⟨by simp [q0, q1], by rw [← hW]; simp, by rw [← hW]; (repeat (first | exact Below.refl _ _ | assumption | refine Below.setCell ?_ (by first | (simp; done) | (simp; omega)) _ | refine Below.alloc ?_ (by first | (simp; done) | (simp; omega)) _ | refine Below.drew ?_))⟩
  clear hW q0 q1
  have r0_c := fun j => cell_of_row W0 _ j _ _ _ (hk.row (g := w.heap.size) (List.mem_cons_self ..))
  have r1_c := fun j => cell_of_row W0 _ j _ _ _ (hk.row (g := w.heap.size + 1) (List.mem_cons_of_mem _ (List.mem_cons_self ..)))
  have z_c := fun j => cell_of_row W0 _ j _ _ _ hq
  have z_f := fun j => frozen_of_row W0 _ j _ _ hq
  go_wp2_with fail
  refine (HA.out _).mono ?_
  rintro e W1 ⟨rfl, hb⟩
  clear r0_c r1_c z_c z_f
  have hk := hk.far hb rfl
  have hq := rowk hq hb rfl
  clear hb
  have r0_c := fun j => cell_of_row W1 _ j _ _ _ (hk.row (g := w.heap.size) (List.mem_cons_self ..))
  have r1_c := fun j => cell_of_row W1 _ j _ _ _ (hk.row (g := w.heap.size + 1) (List.mem_cons_of_mem _ (List.mem_cons_self ..)))
  have z_c := fun j => cell_of_row W1 _ j _ _ _ hq
  have z_f := fun j => frozen_of_row W1 _ j _ _ hq
  go_wp2_with fail
  refine (HB.out _).mono ?_
  rintro e W2 ⟨rfl, hb⟩
  clear r0_c r1_c z_c z_f
  have hk := hk.far hb rfl
  have hq := rowk hq hb rfl
  clear hb
  have r0_c := fun j => cell_of_row W2 _ j _ _ _ (hk.row (g := w.heap.size) (List.mem_cons_self ..))
  have r1_c := fun j => cell_of_row W2 _ j _ _ _ (hk.row (g := w.heap.size + 1) (List.mem_cons_of_mem _ (List.mem_cons_self ..)))
  have z_c := fun j => cell_of_row W2 _ j _ _ _ hq
  have z_f := fun j => frozen_of_row W2 _ j _ _ hq
  go_wp2_with fail
  clear r0_c r1_c z_c z_f
  have hz0 := KR.le hk
  set_option maxRecDepth 8000 in
  go_region_held3 (fun U => U.cell? ⟨w.heap.size, 0, none⟩ = some (.int .i64 a0) ∧ U.cell? ⟨w.heap.size, 1, none⟩ = some (.int .i64 a1) ∧ U.cell? ⟨w.heap.size, 2, none⟩ = some (.int .i64 a2) ∧ U.cell? ⟨w.heap.size, 3, none⟩ = some (.int .i64 a3) ∧ U.cell? ⟨w.heap.size, 4, none⟩ = some (.int .i64 a4) ∧ U.cell? ⟨w.heap.size, 5, none⟩ = some (.int .i64 a5) ∧ U.cell? ⟨w.heap.size + 1, 0, none⟩ = some (.int .i64 b0) ∧ U.cell? ⟨w.heap.size + 1, 1, none⟩ = some (.int .i64 b1) ∧ U.cell? ⟨w.heap.size + 1, 2, none⟩ = some (.int .i64 b2) ∧ U.cell? ⟨w.heap.size + 1, 3, none⟩ = some (.int .i64 b3) ∧ U.cell? ⟨w.heap.size + 1, 4, none⟩ = some (.int .i64 b4) ∧ U.cell? ⟨w.heap.size + 1, 5, none⟩ = some (.int .i64 b5) ∧ KR 2 [(w.heap.size, Obj.cells #[.int .i64 a0, .int .i64 a1, .int .i64 a2, .int .i64 a3, .int .i64 a4, .int .i64 a5] 28 (0, 0)), (w.heap.size + 1, Obj.cells #[.int .i64 b0, .int .i64 b1, .int .i64 b2, .int .i64 b3, .int .i64 b4, .int .i64 b5] 28 (0, 0))] w U) (with_reducible refine SR2 ?_; (repeat (first | with_reducible assumption | with_reducible refine KR.al ?_ | with_reducible refine KR.drew ?_ | with_reducible refine KR.set ?_ (by first | omega | (simp; omega))))) (first | (go_at_call 99; with_reducible refine (HL.out _).mono ?_; rintro e w' ⟨rfl, hb'⟩; have hk : KR 2 [(w.heap.size, Obj.cells #[.int .i64 a0, .int .i64 a1, .int .i64 a2, .int .i64 a3, .int .i64 a4, .int .i64 a5] 28 (0, 0)), (w.heap.size + 1, Obj.cells #[.int .i64 b0, .int .i64 b1, .int .i64 b2, .int .i64 b3, .int .i64 b4, .int .i64 b5] 28 (0, 0))] w w' := KR.far (by (repeat (first | with_reducible assumption | with_reducible refine KR.al ?_ | with_reducible refine KR.drew ?_ | with_reducible refine KR.set ?_ (by first | omega | (simp; omega))))) hb' rfl; have hz0 := KR.le hk; have hq : w'.heap[w.heap.size + 2]? = some (Obj.cells #[.int .i64 0, .int .i64 0] 25 (0, 0)) := rowk (by first | with_reducible assumption | (with_reducible refine drew_row ?_; with_reducible assumption)) hb' rfl; have z_c := fun j => cell_of_row w' _ j _ _ _ hq; have z_f := fun j => frozen_of_row w' _ j _ _ hq) | (go_at_call 91; with_reducible refine (HN.out _).mono ?_; rintro e w' ⟨rfl, hb'⟩; have hk : KR 2 [(w.heap.size, Obj.cells #[.int .i64 a0, .int .i64 a1, .int .i64 a2, .int .i64 a3, .int .i64 a4, .int .i64 a5] 28 (0, 0)), (w.heap.size + 1, Obj.cells #[.int .i64 b0, .int .i64 b1, .int .i64 b2, .int .i64 b3, .int .i64 b4, .int .i64 b5] 28 (0, 0))] w w' := KR.far (by (repeat (first | with_reducible assumption | with_reducible refine KR.al ?_ | with_reducible refine KR.drew ?_ | with_reducible refine KR.set ?_ (by first | omega | (simp; omega))))) hb' rfl; have hz0 := KR.le hk; have hq : w'.heap[w.heap.size + 2]? = some (Obj.cells #[.int .i64 0, .int .i64 0] 25 (0, 0)) := rowk (by first | with_reducible assumption | (with_reducible refine drew_row ?_; with_reducible assumption)) hb' rfl; have z_c := fun j => cell_of_row w' _ j _ _ _ hq; have z_f := fun j => frozen_of_row w' _ j _ _ hq) | (go_at_call 94; with_reducible refine (HX.out _).mono ?_; rintro e w' ⟨rfl, hb'⟩; have hk : KR 2 [(w.heap.size, Obj.cells #[.int .i64 a0, .int .i64 a1, .int .i64 a2, .int .i64 a3, .int .i64 a4, .int .i64 a5] 28 (0, 0)), (w.heap.size + 1, Obj.cells #[.int .i64 b0, .int .i64 b1, .int .i64 b2, .int .i64 b3, .int .i64 b4, .int .i64 b5] 28 (0, 0))] w w' := KR.far (by (repeat (first | with_reducible assumption | with_reducible refine KR.al ?_ | with_reducible refine KR.drew ?_ | with_reducible refine KR.set ?_ (by first | omega | (simp; omega))))) hb' rfl; have hz0 := KR.le hk; have hq : w'.heap[w.heap.size + 2]? = some (Obj.cells #[.int .i64 0, .int .i64 0] 25 (0, 0)) := rowk (by first | with_reducible assumption | (with_reducible refine drew_row ?_; with_reducible assumption)) hb' rfl; have z_c := fun j => cell_of_row w' _ j _ _ _ hq; have z_f := fun j => frozen_of_row w' _ j _ _ hq))
  all_goals
    have r0_c := fun j => cell_of_row w' _ j _ _ _ (hk.row (g := w.heap.size) (List.mem_cons_self ..))
    have r1_c := fun j => cell_of_row w' _ j _ _ _ (hk.row (g := w.heap.size + 1) (List.mem_cons_of_mem _ (List.mem_cons_self ..)))
    go_wp2_with fail
    have hB := hk.2.2
    refine bodyPost_ret (v := .tuple #[.agg #[.int .i64 c1, .int .i64 c2], .bool true]) (by simp [results, Try.results36, go_sem, z_c]) rfl ⟨rfl, ?_⟩
    exact (hB.setCell (by first | (simp; done) | (simp; omega)) _).setCell (by first | (simp; done) | (simp; omega)) _
set_option maxHeartbeats 2000000 in
theorem sca_y (a0 a1 a2 a3 a4 a5 : Int) (b0 b1 b2 b3 b4 b5 : Int) (m : Nat → Int) (ft c1 c2 : Int) (hix : ∀ W, (Instr.index 37 (tv m) (.int .i64 0)).run Try.prog W = .ok (.int .i64 ft) W) (HA : Hid (∀ w, Calls Try.prog 98 #[.agg #[.int .i64 a0, .int .i64 a1, .int .i64 a2, .int .i64 a3, .int .i64 a4, .int .i64 a5]] w fun e w' => e = .returned (.bool true) ∧ Below w.heap.size w w'))(HB : Hid (∀ w, Calls Try.prog 98 #[.agg #[.int .i64 b0, .int .i64 b1, .int .i64 b2, .int .i64 b3, .int .i64 b4, .int .i64 b5]] w fun e w' => e = .returned (.bool true) ∧ Below w.heap.size w w'))(HL : Hid (∀ w, Calls Try.prog 99 #[.agg #[.int .i64 a0, .int .i64 a1, .int .i64 a2, .int .i64 a3, .int .i64 a4, .int .i64 a5], .agg #[.int .i64 b0, .int .i64 b1, .int .i64 b2, .int .i64 b3, .int .i64 b4, .int .i64 b5]] w fun e w' => e = .returned (tv m) ∧ Below w.heap.size w w'))(HX : Hid (∀ w, Calls Try.prog 94 #[.int .i64 ft, .int .i64 36] w fun e w' => e = .returned (.agg #[.int .i64 c1, .int .i64 c2]) ∧ Below w.heap.size w w')) (w : World) : Calls Try.prog 38 #[.agg #[.int .i64 a0, .int .i64 a1, .int .i64 a2, .int .i64 a3, .int .i64 a4, .int .i64 a5], .agg #[.int .i64 b0, .int .i64 b1, .int .i64 b2, .int .i64 b3, .int .i64 b4, .int .i64 b5]] w fun e w' => e = .returned (.tuple #[.agg #[.int .i64 c1, .int .i64 c2], .bool true]) ∧ Below w.heap.size w w' := by
  go_enter Try.func38, Try.ntmps38
  go_wp2_with fail
  generalize hW : (World.alloc _ _ : World) = W0
  have q0 : W0.heap[(w.heap.size : Nat)]? = some (Obj.cells #[.int .i64 a0, .int .i64 a1, .int .i64 a2, .int .i64 a3, .int .i64 a4, .int .i64 a5] 28 (0, 0)) := by
    rw [← hW]
    repeat (first | (refine alloc_at ?_; first | (simp; done) | (simp; omega)) | refine drew_row ?_ | refine alloc_past ?_ | assumption)
  have q1 : W0.heap[(w.heap.size + 1 : Nat)]? = some (Obj.cells #[.int .i64 b0, .int .i64 b1, .int .i64 b2, .int .i64 b3, .int .i64 b4, .int .i64 b5] 28 (0, 0)) := by
    rw [← hW]
    repeat (first | (refine alloc_at ?_; first | (simp; done) | (simp; omega)) | refine drew_row ?_ | refine alloc_past ?_ | assumption)
  have hq : W0.heap[(w.heap.size + 2 : Nat)]? = some (Obj.cells #[.int .i64 0, .int .i64 0] 25 (0, 0)) := by
    rw [← hW]
    repeat (first | (refine alloc_at ?_; first | (simp; done) | (simp; omega)) | refine drew_row ?_ | refine alloc_past ?_ | assumption)
  have hk : KR 2 [(w.heap.size, Obj.cells #[.int .i64 a0, .int .i64 a1, .int .i64 a2, .int .i64 a3, .int .i64 a4, .int .i64 a5] 28 (0, 0)), (w.heap.size + 1, Obj.cells #[.int .i64 b0, .int .i64 b1, .int .i64 b2, .int .i64 b3, .int .i64 b4, .int .i64 b5] 28 (0, 0))] w W0 := ⟨by simp [q0, q1], by rw [← hW]; simp, by rw [← hW]; (repeat (first | exact Below.refl _ _ | assumption | refine Below.setCell ?_ (by first | (simp; done) | (simp; omega)) _ | refine Below.alloc ?_ (by first | (simp; done) | (simp; omega)) _ | refine Below.drew ?_))⟩
  clear hW q0 q1
  have r0_c := fun j => cell_of_row W0 _ j _ _ _ (hk.row (g := w.heap.size) (List.mem_cons_self ..))
  have r1_c := fun j => cell_of_row W0 _ j _ _ _ (hk.row (g := w.heap.size + 1) (List.mem_cons_of_mem _ (List.mem_cons_self ..)))
  have z_c := fun j => cell_of_row W0 _ j _ _ _ hq
  have z_f := fun j => frozen_of_row W0 _ j _ _ hq
  go_wp2_with fail
  refine (HA.out _).mono ?_
  rintro e W1 ⟨rfl, hb⟩
  clear r0_c r1_c z_c z_f
  have hk := hk.far hb rfl
  have hq := rowk hq hb rfl
  clear hb
  have r0_c := fun j => cell_of_row W1 _ j _ _ _ (hk.row (g := w.heap.size) (List.mem_cons_self ..))
  have r1_c := fun j => cell_of_row W1 _ j _ _ _ (hk.row (g := w.heap.size + 1) (List.mem_cons_of_mem _ (List.mem_cons_self ..)))
  have z_c := fun j => cell_of_row W1 _ j _ _ _ hq
  have z_f := fun j => frozen_of_row W1 _ j _ _ hq
  go_wp2_with fail
  refine (HB.out _).mono ?_
  rintro e W2 ⟨rfl, hb⟩
  clear r0_c r1_c z_c z_f
  have hk := hk.far hb rfl
  have hq := rowk hq hb rfl
  clear hb
  have r0_c := fun j => cell_of_row W2 _ j _ _ _ (hk.row (g := w.heap.size) (List.mem_cons_self ..))
  have r1_c := fun j => cell_of_row W2 _ j _ _ _ (hk.row (g := w.heap.size + 1) (List.mem_cons_of_mem _ (List.mem_cons_self ..)))
  have z_c := fun j => cell_of_row W2 _ j _ _ _ hq
  have z_f := fun j => frozen_of_row W2 _ j _ _ hq
  go_wp2_with fail
  refine (HL.out _).mono ?_
  rintro e W3 ⟨rfl, hb⟩
  clear r0_c r1_c z_c z_f
  have hk := hk.far hb rfl
  have hq := rowk hq hb rfl
  clear hb
  have r0_c := fun j => cell_of_row W3 _ j _ _ _ (hk.row (g := w.heap.size) (List.mem_cons_self ..))
  have r1_c := fun j => cell_of_row W3 _ j _ _ _ (hk.row (g := w.heap.size + 1) (List.mem_cons_of_mem _ (List.mem_cons_self ..)))
  have z_c := fun j => cell_of_row W3 _ j _ _ _ hq
  have z_f := fun j => frozen_of_row W3 _ j _ _ hq
  go_wp2_with fail
  refine (HX.out _).mono ?_
  rintro e W4 ⟨rfl, hb⟩
  clear r0_c r1_c z_c z_f
  have hk := hk.far hb rfl
  have hq := rowk hq hb rfl
  clear hb
  have r0_c := fun j => cell_of_row W4 _ j _ _ _ (hk.row (g := w.heap.size) (List.mem_cons_self ..))
  have r1_c := fun j => cell_of_row W4 _ j _ _ _ (hk.row (g := w.heap.size + 1) (List.mem_cons_of_mem _ (List.mem_cons_self ..)))
  have z_c := fun j => cell_of_row W4 _ j _ _ _ hq
  have z_f := fun j => frozen_of_row W4 _ j _ _ hq
  go_wp2_with fail
  have hB := hk.2.2
  refine bodyPost_ret (v := .tuple #[.agg #[.int .i64 c1, .int .i64 c2], .bool true]) (by simp [results, Try.results38, go_sem, z_c]) rfl ⟨rfl, ?_⟩
  exact (hB.setCell (by first | (simp; done) | (simp; omega)) _).setCell (by first | (simp; done) | (simp; omega)) _
set_option maxHeartbeats 2000000 in
theorem smwt_y (a0 a1 a2 a3 a4 a5 : Int) (b0 b1 b2 b3 b4 b5 : Int) (m : Nat → Int) (h : Int) (ft c1 c2 : Int) (h0 : (ft == 0) = false) (h1 : ¬ ft = 0) (hix : ∀ W, (Instr.index 37 (tv m) (.int .i64 (h : Int))).run Try.prog W = .ok (.int .i64 ft) W) (HA : Hid (∀ w, Calls Try.prog 98 #[.agg #[.int .i64 a0, .int .i64 a1, .int .i64 a2, .int .i64 a3, .int .i64 a4, .int .i64 a5]] w fun e w' => e = .returned (.bool true) ∧ Below w.heap.size w w'))(HB : Hid (∀ w, Calls Try.prog 98 #[.agg #[.int .i64 b0, .int .i64 b1, .int .i64 b2, .int .i64 b3, .int .i64 b4, .int .i64 b5]] w fun e w' => e = .returned (.bool true) ∧ Below w.heap.size w w'))(HL : Hid (∀ w, Calls Try.prog 99 #[.agg #[.int .i64 a0, .int .i64 a1, .int .i64 a2, .int .i64 a3, .int .i64 a4, .int .i64 a5], .agg #[.int .i64 b0, .int .i64 b1, .int .i64 b2, .int .i64 b3, .int .i64 b4, .int .i64 b5]] w fun e w' => e = .returned (tv m) ∧ Below w.heap.size w w'))(HN : Hid (∀ w, Calls Try.prog 91 #[.agg #[.int .i64 b0, .int .i64 b1, .int .i64 b2, .int .i64 b3, .int .i64 b4, .int .i64 b5]] w fun e w' => e = .returned (.int .i64 (h : Int)) ∧ Below w.heap.size w w'))(HX : Hid (∀ w, Calls Try.prog 94 #[.int .i64 36, .int .i64 ft] w fun e w' => e = .returned (.agg #[.int .i64 c1, .int .i64 c2]) ∧ Below w.heap.size w w')) (w : World) : Calls Try.prog 47 #[.agg #[.int .i64 a0, .int .i64 a1, .int .i64 a2, .int .i64 a3, .int .i64 a4, .int .i64 a5], .agg #[.int .i64 b0, .int .i64 b1, .int .i64 b2, .int .i64 b3, .int .i64 b4, .int .i64 b5]] w fun e w' => e = .returned (.tuple #[.agg #[.int .i64 c1, .int .i64 c2], .bool true]) ∧ Below w.heap.size w w' := by
  go_enter Try.func47, Try.ntmps47
  go_wp2_with fail
  generalize hW : (World.alloc _ _ : World) = W0
  have q0 : W0.heap[(w.heap.size : Nat)]? = some (Obj.cells #[.int .i64 a0, .int .i64 a1, .int .i64 a2, .int .i64 a3, .int .i64 a4, .int .i64 a5] 28 (0, 0)) := by
    rw [← hW]
    repeat (first | (refine alloc_at ?_; first | (simp; done) | (simp; omega)) | refine drew_row ?_ | refine alloc_past ?_ | assumption)
  have q1 : W0.heap[(w.heap.size + 1 : Nat)]? = some (Obj.cells #[.int .i64 b0, .int .i64 b1, .int .i64 b2, .int .i64 b3, .int .i64 b4, .int .i64 b5] 28 (0, 0)) := by
    rw [← hW]
    repeat (first | (refine alloc_at ?_; first | (simp; done) | (simp; omega)) | refine drew_row ?_ | refine alloc_past ?_ | assumption)
  have hq : W0.heap[(w.heap.size + 2 : Nat)]? = some (Obj.cells #[.int .i64 0, .int .i64 0] 25 (0, 0)) := by
    rw [← hW]
    repeat (first | (refine alloc_at ?_; first | (simp; done) | (simp; omega)) | refine drew_row ?_ | refine alloc_past ?_ | assumption)
  have hk : KR 2 [(w.heap.size, Obj.cells #[.int .i64 a0, .int .i64 a1, .int .i64 a2, .int .i64 a3, .int .i64 a4, .int .i64 a5] 28 (0, 0)), (w.heap.size + 1, Obj.cells #[.int .i64 b0, .int .i64 b1, .int .i64 b2, .int .i64 b3, .int .i64 b4, .int .i64 b5] 28 (0, 0))] w W0 := ⟨by simp [q0, q1], by rw [← hW]; simp, by rw [← hW]; (repeat (first | exact Below.refl _ _ | assumption | refine Below.setCell ?_ (by first | (simp; done) | (simp; omega)) _ | refine Below.alloc ?_ (by first | (simp; done) | (simp; omega)) _ | refine Below.drew ?_))⟩
  clear hW q0 q1
  have r0_c := fun j => cell_of_row W0 _ j _ _ _ (hk.row (g := w.heap.size) (List.mem_cons_self ..))
  have r1_c := fun j => cell_of_row W0 _ j _ _ _ (hk.row (g := w.heap.size + 1) (List.mem_cons_of_mem _ (List.mem_cons_self ..)))
  have z_c := fun j => cell_of_row W0 _ j _ _ _ hq
  have z_f := fun j => frozen_of_row W0 _ j _ _ hq
  go_wp2_with fail
  refine (HA.out _).mono ?_
  rintro e W1 ⟨rfl, hb⟩
  clear r0_c r1_c z_c z_f
  have hk := hk.far hb rfl
  have hq := rowk hq hb rfl
  clear hb
  have r0_c := fun j => cell_of_row W1 _ j _ _ _ (hk.row (g := w.heap.size) (List.mem_cons_self ..))
  have r1_c := fun j => cell_of_row W1 _ j _ _ _ (hk.row (g := w.heap.size + 1) (List.mem_cons_of_mem _ (List.mem_cons_self ..)))
  have z_c := fun j => cell_of_row W1 _ j _ _ _ hq
  have z_f := fun j => frozen_of_row W1 _ j _ _ hq
  go_wp2_with fail
  refine (HB.out _).mono ?_
  rintro e W2 ⟨rfl, hb⟩
  clear r0_c r1_c z_c z_f
  have hk := hk.far hb rfl
  have hq := rowk hq hb rfl
  clear hb
  have r0_c := fun j => cell_of_row W2 _ j _ _ _ (hk.row (g := w.heap.size) (List.mem_cons_self ..))
  have r1_c := fun j => cell_of_row W2 _ j _ _ _ (hk.row (g := w.heap.size + 1) (List.mem_cons_of_mem _ (List.mem_cons_self ..)))
  have z_c := fun j => cell_of_row W2 _ j _ _ _ hq
  have z_f := fun j => frozen_of_row W2 _ j _ _ hq
  go_wp2_with fail
  clear r0_c r1_c z_c z_f
  have hz0 := KR.le hk
  set_option maxRecDepth 8000 in
  go_region_held3 (fun U => U.cell? ⟨w.heap.size, 0, none⟩ = some (.int .i64 a0) ∧ U.cell? ⟨w.heap.size, 1, none⟩ = some (.int .i64 a1) ∧ U.cell? ⟨w.heap.size, 2, none⟩ = some (.int .i64 a2) ∧ U.cell? ⟨w.heap.size, 3, none⟩ = some (.int .i64 a3) ∧ U.cell? ⟨w.heap.size, 4, none⟩ = some (.int .i64 a4) ∧ U.cell? ⟨w.heap.size, 5, none⟩ = some (.int .i64 a5) ∧ U.cell? ⟨w.heap.size + 1, 0, none⟩ = some (.int .i64 b0) ∧ U.cell? ⟨w.heap.size + 1, 1, none⟩ = some (.int .i64 b1) ∧ U.cell? ⟨w.heap.size + 1, 2, none⟩ = some (.int .i64 b2) ∧ U.cell? ⟨w.heap.size + 1, 3, none⟩ = some (.int .i64 b3) ∧ U.cell? ⟨w.heap.size + 1, 4, none⟩ = some (.int .i64 b4) ∧ U.cell? ⟨w.heap.size + 1, 5, none⟩ = some (.int .i64 b5) ∧ KR 2 [(w.heap.size, Obj.cells #[.int .i64 a0, .int .i64 a1, .int .i64 a2, .int .i64 a3, .int .i64 a4, .int .i64 a5] 28 (0, 0)), (w.heap.size + 1, Obj.cells #[.int .i64 b0, .int .i64 b1, .int .i64 b2, .int .i64 b3, .int .i64 b4, .int .i64 b5] 28 (0, 0))] w U) (with_reducible refine SR2 ?_; (repeat (first | with_reducible assumption | with_reducible refine KR.al ?_ | with_reducible refine KR.drew ?_ | with_reducible refine KR.set ?_ (by first | omega | (simp; omega))))) (first | (go_at_call 99; with_reducible refine (HL.out _).mono ?_; rintro e w' ⟨rfl, hb'⟩; have hk : KR 2 [(w.heap.size, Obj.cells #[.int .i64 a0, .int .i64 a1, .int .i64 a2, .int .i64 a3, .int .i64 a4, .int .i64 a5] 28 (0, 0)), (w.heap.size + 1, Obj.cells #[.int .i64 b0, .int .i64 b1, .int .i64 b2, .int .i64 b3, .int .i64 b4, .int .i64 b5] 28 (0, 0))] w w' := KR.far (by (repeat (first | with_reducible assumption | with_reducible refine KR.al ?_ | with_reducible refine KR.drew ?_ | with_reducible refine KR.set ?_ (by first | omega | (simp; omega))))) hb' rfl; have hz0 := KR.le hk; have hq : w'.heap[w.heap.size + 2]? = some (Obj.cells #[.int .i64 0, .int .i64 0] 25 (0, 0)) := rowk (by first | with_reducible assumption | (with_reducible refine drew_row ?_; with_reducible assumption)) hb' rfl; have z_c := fun j => cell_of_row w' _ j _ _ _ hq; have z_f := fun j => frozen_of_row w' _ j _ _ hq) | (go_at_call 91; with_reducible refine (HN.out _).mono ?_; rintro e w' ⟨rfl, hb'⟩; have hk : KR 2 [(w.heap.size, Obj.cells #[.int .i64 a0, .int .i64 a1, .int .i64 a2, .int .i64 a3, .int .i64 a4, .int .i64 a5] 28 (0, 0)), (w.heap.size + 1, Obj.cells #[.int .i64 b0, .int .i64 b1, .int .i64 b2, .int .i64 b3, .int .i64 b4, .int .i64 b5] 28 (0, 0))] w w' := KR.far (by (repeat (first | with_reducible assumption | with_reducible refine KR.al ?_ | with_reducible refine KR.drew ?_ | with_reducible refine KR.set ?_ (by first | omega | (simp; omega))))) hb' rfl; have hz0 := KR.le hk; have hq : w'.heap[w.heap.size + 2]? = some (Obj.cells #[.int .i64 0, .int .i64 0] 25 (0, 0)) := rowk (by first | with_reducible assumption | (with_reducible refine drew_row ?_; with_reducible assumption)) hb' rfl; have z_c := fun j => cell_of_row w' _ j _ _ _ hq; have z_f := fun j => frozen_of_row w' _ j _ _ hq))
  all_goals
    have r0_c := fun j => cell_of_row w' _ j _ _ _ (hk.row (g := w.heap.size) (List.mem_cons_self ..))
    have r1_c := fun j => cell_of_row w' _ j _ _ _ (hk.row (g := w.heap.size + 1) (List.mem_cons_of_mem _ (List.mem_cons_self ..)))
    go_wp2_with fail
    refine (HX.out _).mono ?_
    rintro e W4 ⟨rfl, hb⟩
    clear r0_c r1_c z_c z_f
    have hk := hk.far hb rfl
    have hq := rowk hq hb rfl
    clear hb
    have r0_c := fun j => cell_of_row W4 _ j _ _ _ (hk.row (g := w.heap.size) (List.mem_cons_self ..))
    have r1_c := fun j => cell_of_row W4 _ j _ _ _ (hk.row (g := w.heap.size + 1) (List.mem_cons_of_mem _ (List.mem_cons_self ..)))
    have z_c := fun j => cell_of_row W4 _ j _ _ _ hq
    have z_f := fun j => frozen_of_row W4 _ j _ _ hq
    go_wp2_with fail
    have hB := hk.2.2
    refine bodyPost_ret (v := .tuple #[.agg #[.int .i64 c1, .int .i64 c2], .bool true]) (by simp [results, Try.results47, go_sem, z_c]) rfl ⟨rfl, ?_⟩
    exact (hB.setCell (by first | (simp; done) | (simp; omega)) _).setCell (by first | (simp; done) | (simp; omega)) _
set_option maxHeartbeats 2000000 in
theorem smwt_z (a0 a1 a2 a3 a4 a5 : Int) (b0 b1 b2 b3 b4 b5 : Int) (m : Nat → Int) (h : Int) (hix : ∀ W, (Instr.index 37 (tv m) (.int .i64 (h : Int))).run Try.prog W = .ok (.int .i64 0) W) (HA : Hid (∀ w, Calls Try.prog 98 #[.agg #[.int .i64 a0, .int .i64 a1, .int .i64 a2, .int .i64 a3, .int .i64 a4, .int .i64 a5]] w fun e w' => e = .returned (.bool true) ∧ Below w.heap.size w w'))(HB : Hid (∀ w, Calls Try.prog 98 #[.agg #[.int .i64 b0, .int .i64 b1, .int .i64 b2, .int .i64 b3, .int .i64 b4, .int .i64 b5]] w fun e w' => e = .returned (.bool true) ∧ Below w.heap.size w w'))(HL : Hid (∀ w, Calls Try.prog 99 #[.agg #[.int .i64 a0, .int .i64 a1, .int .i64 a2, .int .i64 a3, .int .i64 a4, .int .i64 a5], .agg #[.int .i64 b0, .int .i64 b1, .int .i64 b2, .int .i64 b3, .int .i64 b4, .int .i64 b5]] w fun e w' => e = .returned (tv m) ∧ Below w.heap.size w w'))(HN : Hid (∀ w, Calls Try.prog 91 #[.agg #[.int .i64 b0, .int .i64 b1, .int .i64 b2, .int .i64 b3, .int .i64 b4, .int .i64 b5]] w fun e w' => e = .returned (.int .i64 (h : Int)) ∧ Below w.heap.size w w')) (w : World) : Calls Try.prog 47 #[.agg #[.int .i64 a0, .int .i64 a1, .int .i64 a2, .int .i64 a3, .int .i64 a4, .int .i64 a5], .agg #[.int .i64 b0, .int .i64 b1, .int .i64 b2, .int .i64 b3, .int .i64 b4, .int .i64 b5]] w fun e w' => e = .returned (.tuple #[.agg #[.int .i64 0, .int .i64 0], .bool false]) ∧ Below w.heap.size w w' := by
  go_enter Try.func47, Try.ntmps47
  go_wp2_with fail
  generalize hW : (World.alloc _ _ : World) = W0
  have q0 : W0.heap[(w.heap.size : Nat)]? = some (Obj.cells #[.int .i64 a0, .int .i64 a1, .int .i64 a2, .int .i64 a3, .int .i64 a4, .int .i64 a5] 28 (0, 0)) := by
    rw [← hW]
    repeat (first | (refine alloc_at ?_; first | (simp; done) | (simp; omega)) | refine drew_row ?_ | refine alloc_past ?_ | assumption)
  have q1 : W0.heap[(w.heap.size + 1 : Nat)]? = some (Obj.cells #[.int .i64 b0, .int .i64 b1, .int .i64 b2, .int .i64 b3, .int .i64 b4, .int .i64 b5] 28 (0, 0)) := by
    rw [← hW]
    repeat (first | (refine alloc_at ?_; first | (simp; done) | (simp; omega)) | refine drew_row ?_ | refine alloc_past ?_ | assumption)
  have hq : W0.heap[(w.heap.size + 2 : Nat)]? = some (Obj.cells #[.int .i64 0, .int .i64 0] 25 (0, 0)) := by
    rw [← hW]
    repeat (first | (refine alloc_at ?_; first | (simp; done) | (simp; omega)) | refine drew_row ?_ | refine alloc_past ?_ | assumption)
  have hk : KR 2 [(w.heap.size, Obj.cells #[.int .i64 a0, .int .i64 a1, .int .i64 a2, .int .i64 a3, .int .i64 a4, .int .i64 a5] 28 (0, 0)), (w.heap.size + 1, Obj.cells #[.int .i64 b0, .int .i64 b1, .int .i64 b2, .int .i64 b3, .int .i64 b4, .int .i64 b5] 28 (0, 0))] w W0 := ⟨by simp [q0, q1], by rw [← hW]; simp, by rw [← hW]; (repeat (first | exact Below.refl _ _ | assumption | refine Below.setCell ?_ (by first | (simp; done) | (simp; omega)) _ | refine Below.alloc ?_ (by first | (simp; done) | (simp; omega)) _ | refine Below.drew ?_))⟩
  clear hW q0 q1
  have r0_c := fun j => cell_of_row W0 _ j _ _ _ (hk.row (g := w.heap.size) (List.mem_cons_self ..))
  have r1_c := fun j => cell_of_row W0 _ j _ _ _ (hk.row (g := w.heap.size + 1) (List.mem_cons_of_mem _ (List.mem_cons_self ..)))
  have z_c := fun j => cell_of_row W0 _ j _ _ _ hq
  have z_f := fun j => frozen_of_row W0 _ j _ _ hq
  go_wp2_with fail
  refine (HA.out _).mono ?_
  rintro e W1 ⟨rfl, hb⟩
  clear r0_c r1_c z_c z_f
  have hk := hk.far hb rfl
  have hq := rowk hq hb rfl
  clear hb
  have r0_c := fun j => cell_of_row W1 _ j _ _ _ (hk.row (g := w.heap.size) (List.mem_cons_self ..))
  have r1_c := fun j => cell_of_row W1 _ j _ _ _ (hk.row (g := w.heap.size + 1) (List.mem_cons_of_mem _ (List.mem_cons_self ..)))
  have z_c := fun j => cell_of_row W1 _ j _ _ _ hq
  have z_f := fun j => frozen_of_row W1 _ j _ _ hq
  go_wp2_with fail
  refine (HB.out _).mono ?_
  rintro e W2 ⟨rfl, hb⟩
  clear r0_c r1_c z_c z_f
  have hk := hk.far hb rfl
  have hq := rowk hq hb rfl
  clear hb
  have r0_c := fun j => cell_of_row W2 _ j _ _ _ (hk.row (g := w.heap.size) (List.mem_cons_self ..))
  have r1_c := fun j => cell_of_row W2 _ j _ _ _ (hk.row (g := w.heap.size + 1) (List.mem_cons_of_mem _ (List.mem_cons_self ..)))
  have z_c := fun j => cell_of_row W2 _ j _ _ _ hq
  have z_f := fun j => frozen_of_row W2 _ j _ _ hq
  go_wp2_with fail
  clear r0_c r1_c z_c z_f
  have hz0 := KR.le hk
  set_option maxRecDepth 8000 in
  go_region_held3 (fun U => U.cell? ⟨w.heap.size, 0, none⟩ = some (.int .i64 a0) ∧ U.cell? ⟨w.heap.size, 1, none⟩ = some (.int .i64 a1) ∧ U.cell? ⟨w.heap.size, 2, none⟩ = some (.int .i64 a2) ∧ U.cell? ⟨w.heap.size, 3, none⟩ = some (.int .i64 a3) ∧ U.cell? ⟨w.heap.size, 4, none⟩ = some (.int .i64 a4) ∧ U.cell? ⟨w.heap.size, 5, none⟩ = some (.int .i64 a5) ∧ U.cell? ⟨w.heap.size + 1, 0, none⟩ = some (.int .i64 b0) ∧ U.cell? ⟨w.heap.size + 1, 1, none⟩ = some (.int .i64 b1) ∧ U.cell? ⟨w.heap.size + 1, 2, none⟩ = some (.int .i64 b2) ∧ U.cell? ⟨w.heap.size + 1, 3, none⟩ = some (.int .i64 b3) ∧ U.cell? ⟨w.heap.size + 1, 4, none⟩ = some (.int .i64 b4) ∧ U.cell? ⟨w.heap.size + 1, 5, none⟩ = some (.int .i64 b5) ∧ KR 2 [(w.heap.size, Obj.cells #[.int .i64 a0, .int .i64 a1, .int .i64 a2, .int .i64 a3, .int .i64 a4, .int .i64 a5] 28 (0, 0)), (w.heap.size + 1, Obj.cells #[.int .i64 b0, .int .i64 b1, .int .i64 b2, .int .i64 b3, .int .i64 b4, .int .i64 b5] 28 (0, 0))] w U) (with_reducible refine SR2 ?_; (repeat (first | with_reducible assumption | with_reducible refine KR.al ?_ | with_reducible refine KR.drew ?_ | with_reducible refine KR.set ?_ (by first | omega | (simp; omega))))) (first | (go_at_call 99; with_reducible refine (HL.out _).mono ?_; rintro e w' ⟨rfl, hb'⟩; have hk : KR 2 [(w.heap.size, Obj.cells #[.int .i64 a0, .int .i64 a1, .int .i64 a2, .int .i64 a3, .int .i64 a4, .int .i64 a5] 28 (0, 0)), (w.heap.size + 1, Obj.cells #[.int .i64 b0, .int .i64 b1, .int .i64 b2, .int .i64 b3, .int .i64 b4, .int .i64 b5] 28 (0, 0))] w w' := KR.far (by (repeat (first | with_reducible assumption | with_reducible refine KR.al ?_ | with_reducible refine KR.drew ?_ | with_reducible refine KR.set ?_ (by first | omega | (simp; omega))))) hb' rfl; have hz0 := KR.le hk; have hq : w'.heap[w.heap.size + 2]? = some (Obj.cells #[.int .i64 0, .int .i64 0] 25 (0, 0)) := rowk (by first | with_reducible assumption | (with_reducible refine drew_row ?_; with_reducible assumption)) hb' rfl; have z_c := fun j => cell_of_row w' _ j _ _ _ hq; have z_f := fun j => frozen_of_row w' _ j _ _ hq) | (go_at_call 91; with_reducible refine (HN.out _).mono ?_; rintro e w' ⟨rfl, hb'⟩; have hk : KR 2 [(w.heap.size, Obj.cells #[.int .i64 a0, .int .i64 a1, .int .i64 a2, .int .i64 a3, .int .i64 a4, .int .i64 a5] 28 (0, 0)), (w.heap.size + 1, Obj.cells #[.int .i64 b0, .int .i64 b1, .int .i64 b2, .int .i64 b3, .int .i64 b4, .int .i64 b5] 28 (0, 0))] w w' := KR.far (by (repeat (first | with_reducible assumption | with_reducible refine KR.al ?_ | with_reducible refine KR.drew ?_ | with_reducible refine KR.set ?_ (by first | omega | (simp; omega))))) hb' rfl; have hz0 := KR.le hk; have hq : w'.heap[w.heap.size + 2]? = some (Obj.cells #[.int .i64 0, .int .i64 0] 25 (0, 0)) := rowk (by first | with_reducible assumption | (with_reducible refine drew_row ?_; with_reducible assumption)) hb' rfl; have z_c := fun j => cell_of_row w' _ j _ _ _ hq; have z_f := fun j => frozen_of_row w' _ j _ _ hq))
  all_goals
    have r0_c := fun j => cell_of_row w' _ j _ _ _ (hk.row (g := w.heap.size) (List.mem_cons_self ..))
    have r1_c := fun j => cell_of_row w' _ j _ _ _ (hk.row (g := w.heap.size + 1) (List.mem_cons_of_mem _ (List.mem_cons_self ..)))
    go_wp2_with fail
    have hB := hk.2.2
    refine bodyPost_ret (v := .tuple #[.agg #[.int .i64 0, .int .i64 0], .bool false]) (by simp [results, Try.results47, go_sem, z_c]) rfl ⟨rfl, ?_⟩
    exact (hB.setCell (by first | (simp; done) | (simp; omega)) _).setCell (by first | (simp; done) | (simp; omega)) _
set_option maxHeartbeats 2000000 in
theorem scf_n0 (a0 a1 a2 a3 a4 a5 : Int) (b0 b1 b2 b3 b4 b5 : Int) (HA : Hid (∀ w, Calls Try.prog 98 #[.agg #[.int .i64 a0, .int .i64 a1, .int .i64 a2, .int .i64 a3, .int .i64 a4, .int .i64 a5]] w fun e w' => e = .returned (.bool false) ∧ Below w.heap.size w w')) (w : World) : Calls Try.prog 36 #[.agg #[.int .i64 a0, .int .i64 a1, .int .i64 a2, .int .i64 a3, .int .i64 a4, .int .i64 a5], .agg #[.int .i64 b0, .int .i64 b1, .int .i64 b2, .int .i64 b3, .int .i64 b4, .int .i64 b5]] w fun e w' => e = .returned (.tuple #[.agg #[.int .i64 0, .int .i64 0], .bool false]) ∧ Below w.heap.size w w' := by
  go_enter Try.func36, Try.ntmps36
  go_wp2_with fail
  generalize hW : (World.alloc _ _ : World) = W0
  have q0 : W0.heap[(w.heap.size : Nat)]? = some (Obj.cells #[.int .i64 a0, .int .i64 a1, .int .i64 a2, .int .i64 a3, .int .i64 a4, .int .i64 a5] 28 (0, 0)) := by
    rw [← hW]
    repeat (first | (refine alloc_at ?_; first | (simp; done) | (simp; omega)) | refine drew_row ?_ | refine alloc_past ?_ | assumption)
  have q1 : W0.heap[(w.heap.size + 1 : Nat)]? = some (Obj.cells #[.int .i64 b0, .int .i64 b1, .int .i64 b2, .int .i64 b3, .int .i64 b4, .int .i64 b5] 28 (0, 0)) := by
    rw [← hW]
    repeat (first | (refine alloc_at ?_; first | (simp; done) | (simp; omega)) | refine drew_row ?_ | refine alloc_past ?_ | assumption)
  have hq : W0.heap[(w.heap.size + 2 : Nat)]? = some (Obj.cells #[.int .i64 0, .int .i64 0] 25 (0, 0)) := by
    rw [← hW]
    repeat (first | (refine alloc_at ?_; first | (simp; done) | (simp; omega)) | refine drew_row ?_ | refine alloc_past ?_ | assumption)
  have hk : KR 2 [(w.heap.size, Obj.cells #[.int .i64 a0, .int .i64 a1, .int .i64 a2, .int .i64 a3, .int .i64 a4, .int .i64 a5] 28 (0, 0)), (w.heap.size + 1, Obj.cells #[.int .i64 b0, .int .i64 b1, .int .i64 b2, .int .i64 b3, .int .i64 b4, .int .i64 b5] 28 (0, 0))] w W0 := ⟨by simp [q0, q1], by rw [← hW]; simp, by rw [← hW]; (repeat (first | exact Below.refl _ _ | assumption | refine Below.setCell ?_ (by first | (simp; done) | (simp; omega)) _ | refine Below.alloc ?_ (by first | (simp; done) | (simp; omega)) _ | refine Below.drew ?_))⟩
  clear hW q0 q1
  have r0_c := fun j => cell_of_row W0 _ j _ _ _ (hk.row (g := w.heap.size) (List.mem_cons_self ..))
  have r1_c := fun j => cell_of_row W0 _ j _ _ _ (hk.row (g := w.heap.size + 1) (List.mem_cons_of_mem _ (List.mem_cons_self ..)))
  have z_c := fun j => cell_of_row W0 _ j _ _ _ hq
  have z_f := fun j => frozen_of_row W0 _ j _ _ hq
  go_wp2_with fail
  refine (HA.out _).mono ?_
  rintro e W1 ⟨rfl, hb⟩
  clear r0_c r1_c z_c z_f
  have hk := hk.far hb rfl
  have hq := rowk hq hb rfl
  clear hb
  have r0_c := fun j => cell_of_row W1 _ j _ _ _ (hk.row (g := w.heap.size) (List.mem_cons_self ..))
  have r1_c := fun j => cell_of_row W1 _ j _ _ _ (hk.row (g := w.heap.size + 1) (List.mem_cons_of_mem _ (List.mem_cons_self ..)))
  have z_c := fun j => cell_of_row W1 _ j _ _ _ hq
  have z_f := fun j => frozen_of_row W1 _ j _ _ hq
  go_wp2_with fail
  have hB := hk.2.2
  refine bodyPost_ret (v := .tuple #[.agg #[.int .i64 0, .int .i64 0], .bool false]) (by simp [results, Try.results36, go_sem, z_c]) rfl ⟨rfl, ?_⟩
  exact (hB.setCell (by first | (simp; done) | (simp; omega)) _).setCell (by first | (simp; done) | (simp; omega)) _
set_option maxHeartbeats 2000000 in
theorem scf_n1 (a0 a1 a2 a3 a4 a5 : Int) (b0 b1 b2 b3 b4 b5 : Int) (HA : Hid (∀ w, Calls Try.prog 98 #[.agg #[.int .i64 a0, .int .i64 a1, .int .i64 a2, .int .i64 a3, .int .i64 a4, .int .i64 a5]] w fun e w' => e = .returned (.bool true) ∧ Below w.heap.size w w'))(HB : Hid (∀ w, Calls Try.prog 98 #[.agg #[.int .i64 b0, .int .i64 b1, .int .i64 b2, .int .i64 b3, .int .i64 b4, .int .i64 b5]] w fun e w' => e = .returned (.bool false) ∧ Below w.heap.size w w')) (w : World) : Calls Try.prog 36 #[.agg #[.int .i64 a0, .int .i64 a1, .int .i64 a2, .int .i64 a3, .int .i64 a4, .int .i64 a5], .agg #[.int .i64 b0, .int .i64 b1, .int .i64 b2, .int .i64 b3, .int .i64 b4, .int .i64 b5]] w fun e w' => e = .returned (.tuple #[.agg #[.int .i64 0, .int .i64 0], .bool false]) ∧ Below w.heap.size w w' := by
  go_enter Try.func36, Try.ntmps36
  go_wp2_with fail
  generalize hW : (World.alloc _ _ : World) = W0
  have q0 : W0.heap[(w.heap.size : Nat)]? = some (Obj.cells #[.int .i64 a0, .int .i64 a1, .int .i64 a2, .int .i64 a3, .int .i64 a4, .int .i64 a5] 28 (0, 0)) := by
    rw [← hW]
    repeat (first | (refine alloc_at ?_; first | (simp; done) | (simp; omega)) | refine drew_row ?_ | refine alloc_past ?_ | assumption)
  have q1 : W0.heap[(w.heap.size + 1 : Nat)]? = some (Obj.cells #[.int .i64 b0, .int .i64 b1, .int .i64 b2, .int .i64 b3, .int .i64 b4, .int .i64 b5] 28 (0, 0)) := by
    rw [← hW]
    repeat (first | (refine alloc_at ?_; first | (simp; done) | (simp; omega)) | refine drew_row ?_ | refine alloc_past ?_ | assumption)
  have hq : W0.heap[(w.heap.size + 2 : Nat)]? = some (Obj.cells #[.int .i64 0, .int .i64 0] 25 (0, 0)) := by
    rw [← hW]
    repeat (first | (refine alloc_at ?_; first | (simp; done) | (simp; omega)) | refine drew_row ?_ | refine alloc_past ?_ | assumption)
  have hk : KR 2 [(w.heap.size, Obj.cells #[.int .i64 a0, .int .i64 a1, .int .i64 a2, .int .i64 a3, .int .i64 a4, .int .i64 a5] 28 (0, 0)), (w.heap.size + 1, Obj.cells #[.int .i64 b0, .int .i64 b1, .int .i64 b2, .int .i64 b3, .int .i64 b4, .int .i64 b5] 28 (0, 0))] w W0 := ⟨by simp [q0, q1], by rw [← hW]; simp, by rw [← hW]; (repeat (first | exact Below.refl _ _ | assumption | refine Below.setCell ?_ (by first | (simp; done) | (simp; omega)) _ | refine Below.alloc ?_ (by first | (simp; done) | (simp; omega)) _ | refine Below.drew ?_))⟩
  clear hW q0 q1
  have r0_c := fun j => cell_of_row W0 _ j _ _ _ (hk.row (g := w.heap.size) (List.mem_cons_self ..))
  have r1_c := fun j => cell_of_row W0 _ j _ _ _ (hk.row (g := w.heap.size + 1) (List.mem_cons_of_mem _ (List.mem_cons_self ..)))
  have z_c := fun j => cell_of_row W0 _ j _ _ _ hq
  have z_f := fun j => frozen_of_row W0 _ j _ _ hq
  go_wp2_with fail
  refine (HA.out _).mono ?_
  rintro e W1 ⟨rfl, hb⟩
  clear r0_c r1_c z_c z_f
  have hk := hk.far hb rfl
  have hq := rowk hq hb rfl
  clear hb
  have r0_c := fun j => cell_of_row W1 _ j _ _ _ (hk.row (g := w.heap.size) (List.mem_cons_self ..))
  have r1_c := fun j => cell_of_row W1 _ j _ _ _ (hk.row (g := w.heap.size + 1) (List.mem_cons_of_mem _ (List.mem_cons_self ..)))
  have z_c := fun j => cell_of_row W1 _ j _ _ _ hq
  have z_f := fun j => frozen_of_row W1 _ j _ _ hq
  go_wp2_with fail
  refine (HB.out _).mono ?_
  rintro e W2 ⟨rfl, hb⟩
  clear r0_c r1_c z_c z_f
  have hk := hk.far hb rfl
  have hq := rowk hq hb rfl
  clear hb
  have r0_c := fun j => cell_of_row W2 _ j _ _ _ (hk.row (g := w.heap.size) (List.mem_cons_self ..))
  have r1_c := fun j => cell_of_row W2 _ j _ _ _ (hk.row (g := w.heap.size + 1) (List.mem_cons_of_mem _ (List.mem_cons_self ..)))
  have z_c := fun j => cell_of_row W2 _ j _ _ _ hq
  have z_f := fun j => frozen_of_row W2 _ j _ _ hq
  go_wp2_with fail
  have hB := hk.2.2
  refine bodyPost_ret (v := .tuple #[.agg #[.int .i64 0, .int .i64 0], .bool false]) (by simp [results, Try.results36, go_sem, z_c]) rfl ⟨rfl, ?_⟩
  exact (hB.setCell (by first | (simp; done) | (simp; omega)) _).setCell (by first | (simp; done) | (simp; omega)) _
set_option maxHeartbeats 2000000 in
theorem sca_n0 (a0 a1 a2 a3 a4 a5 : Int) (b0 b1 b2 b3 b4 b5 : Int) (HA : Hid (∀ w, Calls Try.prog 98 #[.agg #[.int .i64 a0, .int .i64 a1, .int .i64 a2, .int .i64 a3, .int .i64 a4, .int .i64 a5]] w fun e w' => e = .returned (.bool false) ∧ Below w.heap.size w w')) (w : World) : Calls Try.prog 38 #[.agg #[.int .i64 a0, .int .i64 a1, .int .i64 a2, .int .i64 a3, .int .i64 a4, .int .i64 a5], .agg #[.int .i64 b0, .int .i64 b1, .int .i64 b2, .int .i64 b3, .int .i64 b4, .int .i64 b5]] w fun e w' => e = .returned (.tuple #[.agg #[.int .i64 0, .int .i64 0], .bool false]) ∧ Below w.heap.size w w' := by
  go_enter Try.func38, Try.ntmps38
  go_wp2_with fail
  generalize hW : (World.alloc _ _ : World) = W0
  have q0 : W0.heap[(w.heap.size : Nat)]? = some (Obj.cells #[.int .i64 a0, .int .i64 a1, .int .i64 a2, .int .i64 a3, .int .i64 a4, .int .i64 a5] 28 (0, 0)) := by
    rw [← hW]
    repeat (first | (refine alloc_at ?_; first | (simp; done) | (simp; omega)) | refine drew_row ?_ | refine alloc_past ?_ | assumption)
  have q1 : W0.heap[(w.heap.size + 1 : Nat)]? = some (Obj.cells #[.int .i64 b0, .int .i64 b1, .int .i64 b2, .int .i64 b3, .int .i64 b4, .int .i64 b5] 28 (0, 0)) := by
    rw [← hW]
    repeat (first | (refine alloc_at ?_; first | (simp; done) | (simp; omega)) | refine drew_row ?_ | refine alloc_past ?_ | assumption)
  have hq : W0.heap[(w.heap.size + 2 : Nat)]? = some (Obj.cells #[.int .i64 0, .int .i64 0] 25 (0, 0)) := by
    rw [← hW]
    repeat (first | (refine alloc_at ?_; first | (simp; done) | (simp; omega)) | refine drew_row ?_ | refine alloc_past ?_ | assumption)
  have hk : KR 2 [(w.heap.size, Obj.cells #[.int .i64 a0, .int .i64 a1, .int .i64 a2, .int .i64 a3, .int .i64 a4, .int .i64 a5] 28 (0, 0)), (w.heap.size + 1, Obj.cells #[.int .i64 b0, .int .i64 b1, .int .i64 b2, .int .i64 b3, .int .i64 b4, .int .i64 b5] 28 (0, 0))] w W0 := ⟨by simp [q0, q1], by rw [← hW]; simp, by rw [← hW]; (repeat (first | exact Below.refl _ _ | assumption | refine Below.setCell ?_ (by first | (simp; done) | (simp; omega)) _ | refine Below.alloc ?_ (by first | (simp; done) | (simp; omega)) _ | refine Below.drew ?_))⟩
  clear hW q0 q1
  have r0_c := fun j => cell_of_row W0 _ j _ _ _ (hk.row (g := w.heap.size) (List.mem_cons_self ..))
  have r1_c := fun j => cell_of_row W0 _ j _ _ _ (hk.row (g := w.heap.size + 1) (List.mem_cons_of_mem _ (List.mem_cons_self ..)))
  have z_c := fun j => cell_of_row W0 _ j _ _ _ hq
  have z_f := fun j => frozen_of_row W0 _ j _ _ hq
  go_wp2_with fail
  refine (HA.out _).mono ?_
  rintro e W1 ⟨rfl, hb⟩
  clear r0_c r1_c z_c z_f
  have hk := hk.far hb rfl
  have hq := rowk hq hb rfl
  clear hb
  have r0_c := fun j => cell_of_row W1 _ j _ _ _ (hk.row (g := w.heap.size) (List.mem_cons_self ..))
  have r1_c := fun j => cell_of_row W1 _ j _ _ _ (hk.row (g := w.heap.size + 1) (List.mem_cons_of_mem _ (List.mem_cons_self ..)))
  have z_c := fun j => cell_of_row W1 _ j _ _ _ hq
  have z_f := fun j => frozen_of_row W1 _ j _ _ hq
  go_wp2_with fail
  have hB := hk.2.2
  refine bodyPost_ret (v := .tuple #[.agg #[.int .i64 0, .int .i64 0], .bool false]) (by simp [results, Try.results38, go_sem, z_c]) rfl ⟨rfl, ?_⟩
  exact (hB.setCell (by first | (simp; done) | (simp; omega)) _).setCell (by first | (simp; done) | (simp; omega)) _
set_option maxHeartbeats 2000000 in
theorem sca_n1 (a0 a1 a2 a3 a4 a5 : Int) (b0 b1 b2 b3 b4 b5 : Int) (HA : Hid (∀ w, Calls Try.prog 98 #[.agg #[.int .i64 a0, .int .i64 a1, .int .i64 a2, .int .i64 a3, .int .i64 a4, .int .i64 a5]] w fun e w' => e = .returned (.bool true) ∧ Below w.heap.size w w'))(HB : Hid (∀ w, Calls Try.prog 98 #[.agg #[.int .i64 b0, .int .i64 b1, .int .i64 b2, .int .i64 b3, .int .i64 b4, .int .i64 b5]] w fun e w' => e = .returned (.bool false) ∧ Below w.heap.size w w')) (w : World) : Calls Try.prog 38 #[.agg #[.int .i64 a0, .int .i64 a1, .int .i64 a2, .int .i64 a3, .int .i64 a4, .int .i64 a5], .agg #[.int .i64 b0, .int .i64 b1, .int .i64 b2, .int .i64 b3, .int .i64 b4, .int .i64 b5]] w fun e w' => e = .returned (.tuple #[.agg #[.int .i64 0, .int .i64 0], .bool false]) ∧ Below w.heap.size w w' := by
  go_enter Try.func38, Try.ntmps38
  go_wp2_with fail
  generalize hW : (World.alloc _ _ : World) = W0
  have q0 : W0.heap[(w.heap.size : Nat)]? = some (Obj.cells #[.int .i64 a0, .int .i64 a1, .int .i64 a2, .int .i64 a3, .int .i64 a4, .int .i64 a5] 28 (0, 0)) := by
    rw [← hW]
    repeat (first | (refine alloc_at ?_; first | (simp; done) | (simp; omega)) | refine drew_row ?_ | refine alloc_past ?_ | assumption)
  have q1 : W0.heap[(w.heap.size + 1 : Nat)]? = some (Obj.cells #[.int .i64 b0, .int .i64 b1, .int .i64 b2, .int .i64 b3, .int .i64 b4, .int .i64 b5] 28 (0, 0)) := by
    rw [← hW]
    repeat (first | (refine alloc_at ?_; first | (simp; done) | (simp; omega)) | refine drew_row ?_ | refine alloc_past ?_ | assumption)
  have hq : W0.heap[(w.heap.size + 2 : Nat)]? = some (Obj.cells #[.int .i64 0, .int .i64 0] 25 (0, 0)) := by
    rw [← hW]
    repeat (first | (refine alloc_at ?_; first | (simp; done) | (simp; omega)) | refine drew_row ?_ | refine alloc_past ?_ | assumption)
  have hk : KR 2 [(w.heap.size, Obj.cells #[.int .i64 a0, .int .i64 a1, .int .i64 a2, .int .i64 a3, .int .i64 a4, .int .i64 a5] 28 (0, 0)), (w.heap.size + 1, Obj.cells #[.int .i64 b0, .int .i64 b1, .int .i64 b2, .int .i64 b3, .int .i64 b4, .int .i64 b5] 28 (0, 0))] w W0 := ⟨by simp [q0, q1], by rw [← hW]; simp, by rw [← hW]; (repeat (first | exact Below.refl _ _ | assumption | refine Below.setCell ?_ (by first | (simp; done) | (simp; omega)) _ | refine Below.alloc ?_ (by first | (simp; done) | (simp; omega)) _ | refine Below.drew ?_))⟩
  clear hW q0 q1
  have r0_c := fun j => cell_of_row W0 _ j _ _ _ (hk.row (g := w.heap.size) (List.mem_cons_self ..))
  have r1_c := fun j => cell_of_row W0 _ j _ _ _ (hk.row (g := w.heap.size + 1) (List.mem_cons_of_mem _ (List.mem_cons_self ..)))
  have z_c := fun j => cell_of_row W0 _ j _ _ _ hq
  have z_f := fun j => frozen_of_row W0 _ j _ _ hq
  go_wp2_with fail
  refine (HA.out _).mono ?_
  rintro e W1 ⟨rfl, hb⟩
  clear r0_c r1_c z_c z_f
  have hk := hk.far hb rfl
  have hq := rowk hq hb rfl
  clear hb
  have r0_c := fun j => cell_of_row W1 _ j _ _ _ (hk.row (g := w.heap.size) (List.mem_cons_self ..))
  have r1_c := fun j => cell_of_row W1 _ j _ _ _ (hk.row (g := w.heap.size + 1) (List.mem_cons_of_mem _ (List.mem_cons_self ..)))
  have z_c := fun j => cell_of_row W1 _ j _ _ _ hq
  have z_f := fun j => frozen_of_row W1 _ j _ _ hq
  go_wp2_with fail
  refine (HB.out _).mono ?_
  rintro e W2 ⟨rfl, hb⟩
  clear r0_c r1_c z_c z_f
  have hk := hk.far hb rfl
  have hq := rowk hq hb rfl
  clear hb
  have r0_c := fun j => cell_of_row W2 _ j _ _ _ (hk.row (g := w.heap.size) (List.mem_cons_self ..))
  have r1_c := fun j => cell_of_row W2 _ j _ _ _ (hk.row (g := w.heap.size + 1) (List.mem_cons_of_mem _ (List.mem_cons_self ..)))
  have z_c := fun j => cell_of_row W2 _ j _ _ _ hq
  have z_f := fun j => frozen_of_row W2 _ j _ _ hq
  go_wp2_with fail
  have hB := hk.2.2
  refine bodyPost_ret (v := .tuple #[.agg #[.int .i64 0, .int .i64 0], .bool false]) (by simp [results, Try.results38, go_sem, z_c]) rfl ⟨rfl, ?_⟩
  exact (hB.setCell (by first | (simp; done) | (simp; omega)) _).setCell (by first | (simp; done) | (simp; omega)) _
set_option maxHeartbeats 2000000 in
theorem smwt_n0 (a0 a1 a2 a3 a4 a5 : Int) (b0 b1 b2 b3 b4 b5 : Int) (HA : Hid (∀ w, Calls Try.prog 98 #[.agg #[.int .i64 a0, .int .i64 a1, .int .i64 a2, .int .i64 a3, .int .i64 a4, .int .i64 a5]] w fun e w' => e = .returned (.bool false) ∧ Below w.heap.size w w')) (w : World) : Calls Try.prog 47 #[.agg #[.int .i64 a0, .int .i64 a1, .int .i64 a2, .int .i64 a3, .int .i64 a4, .int .i64 a5], .agg #[.int .i64 b0, .int .i64 b1, .int .i64 b2, .int .i64 b3, .int .i64 b4, .int .i64 b5]] w fun e w' => e = .returned (.tuple #[.agg #[.int .i64 0, .int .i64 0], .bool false]) ∧ Below w.heap.size w w' := by
  go_enter Try.func47, Try.ntmps47
  go_wp2_with fail
  generalize hW : (World.alloc _ _ : World) = W0
  have q0 : W0.heap[(w.heap.size : Nat)]? = some (Obj.cells #[.int .i64 a0, .int .i64 a1, .int .i64 a2, .int .i64 a3, .int .i64 a4, .int .i64 a5] 28 (0, 0)) := by
    rw [← hW]
    repeat (first | (refine alloc_at ?_; first | (simp; done) | (simp; omega)) | refine drew_row ?_ | refine alloc_past ?_ | assumption)
  have q1 : W0.heap[(w.heap.size + 1 : Nat)]? = some (Obj.cells #[.int .i64 b0, .int .i64 b1, .int .i64 b2, .int .i64 b3, .int .i64 b4, .int .i64 b5] 28 (0, 0)) := by
    rw [← hW]
    repeat (first | (refine alloc_at ?_; first | (simp; done) | (simp; omega)) | refine drew_row ?_ | refine alloc_past ?_ | assumption)
  have hq : W0.heap[(w.heap.size + 2 : Nat)]? = some (Obj.cells #[.int .i64 0, .int .i64 0] 25 (0, 0)) := by
    rw [← hW]
    repeat (first | (refine alloc_at ?_; first | (simp; done) | (simp; omega)) | refine drew_row ?_ | refine alloc_past ?_ | assumption)
  have hk : KR 2 [(w.heap.size, Obj.cells #[.int .i64 a0, .int .i64 a1, .int .i64 a2, .int .i64 a3, .int .i64 a4, .int .i64 a5] 28 (0, 0)), (w.heap.size + 1, Obj.cells #[.int .i64 b0, .int .i64 b1, .int .i64 b2, .int .i64 b3, .int .i64 b4, .int .i64 b5] 28 (0, 0))] w W0 := ⟨by simp [q0, q1], by rw [← hW]; simp, by rw [← hW]; (repeat (first | exact Below.refl _ _ | assumption | refine Below.setCell ?_ (by first | (simp; done) | (simp; omega)) _ | refine Below.alloc ?_ (by first | (simp; done) | (simp; omega)) _ | refine Below.drew ?_))⟩
  clear hW q0 q1
  have r0_c := fun j => cell_of_row W0 _ j _ _ _ (hk.row (g := w.heap.size) (List.mem_cons_self ..))
  have r1_c := fun j => cell_of_row W0 _ j _ _ _ (hk.row (g := w.heap.size + 1) (List.mem_cons_of_mem _ (List.mem_cons_self ..)))
  have z_c := fun j => cell_of_row W0 _ j _ _ _ hq
  have z_f := fun j => frozen_of_row W0 _ j _ _ hq
  go_wp2_with fail
  refine (HA.out _).mono ?_
  rintro e W1 ⟨rfl, hb⟩
  clear r0_c r1_c z_c z_f
  have hk := hk.far hb rfl
  have hq := rowk hq hb rfl
  clear hb
  have r0_c := fun j => cell_of_row W1 _ j _ _ _ (hk.row (g := w.heap.size) (List.mem_cons_self ..))
  have r1_c := fun j => cell_of_row W1 _ j _ _ _ (hk.row (g := w.heap.size + 1) (List.mem_cons_of_mem _ (List.mem_cons_self ..)))
  have z_c := fun j => cell_of_row W1 _ j _ _ _ hq
  have z_f := fun j => frozen_of_row W1 _ j _ _ hq
  go_wp2_with fail
  have hB := hk.2.2
  refine bodyPost_ret (v := .tuple #[.agg #[.int .i64 0, .int .i64 0], .bool false]) (by simp [results, Try.results47, go_sem, z_c]) rfl ⟨rfl, ?_⟩
  exact (hB.setCell (by first | (simp; done) | (simp; omega)) _).setCell (by first | (simp; done) | (simp; omega)) _
set_option maxHeartbeats 2000000 in
theorem smwt_n1 (a0 a1 a2 a3 a4 a5 : Int) (b0 b1 b2 b3 b4 b5 : Int) (HA : Hid (∀ w, Calls Try.prog 98 #[.agg #[.int .i64 a0, .int .i64 a1, .int .i64 a2, .int .i64 a3, .int .i64 a4, .int .i64 a5]] w fun e w' => e = .returned (.bool true) ∧ Below w.heap.size w w'))(HB : Hid (∀ w, Calls Try.prog 98 #[.agg #[.int .i64 b0, .int .i64 b1, .int .i64 b2, .int .i64 b3, .int .i64 b4, .int .i64 b5]] w fun e w' => e = .returned (.bool false) ∧ Below w.heap.size w w')) (w : World) : Calls Try.prog 47 #[.agg #[.int .i64 a0, .int .i64 a1, .int .i64 a2, .int .i64 a3, .int .i64 a4, .int .i64 a5], .agg #[.int .i64 b0, .int .i64 b1, .int .i64 b2, .int .i64 b3, .int .i64 b4, .int .i64 b5]] w fun e w' => e = .returned (.tuple #[.agg #[.int .i64 0, .int .i64 0], .bool false]) ∧ Below w.heap.size w w' := by
  go_enter Try.func47, Try.ntmps47
  go_wp2_with fail
  generalize hW : (World.alloc _ _ : World) = W0
  have q0 : W0.heap[(w.heap.size : Nat)]? = some (Obj.cells #[.int .i64 a0, .int .i64 a1, .int .i64 a2, .int .i64 a3, .int .i64 a4, .int .i64 a5] 28 (0, 0)) := by
    rw [← hW]
    repeat (first | (refine alloc_at ?_; first | (simp; done) | (simp; omega)) | refine drew_row ?_ | refine alloc_past ?_ | assumption)
  have q1 : W0.heap[(w.heap.size + 1 : Nat)]? = some (Obj.cells #[.int .i64 b0, .int .i64 b1, .int .i64 b2, .int .i64 b3, .int .i64 b4, .int .i64 b5] 28 (0, 0)) := by
    rw [← hW]
    repeat (first | (refine alloc_at ?_; first | (simp; done) | (simp; omega)) | refine drew_row ?_ | refine alloc_past ?_ | assumption)
  have hq : W0.heap[(w.heap.size + 2 : Nat)]? = some (Obj.cells #[.int .i64 0, .int .i64 0] 25 (0, 0)) := by
    rw [← hW]
    repeat (first | (refine alloc_at ?_; first | (simp; done) | (simp; omega)) | refine drew_row ?_ | refine alloc_past ?_ | assumption)
  have hk : KR 2 [(w.heap.size, Obj.cells #[.int .i64 a0, .int .i64 a1, .int .i64 a2, .int .i64 a3, .int .i64 a4, .int .i64 a5] 28 (0, 0)), (w.heap.size + 1, Obj.cells #[.int .i64 b0, .int .i64 b1, .int .i64 b2, .int .i64 b3, .int .i64 b4, .int .i64 b5] 28 (0, 0))] w W0 := ⟨by simp [q0, q1], by rw [← hW]; simp, by rw [← hW]; (repeat (first | exact Below.refl _ _ | assumption | refine Below.setCell ?_ (by first | (simp; done) | (simp; omega)) _ | refine Below.alloc ?_ (by first | (simp; done) | (simp; omega)) _ | refine Below.drew ?_))⟩
  clear hW q0 q1
  have r0_c := fun j => cell_of_row W0 _ j _ _ _ (hk.row (g := w.heap.size) (List.mem_cons_self ..))
  have r1_c := fun j => cell_of_row W0 _ j _ _ _ (hk.row (g := w.heap.size + 1) (List.mem_cons_of_mem _ (List.mem_cons_self ..)))
  have z_c := fun j => cell_of_row W0 _ j _ _ _ hq
  have z_f := fun j => frozen_of_row W0 _ j _ _ hq
  go_wp2_with fail
  refine (HA.out _).mono ?_
  rintro e W1 ⟨rfl, hb⟩
  clear r0_c r1_c z_c z_f
  have hk := hk.far hb rfl
  have hq := rowk hq hb rfl
  clear hb
  have r0_c := fun j => cell_of_row W1 _ j _ _ _ (hk.row (g := w.heap.size) (List.mem_cons_self ..))
  have r1_c := fun j => cell_of_row W1 _ j _ _ _ (hk.row (g := w.heap.size + 1) (List.mem_cons_of_mem _ (List.mem_cons_self ..)))
  have z_c := fun j => cell_of_row W1 _ j _ _ _ hq
  have z_f := fun j => frozen_of_row W1 _ j _ _ hq
  go_wp2_with fail
  refine (HB.out _).mono ?_
  rintro e W2 ⟨rfl, hb⟩
  clear r0_c r1_c z_c z_f
  have hk := hk.far hb rfl
  have hq := rowk hq hb rfl
  clear hb
  have r0_c := fun j => cell_of_row W2 _ j _ _ _ (hk.row (g := w.heap.size) (List.mem_cons_self ..))
  have r1_c := fun j => cell_of_row W2 _ j _ _ _ (hk.row (g := w.heap.size + 1) (List.mem_cons_of_mem _ (List.mem_cons_self ..)))
  have z_c := fun j => cell_of_row W2 _ j _ _ _ hq
  have z_f := fun j => frozen_of_row W2 _ j _ _ hq
  go_wp2_with fail
  have hB := hk.2.2
  refine bodyPost_ret (v := .tuple #[.agg #[.int .i64 0, .int .i64 0], .bool false]) (by simp [results, Try.results47, go_sem, z_c]) rfl ⟨rfl, ?_⟩
  exact (hB.setCell (by first | (simp; done) | (simp; omega)) _).setCell (by first | (simp; done) | (simp; omega)) _
/- Pt9 -/
/-- At how many cells a stamp has so many cells in common with a sheet. -/
def tbm (f g : Fn6) : Nat → Int := ht9 (fun k => cn9 f g (k / 6) (k % 6)) 36
theorem tbm_nat (f g : Fn6) (j : Nat) : ∃ ft : Nat, tbm f g j = (ft : Int) ∧ ft ≤ 36 := by
  have := ht9_bd (fun k => cn9 f g (k / 6) (k % 6)) 36 j
  exact ⟨(tbm f g j).toNat, by unfold tbm; omega, by unfold tbm; omega⟩
theorem itab_h (f g : Fn6) : Hid (∀ w, Calls Try.prog 43 #[.agg #[.int .i64 (rowv (f 0)), .int .i64 (rowv (f 1)), .int .i64 (rowv (f 2)), .int .i64 (rowv (f 3)), .int .i64 (rowv (f 4)), .int .i64 (rowv (f 5))], .agg #[.int .i64 (rowv (g 0)), .int .i64 (rowv (g 1)), .int .i64 (rowv (g 2)), .int .i64 (rowv (g 3)), .int .i64 (rowv (g 4)), .int .i64 (rowv (g 5))]] w fun e w' => e = .returned (.tuple #[tv (tbm f g), .bool true]) ∧ Below w.heap.size w w') := Lib.hid (itable_yes f g (sh_ai (rowv (f 0)) (rowv (f 1)) (rowv (f 2)) (rowv (f 3)) (rowv (f 4)) (rowv (f 5)) (sh_of f)) (sh_ai (rowv (g 0)) (rowv (g 1)) (rowv (g 2)) (rowv (g 3)) (rowv (g 4)) (rowv (g 5)) (sh_of g)))
theorem itab_bad (a0 a1 a2 a3 a4 a5 : Int) (b0 b1 b2 b3 b4 b5 : Int) (h : (ok a0 && ok a1 && ok a2 && ok a3 && ok a4 && ok a5) = false ∨ (ok b0 && ok b1 && ok b2 && ok b3 && ok b4 && ok b5) = false) : Hid (∀ w, Calls Try.prog 43 #[.agg #[.int .i64 a0, .int .i64 a1, .int .i64 a2, .int .i64 a3, .int .i64 a4, .int .i64 a5], .agg #[.int .i64 b0, .int .i64 b1, .int .i64 b2, .int .i64 b3, .int .i64 b4, .int .i64 b5]] w fun e w' => e = .returned (.tuple #[tv fun _ => 0, .bool false]) ∧ Below w.heap.size w w') := by
  cases ha : (ok a0 && ok a1 && ok a2 && ok a3 && ok a4 && ok a5)
  · exact Lib.hid (itable_n0 a0 a1 a2 a3 a4 a5 b0 b1 b2 b3 b4 b5 (sh_ai a0 a1 a2 a3 a4 a5 ha))
  · rcases h with h | h
    · rw [ha] at h; cases h
    · exact Lib.hid (itable_n1 a0 a1 a2 a3 a4 a5 b0 b1 b2 b3 b4 b5 (sh_ai a0 a1 a2 a3 a4 a5 ha) (sh_ai b0 b1 b2 b3 b4 b5 h))
/- Pf9 -/
theorem w_mul {a b : Nat} (h : a * b ≤ 4611686018427387904) : wrap64 ((a : Int) * (b : Int)) = ((a * b : Nat) : Int) := by rw [← Int.natCast_mul]; exact wr9 (by omega) (by omega)
theorem w_add {a b : Nat} (h : a + b ≤ 4611686018427387904) : wrap64 ((a : Int) + (b : Int)) = ((a + b : Nat) : Int) := by rw [← Int.natCast_add]; exact wr9 (by omega) (by omega)
theorem w_36 {h : Nat} (hh : h ≤ 36) : wrap64 (36 - (h : Int)) = ((36 - h : Nat) : Int) := by rw [wr9 (by omega) (by omega)]; omega
theorem w_sub {a b : Nat} (h : b ≤ a) (h2 : a ≤ 4611686018427387904) : wrap64 ((a : Int) - (b : Int)) = ((a - b : Nat) : Int) := by rw [wr9 (by omega) (by omega)]; omega
theorem i_w {z v : Int} (h : wrap64 z = v) : IntKind.i64.wrap z = v := by unfold wrap64 at h; rw [IntKind.wrap_i64]; exact h
theorem isb_y (f : Fn6) {x y : Nat} (hx : x < 6) (hy : y < 6) : Hid (∀ w, Calls Try.prog 59 #[.agg #[.int .i64 (rowv (f 0)), .int .i64 (rowv (f 1)), .int .i64 (rowv (f 2)), .int .i64 (rowv (f 3)), .int .i64 (rowv (f 4)), .int .i64 (rowv (f 5))], .agg #[.int .i64 (x : Int), .int .i64 (y : Int)]] w fun e w' => e = .returned (.tuple #[.bool (f y x), .bool true]) ∧ Below w.heap.size w w') := Lib.hid (fun w => iblack_yes (rowv (f 0)) (rowv (f 1)) (rowv (f 2)) (rowv (f 3)) (rowv (f 4)) (rowv (f 5)) (x : Int) (y : Int) (f y x) (sh_ai (rowv (f 0)) (rowv (f 1)) (rowv (f 2)) (rowv (f 3)) (rowv (f 4)) (rowv (f 5)) (sh_of f)) (ce_i _ _ (WalkArith.wf_i64 (by omega)) (WalkArith.wf_i64 (by omega)) (by simp [okc]; omega)) (Lib.hid (fun w => cell_black f hy hx ▸ has_any (rowv (f 0)) (rowv (f 1)) (rowv (f 2)) (rowv (f 3)) (rowv (f 4)) (rowv (f 5)) (x : Int) (y : Int) (by omega) (by omega) w)) w)
theorem get_y (f : Fn6) {x y : Nat} (hx : x < 6) (hy : y < 6) : Hid (∀ w, Calls Try.prog 93 #[.agg #[.int .i64 (rowv (f 0)), .int .i64 (rowv (f 1)), .int .i64 (rowv (f 2)), .int .i64 (rowv (f 3)), .int .i64 (rowv (f 4)), .int .i64 (rowv (f 5))], .int .i64 (x : Int), .int .i64 (y : Int)] w fun e w' => e = .returned (.bool (f y x)) ∧ Below w.heap.size w w') := Lib.hid (fun w => cell_black f hy hx ▸ get_any (rowv (f 0)) (rowv (f 1)) (rowv (f 2)) (rowv (f 3)) (rowv (f 4)) (rowv (f 5)) (x : Int) (y : Int) (by omega) (by omega) w)
theorem pc_nat (g : Fn6) : ∃ h : Nat, pc36 g = (h : Int) ∧ h ≤ 36 := by
  have := pc36_bd g
  exact ⟨(pc36 g).toNat, by omega, by omega⟩
theorem pressed_f {k h a b m : Nat} (hk : k < 3) (hh : h ≤ 36) (hab : a + b ≤ 36) (hm : m < 6) (w : World) : Calls Try.prog 205 #[.agg #[.int .i64 (((tn9 k h (a, b) m).1 : Nat) : Int), .int .i64 (((tn9 k h (a, b) m).2 : Nat) : Int)], .int .i64 (k : Int), .int .i64 (h : Int)] w fun e w' => e = .returned (.agg #[.int .i64 (((tn9 k h (a, b) (m + 1)).1 : Nat) : Int), .int .i64 (((tn9 k h (a, b) (m + 1)).2 : Nat) : Int)]) ∧ Below w.heap.size w w' := by
  obtain ⟨b1, b2, b3⟩ := tn9_le (k := k) (n := m) hh hab (by omega)
  have c3 := (tn9_le (k := k) (n := m + 1) hh hab (by omega)).2.2
  have es : tn9 k h (a, b) (m + 1) = tk9 k h (tn9 k h (a, b) m) := rfl
  rw [es] at c3 ⊢
  clear es
  generalize tn9 k h (a, b) m = p at *
  obtain ⟨x, y⟩ := p
  dsimp only at b1 b2 b3 ⊢
  have m1 : x * (36 - h) ≤ 78364164096 * 36 := Nat.mul_le_mul b1 (by omega)
  have m2 : y * (36 - h) ≤ 78364164096 * 36 := Nat.mul_le_mul b2 (by omega)
  have m3 : x * h ≤ 78364164096 * 36 := Nat.mul_le_mul b1 hh
  have m4 : y * h ≤ 78364164096 * 36 := Nat.mul_le_mul b2 hh
  have m5 : (x + y) * h ≤ 78364164096 * 36 := Nat.mul_le_mul b3 hh
  obtain rfl | rfl | rfl : k = 0 ∨ k = 1 ∨ k = 2 := by omega
  · exact pressed0_go (x : Int) y h y x _ _ _ _ _ _ _ (Lib.hid (tal0_f _ _)) (w_36 hh) (w_mul (by omega)) (w_mul (by omega)) (w_add (by omega)) (w_mul (by omega)) (w_mul (by omega)) (w_add (by omega)) w
  · exact pressed1_go (x : Int) y h 0 ((x + y : Nat) : Int) _ _ 0 _ _ _ _ (Lib.hid (tal1_f _ _ _ (w_add (by omega)))) (w_36 hh) (w_mul (by omega)) (by rw [Int.zero_mul]; exact wr9 (by omega) (by omega)) (by rw [Int.add_zero]; exact wr9 (by omega) (by omega)) (w_mul (by omega)) (w_mul (by omega)) (w_add (by omega)) w
  · exact pressed2_go (x : Int) y h ((x + y : Nat) : Int) 0 _ _ _ _ _ 0 _ (Lib.hid (tal2_f _ _ _ (w_add (by omega)))) (w_36 hh) (w_mul (by omega)) (w_mul (by omega)) (w_add (by omega)) (w_mul (by omega)) (by rw [Int.zero_mul]; exact wr9 (by omega) (by omega)) (by rw [Int.add_zero]; exact wr9 (by omega) (by omega)) w
theorem mb_f (g : Fn6) {k h a b n : Nat} (hp : pc36 g = (h : Int)) (hk : k < 3) (hh : h ≤ 36) (hab : a + b ≤ 36) (hn : n ≤ 6) : Hid (∀ w, Calls Try.prog 166 #[.int .i64 (k : Int), .agg #[.int .i64 (a : Int), .int .i64 (b : Int)], .agg #[.int .i64 (rowv (g 0)), .int .i64 (rowv (g 1)), .int .i64 (rowv (g 2)), .int .i64 (rowv (g 3)), .int .i64 (rowv (g 4)), .int .i64 (rowv (g 5))], .int .i64 (n : Int)] w fun e w' => e = .returned (.tuple #[.agg #[.int .i64 (cut9 (tn9 k h (a, b) n).2 (36 ^ n)).1, .int .i64 (cut9 (tn9 k h (a, b) n).2 (36 ^ n)).2], .bool true]) ∧ Below w.heap.size w w') :=
  Lib.hid (fun w => mb_y (rowv (g 0)) (rowv (g 1)) (rowv (g 2)) (rowv (g 3)) (rowv (g 4)) (rowv (g 5)) (k : Int) k h a b n (fd36 g) _ _ _ hn (sh_ai (rowv (g 0)) (rowv (g 1)) (rowv (g 2)) (rowv (g 3)) (rowv (g 4)) (rowv (g 5)) (sh_of g)) (Lib.hid (fieldof_s g)) (Lib.hid (fun w => hp ▸ fsize_s g w)) (Lib.hid (fun m hm w => pressed_f hk hh hab (by omega) w)) (sb9 (lists_f hn)) (Lib.hid (frac_f (pow36_pos n) (by have := (tn9_le (k := k) (n := n) hh hab hn).2.1; omega) (by have := pow36 hn; omega))) w)
theorem cnt_h (g : Fn6) {h : Nat} (hp : pc36 g = (h : Int)) : Hid (∀ w, Calls Try.prog 91 #[.agg #[.int .i64 (rowv (g 0)), .int .i64 (rowv (g 1)), .int .i64 (rowv (g 2)), .int .i64 (rowv (g 3)), .int .i64 (rowv (g 4)), .int .i64 (rowv (g 5))]] w fun e w' => e = .returned (.int .i64 (h : Int)) ∧ Below w.heap.size w w') := Lib.hid (fun w => hp ▸ lcount_s g w)
theorem in_h {n lo hi : Int} {b : Bool} (h : (decide (lo ≤ n) && decide (n ≤ hi)) = b) : Hid (∀ w, Calls Try.prog 107 #[.int .i64 n, .int .i64 lo, .int .i64 hi] w fun e w' => e = .returned (.bool b) ∧ Below w.heap.size w w') := sb9 (fun w => h ▸ l1in_any n lo hi w)
theorem cut_h {a b : Nat} (hb : 0 < b) (h1 : a ≤ 4611686018427387904) (h2 : b ≤ 4611686018427387904) : Hid (∀ w, Calls Try.prog 94 #[.int .i64 (a : Int), .int .i64 (b : Int)] w fun e w' => e = .returned (.agg #[.int .i64 (cut9 a b).1, .int .i64 (cut9 a b).2]) ∧ Below w.heap.size w w') := Lib.hid (lcut_f hb h1 h2)
theorem good_h (f g : Fn6) {n : Nat} (hn : n ≤ 6) : Hid (∀ w, Calls Try.prog 88 #[.agg #[.int .i64 (rowv (f 0)), .int .i64 (rowv (f 1)), .int .i64 (rowv (f 2)), .int .i64 (rowv (f 3)), .int .i64 (rowv (f 4)), .int .i64 (rowv (f 5))], .agg #[.int .i64 (rowv (g 0)), .int .i64 (rowv (g 1)), .int .i64 (rowv (g 2)), .int .i64 (rowv (g 3)), .int .i64 (rowv (g 4)), .int .i64 (rowv (g 5))], .int .i64 (n : Int)] w fun e w' => e = .returned (.bool true) ∧ Below w.heap.size w w') := Lib.hid (fun w => lgood_yes (rowv (f 0)) (rowv (f 1)) (rowv (f 2)) (rowv (f 3)) (rowv (f 4)) (rowv (f 5)) (rowv (g 0)) (rowv (g 1)) (rowv (g 2)) (rowv (g 3)) (rowv (g 4)) (rowv (g 5)) (n : Int) true (sh_as (rowv (f 0)) (rowv (f 1)) (rowv (f 2)) (rowv (f 3)) (rowv (f 4)) (rowv (f 5)) (sh_of f)) (sh_as (rowv (g 0)) (rowv (g 1)) (rowv (g 2)) (rowv (g 3)) (rowv (g 4)) (rowv (g 5)) (sh_of g)) (in_h (by simp; omega)) w)
theorem ch_f (f g : Fn6) {k h x y n : Nat} (hp : pc36 g = (h : Int)) (hk : k < 3) (hh : h ≤ 36) (hx : x < 6) (hy : y < 6) (hn : n ≤ 6) : Hid (∀ w, Calls Try.prog 96 #[.int .i64 (k : Int), .agg #[.int .i64 (rowv (f 0)), .int .i64 (rowv (f 1)), .int .i64 (rowv (f 2)), .int .i64 (rowv (f 3)), .int .i64 (rowv (f 4)), .int .i64 (rowv (f 5))], .agg #[.int .i64 (rowv (g 0)), .int .i64 (rowv (g 1)), .int .i64 (rowv (g 2)), .int .i64 (rowv (g 3)), .int .i64 (rowv (g 4)), .int .i64 (rowv (g 5))], .agg #[.int .i64 (x : Int), .int .i64 (y : Int)], .int .i64 (n : Int)] w fun e w' => e = .returned (.tuple #[.agg #[.int .i64 (cut9 (tn9 k h (if f y x then (0, 1) else (1, 0)) n).2 (36 ^ n)).1, .int .i64 (cut9 (tn9 k h (if f y x then (0, 1) else (1, 0)) n).2 (36 ^ n)).2], .bool true]) ∧ Below w.heap.size w w') := by
  have HB := isb_y f hx hy
  cases hb : f y x
  · rw [hb] at HB
    exact Lib.hid (fun w => cb_w (rowv (f 0)) (rowv (f 1)) (rowv (f 2)) (rowv (f 3)) (rowv (f 4)) (rowv (f 5)) (rowv (g 0)) (rowv (g 1)) (rowv (g 2)) (rowv (g 3)) (rowv (g 4)) (rowv (g 5)) (k : Int) (x : Int) (y : Int) (n : Int) _ _ true HB (mb_f g (a := 1) (b := 0) hp hk hh (by omega) hn) w)
  · rw [hb] at HB
    exact Lib.hid (fun w => cb_b (rowv (f 0)) (rowv (f 1)) (rowv (f 2)) (rowv (f 3)) (rowv (f 4)) (rowv (f 5)) (rowv (g 0)) (rowv (g 1)) (rowv (g 2)) (rowv (g 3)) (rowv (g 4)) (rowv (g 5)) (k : Int) (x : Int) (y : Int) (n : Int) _ _ true HB (mb_f g (a := 0) (b := 1) hp hk hh (by omega) hn) w)
theorem isz_y (f : Fn6) {s : Nat} (hp : pc36 f = (s : Int)) : Hid (∀ w, Calls Try.prog 56 #[.agg #[.int .i64 (rowv (f 0)), .int .i64 (rowv (f 1)), .int .i64 (rowv (f 2)), .int .i64 (rowv (f 3)), .int .i64 (rowv (f 4)), .int .i64 (rowv (f 5))]] w fun e w' => e = .returned (.tuple #[.int .i64 (s : Int), .bool true]) ∧ Below w.heap.size w w') := Lib.hid (fun w => hp ▸ isize_yes (rowv (f 0)) (rowv (f 1)) (rowv (f 2)) (rowv (f 3)) (rowv (f 4)) (rowv (f 5)) ⟨row_in (f 0), row_in (f 1), row_in (f 2), row_in (f 3), row_in (f 4), row_in (f 5)⟩ (sh_ai (rowv (f 0)) (rowv (f 1)) (rowv (f 2)) (rowv (f 3)) (rowv (f 4)) (rowv (f 5)) (sh_of f)) w)
theorem isz_n (a0 a1 a2 a3 a4 a5 : Int) (h : (ok a0 && ok a1 && ok a2 && ok a3 && ok a4 && ok a5) = false) : Hid (∀ w, Calls Try.prog 56 #[.agg #[.int .i64 a0, .int .i64 a1, .int .i64 a2, .int .i64 a3, .int .i64 a4, .int .i64 a5]] w fun e w' => e = .returned (.tuple #[.int .i64 0, .bool false]) ∧ Below w.heap.size w w') := Lib.hid (fun w => isize_no0 a0 a1 a2 a3 a4 a5 (sh_ai a0 a1 a2 a3 a4 a5 h) w)
theorem me_f (f g : Fn6) {k h s n : Nat} (hs : pc36 f = (s : Int)) (hp : pc36 g = (h : Int)) (hk : k < 3) (hh : h ≤ 36) (hs36 : s ≤ 36) (hn : n ≤ 6) : Hid (∀ w, Calls Try.prog 97 #[.int .i64 (k : Int), .agg #[.int .i64 (rowv (f 0)), .int .i64 (rowv (f 1)), .int .i64 (rowv (f 2)), .int .i64 (rowv (f 3)), .int .i64 (rowv (f 4)), .int .i64 (rowv (f 5))], .agg #[.int .i64 (rowv (g 0)), .int .i64 (rowv (g 1)), .int .i64 (rowv (g 2)), .int .i64 (rowv (g 3)), .int .i64 (rowv (g 4)), .int .i64 (rowv (g 5))], .int .i64 (n : Int)] w fun e w' => e = .returned (.tuple #[.agg #[.int .i64 (cut9 (tn9 k h (36 - s, s) n).2 (36 ^ n)).1, .int .i64 (cut9 (tn9 k h (36 - s, s) n).2 (36 ^ n)).2], .bool true]) ∧ Below w.heap.size w w') :=
  Lib.hid (fun w => ms_y (rowv (f 0)) (rowv (f 1)) (rowv (f 2)) (rowv (f 3)) (rowv (f 4)) (rowv (f 5)) (rowv (g 0)) (rowv (g 1)) (rowv (g 2)) (rowv (g 3)) (rowv (g 4)) (rowv (g 5)) (k : Int) (n : Int) (s : Int) ((36 - s : Nat) : Int) _ _ true (w_36 hs36) (i_w (w_36 hs36)) (isz_y f hs) (mb_f g (a := 36 - s) (b := s) hp hk hh (by omega) hn) w)
theorem mb_bad (b0 b1 b2 b3 b4 b5 : Int) (K ta tb n : Int) (h : (ok b0 && ok b1 && ok b2 && ok b3 && ok b4 && ok b5) = false ∨ n < 0 ∨ 6 < n) : Hid (∀ w, Calls Try.prog 166 #[.int .i64 K, .agg #[.int .i64 ta, .int .i64 tb], .agg #[.int .i64 b0, .int .i64 b1, .int .i64 b2, .int .i64 b3, .int .i64 b4, .int .i64 b5], .int .i64 n] w fun e w' => e = .returned (.tuple #[.agg #[.int .i64 0, .int .i64 0], .bool false]) ∧ Below w.heap.size w w') := by
  cases hb : (ok b0 && ok b1 && ok b2 && ok b3 && ok b4 && ok b5)
  · exact Lib.hid (fun w => mb_n0 b0 b1 b2 b3 b4 b5 K ta tb n (sh_ai b0 b1 b2 b3 b4 b5 hb) w)
  · rcases h with h | h | h
    · rw [hb] at h; cases h
    · exact Lib.hid (fun w => mb_n1 b0 b1 b2 b3 b4 b5 K ta tb n h (sh_ai b0 b1 b2 b3 b4 b5 hb) w)
    · exact Lib.hid (fun w => mb_n2 b0 b1 b2 b3 b4 b5 K ta tb n h (by omega) (sh_ai b0 b1 b2 b3 b4 b5 hb) w)
theorem good_bad (a0 a1 a2 a3 a4 a5 : Int) (b0 b1 b2 b3 b4 b5 : Int) (n : Int) (h : (ok a0 && ok a1 && ok a2 && ok a3 && ok a4 && ok a5) = false ∨ (ok b0 && ok b1 && ok b2 && ok b3 && ok b4 && ok b5) = false ∨ n < 0 ∨ 6 < n) : Hid (∀ w, Calls Try.prog 88 #[.agg #[.int .i64 a0, .int .i64 a1, .int .i64 a2, .int .i64 a3, .int .i64 a4, .int .i64 a5], .agg #[.int .i64 b0, .int .i64 b1, .int .i64 b2, .int .i64 b3, .int .i64 b4, .int .i64 b5], .int .i64 n] w fun e w' => e = .returned (.bool false) ∧ Below w.heap.size w w') := by
  cases ha : (ok a0 && ok a1 && ok a2 && ok a3 && ok a4 && ok a5)
  · exact Lib.hid (fun w => lgood_no0 a0 a1 a2 a3 a4 a5 b0 b1 b2 b3 b4 b5 n (sh_as a0 a1 a2 a3 a4 a5 ha) w)
  · cases hb : (ok b0 && ok b1 && ok b2 && ok b3 && ok b4 && ok b5)
    · exact Lib.hid (fun w => lgood_no1 a0 a1 a2 a3 a4 a5 b0 b1 b2 b3 b4 b5 n (sh_as a0 a1 a2 a3 a4 a5 ha) (sh_as b0 b1 b2 b3 b4 b5 hb) w)
    · refine Lib.hid (fun w => lgood_yes a0 a1 a2 a3 a4 a5 b0 b1 b2 b3 b4 b5 n false (sh_as a0 a1 a2 a3 a4 a5 ha) (sh_as b0 b1 b2 b3 b4 b5 hb) (in_h ?_) w)
      rcases h with h | h | h | h
      · rw [ha] at h; cases h
      · rw [hb] at h; cases h
      · simp; omega
      · simp; omega
theorem cb_bad (a0 a1 a2 a3 a4 a5 : Int) (b0 b1 b2 b3 b4 b5 : Int) (K x y n : Int) (hx : (Lit.int .i64 x).wf = true) (hy : (Lit.int .i64 y).wf = true) (h : (ok a0 && ok a1 && ok a2 && ok a3 && ok a4 && ok a5) = false ∨ okc x y = false ∨ (ok b0 && ok b1 && ok b2 && ok b3 && ok b4 && ok b5) = false ∨ n < 0 ∨ 6 < n) : Hid (∀ w, Calls Try.prog 96 #[.int .i64 K, .agg #[.int .i64 a0, .int .i64 a1, .int .i64 a2, .int .i64 a3, .int .i64 a4, .int .i64 a5], .agg #[.int .i64 b0, .int .i64 b1, .int .i64 b2, .int .i64 b3, .int .i64 b4, .int .i64 b5], .agg #[.int .i64 x, .int .i64 y], .int .i64 n] w fun e w' => e = .returned (.tuple #[.agg #[.int .i64 0, .int .i64 0], .bool false]) ∧ Below w.heap.size w w') := by
  cases ha : (ok a0 && ok a1 && ok a2 && ok a3 && ok a4 && ok a5)
  · exact Lib.hid (fun w => cb_n a0 a1 a2 a3 a4 a5 b0 b1 b2 b3 b4 b5 K x y n (Lib.hid (fun w => iblack_no0 a0 a1 a2 a3 a4 a5 x y (sh_ai a0 a1 a2 a3 a4 a5 ha) w)) w)
  · cases hc : okc x y
    · exact Lib.hid (fun w => cb_n a0 a1 a2 a3 a4 a5 b0 b1 b2 b3 b4 b5 K x y n (Lib.hid (fun w => iblack_no1 a0 a1 a2 a3 a4 a5 x y (sh_ai a0 a1 a2 a3 a4 a5 ha) (ce_i x y hx hy hc) w)) w)
    · have hM : (ok b0 && ok b1 && ok b2 && ok b3 && ok b4 && ok b5) = false ∨ n < 0 ∨ 6 < n := by
        rcases h with h | h | h
        · rw [ha] at h; cases h
        · rw [hc] at h; cases h
        · exact h
      obtain ⟨f, rfl, rfl, rfl, rfl, rfl, rfl⟩ := sheet_bits a0 a1 a2 a3 a4 a5 ha
      obtain ⟨x', rfl⟩ : ∃ z : Nat, x = (z : Int) := ⟨x.toNat, by have := okc_in hc; omega⟩
      obtain ⟨y', rfl⟩ : ∃ z : Nat, y = (z : Int) := ⟨y.toNat, by have := okc_in hc; omega⟩
      have HB := isb_y f (show x' < 6 by have := okc_in hc; omega) (show y' < 6 by have := okc_in hc; omega)
      cases hb : f y' x'
      · rw [hb] at HB
        exact Lib.hid (fun w => cb_w (rowv (f 0)) (rowv (f 1)) (rowv (f 2)) (rowv (f 3)) (rowv (f 4)) (rowv (f 5)) b0 b1 b2 b3 b4 b5 K x' y' n 0 0 false HB (mb_bad b0 b1 b2 b3 b4 b5 K 1 0 n hM) w)
      · rw [hb] at HB
        exact Lib.hid (fun w => cb_b (rowv (f 0)) (rowv (f 1)) (rowv (f 2)) (rowv (f 3)) (rowv (f 4)) (rowv (f 5)) b0 b1 b2 b3 b4 b5 K x' y' n 0 0 false HB (mb_bad b0 b1 b2 b3 b4 b5 K 0 1 n hM) w)
theorem ms_bad (a0 a1 a2 a3 a4 a5 : Int) (b0 b1 b2 b3 b4 b5 : Int) (K n : Int) (h : (ok a0 && ok a1 && ok a2 && ok a3 && ok a4 && ok a5) = false ∨ (ok b0 && ok b1 && ok b2 && ok b3 && ok b4 && ok b5) = false ∨ n < 0 ∨ 6 < n) : Hid (∀ w, Calls Try.prog 97 #[.int .i64 K, .agg #[.int .i64 a0, .int .i64 a1, .int .i64 a2, .int .i64 a3, .int .i64 a4, .int .i64 a5], .agg #[.int .i64 b0, .int .i64 b1, .int .i64 b2, .int .i64 b3, .int .i64 b4, .int .i64 b5], .int .i64 n] w fun e w' => e = .returned (.tuple #[.agg #[.int .i64 0, .int .i64 0], .bool false]) ∧ Below w.heap.size w w') := by
  cases ha : (ok a0 && ok a1 && ok a2 && ok a3 && ok a4 && ok a5)
  · exact Lib.hid (fun w => ms_n a0 a1 a2 a3 a4 a5 b0 b1 b2 b3 b4 b5 K n (isz_n a0 a1 a2 a3 a4 a5 ha) w)
  · have hM : (ok b0 && ok b1 && ok b2 && ok b3 && ok b4 && ok b5) = false ∨ n < 0 ∨ 6 < n := by
      rcases h with h | h
      · rw [ha] at h; cases h
      · exact h
    obtain ⟨f, rfl, rfl, rfl, rfl, rfl, rfl⟩ := sheet_bits a0 a1 a2 a3 a4 a5 ha
    obtain ⟨s, hs, hs36⟩ := pc_nat f
    exact Lib.hid (fun w => ms_y (rowv (f 0)) (rowv (f 1)) (rowv (f 2)) (rowv (f 3)) (rowv (f 4)) (rowv (f 5)) b0 b1 b2 b3 b4 b5 K n (s : Int) ((36 - s : Nat) : Int) 0 0 false (w_36 hs36) (i_w (w_36 hs36)) (isz_y f hs) (mb_bad b0 b1 b2 b3 b4 b5 K _ _ n hM) w)
theorem ct_pair (a0 a1 a2 a3 a4 a5 : Int) (b0 b1 b2 b3 b4 b5 : Int) (x y : Int) (n : Int)(hx : (Lit.int .i64 x).wf = true) (hy : (Lit.int .i64 y).wf = true) : ∃ (r0 r1 : Int) (t : Bool), (∀ w, Calls Try.prog 23 #[.agg #[.int .i64 a0, .int .i64 a1, .int .i64 a2, .int .i64 a3, .int .i64 a4, .int .i64 a5], .agg #[.int .i64 b0, .int .i64 b1, .int .i64 b2, .int .i64 b3, .int .i64 b4, .int .i64 b5], .agg #[.int .i64 x, .int .i64 y], .int .i64 n] w fun e w' => e = .returned (.tuple #[.agg #[.int .i64 r0, .int .i64 r1], .bool t]) ∧ Below w.heap.size w w') ∧ (∀ w, Calls Try.prog 26 #[.agg #[.int .i64 a0, .int .i64 a1, .int .i64 a2, .int .i64 a3, .int .i64 a4, .int .i64 a5], .agg #[.int .i64 b0, .int .i64 b1, .int .i64 b2, .int .i64 b3, .int .i64 b4, .int .i64 b5], .agg #[.int .i64 x, .int .i64 y], .int .i64 n] w fun e w' => e = .returned (.tuple #[.agg #[.int .i64 r0, .int .i64 r1], .bool t]) ∧ Below w.heap.size w w') := by
  by_cases hg : (ok a0 && ok a1 && ok a2 && ok a3 && ok a4 && ok a5) = false ∨ (ok b0 && ok b1 && ok b2 && ok b3 && ok b4 && ok b5) = false ∨ n < 0 ∨ 6 < n
  · exact ⟨0, 0, false, fun w => sct_n0 a0 a1 a2 a3 a4 a5 b0 b1 b2 b3 b4 b5 x y n (good_bad a0 a1 a2 a3 a4 a5 b0 b1 b2 b3 b4 b5 n hg) w, fun w => ict_a a0 a1 a2 a3 a4 a5 b0 b1 b2 b3 b4 b5 x y n 0 0 false (cb_bad a0 a1 a2 a3 a4 a5 b0 b1 b2 b3 b4 b5 _ x y n hx hy (by rcases hg with h | h; exact .inl h; exact .inr (.inr h))) w⟩
  · have ha : (ok a0 && ok a1 && ok a2 && ok a3 && ok a4 && ok a5) = true := by cases h : (ok a0 && ok a1 && ok a2 && ok a3 && ok a4 && ok a5) <;> simp_all
    have hb : (ok b0 && ok b1 && ok b2 && ok b3 && ok b4 && ok b5) = true := by cases h : (ok b0 && ok b1 && ok b2 && ok b3 && ok b4 && ok b5) <;> simp_all
    have hn0 : 0 ≤ n ∧ n ≤ 6 := by
      constructor
      · exact Int.not_lt.mp fun h => hg (.inr (.inr (.inl h)))
      · exact Int.not_lt.mp fun h => hg (.inr (.inr (.inr h)))
    clear hg
    obtain ⟨f, rfl, rfl, rfl, rfl, rfl, rfl⟩ := sheet_bits a0 a1 a2 a3 a4 a5 ha
    obtain ⟨g, rfl, rfl, rfl, rfl, rfl, rfl⟩ := sheet_bits b0 b1 b2 b3 b4 b5 hb
    obtain ⟨m, rfl⟩ : ∃ z : Nat, n = (z : Int) := ⟨n.toNat, by omega⟩
    have hm : m ≤ 6 := by omega
    cases hc : okc x y
    · exact ⟨0, 0, false, fun w => sct_n1 (rowv (f 0)) (rowv (f 1)) (rowv (f 2)) (rowv (f 3)) (rowv (f 4)) (rowv (f 5)) (rowv (g 0)) (rowv (g 1)) (rowv (g 2)) (rowv (g 3)) (rowv (g 4)) (rowv (g 5)) x y m (good_h f g hm) (ce_s x y hc) w, fun w => ict_a (rowv (f 0)) (rowv (f 1)) (rowv (f 2)) (rowv (f 3)) (rowv (f 4)) (rowv (f 5)) (rowv (g 0)) (rowv (g 1)) (rowv (g 2)) (rowv (g 3)) (rowv (g 4)) (rowv (g 5)) x y m 0 0 false (cb_bad (rowv (f 0)) (rowv (f 1)) (rowv (f 2)) (rowv (f 3)) (rowv (f 4)) (rowv (f 5)) (rowv (g 0)) (rowv (g 1)) (rowv (g 2)) (rowv (g 3)) (rowv (g 4)) (rowv (g 5)) _ x y m hx hy (.inr (.inl hc))) w⟩
    · obtain ⟨x', rfl⟩ : ∃ z : Nat, x = (z : Int) := ⟨x.toNat, by have := okc_in hc; omega⟩
      obtain ⟨y', rfl⟩ : ∃ z : Nat, y = (z : Int) := ⟨y.toNat, by have := okc_in hc; omega⟩
      have hx6 : x' < 6 := by have := okc_in hc; omega
      have hy6 : y' < 6 := by have := okc_in hc; omega
      obtain ⟨h, hp, hh⟩ := pc_nat g
      have HM := ch_f f g (k := 0) hp (by omega) hh hx6 hy6 hm
      have HT := get_y f hx6 hy6
      have hp6 := pow36 hm
      have hp0 := pow36_pos m
      refine ⟨_, _, true, fun w => ?_, fun w => ict_a (rowv (f 0)) (rowv (f 1)) (rowv (f 2)) (rowv (f 3)) (rowv (f 4)) (rowv (f 5)) (rowv (g 0)) (rowv (g 1)) (rowv (g 2)) (rowv (g 3)) (rowv (g 4)) (rowv (g 5)) x' y' m _ _ true HM w⟩
      cases hfb : f y' x'
      · rw [hfb] at HT
        simp only [Bool.false_eq_true, if_false]
        exact sct_w (rowv (f 0)) (rowv (f 1)) (rowv (f 2)) (rowv (f 3)) (rowv (f 4)) (rowv (f 5)) (rowv (g 0)) (rowv (g 1)) (rowv (g 2)) (rowv (g 3)) (rowv (g 4)) (rowv (g 5)) x' y' m h _ _ _ _ (good_h f g hm) (ce_s _ _ hc) (cnt_h g hp) (sb9 (lodd_f hh hm)) (sb9 (lpow_f (x := 36) (by omega) hm)) HT (cut_h hp0 (by have := odd_le (n := m) hh; omega) (by omega)) w
      · rw [hfb] at HT
        simp only [if_true]
        rw [num_tb hh]
        have ho := odd_le (n := m) hh
        exact sct_b (rowv (f 0)) (rowv (f 1)) (rowv (f 2)) (rowv (f 3)) (rowv (f 4)) (rowv (f 5)) (rowv (g 0)) (rowv (g 1)) (rowv (g 2)) (rowv (g 3)) (rowv (g 4)) (rowv (g 5)) x' y' m h _ _ _ _ _ (w_sub ho (by omega)) (i_w (w_sub ho (by omega))) (good_h f g hm) (ce_s _ _ hc) (cnt_h g hp) (sb9 (lodd_f hh hm)) (sb9 (lpow_f (x := 36) (by omega) hm)) HT (cut_h hp0 (by omega) (by omega)) w
theorem ci_pair (a0 a1 a2 a3 a4 a5 : Int) (b0 b1 b2 b3 b4 b5 : Int) (x y : Int) (n : Int)(hx : (Lit.int .i64 x).wf = true) (hy : (Lit.int .i64 y).wf = true) : ∃ (r0 r1 : Int) (t : Bool), (∀ w, Calls Try.prog 30 #[.agg #[.int .i64 a0, .int .i64 a1, .int .i64 a2, .int .i64 a3, .int .i64 a4, .int .i64 a5], .agg #[.int .i64 b0, .int .i64 b1, .int .i64 b2, .int .i64 b3, .int .i64 b4, .int .i64 b5], .agg #[.int .i64 x, .int .i64 y], .int .i64 n] w fun e w' => e = .returned (.tuple #[.agg #[.int .i64 r0, .int .i64 r1], .bool t]) ∧ Below w.heap.size w w') ∧ (∀ w, Calls Try.prog 31 #[.agg #[.int .i64 a0, .int .i64 a1, .int .i64 a2, .int .i64 a3, .int .i64 a4, .int .i64 a5], .agg #[.int .i64 b0, .int .i64 b1, .int .i64 b2, .int .i64 b3, .int .i64 b4, .int .i64 b5], .agg #[.int .i64 x, .int .i64 y], .int .i64 n] w fun e w' => e = .returned (.tuple #[.agg #[.int .i64 r0, .int .i64 r1], .bool t]) ∧ Below w.heap.size w w') := by
  by_cases hg : (ok a0 && ok a1 && ok a2 && ok a3 && ok a4 && ok a5) = false ∨ (ok b0 && ok b1 && ok b2 && ok b3 && ok b4 && ok b5) = false ∨ n < 0 ∨ 6 < n
  · exact ⟨0, 0, false, fun w => sci_n0 a0 a1 a2 a3 a4 a5 b0 b1 b2 b3 b4 b5 x y n (good_bad a0 a1 a2 a3 a4 a5 b0 b1 b2 b3 b4 b5 n hg) w, fun w => ici_a a0 a1 a2 a3 a4 a5 b0 b1 b2 b3 b4 b5 x y n 0 0 false (cb_bad a0 a1 a2 a3 a4 a5 b0 b1 b2 b3 b4 b5 _ x y n hx hy (by rcases hg with h | h; exact .inl h; exact .inr (.inr h))) w⟩
  · have ha : (ok a0 && ok a1 && ok a2 && ok a3 && ok a4 && ok a5) = true := by cases h : (ok a0 && ok a1 && ok a2 && ok a3 && ok a4 && ok a5) <;> simp_all
    have hb : (ok b0 && ok b1 && ok b2 && ok b3 && ok b4 && ok b5) = true := by cases h : (ok b0 && ok b1 && ok b2 && ok b3 && ok b4 && ok b5) <;> simp_all
    have hn0 : 0 ≤ n ∧ n ≤ 6 := by
      constructor
      · exact Int.not_lt.mp fun h => hg (.inr (.inr (.inl h)))
      · exact Int.not_lt.mp fun h => hg (.inr (.inr (.inr h)))
    clear hg
    obtain ⟨f, rfl, rfl, rfl, rfl, rfl, rfl⟩ := sheet_bits a0 a1 a2 a3 a4 a5 ha
    obtain ⟨g, rfl, rfl, rfl, rfl, rfl, rfl⟩ := sheet_bits b0 b1 b2 b3 b4 b5 hb
    obtain ⟨m, rfl⟩ : ∃ z : Nat, n = (z : Int) := ⟨n.toNat, by omega⟩
    have hm : m ≤ 6 := by omega
    cases hc : okc x y
    · exact ⟨0, 0, false, fun w => sci_n1 (rowv (f 0)) (rowv (f 1)) (rowv (f 2)) (rowv (f 3)) (rowv (f 4)) (rowv (f 5)) (rowv (g 0)) (rowv (g 1)) (rowv (g 2)) (rowv (g 3)) (rowv (g 4)) (rowv (g 5)) x y m (good_h f g hm) (ce_s x y hc) w, fun w => ici_a (rowv (f 0)) (rowv (f 1)) (rowv (f 2)) (rowv (f 3)) (rowv (f 4)) (rowv (f 5)) (rowv (g 0)) (rowv (g 1)) (rowv (g 2)) (rowv (g 3)) (rowv (g 4)) (rowv (g 5)) x y m 0 0 false (cb_bad (rowv (f 0)) (rowv (f 1)) (rowv (f 2)) (rowv (f 3)) (rowv (f 4)) (rowv (f 5)) (rowv (g 0)) (rowv (g 1)) (rowv (g 2)) (rowv (g 3)) (rowv (g 4)) (rowv (g 5)) _ x y m hx hy (.inr (.inl hc))) w⟩
    · obtain ⟨x', rfl⟩ : ∃ z : Nat, x = (z : Int) := ⟨x.toNat, by have := okc_in hc; omega⟩
      obtain ⟨y', rfl⟩ : ∃ z : Nat, y = (z : Int) := ⟨y.toNat, by have := okc_in hc; omega⟩
      have hx6 : x' < 6 := by have := okc_in hc; omega
      have hy6 : y' < 6 := by have := okc_in hc; omega
      obtain ⟨h, hp, hh⟩ := pc_nat g
      have HM := ch_f f g (k := 1) hp (by omega) hh hx6 hy6 hm
      have HT := get_y f hx6 hy6
      have hp6 := pow36 hm
      have hp0 := pow36_pos m
      refine ⟨_, _, true, fun w => ?_, fun w => ici_a (rowv (f 0)) (rowv (f 1)) (rowv (f 2)) (rowv (f 3)) (rowv (f 4)) (rowv (f 5)) (rowv (g 0)) (rowv (g 1)) (rowv (g 2)) (rowv (g 3)) (rowv (g 4)) (rowv (g 5)) x' y' m _ _ true HM w⟩
      cases hfb : f y' x'
      · rw [hfb] at HT
        simp only [Bool.false_eq_true, if_false]
        rw [num_iw hh]
        have ho : (36 - h) ^ m ≤ 36 ^ m := Nat.pow_le_pow_left (by omega) m
        exact sci_w (rowv (f 0)) (rowv (f 1)) (rowv (f 2)) (rowv (f 3)) (rowv (f 4)) (rowv (f 5)) (rowv (g 0)) (rowv (g 1)) (rowv (g 2)) (rowv (g 3)) (rowv (g 4)) (rowv (g 5)) x' y' m h _ _ _ _ _ _ (w_36 hh) (i_w (w_36 hh)) (w_sub ho (by omega)) (i_w (w_sub ho (by omega))) (good_h f g hm) (ce_s _ _ hc) HT (sb9 (lpow_f (x := 36) (by omega) hm)) (cnt_h g hp) (sb9 (lpow_f (by omega) hm)) (cut_h hp0 (by omega) (by omega)) w
      · rw [hfb] at HT
        simp only [if_true]
        rw [num_ib hh, cut_one hp0]
        exact sci_b (rowv (f 0)) (rowv (f 1)) (rowv (f 2)) (rowv (f 3)) (rowv (f 4)) (rowv (f 5)) (rowv (g 0)) (rowv (g 1)) (rowv (g 2)) (rowv (g 3)) (rowv (g 4)) (rowv (g 5)) x' y' m (good_h f g hm) (ce_s _ _ hc) HT w
theorem mt_pair (a0 a1 a2 a3 a4 a5 : Int) (b0 b1 b2 b3 b4 b5 : Int) (n : Int) : ∃ (r0 r1 : Int) (t : Bool), (∀ w, Calls Try.prog 28 #[.agg #[.int .i64 a0, .int .i64 a1, .int .i64 a2, .int .i64 a3, .int .i64 a4, .int .i64 a5], .agg #[.int .i64 b0, .int .i64 b1, .int .i64 b2, .int .i64 b3, .int .i64 b4, .int .i64 b5], .int .i64 n] w fun e w' => e = .returned (.tuple #[.agg #[.int .i64 r0, .int .i64 r1], .bool t]) ∧ Below w.heap.size w w') ∧ (∀ w, Calls Try.prog 29 #[.agg #[.int .i64 a0, .int .i64 a1, .int .i64 a2, .int .i64 a3, .int .i64 a4, .int .i64 a5], .agg #[.int .i64 b0, .int .i64 b1, .int .i64 b2, .int .i64 b3, .int .i64 b4, .int .i64 b5], .int .i64 n] w fun e w' => e = .returned (.tuple #[.agg #[.int .i64 r0, .int .i64 r1], .bool t]) ∧ Below w.heap.size w w') := by
  by_cases hg : (ok a0 && ok a1 && ok a2 && ok a3 && ok a4 && ok a5) = false ∨ (ok b0 && ok b1 && ok b2 && ok b3 && ok b4 && ok b5) = false ∨ n < 0 ∨ 6 < n
  · exact ⟨0, 0, false, fun w => smt_n a0 a1 a2 a3 a4 a5 b0 b1 b2 b3 b4 b5 n (good_bad a0 a1 a2 a3 a4 a5 b0 b1 b2 b3 b4 b5 n hg) w, fun w => imt_a a0 a1 a2 a3 a4 a5 b0 b1 b2 b3 b4 b5 n 0 0 false (ms_bad a0 a1 a2 a3 a4 a5 b0 b1 b2 b3 b4 b5 _ n hg) w⟩
  · have ha : (ok a0 && ok a1 && ok a2 && ok a3 && ok a4 && ok a5) = true := by cases h : (ok a0 && ok a1 && ok a2 && ok a3 && ok a4 && ok a5) <;> simp_all
    have hb : (ok b0 && ok b1 && ok b2 && ok b3 && ok b4 && ok b5) = true := by cases h : (ok b0 && ok b1 && ok b2 && ok b3 && ok b4 && ok b5) <;> simp_all
    have hn0 : 0 ≤ n ∧ n ≤ 6 := by
      constructor
      · exact Int.not_lt.mp fun h => hg (.inr (.inr (.inl h)))
      · exact Int.not_lt.mp fun h => hg (.inr (.inr (.inr h)))
    clear hg
    obtain ⟨f, rfl, rfl, rfl, rfl, rfl, rfl⟩ := sheet_bits a0 a1 a2 a3 a4 a5 ha
    obtain ⟨g, rfl, rfl, rfl, rfl, rfl, rfl⟩ := sheet_bits b0 b1 b2 b3 b4 b5 hb
    obtain ⟨m, rfl⟩ : ∃ z : Nat, n = (z : Int) := ⟨n.toNat, by omega⟩
    have hm : m ≤ 6 := by omega
    obtain ⟨h, hp, hh⟩ := pc_nat g
    obtain ⟨s, hs, hs36⟩ := pc_nat f
    have HM := me_f f g (k := 0) hs hp (by omega) hh hs36 hm
    have hp6 := pow36 hm
    have hp0 := pow36_pos m
    refine ⟨_, _, true, fun w => ?_, fun w => imt_a (rowv (f 0)) (rowv (f 1)) (rowv (f 2)) (rowv (f 3)) (rowv (f 4)) (rowv (f 5)) (rowv (g 0)) (rowv (g 1)) (rowv (g 2)) (rowv (g 3)) (rowv (g 4)) (rowv (g 5)) m _ _ true HM w⟩
    rw [num_tm hh]
    have ho := odd_le (n := m) hh
    have p1 : s * (36 ^ m - (tn9 0 h (1, 0) m).2) ≤ 36 * 2176782336 := Nat.mul_le_mul hs36 (by omega)
    have p2 : (36 - s) * (tn9 0 h (1, 0) m).2 ≤ 36 * 2176782336 := Nat.mul_le_mul (by omega) (by omega)
    exact smt_y (rowv (f 0)) (rowv (f 1)) (rowv (f 2)) (rowv (f 3)) (rowv (f 4)) (rowv (f 5)) (rowv (g 0)) (rowv (g 1)) (rowv (g 2)) (rowv (g 3)) (rowv (g 4)) (rowv (g 5)) m h s _ _ _ _ _ _ _ _ _ (w_sub ho (by omega)) (i_w (w_sub ho (by omega))) (w_mul (by omega)) (i_w (w_mul (by omega))) (w_36 hs36) (i_w (w_36 hs36)) (w_mul (by omega)) (i_w (w_mul (by omega))) (w_add (by omega)) (i_w (w_add (by omega))) (good_h f g hm) (cnt_h f hs) (cnt_h g hp) (sb9 (lodd_f hh hm)) (sb9 (lpow_f (x := 36) (by omega) hm)) (cut_h hp0 (by omega) (by omega)) w
theorem mi_pair (a0 a1 a2 a3 a4 a5 : Int) (b0 b1 b2 b3 b4 b5 : Int) (n : Int) : ∃ (r0 r1 : Int) (t : Bool), (∀ w, Calls Try.prog 32 #[.agg #[.int .i64 a0, .int .i64 a1, .int .i64 a2, .int .i64 a3, .int .i64 a4, .int .i64 a5], .agg #[.int .i64 b0, .int .i64 b1, .int .i64 b2, .int .i64 b3, .int .i64 b4, .int .i64 b5], .int .i64 n] w fun e w' => e = .returned (.tuple #[.agg #[.int .i64 r0, .int .i64 r1], .bool t]) ∧ Below w.heap.size w w') ∧ (∀ w, Calls Try.prog 33 #[.agg #[.int .i64 a0, .int .i64 a1, .int .i64 a2, .int .i64 a3, .int .i64 a4, .int .i64 a5], .agg #[.int .i64 b0, .int .i64 b1, .int .i64 b2, .int .i64 b3, .int .i64 b4, .int .i64 b5], .int .i64 n] w fun e w' => e = .returned (.tuple #[.agg #[.int .i64 r0, .int .i64 r1], .bool t]) ∧ Below w.heap.size w w') := by
  by_cases hg : (ok a0 && ok a1 && ok a2 && ok a3 && ok a4 && ok a5) = false ∨ (ok b0 && ok b1 && ok b2 && ok b3 && ok b4 && ok b5) = false ∨ n < 0 ∨ 6 < n
  · exact ⟨0, 0, false, fun w => smi_n a0 a1 a2 a3 a4 a5 b0 b1 b2 b3 b4 b5 n (good_bad a0 a1 a2 a3 a4 a5 b0 b1 b2 b3 b4 b5 n hg) w, fun w => imi_a a0 a1 a2 a3 a4 a5 b0 b1 b2 b3 b4 b5 n 0 0 false (ms_bad a0 a1 a2 a3 a4 a5 b0 b1 b2 b3 b4 b5 _ n hg) w⟩
  · have ha : (ok a0 && ok a1 && ok a2 && ok a3 && ok a4 && ok a5) = true := by cases h : (ok a0 && ok a1 && ok a2 && ok a3 && ok a4 && ok a5) <;> simp_all
    have hb : (ok b0 && ok b1 && ok b2 && ok b3 && ok b4 && ok b5) = true := by cases h : (ok b0 && ok b1 && ok b2 && ok b3 && ok b4 && ok b5) <;> simp_all
    have hn0 : 0 ≤ n ∧ n ≤ 6 := by
      constructor
      · exact Int.not_lt.mp fun h => hg (.inr (.inr (.inl h)))
      · exact Int.not_lt.mp fun h => hg (.inr (.inr (.inr h)))
    clear hg
    obtain ⟨f, rfl, rfl, rfl, rfl, rfl, rfl⟩ := sheet_bits a0 a1 a2 a3 a4 a5 ha
    obtain ⟨g, rfl, rfl, rfl, rfl, rfl, rfl⟩ := sheet_bits b0 b1 b2 b3 b4 b5 hb
    obtain ⟨m, rfl⟩ : ∃ z : Nat, n = (z : Int) := ⟨n.toNat, by omega⟩
    have hm : m ≤ 6 := by omega
    obtain ⟨h, hp, hh⟩ := pc_nat g
    obtain ⟨s, hs, hs36⟩ := pc_nat f
    have HM := me_f f g (k := 1) hs hp (by omega) hh hs36 hm
    have hp6 := pow36 hm
    have hp0 := pow36_pos m
    refine ⟨_, _, true, fun w => ?_, fun w => imi_a (rowv (f 0)) (rowv (f 1)) (rowv (f 2)) (rowv (f 3)) (rowv (f 4)) (rowv (f 5)) (rowv (g 0)) (rowv (g 1)) (rowv (g 2)) (rowv (g 3)) (rowv (g 4)) (rowv (g 5)) m _ _ true HM w⟩
    rw [num_im hh hs36]
    have ho : (36 - h) ^ m ≤ 36 ^ m := Nat.pow_le_pow_left (by omega) m
    have p1 : 36 * 36 ^ m ≤ 36 * 2176782336 := Nat.mul_le_mul_left 36 hp6
    have p2 : (36 - s) * (36 - h) ^ m ≤ 36 * 36 ^ m := Nat.mul_le_mul (by omega) ho
    exact smi_y (rowv (f 0)) (rowv (f 1)) (rowv (f 2)) (rowv (f 3)) (rowv (f 4)) (rowv (f 5)) (rowv (g 0)) (rowv (g 1)) (rowv (g 2)) (rowv (g 3)) (rowv (g 4)) (rowv (g 5)) m h _ _ s _ _ _ _ _ _ _ (w_36 hh) (i_w (w_36 hh)) (w_mul (a := 36) (by omega)) (i_w (w_mul (a := 36) (by omega))) (w_36 hs36) (i_w (w_36 hs36)) (w_mul (by omega)) (i_w (w_mul (by omega))) (w_sub p2 (by omega)) (i_w (w_sub p2 (by omega))) (good_h f g hm) (cnt_h f hs) (cnt_h g hp) (sb9 (lpow_f (x := 36) (by omega) hm)) (sb9 (lpow_f (by omega) hm)) (cut_h hp0 (by omega) (by omega)) w
theorem mw_pair (a0 a1 a2 a3 a4 a5 : Int) (b0 b1 b2 b3 b4 b5 : Int) (n : Int) : ∃ (r0 r1 : Int) (t : Bool), (∀ w, Calls Try.prog 34 #[.agg #[.int .i64 a0, .int .i64 a1, .int .i64 a2, .int .i64 a3, .int .i64 a4, .int .i64 a5], .agg #[.int .i64 b0, .int .i64 b1, .int .i64 b2, .int .i64 b3, .int .i64 b4, .int .i64 b5], .int .i64 n] w fun e w' => e = .returned (.tuple #[.agg #[.int .i64 r0, .int .i64 r1], .bool t]) ∧ Below w.heap.size w w') ∧ (∀ w, Calls Try.prog 35 #[.agg #[.int .i64 a0, .int .i64 a1, .int .i64 a2, .int .i64 a3, .int .i64 a4, .int .i64 a5], .agg #[.int .i64 b0, .int .i64 b1, .int .i64 b2, .int .i64 b3, .int .i64 b4, .int .i64 b5], .int .i64 n] w fun e w' => e = .returned (.tuple #[.agg #[.int .i64 r0, .int .i64 r1], .bool t]) ∧ Below w.heap.size w w') := by
  by_cases hg : (ok a0 && ok a1 && ok a2 && ok a3 && ok a4 && ok a5) = false ∨ (ok b0 && ok b1 && ok b2 && ok b3 && ok b4 && ok b5) = false ∨ n < 0 ∨ 6 < n
  · exact ⟨0, 0, false, fun w => smw_n a0 a1 a2 a3 a4 a5 b0 b1 b2 b3 b4 b5 n (good_bad a0 a1 a2 a3 a4 a5 b0 b1 b2 b3 b4 b5 n hg) w, fun w => imw_a a0 a1 a2 a3 a4 a5 b0 b1 b2 b3 b4 b5 n 0 0 false (ms_bad a0 a1 a2 a3 a4 a5 b0 b1 b2 b3 b4 b5 _ n hg) w⟩
  · have ha : (ok a0 && ok a1 && ok a2 && ok a3 && ok a4 && ok a5) = true := by cases h : (ok a0 && ok a1 && ok a2 && ok a3 && ok a4 && ok a5) <;> simp_all
    have hb : (ok b0 && ok b1 && ok b2 && ok b3 && ok b4 && ok b5) = true := by cases h : (ok b0 && ok b1 && ok b2 && ok b3 && ok b4 && ok b5) <;> simp_all
    have hn0 : 0 ≤ n ∧ n ≤ 6 := by
      constructor
      · exact Int.not_lt.mp fun h => hg (.inr (.inr (.inl h)))
      · exact Int.not_lt.mp fun h => hg (.inr (.inr (.inr h)))
    clear hg
    obtain ⟨f, rfl, rfl, rfl, rfl, rfl, rfl⟩ := sheet_bits a0 a1 a2 a3 a4 a5 ha
    obtain ⟨g, rfl, rfl, rfl, rfl, rfl, rfl⟩ := sheet_bits b0 b1 b2 b3 b4 b5 hb
    obtain ⟨m, rfl⟩ : ∃ z : Nat, n = (z : Int) := ⟨n.toNat, by omega⟩
    have hm : m ≤ 6 := by omega
    obtain ⟨h, hp, hh⟩ := pc_nat g
    obtain ⟨s, hs, hs36⟩ := pc_nat f
    have HM := me_f f g (k := 2) hs hp (by omega) hh hs36 hm
    have hp6 := pow36 hm
    have hp0 := pow36_pos m
    refine ⟨_, _, true, fun w => ?_, fun w => imw_a (rowv (f 0)) (rowv (f 1)) (rowv (f 2)) (rowv (f 3)) (rowv (f 4)) (rowv (f 5)) (rowv (g 0)) (rowv (g 1)) (rowv (g 2)) (rowv (g 3)) (rowv (g 4)) (rowv (g 5)) m _ _ true HM w⟩
    rw [tn9_wipe]
    have ho : (36 - h) ^ m ≤ 36 ^ m := Nat.pow_le_pow_left (by omega) m
    have p2 : s * (36 - h) ^ m ≤ 36 * 2176782336 := Nat.mul_le_mul hs36 (by omega)
    exact smw_y (rowv (f 0)) (rowv (f 1)) (rowv (f 2)) (rowv (f 3)) (rowv (f 4)) (rowv (f 5)) (rowv (g 0)) (rowv (g 1)) (rowv (g 2)) (rowv (g 3)) (rowv (g 4)) (rowv (g 5)) m h _ _ s _ _ _ _ (w_36 hh) (i_w (w_36 hh)) (w_mul (by omega)) (i_w (w_mul (by omega))) (good_h f g hm) (cnt_h f hs) (cnt_h g hp) (sb9 (lpow_f (x := 36) (by omega) hm)) (sb9 (lpow_f (by omega) hm)) (cut_h hp0 (by omega) (by omega)) w
theorem mc_pair (a0 a1 a2 a3 a4 a5 : Int) (b0 b1 b2 b3 b4 b5 : Int) : ∃ (r0 r1 : Int) (t : Bool), (∀ w, Calls Try.prog 40 #[.agg #[.int .i64 a0, .int .i64 a1, .int .i64 a2, .int .i64 a3, .int .i64 a4, .int .i64 a5], .agg #[.int .i64 b0, .int .i64 b1, .int .i64 b2, .int .i64 b3, .int .i64 b4, .int .i64 b5]] w fun e w' => e = .returned (.tuple #[.agg #[.int .i64 r0, .int .i64 r1], .bool t]) ∧ Below w.heap.size w w') ∧ (∀ w, Calls Try.prog 41 #[.agg #[.int .i64 a0, .int .i64 a1, .int .i64 a2, .int .i64 a3, .int .i64 a4, .int .i64 a5], .agg #[.int .i64 b0, .int .i64 b1, .int .i64 b2, .int .i64 b3, .int .i64 b4, .int .i64 b5]] w fun e w' => e = .returned (.tuple #[.agg #[.int .i64 r0, .int .i64 r1], .bool t]) ∧ Below w.heap.size w w') := by
  cases ha : (ok a0 && ok a1 && ok a2 && ok a3 && ok a4 && ok a5)
  · exact ⟨0, 0, false, fun w => smc_n0 a0 a1 a2 a3 a4 a5 b0 b1 b2 b3 b4 b5 (sh_as a0 a1 a2 a3 a4 a5 ha) w, fun w => imc_n0 a0 a1 a2 a3 a4 a5 b0 b1 b2 b3 b4 b5 (sh_ai a0 a1 a2 a3 a4 a5 ha) w⟩
  · cases hb : (ok b0 && ok b1 && ok b2 && ok b3 && ok b4 && ok b5)
    · exact ⟨0, 0, false, fun w => smc_n1 a0 a1 a2 a3 a4 a5 b0 b1 b2 b3 b4 b5 (sh_as a0 a1 a2 a3 a4 a5 ha) (sh_as b0 b1 b2 b3 b4 b5 hb) w, fun w => imc_n1 a0 a1 a2 a3 a4 a5 b0 b1 b2 b3 b4 b5 (sh_ai a0 a1 a2 a3 a4 a5 ha) (sh_ai b0 b1 b2 b3 b4 b5 hb) w⟩
    · obtain ⟨f, rfl, rfl, rfl, rfl, rfl, rfl⟩ := sheet_bits a0 a1 a2 a3 a4 a5 ha
      obtain ⟨g, rfl, rfl, rfl, rfl, rfl, rfl⟩ := sheet_bits b0 b1 b2 b3 b4 b5 hb
      obtain ⟨h, hp, hh⟩ := pc_nat g
      obtain ⟨s, hs, hs36⟩ := pc_nat f
      have p2 : s * h ≤ 36 * 36 := Nat.mul_le_mul hs36 hh
      refine ⟨_, _, true, fun w => smc_y (rowv (f 0)) (rowv (f 1)) (rowv (f 2)) (rowv (f 3)) (rowv (f 4)) (rowv (f 5)) (rowv (g 0)) (rowv (g 1)) (rowv (g 2)) (rowv (g 3)) (rowv (g 4)) (rowv (g 5)) h s _ _ _ (w_mul (by omega)) (i_w (w_mul (by omega))) (sh_as (rowv (f 0)) (rowv (f 1)) (rowv (f 2)) (rowv (f 3)) (rowv (f 4)) (rowv (f 5)) (sh_of f)) (sh_as (rowv (g 0)) (rowv (g 1)) (rowv (g 2)) (rowv (g 3)) (rowv (g 4)) (rowv (g 5)) (sh_of g)) (cnt_h f hs) (cnt_h g hp) (cut_h (b := 36) (by omega) (by omega) (by omega)) w, fun w => imc_y (rowv (f 0)) (rowv (f 1)) (rowv (f 2)) (rowv (f 3)) (rowv (f 4)) (rowv (f 5)) (rowv (g 0)) (rowv (g 1)) (rowv (g 2)) (rowv (g 3)) (rowv (g 4)) (rowv (g 5)) (fd36 f) (fd36 g) h s _ _ _ (w_mul (by omega)) (i_w (w_mul (by omega))) (sh_ai (rowv (f 0)) (rowv (f 1)) (rowv (f 2)) (rowv (f 3)) (rowv (f 4)) (rowv (f 5)) (sh_of f)) (sh_ai (rowv (g 0)) (rowv (g 1)) (rowv (g 2)) (rowv (g 3)) (rowv (g 4)) (rowv (g 5)) (sh_of g)) (Lib.hid (fieldof_s f)) (Lib.hid (fieldof_s g)) (Lib.hid (fun w => hs ▸ fsize_s f w)) (Lib.hid (fun w => hp ▸ fsize_s g w)) (Lib.hid (frac_f (b := 36) (by omega) (by omega) (by omega))) w⟩
/- Pg9 -/
theorem ltab_h (f g : Fn6) : Hid (∀ w, Calls Try.prog 99 #[.agg #[.int .i64 (rowv (f 0)), .int .i64 (rowv (f 1)), .int .i64 (rowv (f 2)), .int .i64 (rowv (f 3)), .int .i64 (rowv (f 4)), .int .i64 (rowv (f 5))], .agg #[.int .i64 (rowv (g 0)), .int .i64 (rowv (g 1)), .int .i64 (rowv (g 2)), .int .i64 (rowv (g 3)), .int .i64 (rowv (g 4)), .int .i64 (rowv (g 5))]] w fun e w' => e = .returned (tv (tbm f g)) ∧ Below w.heap.size w w') := Lib.hid (fun w => by
  have h := ltable_f f g w
  rw [← ht9_swap (cn9 f g)] at h
  exact h)
theorem cfits_h (f g : Fn6) {h : Nat} (hp : pc36 g = (h : Int)) (hh : h ≤ 36) {ft : Nat} (hf : tbm f g h = (ft : Int)) : Hid (∀ w, Calls Try.prog 100 #[.agg #[.int .i64 (rowv (f 0)), .int .i64 (rowv (f 1)), .int .i64 (rowv (f 2)), .int .i64 (rowv (f 3)), .int .i64 (rowv (f 4)), .int .i64 (rowv (f 5))], .agg #[.int .i64 (rowv (g 0)), .int .i64 (rowv (g 1)), .int .i64 (rowv (g 2)), .int .i64 (rowv (g 3)), .int .i64 (rowv (g 4)), .int .i64 (rowv (g 5))]] w fun e w' => e = .returned (.tuple #[.int .i64 (ft : Int), .bool true]) ∧ Below w.heap.size w w') := Lib.hid (fun w => hf ▸ cf_y (rowv (f 0)) (rowv (f 1)) (rowv (f 2)) (rowv (f 3)) (rowv (f 4)) (rowv (f 5)) (rowv (g 0)) (rowv (g 1)) (rowv (g 2)) (rowv (g 3)) (rowv (g 4)) (rowv (g 5)) (tbm f g) (fd36 g) h (by omega) (itab_h f g) (Lib.hid (fieldof_s g)) (Lib.hid (fun w => hp ▸ fsize_s g w)) w)
theorem tix {m : Nat → Int} {k ft : Nat} (hk : k < 37) (hf : m k = (ft : Int)) (W : World) : (Instr.index 37 (tv m) (.int .i64 (k : Int))).run Try.prog W = .ok (.int .i64 (ft : Int)) W := by rw [← hf]; exact ix37 m k hk W
theorem cf_pair (a0 a1 a2 a3 a4 a5 : Int) (b0 b1 b2 b3 b4 b5 : Int) : ∃ (r0 r1 : Int) (t : Bool), (∀ w, Calls Try.prog 36 #[.agg #[.int .i64 a0, .int .i64 a1, .int .i64 a2, .int .i64 a3, .int .i64 a4, .int .i64 a5], .agg #[.int .i64 b0, .int .i64 b1, .int .i64 b2, .int .i64 b3, .int .i64 b4, .int .i64 b5]] w fun e w' => e = .returned (.tuple #[.agg #[.int .i64 r0, .int .i64 r1], .bool t]) ∧ Below w.heap.size w w') ∧ (∀ w, Calls Try.prog 37 #[.agg #[.int .i64 a0, .int .i64 a1, .int .i64 a2, .int .i64 a3, .int .i64 a4, .int .i64 a5], .agg #[.int .i64 b0, .int .i64 b1, .int .i64 b2, .int .i64 b3, .int .i64 b4, .int .i64 b5]] w fun e w' => e = .returned (.tuple #[.agg #[.int .i64 r0, .int .i64 r1], .bool t]) ∧ Below w.heap.size w w') := by
  cases ha : (ok a0 && ok a1 && ok a2 && ok a3 && ok a4 && ok a5)
  · exact ⟨0, 0, false, scf_n0 a0 a1 a2 a3 a4 a5 b0 b1 b2 b3 b4 b5 (sh_as a0 a1 a2 a3 a4 a5 ha), icf_n a0 a1 a2 a3 a4 a5 b0 b1 b2 b3 b4 b5 (Lib.hid (cf_n a0 a1 a2 a3 a4 a5 b0 b1 b2 b3 b4 b5 (fun _ => 0) (itab_bad a0 a1 a2 a3 a4 a5 b0 b1 b2 b3 b4 b5 (.inl ha))))⟩
  · cases hb : (ok b0 && ok b1 && ok b2 && ok b3 && ok b4 && ok b5)
    · exact ⟨0, 0, false, scf_n1 a0 a1 a2 a3 a4 a5 b0 b1 b2 b3 b4 b5 (sh_as a0 a1 a2 a3 a4 a5 ha) (sh_as b0 b1 b2 b3 b4 b5 hb), icf_n a0 a1 a2 a3 a4 a5 b0 b1 b2 b3 b4 b5 (Lib.hid (cf_n a0 a1 a2 a3 a4 a5 b0 b1 b2 b3 b4 b5 (fun _ => 0) (itab_bad a0 a1 a2 a3 a4 a5 b0 b1 b2 b3 b4 b5 (.inr hb))))⟩
    · obtain ⟨f, rfl, rfl, rfl, rfl, rfl, rfl⟩ := sheet_bits a0 a1 a2 a3 a4 a5 ha
      obtain ⟨g, rfl, rfl, rfl, rfl, rfl, rfl⟩ := sheet_bits b0 b1 b2 b3 b4 b5 hb
      obtain ⟨h, hp, hh⟩ := pc_nat g
      obtain ⟨ft, hf, hf36⟩ := tbm_nat f g h
      exact ⟨_, _, true, scf_y (rowv (f 0)) (rowv (f 1)) (rowv (f 2)) (rowv (f 3)) (rowv (f 4)) (rowv (f 5)) (rowv (g 0)) (rowv (g 1)) (rowv (g 2)) (rowv (g 3)) (rowv (g 4)) (rowv (g 5)) (tbm f g) (h : Int) (ft : Int) _ _ (tix (by omega) hf) (sh_as (rowv (f 0)) (rowv (f 1)) (rowv (f 2)) (rowv (f 3)) (rowv (f 4)) (rowv (f 5)) (sh_of f)) (sh_as (rowv (g 0)) (rowv (g 1)) (rowv (g 2)) (rowv (g 3)) (rowv (g 4)) (rowv (g 5)) (sh_of g)) (ltab_h f g) (cnt_h g hp) (cut_h (b := 36) (by omega) (by omega) (by omega)), icf_y (rowv (f 0)) (rowv (f 1)) (rowv (f 2)) (rowv (f 3)) (rowv (f 4)) (rowv (f 5)) (rowv (g 0)) (rowv (g 1)) (rowv (g 2)) (rowv (g 3)) (rowv (g 4)) (rowv (g 5)) (ft : Int) _ _ (cfits_h f g hp hh hf) (Lib.hid (frac_f (b := 36) (by omega) (by omega) (by omega)))⟩
theorem ca_pair (a0 a1 a2 a3 a4 a5 : Int) (b0 b1 b2 b3 b4 b5 : Int) : ∃ (r0 r1 : Int) (t : Bool), (∀ w, Calls Try.prog 38 #[.agg #[.int .i64 a0, .int .i64 a1, .int .i64 a2, .int .i64 a3, .int .i64 a4, .int .i64 a5], .agg #[.int .i64 b0, .int .i64 b1, .int .i64 b2, .int .i64 b3, .int .i64 b4, .int .i64 b5]] w fun e w' => e = .returned (.tuple #[.agg #[.int .i64 r0, .int .i64 r1], .bool t]) ∧ Below w.heap.size w w') ∧ (∀ w, Calls Try.prog 39 #[.agg #[.int .i64 a0, .int .i64 a1, .int .i64 a2, .int .i64 a3, .int .i64 a4, .int .i64 a5], .agg #[.int .i64 b0, .int .i64 b1, .int .i64 b2, .int .i64 b3, .int .i64 b4, .int .i64 b5]] w fun e w' => e = .returned (.tuple #[.agg #[.int .i64 r0, .int .i64 r1], .bool t]) ∧ Below w.heap.size w w') := by
  cases ha : (ok a0 && ok a1 && ok a2 && ok a3 && ok a4 && ok a5)
  · exact ⟨0, 0, false, sca_n0 a0 a1 a2 a3 a4 a5 b0 b1 b2 b3 b4 b5 (sh_as a0 a1 a2 a3 a4 a5 ha), ica_n a0 a1 a2 a3 a4 a5 b0 b1 b2 b3 b4 b5 (fun _ => 0) (itab_bad a0 a1 a2 a3 a4 a5 b0 b1 b2 b3 b4 b5 (.inl ha))⟩
  · cases hb : (ok b0 && ok b1 && ok b2 && ok b3 && ok b4 && ok b5)
    · exact ⟨0, 0, false, sca_n1 a0 a1 a2 a3 a4 a5 b0 b1 b2 b3 b4 b5 (sh_as a0 a1 a2 a3 a4 a5 ha) (sh_as b0 b1 b2 b3 b4 b5 hb), ica_n a0 a1 a2 a3 a4 a5 b0 b1 b2 b3 b4 b5 (fun _ => 0) (itab_bad a0 a1 a2 a3 a4 a5 b0 b1 b2 b3 b4 b5 (.inr hb))⟩
    · obtain ⟨f, rfl, rfl, rfl, rfl, rfl, rfl⟩ := sheet_bits a0 a1 a2 a3 a4 a5 ha
      obtain ⟨g, rfl, rfl, rfl, rfl, rfl, rfl⟩ := sheet_bits b0 b1 b2 b3 b4 b5 hb
      obtain ⟨h, hp, hh⟩ := pc_nat g
      obtain ⟨ft, hf, hf36⟩ := tbm_nat f g 0
      exact ⟨_, _, true, sca_y (rowv (f 0)) (rowv (f 1)) (rowv (f 2)) (rowv (f 3)) (rowv (f 4)) (rowv (f 5)) (rowv (g 0)) (rowv (g 1)) (rowv (g 2)) (rowv (g 3)) (rowv (g 4)) (rowv (g 5)) (tbm f g) (ft : Int) _ _ (tix (k := 0) (by omega) hf) (sh_as (rowv (f 0)) (rowv (f 1)) (rowv (f 2)) (rowv (f 3)) (rowv (f 4)) (rowv (f 5)) (sh_of f)) (sh_as (rowv (g 0)) (rowv (g 1)) (rowv (g 2)) (rowv (g 3)) (rowv (g 4)) (rowv (g 5)) (sh_of g)) (ltab_h f g) (cut_h (b := 36) (by omega) (by omega) (by omega)), ica_y (rowv (f 0)) (rowv (f 1)) (rowv (f 2)) (rowv (f 3)) (rowv (f 4)) (rowv (f 5)) (rowv (g 0)) (rowv (g 1)) (rowv (g 2)) (rowv (g 3)) (rowv (g 4)) (rowv (g 5)) (tbm f g) (ft : Int) _ _ hf (itab_h f g) (Lib.hid (frac_f (b := 36) (by omega) (by omega) (by omega)))⟩
theorem mwt_pair (a0 a1 a2 a3 a4 a5 : Int) (b0 b1 b2 b3 b4 b5 : Int) : ∃ (r0 r1 : Int) (t : Bool), (∀ w, Calls Try.prog 47 #[.agg #[.int .i64 a0, .int .i64 a1, .int .i64 a2, .int .i64 a3, .int .i64 a4, .int .i64 a5], .agg #[.int .i64 b0, .int .i64 b1, .int .i64 b2, .int .i64 b3, .int .i64 b4, .int .i64 b5]] w fun e w' => e = .returned (.tuple #[.agg #[.int .i64 r0, .int .i64 r1], .bool t]) ∧ Below w.heap.size w w') ∧ (∀ w, Calls Try.prog 48 #[.agg #[.int .i64 a0, .int .i64 a1, .int .i64 a2, .int .i64 a3, .int .i64 a4, .int .i64 a5], .agg #[.int .i64 b0, .int .i64 b1, .int .i64 b2, .int .i64 b3, .int .i64 b4, .int .i64 b5]] w fun e w' => e = .returned (.tuple #[.agg #[.int .i64 r0, .int .i64 r1], .bool t]) ∧ Below w.heap.size w w') := by
  cases ha : (ok a0 && ok a1 && ok a2 && ok a3 && ok a4 && ok a5)
  · exact ⟨0, 0, false, smwt_n0 a0 a1 a2 a3 a4 a5 b0 b1 b2 b3 b4 b5 (sh_as a0 a1 a2 a3 a4 a5 ha), imwt_n a0 a1 a2 a3 a4 a5 b0 b1 b2 b3 b4 b5 (Lib.hid (cf_n a0 a1 a2 a3 a4 a5 b0 b1 b2 b3 b4 b5 (fun _ => 0) (itab_bad a0 a1 a2 a3 a4 a5 b0 b1 b2 b3 b4 b5 (.inl ha))))⟩
  · cases hb : (ok b0 && ok b1 && ok b2 && ok b3 && ok b4 && ok b5)
    · exact ⟨0, 0, false, smwt_n1 a0 a1 a2 a3 a4 a5 b0 b1 b2 b3 b4 b5 (sh_as a0 a1 a2 a3 a4 a5 ha) (sh_as b0 b1 b2 b3 b4 b5 hb), imwt_n a0 a1 a2 a3 a4 a5 b0 b1 b2 b3 b4 b5 (Lib.hid (cf_n a0 a1 a2 a3 a4 a5 b0 b1 b2 b3 b4 b5 (fun _ => 0) (itab_bad a0 a1 a2 a3 a4 a5 b0 b1 b2 b3 b4 b5 (.inr hb))))⟩
    · obtain ⟨f, rfl, rfl, rfl, rfl, rfl, rfl⟩ := sheet_bits a0 a1 a2 a3 a4 a5 ha
      obtain ⟨g, rfl, rfl, rfl, rfl, rfl, rfl⟩ := sheet_bits b0 b1 b2 b3 b4 b5 hb
      obtain ⟨h, hp, hh⟩ := pc_nat g
      obtain ⟨ft, hf, hf36⟩ := tbm_nat f g h
      by_cases h0 : ft = 0
      · subst h0
        exact ⟨0, 0, false, smwt_z (rowv (f 0)) (rowv (f 1)) (rowv (f 2)) (rowv (f 3)) (rowv (f 4)) (rowv (f 5)) (rowv (g 0)) (rowv (g 1)) (rowv (g 2)) (rowv (g 3)) (rowv (g 4)) (rowv (g 5)) (tbm f g) (h : Int) (tix (by omega) hf) (sh_as (rowv (f 0)) (rowv (f 1)) (rowv (f 2)) (rowv (f 3)) (rowv (f 4)) (rowv (f 5)) (sh_of f)) (sh_as (rowv (g 0)) (rowv (g 1)) (rowv (g 2)) (rowv (g 3)) (rowv (g 4)) (rowv (g 5)) (sh_of g)) (ltab_h f g) (cnt_h g hp), imwt_z (rowv (f 0)) (rowv (f 1)) (rowv (f 2)) (rowv (f 3)) (rowv (f 4)) (rowv (f 5)) (rowv (g 0)) (rowv (g 1)) (rowv (g 2)) (rowv (g 3)) (rowv (g 4)) (rowv (g 5)) (cfits_h f g hp hh hf)⟩
      · have h1 : ¬ (ft : Int) = 0 := by omega
        have h2 : ((ft : Int) == 0) = false := by simpa using h0
        exact ⟨_, _, true, smwt_y (rowv (f 0)) (rowv (f 1)) (rowv (f 2)) (rowv (f 3)) (rowv (f 4)) (rowv (f 5)) (rowv (g 0)) (rowv (g 1)) (rowv (g 2)) (rowv (g 3)) (rowv (g 4)) (rowv (g 5)) (tbm f g) (h : Int) (ft : Int) _ _ h2 h1 (tix (by omega) hf) (sh_as (rowv (f 0)) (rowv (f 1)) (rowv (f 2)) (rowv (f 3)) (rowv (f 4)) (rowv (f 5)) (sh_of f)) (sh_as (rowv (g 0)) (rowv (g 1)) (rowv (g 2)) (rowv (g 3)) (rowv (g 4)) (rowv (g 5)) (sh_of g)) (ltab_h f g) (cnt_h g hp) (cut_h (a := 36) (by omega) (by omega) (by omega)), imwt_y (rowv (f 0)) (rowv (f 1)) (rowv (f 2)) (rowv (f 3)) (rowv (f 4)) (rowv (f 5)) (rowv (g 0)) (rowv (g 1)) (rowv (g 2)) (rowv (g 3)) (rowv (g 4)) (rowv (g 5)) (ft : Int) _ _ h2 h1 (cfits_h f g hp hh hf) (Lib.hid (frac_f (a := 36) (by omega) (by omega) (by omega)))⟩
end Go.Proofs.Ythphkhcppljdlaa
