/- #[.int .i64 a0, .int .i64 a1, .int .i64 a2, .int .i64 a3, .int .i64 a4, .int .i64 a5, .int .i64 b0, .int .i64 b1, .int .i64 b2, .int .i64 b3, .int .i64 b4, .int .i64 b5, .int .i64 p, .int .i64 c, .string ⟨#[]⟩, .string ⟨#[]⟩, .int .i64 0]TRACTS: NewConsole, of the model and of the code. -/
import Derived.Test.YtnkjamdpafpcpaaGood12
import Derived.Test.YtnkjamdpafpcpaaRw12
import Derived.WalkKit
import Derived.ProofKit
import Derived.OpenShut
import Derived.Lib.Hide
import Derived.WalkSpells
import Derived.Below
import Derived.BigQuiet
import Derived.LoopN
namespace Go.Proofs.Ytnkjamdpafpcpaa
open Go.ChangeShapes Go.WideShapes Go.ChangeAt Go.RowKit
set_option linter.unusedVariables false
theorem bdC (a0 a1 a2 a3 a4 a5 : Int) (b0 b1 b2 b3 b4 b5 : Int) (p c : Int) (W : World) : (Instr.build 43 #[(0, .agg #[.int .i64 a0, .int .i64 a1, .int .i64 a2, .int .i64 a3, .int .i64 a4, .int .i64 a5, .int .i64 b0, .int .i64 b1, .int .i64 b2, .int .i64 b3, .int .i64 b4, .int .i64 b5, .int .i64 p, .int .i64 c])]).run Try.prog W = .ok (.agg #[.int .i64 a0, .int .i64 a1, .int .i64 a2, .int .i64 a3, .int .i64 a4, .int .i64 a5, .int .i64 b0, .int .i64 b1, .int .i64 b2, .int .i64 b3, .int .i64 b4, .int .i64 b5, .int .i64 p, .int .i64 c, .string ⟨#[]⟩, .string ⟨#[]⟩, .int .i64 0]) W := by kernel_rfl
theorem bdZ (W : World) : (Instr.build 43 #[]).run Try.prog W = .ok (.agg #[.int .i64 0, .int .i64 0, .int .i64 0, .int .i64 0, .int .i64 0, .int .i64 0, .int .i64 0, .int .i64 0, .int .i64 0, .int .i64 0, .int .i64 0, .int .i64 0, .int .i64 0, .int .i64 0, .string ⟨#[]⟩, .string ⟨#[]⟩, .int .i64 0]) W := by kernel_rfl
section
variable {ops : Array Oper} {rest : List Oper} {a : Act} {w : World} {Q : Exit → Act → World → Prop} {dst : Option Tmp} {type : TypeId} {x : Operand} {pos : String} {after : Array Edge}
theorem wpBdC {a0 a1 a2 a3 a4 a5 b0 b1 b2 b3 b4 b5 p c : Int} (hx : a.eval x = .agg #[.int .i64 a0, .int .i64 a1, .int .i64 a2, .int .i64 a3, .int .i64 a4, .int .i64 a5, .int .i64 b0, .int .i64 b1, .int .i64 b2, .int .i64 b3, .int .i64 b4, .int .i64 b5, .int .i64 p, .int .i64 c]) (h : wpList Try.prog ops Q rest (a.put dst (.agg #[.int .i64 a0, .int .i64 a1, .int .i64 a2, .int .i64 a3, .int .i64 a4, .int .i64 a5, .int .i64 b0, .int .i64 b1, .int .i64 b2, .int .i64 b3, .int .i64 b4, .int .i64 b5, .int .i64 p, .int .i64 c, .string ⟨#[]⟩, .string ⟨#[]⟩, .int .i64 0])) w) : wpList Try.prog ops Q (⟨dst, .build 43 #[(0, x)], type, pos, after, none⟩ :: rest) a w := by
  refine wpList_plain rfl fun K hK => ?_
  unfold Oper.wp execOp
  simp only [List.map_toArray, List.map_cons, List.map_nil, hx, Sem.run_bind, Sem.run_pure, Result.andThen_ok, bdC]
  exact hK _ _ h
theorem wpBdZ (h : wpList Try.prog ops Q rest (a.put dst (.agg #[.int .i64 0, .int .i64 0, .int .i64 0, .int .i64 0, .int .i64 0, .int .i64 0, .int .i64 0, .int .i64 0, .int .i64 0, .int .i64 0, .int .i64 0, .int .i64 0, .int .i64 0, .int .i64 0, .string ⟨#[]⟩, .string ⟨#[]⟩, .int .i64 0])) w) : wpList Try.prog ops Q (⟨dst, .build 43 #[], type, pos, after, none⟩ :: rest) a w := by
  refine wpList_plain rfl fun K hK => ?_
  unfold Oper.wp execOp
  simp only [Array.map_empty, Sem.run_bind, Sem.run_pure, Result.andThen_ok, bdZ]
  exact hK _ _ h
end
set_option maxRecDepth 8000 in
set_option maxHeartbeats 4000000 in
theorem snewcon_true (a0 a1 a2 a3 a4 a5 : Int) (b0 b1 b2 b3 b4 b5 : Int) (p c : Int) (hq : oks a0 a1 a2 a3 a4 a5 b0 b1 b2 b3 b4 b5 p c = true) (w : World) : Calls Try.prog 27 #[.agg #[.int .i64 a0, .int .i64 a1, .int .i64 a2, .int .i64 a3, .int .i64 a4, .int .i64 a5, .int .i64 b0, .int .i64 b1, .int .i64 b2, .int .i64 b3, .int .i64 b4, .int .i64 b5, .int .i64 p, .int .i64 c]] w fun e w' => e = .returned (.tuple #[.agg #[.int .i64 a0, .int .i64 a1, .int .i64 a2, .int .i64 a3, .int .i64 a4, .int .i64 a5, .int .i64 b0, .int .i64 b1, .int .i64 b2, .int .i64 b3, .int .i64 b4, .int .i64 b5, .int .i64 p, .int .i64 c, .string ⟨#[]⟩, .string ⟨#[]⟩, .int .i64 0], .bool true]) ∧ Below w.heap.size w w' := by
  have HG := Lib.hid (sgood_any a0 a1 a2 a3 a4 a5 b0 b1 b2 b3 b4 b5 p c)
  rw [hq] at HG
  clear hq
  go_enter Try.func27, Try.ntmps27
  go_wp2_with fail
  have K0 := kr12_2 w (.cells #[.int .i64 a0, .int .i64 a1, .int .i64 a2, .int .i64 a3, .int .i64 a4, .int .i64 a5, .int .i64 b0, .int .i64 b1, .int .i64 b2, .int .i64 b3, .int .i64 b4, .int .i64 b5, .int .i64 p, .int .i64 c] 30 (0, 0)) (.cells #[.int .i64 0, .int .i64 0, .int .i64 0, .int .i64 0, .int .i64 0, .int .i64 0, .int .i64 0, .int .i64 0, .int .i64 0, .int .i64 0, .int .i64 0, .int .i64 0, .int .i64 0, .int .i64 0, .string ⟨#[]⟩, .string ⟨#[]⟩, .int .i64 0] 43 (0, 0))
  generalize (World.alloc _ _ : World) = W0 at K0 ⊢
  refine (HG.out _).mono ?_
  rintro e W1 ⟨rfl, hb⟩
  have K1 := K0.far hb rfl
  clear hb K0
  have c0 := K1.cell (g := w.heap.size) (cs := #[.int .i64 a0, .int .i64 a1, .int .i64 a2, .int .i64 a3, .int .i64 a4, .int .i64 a5, .int .i64 b0, .int .i64 b1, .int .i64 b2, .int .i64 b3, .int .i64 b4, .int .i64 b5, .int .i64 p, .int .i64 c]) (t := 30) (List.mem_cons_self ..)
  have hR := K1.row (g := w.heap.size + 1) (o := .cells #[.int .i64 0, .int .i64 0, .int .i64 0, .int .i64 0, .int .i64 0, .int .i64 0, .int .i64 0, .int .i64 0, .int .i64 0, .int .i64 0, .int .i64 0, .int .i64 0, .int .i64 0, .int .i64 0, .string ⟨#[]⟩, .string ⟨#[]⟩, .int .i64 0] 43 (0, 0)) (List.mem_cons_of_mem _ (List.mem_cons_self ..))
  have HR := Lib.hid (row_sets12 (cs' := #[.int .i64 a0, .int .i64 a1, .int .i64 a2, .int .i64 a3, .int .i64 a4, .int .i64 a5, .int .i64 b0, .int .i64 b1, .int .i64 b2, .int .i64 b3, .int .i64 b4, .int .i64 b5, .int .i64 p, .int .i64 c, .string ⟨#[]⟩, .string ⟨#[]⟩, .int .i64 0]) hR rfl)
  have HB := Lib.hid (setCells_below (b := w.heap.size + 1) (((#[.int .i64 a0, .int .i64 a1, .int .i64 a2, .int .i64 a3, .int .i64 a4, .int .i64 a5, .int .i64 b0, .int .i64 b1, .int .i64 b2, .int .i64 b3, .int .i64 b4, .int .i64 b5, .int .i64 p, .int .i64 c, .string ⟨#[]⟩, .string ⟨#[]⟩, .int .i64 0] : Array Value)).toList) 0 K1.2.2 (by omega))
  have HR9 := Lib.hid hR
  clear K1 hR
  go_wp2_with (first | ((with_reducible refine wpBdC ?_ ?_); rfl) | (with_reducible refine wpBdZ ?_) | ((with_reducible refine wpRow12 (w.heap.size + 1) #[.int .i64 a0, .int .i64 a1, .int .i64 a2, .int .i64 a3, .int .i64 a4, .int .i64 a5, .int .i64 b0, .int .i64 b1, .int .i64 b2, .int .i64 b3, .int .i64 b4, .int .i64 b5, .int .i64 p, .int .i64 c, .string ⟨#[]⟩, .string ⟨#[]⟩, .int .i64 0] HR9.out ?_ ?_ ?_ ?_ ?_ ?_); rfl; (simp [Value.oneCell']); rfl; rfl; kernel_rfl))
  exact bodyPost_ret (v := .tuple #[.agg #[.int .i64 a0, .int .i64 a1, .int .i64 a2, .int .i64 a3, .int .i64 a4, .int .i64 a5, .int .i64 b0, .int .i64 b1, .int .i64 b2, .int .i64 b3, .int .i64 b4, .int .i64 b5, .int .i64 p, .int .i64 c, .string ⟨#[]⟩, .string ⟨#[]⟩, .int .i64 0], .bool true]) (res36b rfl rfl rfl (run_row12 HR.out 43 _ Try.underlying43 rfl (by kernel_rfl))) rfl ⟨rfl, HB.out⟩
set_option maxRecDepth 8000 in
set_option maxHeartbeats 4000000 in
theorem snewcon_false (a0 a1 a2 a3 a4 a5 : Int) (b0 b1 b2 b3 b4 b5 : Int) (p c : Int) (hq : oks a0 a1 a2 a3 a4 a5 b0 b1 b2 b3 b4 b5 p c = false) (w : World) : Calls Try.prog 27 #[.agg #[.int .i64 a0, .int .i64 a1, .int .i64 a2, .int .i64 a3, .int .i64 a4, .int .i64 a5, .int .i64 b0, .int .i64 b1, .int .i64 b2, .int .i64 b3, .int .i64 b4, .int .i64 b5, .int .i64 p, .int .i64 c]] w fun e w' => e = .returned (.tuple #[.agg #[.int .i64 0, .int .i64 0, .int .i64 0, .int .i64 0, .int .i64 0, .int .i64 0, .int .i64 0, .int .i64 0, .int .i64 0, .int .i64 0, .int .i64 0, .int .i64 0, .int .i64 0, .int .i64 0, .string ⟨#[]⟩, .string ⟨#[]⟩, .int .i64 0], .bool false]) ∧ Below w.heap.size w w' := by
  have HG := Lib.hid (sgood_any a0 a1 a2 a3 a4 a5 b0 b1 b2 b3 b4 b5 p c)
  rw [hq] at HG
  clear hq
  go_enter Try.func27, Try.ntmps27
  go_wp2_with fail
  have K0 := kr12_2 w (.cells #[.int .i64 a0, .int .i64 a1, .int .i64 a2, .int .i64 a3, .int .i64 a4, .int .i64 a5, .int .i64 b0, .int .i64 b1, .int .i64 b2, .int .i64 b3, .int .i64 b4, .int .i64 b5, .int .i64 p, .int .i64 c] 30 (0, 0)) (.cells #[.int .i64 0, .int .i64 0, .int .i64 0, .int .i64 0, .int .i64 0, .int .i64 0, .int .i64 0, .int .i64 0, .int .i64 0, .int .i64 0, .int .i64 0, .int .i64 0, .int .i64 0, .int .i64 0, .string ⟨#[]⟩, .string ⟨#[]⟩, .int .i64 0] 43 (0, 0))
  generalize (World.alloc _ _ : World) = W0 at K0 ⊢
  refine (HG.out _).mono ?_
  rintro e W1 ⟨rfl, hb⟩
  have K1 := K0.far hb rfl
  clear hb K0
  have c0 := K1.cell (g := w.heap.size) (cs := #[.int .i64 a0, .int .i64 a1, .int .i64 a2, .int .i64 a3, .int .i64 a4, .int .i64 a5, .int .i64 b0, .int .i64 b1, .int .i64 b2, .int .i64 b3, .int .i64 b4, .int .i64 b5, .int .i64 p, .int .i64 c]) (t := 30) (List.mem_cons_self ..)
  have hR := K1.row (g := w.heap.size + 1) (o := .cells #[.int .i64 0, .int .i64 0, .int .i64 0, .int .i64 0, .int .i64 0, .int .i64 0, .int .i64 0, .int .i64 0, .int .i64 0, .int .i64 0, .int .i64 0, .int .i64 0, .int .i64 0, .int .i64 0, .string ⟨#[]⟩, .string ⟨#[]⟩, .int .i64 0] 43 (0, 0)) (List.mem_cons_of_mem _ (List.mem_cons_self ..))
  have HR := Lib.hid (row_sets12 (cs' := #[.int .i64 0, .int .i64 0, .int .i64 0, .int .i64 0, .int .i64 0, .int .i64 0, .int .i64 0, .int .i64 0, .int .i64 0, .int .i64 0, .int .i64 0, .int .i64 0, .int .i64 0, .int .i64 0, .string ⟨#[]⟩, .string ⟨#[]⟩, .int .i64 0]) hR rfl)
  have HB := Lib.hid (setCells_below (b := w.heap.size + 1) (((#[.int .i64 0, .int .i64 0, .int .i64 0, .int .i64 0, .int .i64 0, .int .i64 0, .int .i64 0, .int .i64 0, .int .i64 0, .int .i64 0, .int .i64 0, .int .i64 0, .int .i64 0, .int .i64 0, .string ⟨#[]⟩, .string ⟨#[]⟩, .int .i64 0] : Array Value)).toList) 0 K1.2.2 (by omega))
  have HR9 := Lib.hid hR
  clear K1 hR
  go_wp2_with (first | ((with_reducible refine wpBdC ?_ ?_); rfl) | (with_reducible refine wpBdZ ?_) | ((with_reducible refine wpRow12 (w.heap.size + 1) #[.int .i64 0, .int .i64 0, .int .i64 0, .int .i64 0, .int .i64 0, .int .i64 0, .int .i64 0, .int .i64 0, .int .i64 0, .int .i64 0, .int .i64 0, .int .i64 0, .int .i64 0, .int .i64 0, .string ⟨#[]⟩, .string ⟨#[]⟩, .int .i64 0] HR9.out ?_ ?_ ?_ ?_ ?_ ?_); rfl; (simp [Value.oneCell']); rfl; rfl; kernel_rfl))
  exact bodyPost_ret (v := .tuple #[.agg #[.int .i64 0, .int .i64 0, .int .i64 0, .int .i64 0, .int .i64 0, .int .i64 0, .int .i64 0, .int .i64 0, .int .i64 0, .int .i64 0, .int .i64 0, .int .i64 0, .int .i64 0, .int .i64 0, .string ⟨#[]⟩, .string ⟨#[]⟩, .int .i64 0], .bool false]) (res36b rfl rfl rfl (run_row12 HR.out 43 _ Try.underlying43 rfl (by kernel_rfl))) rfl ⟨rfl, HB.out⟩
set_option maxRecDepth 8000 in
set_option maxHeartbeats 4000000 in
theorem inewcon_true (a0 a1 a2 a3 a4 a5 : Int) (b0 b1 b2 b3 b4 b5 : Int) (p c : Int) (hq : oks a0 a1 a2 a3 a4 a5 b0 b1 b2 b3 b4 b5 p c = true) (w : World) : Calls Try.prog 28 #[.agg #[.int .i64 a0, .int .i64 a1, .int .i64 a2, .int .i64 a3, .int .i64 a4, .int .i64 a5, .int .i64 b0, .int .i64 b1, .int .i64 b2, .int .i64 b3, .int .i64 b4, .int .i64 b5, .int .i64 p, .int .i64 c]] w fun e w' => e = .returned (.tuple #[.agg #[.int .i64 a0, .int .i64 a1, .int .i64 a2, .int .i64 a3, .int .i64 a4, .int .i64 a5, .int .i64 b0, .int .i64 b1, .int .i64 b2, .int .i64 b3, .int .i64 b4, .int .i64 b5, .int .i64 p, .int .i64 c, .string ⟨#[]⟩, .string ⟨#[]⟩, .int .i64 0], .bool true]) ∧ Below w.heap.size w w' := by
  have HG := Lib.hid (ishop_any a0 a1 a2 a3 a4 a5 b0 b1 b2 b3 b4 b5 p c)
  rw [hq] at HG
  clear hq
  go_enter Try.func28, Try.ntmps28
  go_wp2_with fail
  have K0 := kr12_2 w (.cells #[.int .i64 a0, .int .i64 a1, .int .i64 a2, .int .i64 a3, .int .i64 a4, .int .i64 a5, .int .i64 b0, .int .i64 b1, .int .i64 b2, .int .i64 b3, .int .i64 b4, .int .i64 b5, .int .i64 p, .int .i64 c] 30 (0, 0)) (.cells #[.int .i64 0, .int .i64 0, .int .i64 0, .int .i64 0, .int .i64 0, .int .i64 0, .int .i64 0, .int .i64 0, .int .i64 0, .int .i64 0, .int .i64 0, .int .i64 0, .int .i64 0, .int .i64 0, .string ⟨#[]⟩, .string ⟨#[]⟩, .int .i64 0] 43 (0, 0))
  generalize (World.alloc _ _ : World) = W0 at K0 ⊢
  refine (HG.out _).mono ?_
  rintro e W1 ⟨rfl, hb⟩
  have K1 := K0.far hb rfl
  clear hb K0
  have c0 := K1.cell (g := w.heap.size) (cs := #[.int .i64 a0, .int .i64 a1, .int .i64 a2, .int .i64 a3, .int .i64 a4, .int .i64 a5, .int .i64 b0, .int .i64 b1, .int .i64 b2, .int .i64 b3, .int .i64 b4, .int .i64 b5, .int .i64 p, .int .i64 c]) (t := 30) (List.mem_cons_self ..)
  have hR := K1.row (g := w.heap.size + 1) (o := .cells #[.int .i64 0, .int .i64 0, .int .i64 0, .int .i64 0, .int .i64 0, .int .i64 0, .int .i64 0, .int .i64 0, .int .i64 0, .int .i64 0, .int .i64 0, .int .i64 0, .int .i64 0, .int .i64 0, .string ⟨#[]⟩, .string ⟨#[]⟩, .int .i64 0] 43 (0, 0)) (List.mem_cons_of_mem _ (List.mem_cons_self ..))
  have HR := Lib.hid (row_sets12 (cs' := #[.int .i64 a0, .int .i64 a1, .int .i64 a2, .int .i64 a3, .int .i64 a4, .int .i64 a5, .int .i64 b0, .int .i64 b1, .int .i64 b2, .int .i64 b3, .int .i64 b4, .int .i64 b5, .int .i64 p, .int .i64 c, .string ⟨#[]⟩, .string ⟨#[]⟩, .int .i64 0]) hR rfl)
  have HB := Lib.hid (setCells_below (b := w.heap.size + 1) (((#[.int .i64 a0, .int .i64 a1, .int .i64 a2, .int .i64 a3, .int .i64 a4, .int .i64 a5, .int .i64 b0, .int .i64 b1, .int .i64 b2, .int .i64 b3, .int .i64 b4, .int .i64 b5, .int .i64 p, .int .i64 c, .string ⟨#[]⟩, .string ⟨#[]⟩, .int .i64 0] : Array Value)).toList) 0 K1.2.2 (by omega))
  have HR9 := Lib.hid hR
  clear K1 hR
  go_wp2_with (first | ((with_reducible refine wpBdC ?_ ?_); rfl) | (with_reducible refine wpBdZ ?_) | ((with_reducible refine wpRow12 (w.heap.size + 1) #[.int .i64 a0, .int .i64 a1, .int .i64 a2, .int .i64 a3, .int .i64 a4, .int .i64 a5, .int .i64 b0, .int .i64 b1, .int .i64 b2, .int .i64 b3, .int .i64 b4, .int .i64 b5, .int .i64 p, .int .i64 c, .string ⟨#[]⟩, .string ⟨#[]⟩, .int .i64 0] HR9.out ?_ ?_ ?_ ?_ ?_ ?_); rfl; (simp [Value.oneCell']); rfl; rfl; kernel_rfl))
  exact bodyPost_ret (v := .tuple #[.agg #[.int .i64 a0, .int .i64 a1, .int .i64 a2, .int .i64 a3, .int .i64 a4, .int .i64 a5, .int .i64 b0, .int .i64 b1, .int .i64 b2, .int .i64 b3, .int .i64 b4, .int .i64 b5, .int .i64 p, .int .i64 c, .string ⟨#[]⟩, .string ⟨#[]⟩, .int .i64 0], .bool true]) (res36b rfl rfl rfl (run_row12 HR.out 43 _ Try.underlying43 rfl (by kernel_rfl))) rfl ⟨rfl, HB.out⟩
set_option maxRecDepth 8000 in
set_option maxHeartbeats 4000000 in
theorem inewcon_false (a0 a1 a2 a3 a4 a5 : Int) (b0 b1 b2 b3 b4 b5 : Int) (p c : Int) (hq : oks a0 a1 a2 a3 a4 a5 b0 b1 b2 b3 b4 b5 p c = false) (w : World) : Calls Try.prog 28 #[.agg #[.int .i64 a0, .int .i64 a1, .int .i64 a2, .int .i64 a3, .int .i64 a4, .int .i64 a5, .int .i64 b0, .int .i64 b1, .int .i64 b2, .int .i64 b3, .int .i64 b4, .int .i64 b5, .int .i64 p, .int .i64 c]] w fun e w' => e = .returned (.tuple #[.agg #[.int .i64 0, .int .i64 0, .int .i64 0, .int .i64 0, .int .i64 0, .int .i64 0, .int .i64 0, .int .i64 0, .int .i64 0, .int .i64 0, .int .i64 0, .int .i64 0, .int .i64 0, .int .i64 0, .string ⟨#[]⟩, .string ⟨#[]⟩, .int .i64 0], .bool false]) ∧ Below w.heap.size w w' := by
  have HG := Lib.hid (ishop_any a0 a1 a2 a3 a4 a5 b0 b1 b2 b3 b4 b5 p c)
  rw [hq] at HG
  clear hq
  go_enter Try.func28, Try.ntmps28
  go_wp2_with fail
  have K0 := kr12_2 w (.cells #[.int .i64 a0, .int .i64 a1, .int .i64 a2, .int .i64 a3, .int .i64 a4, .int .i64 a5, .int .i64 b0, .int .i64 b1, .int .i64 b2, .int .i64 b3, .int .i64 b4, .int .i64 b5, .int .i64 p, .int .i64 c] 30 (0, 0)) (.cells #[.int .i64 0, .int .i64 0, .int .i64 0, .int .i64 0, .int .i64 0, .int .i64 0, .int .i64 0, .int .i64 0, .int .i64 0, .int .i64 0, .int .i64 0, .int .i64 0, .int .i64 0, .int .i64 0, .string ⟨#[]⟩, .string ⟨#[]⟩, .int .i64 0] 43 (0, 0))
  generalize (World.alloc _ _ : World) = W0 at K0 ⊢
  refine (HG.out _).mono ?_
  rintro e W1 ⟨rfl, hb⟩
  have K1 := K0.far hb rfl
  clear hb K0
  have c0 := K1.cell (g := w.heap.size) (cs := #[.int .i64 a0, .int .i64 a1, .int .i64 a2, .int .i64 a3, .int .i64 a4, .int .i64 a5, .int .i64 b0, .int .i64 b1, .int .i64 b2, .int .i64 b3, .int .i64 b4, .int .i64 b5, .int .i64 p, .int .i64 c]) (t := 30) (List.mem_cons_self ..)
  have hR := K1.row (g := w.heap.size + 1) (o := .cells #[.int .i64 0, .int .i64 0, .int .i64 0, .int .i64 0, .int .i64 0, .int .i64 0, .int .i64 0, .int .i64 0, .int .i64 0, .int .i64 0, .int .i64 0, .int .i64 0, .int .i64 0, .int .i64 0, .string ⟨#[]⟩, .string ⟨#[]⟩, .int .i64 0] 43 (0, 0)) (List.mem_cons_of_mem _ (List.mem_cons_self ..))
  have HR := Lib.hid (row_sets12 (cs' := #[.int .i64 0, .int .i64 0, .int .i64 0, .int .i64 0, .int .i64 0, .int .i64 0, .int .i64 0, .int .i64 0, .int .i64 0, .int .i64 0, .int .i64 0, .int .i64 0, .int .i64 0, .int .i64 0, .string ⟨#[]⟩, .string ⟨#[]⟩, .int .i64 0]) hR rfl)
  have HB := Lib.hid (setCells_below (b := w.heap.size + 1) (((#[.int .i64 0, .int .i64 0, .int .i64 0, .int .i64 0, .int .i64 0, .int .i64 0, .int .i64 0, .int .i64 0, .int .i64 0, .int .i64 0, .int .i64 0, .int .i64 0, .int .i64 0, .int .i64 0, .string ⟨#[]⟩, .string ⟨#[]⟩, .int .i64 0] : Array Value)).toList) 0 K1.2.2 (by omega))
  have HR9 := Lib.hid hR
  clear K1 hR
  go_wp2_with (first | ((with_reducible refine wpBdC ?_ ?_); rfl) | (with_reducible refine wpBdZ ?_) | ((with_reducible refine wpRow12 (w.heap.size + 1) #[.int .i64 0, .int .i64 0, .int .i64 0, .int .i64 0, .int .i64 0, .int .i64 0, .int .i64 0, .int .i64 0, .int .i64 0, .int .i64 0, .int .i64 0, .int .i64 0, .int .i64 0, .int .i64 0, .string ⟨#[]⟩, .string ⟨#[]⟩, .int .i64 0] HR9.out ?_ ?_ ?_ ?_ ?_ ?_); rfl; (simp [Value.oneCell']); rfl; rfl; kernel_rfl))
  exact bodyPost_ret (v := .tuple #[.agg #[.int .i64 0, .int .i64 0, .int .i64 0, .int .i64 0, .int .i64 0, .int .i64 0, .int .i64 0, .int .i64 0, .int .i64 0, .int .i64 0, .int .i64 0, .int .i64 0, .int .i64 0, .int .i64 0, .string ⟨#[]⟩, .string ⟨#[]⟩, .int .i64 0], .bool false]) (res36b rfl rfl rfl (run_row12 HR.out 43 _ Try.underlying43 rfl (by kernel_rfl))) rfl ⟨rfl, HB.out⟩
theorem row_lt12 {U : World} {g : Nat} {o : Obj} (h : U.heap[g]? = some o) : g < U.heap.size := (Array.getElem?_eq_some_iff.1 h).1
theorem newcon_pair (a0 a1 a2 a3 a4 a5 : Int) (b0 b1 b2 b3 b4 b5 : Int) (p c : Int) : ∃ (r0 r1 r2 r3 r4 r5 s0 s1 s2 s3 s4 s5 m n : Int) (t : Bool), (∀ w, Calls Try.prog 27 #[.agg #[.int .i64 a0, .int .i64 a1, .int .i64 a2, .int .i64 a3, .int .i64 a4, .int .i64 a5, .int .i64 b0, .int .i64 b1, .int .i64 b2, .int .i64 b3, .int .i64 b4, .int .i64 b5, .int .i64 p, .int .i64 c]] w fun e w' => e = .returned (.tuple #[.agg #[.int .i64 r0, .int .i64 r1, .int .i64 r2, .int .i64 r3, .int .i64 r4, .int .i64 r5, .int .i64 s0, .int .i64 s1, .int .i64 s2, .int .i64 s3, .int .i64 s4, .int .i64 s5, .int .i64 m, .int .i64 n, .string ⟨#[]⟩, .string ⟨#[]⟩, .int .i64 0], .bool t]) ∧ Below w.heap.size w w') ∧ (∀ w, Calls Try.prog 28 #[.agg #[.int .i64 a0, .int .i64 a1, .int .i64 a2, .int .i64 a3, .int .i64 a4, .int .i64 a5, .int .i64 b0, .int .i64 b1, .int .i64 b2, .int .i64 b3, .int .i64 b4, .int .i64 b5, .int .i64 p, .int .i64 c]] w fun e w' => e = .returned (.tuple #[.agg #[.int .i64 r0, .int .i64 r1, .int .i64 r2, .int .i64 r3, .int .i64 r4, .int .i64 r5, .int .i64 s0, .int .i64 s1, .int .i64 s2, .int .i64 s3, .int .i64 s4, .int .i64 s5, .int .i64 m, .int .i64 n, .string ⟨#[]⟩, .string ⟨#[]⟩, .int .i64 0], .bool t]) ∧ Below w.heap.size w w') := by
  cases hq : oks a0 a1 a2 a3 a4 a5 b0 b1 b2 b3 b4 b5 p c
  · exact ⟨0, 0, 0, 0, 0, 0, 0, 0, 0, 0, 0, 0, 0, 0, false, snewcon_false a0 a1 a2 a3 a4 a5 b0 b1 b2 b3 b4 b5 p c hq, inewcon_false a0 a1 a2 a3 a4 a5 b0 b1 b2 b3 b4 b5 p c hq⟩
  · exact ⟨a0, a1, a2, a3, a4, a5, b0, b1, b2, b3, b4, b5, p, c, true, snewcon_true a0 a1 a2 a3 a4 a5 b0 b1 b2 b3 b4 b5 p c hq, inewcon_true a0 a1 a2 a3 a4 a5 b0 b1 b2 b3 b4 b5 p c hq⟩
end Go.Proofs.Ytnkjamdpafpcpaa
