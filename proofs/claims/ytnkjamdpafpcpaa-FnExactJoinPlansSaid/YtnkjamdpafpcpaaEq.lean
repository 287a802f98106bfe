/- PLAIN LEMMAS: sheets and pairs of numbers compared by == are compared number by number. -/
import Derived.Test.YtnkjamdpafpcpaaSa
import Derived.ChangeKeysEq
import Derived.WalkKit
import Derived.ProofKit
import Derived.OpenShut
import Derived.Lib.Hide
import Derived.WalkSpells
import Derived.Below
import Derived.BigQuiet
import Derived.LoopN
namespace Go.Proofs.Ytnkjamdpafpcpaa
open Go.ChangeShapes Go.WideShapes Go.ChangeAt Go.RowKit
set_option linter.unusedVariables false
theorem items_step (d : Nat) (xs ys : Array Value) (is : List Nat) (i : Nat) (a b : Int) (r : Bool) (w : World) (ha : (part 3 xs (i * 1)).run Try.prog w = .ok (.int .i64 a) w) (hb : (part 3 ys (i * 1)).run Try.prog w = .ok (.int .i64 b) w)
    (hr : (Op.eqItems (d + 1) 3 1 xs ys is).run Try.prog w = .ok r w) : (Op.eqItems (d + 1) 3 1 xs ys (i :: is)).run Try.prog w = .ok (a == b && r) w := by
  simp only [Op.eqItems, Sem.run_bind, ha, hb, Result.andThen_ok, run_equalIn_int w d 3 .i64 .i64 a b Try.underlying3]
  cases a == b
  · rfl
  · exact hr
theorem eq22 (d : Nat) (a0 a1 a2 a3 a4 a5 : Int) (b0 b1 b2 b3 b4 b5 : Int) (w : World) : (Op.equalIn (d + 1 + 1) 22 (.agg #[.int .i64 a0, .int .i64 a1, .int .i64 a2, .int .i64 a3, .int .i64 a4, .int .i64 a5]) (.agg #[.int .i64 b0, .int .i64 b1, .int .i64 b2, .int .i64 b3, .int .i64 b4, .int .i64 b5])).run Try.prog w = .ok (a0 == b0 && (a1 == b1 && (a2 == b2 && (a3 == b3 && (a4 == b4 && (a5 == b5 && true)))))) w := by
  rw [run_equalIn_array w (d + 1) _ _ Try.underlying22 (i := (Try.prog.info? 3).get (by kernel_rfl)) (by kernel_rfl)]
  have e : Try.prog.cellsOf 3 = 1 := by kernel_rfl
  have hl : List.range 6 = [0, 1, 2, 3, 4, 5] := rfl
  rw [e, hl]
  iterate 6 refine items_step _ _ _ _ _ _ _ _ _ (by kernel_rfl) (by kernel_rfl) ?_
  rfl
theorem eq29 (x y u v : Int) (w : World) : (binOp .eql 69 (.agg #[.int .i64 x, .int .i64 y]) (.agg #[.int .i64 u, .int .i64 v])).run Try.prog w = .ok (.bool (x == u && y == v)) w := by
  rw [run_eql_struct]
  have h : (Op.equalIn 10000 69 (.agg #[.int .i64 x, .int .i64 y]) (.agg #[.int .i64 u, .int .i64 v])).run Try.prog w = .ok (x == u && (y == v && true)) w := by
    rw [run_equalIn_array w 9999 _ _ Try.underlying69 (i := (Try.prog.info? 3).get (by kernel_rfl)) (by kernel_rfl)]
    have e : Try.prog.cellsOf 3 = 1 := by kernel_rfl
    have hl : List.range 2 = [0, 1] := rfl
    rw [e, hl]
    iterate 2 refine items_step _ _ _ _ _ _ _ _ _ (by kernel_rfl) (by kernel_rfl) ?_
    rfl
  rw [h, Bool.and_true]
  rfl
theorem eq26 (a0 a1 a2 a3 a4 a5 : Int) (b0 b1 b2 b3 b4 b5 : Int) (w : World) : (binOp .eql 28 (.agg #[.int .i64 a0, .int .i64 a1, .int .i64 a2, .int .i64 a3, .int .i64 a4, .int .i64 a5]) (.agg #[.int .i64 b0, .int .i64 b1, .int .i64 b2, .int .i64 b3, .int .i64 b4, .int .i64 b5])).run Try.prog w = .ok (.bool (a0 == b0 && a1 == b1 && a2 == b2 && a3 == b3 && a4 == b4 && a5 == b5)) w := by
  rw [run_eql_struct, run_equalIn_agg w 9999 28 _ _ (by kernel_rfl) (by kernel_rfl)]
  have hf : (Try.prog.fieldsOf 28).toList = [(Try.prog.fieldsOf 28)[0]!] := by kernel_rfl
  have ht : ((Try.prog.fieldsOf 28)[0]!).type = 22 := by kernel_rfl
  have hn : ((Try.prog.fieldsOf 28)[0]!).name ≠ "_" := by decide +kernel
  have hp : ∀ (c0 c1 c2 c3 c4 c5 : Int), (part 22 #[.int .i64 c0, .int .i64 c1, .int .i64 c2, .int .i64 c3, .int .i64 c4, .int .i64 c5] ((Try.prog.fieldsOf 28)[0]!).offset).run Try.prog w = .ok (.agg #[.int .i64 c0, .int .i64 c1, .int .i64 c2, .int .i64 c3, .int .i64 c4, .int .i64 c5]) w := fun c0 c1 c2 c3 c4 c5 => by kernel_rfl
  have hE := eq22 9997 a0 a1 a2 a3 a4 a5 b0 b1 b2 b3 b4 b5 w
  rw [hf]
  simp only [Op.eqFields, Sem.run_bind, Sem.run_ite, ht]
  rw [if_pos hn]
  simp only [hp, Result.andThen_ok]
  rw [show (9999 : Nat) = 9997 + 1 + 1 from rfl, hE]
  have hb : (a0 == b0 && (a1 == b1 && (a2 == b2 && (a3 == b3 && (a4 == b4 && (a5 == b5 && true)))))) = (a0 == b0 && a1 == b1 && a2 == b2 && a3 == b3 && a4 == b4 && a5 == b5) := by simp only [Bool.and_true, Bool.and_assoc]
  rw [hb]
  generalize (a0 == b0 && a1 == b1 && a2 == b2 && a3 == b3 && a4 == b4 && a5 == b5) = r
  cases r <;> rfl
end Go.Proofs.Ytnkjamdpafpcpaa
