/- PLAIN LEMMAS: pictures compared by == are compared number by number. -/
import Derived.Test.YtcjomhjgjdjigaaEq
import Derived.Test.YtcjomhjgjdjigaaPv8
import Derived.WalkKit
import Derived.ProofKit
import Derived.OpenShut
import Derived.Lib.Hide
import Derived.WalkSpells
import Derived.Below
import Derived.BigQuiet
import Derived.LoopN
namespace Go.Proofs.Ytcjomhjgjdjigaa
open Go.ChangeShapes Go.WideShapes Go.ChangeAt Go.RowKit
set_option linter.unusedVariables false
/-- Whether two pictures are the same. -/
def peq (a b : Nat → Int) : Bool := (List.range 36).all fun j => a j == b j
theorem peq_iff (a b : Nat → Int) : peq a b = true ↔ ∀ j, j < 36 → a j = b j := by
  unfold peq
  simp only [List.all_eq_true, List.mem_range, beq_iff_eq]
theorem items_step6 (d : Nat) (xs ys : Array Value) (is : List Nat) (i : Nat) (a0 a1 a2 a3 a4 a5 b0 b1 b2 b3 b4 b5 : Int) (r : Bool) (w : World) (ha : (part 22 xs (i * 6)).run Try.prog w = .ok (.agg #[.int .i64 a0, .int .i64 a1, .int .i64 a2, .int .i64 a3, .int .i64 a4, .int .i64 a5]) w) (hb : (part 22 ys (i * 6)).run Try.prog w = .ok (.agg #[.int .i64 b0, .int .i64 b1, .int .i64 b2, .int .i64 b3, .int .i64 b4, .int .i64 b5]) w)
    (hr : (Op.eqItems (d + 1 + 1) 22 6 xs ys is).run Try.prog w = .ok r w) : (Op.eqItems (d + 1 + 1) 22 6 xs ys (i :: is)).run Try.prog w = .ok ((a0 == b0 && (a1 == b1 && (a2 == b2 && (a3 == b3 && (a4 == b4 && (a5 == b5 && true)))))) && r) w := by
  simp only [Op.eqItems, Sem.run_bind, ha, hb, Result.andThen_ok, eq22 d a0 a1 a2 a3 a4 a5 b0 b1 b2 b3 b4 b5]
  cases (a0 == b0 && (a1 == b1 && (a2 == b2 && (a3 == b3 && (a4 == b4 && (a5 == b5 && true))))))
  · rfl
  · exact hr
theorem partP (m : Nat → Int) (w : World) : (part 22 (cs36 m).toArray (0 * 6)).run Try.prog w = .ok (.agg #[.int .i64 (m 0), .int .i64 (m 1), .int .i64 (m 2), .int .i64 (m 3), .int .i64 (m 4), .int .i64 (m 5)]) w ∧ (part 22 (cs36 m).toArray (1 * 6)).run Try.prog w = .ok (.agg #[.int .i64 (m 6), .int .i64 (m 7), .int .i64 (m 8), .int .i64 (m 9), .int .i64 (m 10), .int .i64 (m 11)]) w ∧ (part 22 (cs36 m).toArray (2 * 6)).run Try.prog w = .ok (.agg #[.int .i64 (m 12), .int .i64 (m 13), .int .i64 (m 14), .int .i64 (m 15), .int .i64 (m 16), .int .i64 (m 17)]) w ∧ (part 22 (cs36 m).toArray (3 * 6)).run Try.prog w = .ok (.agg #[.int .i64 (m 18), .int .i64 (m 19), .int .i64 (m 20), .int .i64 (m 21), .int .i64 (m 22), .int .i64 (m 23)]) w ∧ (part 22 (cs36 m).toArray (4 * 6)).run Try.prog w = .ok (.agg #[.int .i64 (m 24), .int .i64 (m 25), .int .i64 (m 26), .int .i64 (m 27), .int .i64 (m 28), .int .i64 (m 29)]) w ∧ (part 22 (cs36 m).toArray (5 * 6)).run Try.prog w = .ok (.agg #[.int .i64 (m 30), .int .i64 (m 31), .int .i64 (m 32), .int .i64 (m 33), .int .i64 (m 34), .int .i64 (m 35)]) w :=
  ⟨by kernel_rfl, by kernel_rfl, by kernel_rfl, by kernel_rfl, by kernel_rfl, by kernel_rfl⟩
set_option maxRecDepth 8000 in
theorem eq23 (d : Nat) (a b : Nat → Int) (w : World) : (Op.equalIn (d + 1 + 1 + 1) 23 (pv a) (pv b)).run Try.prog w = .ok (peq a b) w := by
  unfold pv
  rw [run_equalIn_array w (d + 1 + 1) _ _ Try.underlying23 (i := (Try.prog.info? 22).get (by kernel_rfl)) (by kernel_rfl)]
  have e : Try.prog.cellsOf 22 = 6 := by kernel_rfl
  have hl : List.range 6 = [0, 1, 2, 3, 4, 5] := rfl
  rw [e, hl]
  obtain ⟨p0, p1, p2, p3, p4, p5⟩ := partP a w
  obtain ⟨q0, q1, q2, q3, q4, q5⟩ := partP b w
  have H := items_step6 d _ _ _ 0 _ _ _ _ _ _ _ _ _ _ _ _ _ w p0 q0 (items_step6 d _ _ _ 1 _ _ _ _ _ _ _ _ _ _ _ _ _ w p1 q1 (items_step6 d _ _ _ 2 _ _ _ _ _ _ _ _ _ _ _ _ _ w p2 q2 (items_step6 d _ _ _ 3 _ _ _ _ _ _ _ _ _ _ _ _ _ w p3 q3 (items_step6 d _ _ _ 4 _ _ _ _ _ _ _ _ _ _ _ _ _ w p4 q4 (items_step6 d _ _ [] 5 _ _ _ _ _ _ _ _ _ _ _ _ true w p5 q5 rfl)))))
  rw [H]
  congr 1
  have hr : List.range 36 = [0, 1, 2, 3, 4, 5, 6, 7, 8, 9, 10, 11, 12, 13, 14, 15, 16, 17, 18, 19, 20, 21, 22, 23, 24, 25, 26, 27, 28, 29, 30, 31, 32, 33, 34, 35] := rfl
  unfold peq
  rw [hr]
  simp only [List.all_cons, List.all_nil, Bool.and_true, Bool.and_assoc]
theorem eqA (a b : Nat → Int) (w : World) : (binOp .eql 23 (pv a) (pv b)).run Try.prog w = .ok (.bool (peq a b)) w := by
  have h := eq23 9997 a b w
  unfold pv at h ⊢
  rw [run_eql_struct, h]
  rfl
theorem eqP (a b : Nat → Int) (w : World) : (binOp .eql 27 (pv a) (pv b)).run Try.prog w = .ok (.bool (peq a b)) w := by
  have hE := eq23 9996 a b w
  unfold pv at hE ⊢
  rw [run_eql_struct, run_equalIn_agg w 9999 27 _ _ (by kernel_rfl) (by kernel_rfl)]
  have hf : (Try.prog.fieldsOf 27).toList = [(Try.prog.fieldsOf 27)[0]!] := by kernel_rfl
  have ht : ((Try.prog.fieldsOf 27)[0]!).type = 23 := by kernel_rfl
  have hn : ((Try.prog.fieldsOf 27)[0]!).name ≠ "_" := by decide +kernel
  have hp : ∀ (m : Nat → Int), (part 23 (cs36 m).toArray ((Try.prog.fieldsOf 27)[0]!).offset).run Try.prog w = .ok (.agg (cs36 m).toArray) w := fun m => by kernel_rfl
  rw [hf]
  simp only [Op.eqFields, Sem.run_bind, Sem.run_ite, ht]
  rw [if_pos hn]
  simp only [hp, Result.andThen_ok]
  rw [show (9999 : Nat) = 9996 + 1 + 1 + 1 from rfl, hE]
  generalize peq a b = r
  cases r <;> rfl
theorem gA (a b : Nat → Int) (x y : Operand) (w : World) : (eqGuard .eql 23 x y (pv a) (pv b)).run Try.prog w = .ok () w := run_eqGuard_agg (P := Try.prog) (w := w) .eql 23 x y _ _ (by kernel_rfl)
theorem gP (a b : Nat → Int) (x y : Operand) (w : World) : (eqGuard .eql 27 x y (pv a) (pv b)).run Try.prog w = .ok () w := run_eqGuard_agg (P := Try.prog) (w := w) .eql 27 x y _ _ (by kernel_rfl)
end Go.Proofs.Ytcjomhjgjdjigaa
