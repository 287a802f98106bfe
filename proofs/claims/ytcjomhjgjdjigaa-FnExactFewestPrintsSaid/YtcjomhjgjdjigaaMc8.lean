/- PLAIN LEMMAS: the picture of prints made in an order; CONTRACTS: valid prints. -/
import Derived.Test.YtcjomhjgjdjigaaMb9
import Derived.Test.YtcjomhjgjdjigaaNv8
import Derived.WalkKit
import Derived.ProofKit
import Derived.OpenShut
import Derived.Lib.Hide
import Derived.WalkSpells
import Derived.Below
import Derived.BigQuiet
import Derived.LoopN
namespace Go.Proofs.Ytcjomhjgjdjigaa
open Go.ChangeShapes Go.WideShapes Go.ChangeAt Go.RowKit
set_option linter.unusedVariables false
/-- The cells of a print. -/
def gsP (p : Pn) : Nat → Nat → Bool := sf p.x.toNat p.y.toNat (cells6 p.a p.b p.c p.d p.e p.f)
theorem okR_form {p : Pn} (h : okR p = true) : p.cells = [.int .i64 p.k, .int .i64 (rowv ((cells6 p.a p.b p.c p.d p.e p.f) 0)), .int .i64 (rowv ((cells6 p.a p.b p.c p.d p.e p.f) 1)), .int .i64 (rowv ((cells6 p.a p.b p.c p.d p.e p.f) 2)), .int .i64 (rowv ((cells6 p.a p.b p.c p.d p.e p.f) 3)), .int .i64 (rowv ((cells6 p.a p.b p.c p.d p.e p.f) 4)), .int .i64 (rowv ((cells6 p.a p.b p.c p.d p.e p.f) 5)), .int .i64 (p.x.toNat : Int), .int .i64 (p.y.toNat : Int)] ∧ p.x.toNat < 6 ∧ p.y.toNat < 6 ∧ (1 ≤ p.k ∧ p.k ≤ 4) := by
  unfold okR okr okc at h
  simp only [Bool.and_eq_true, decide_eq_true_eq] at h
  obtain ⟨⟨hk, ⟨⟨⟨⟨h0, h1⟩, h2⟩, h3⟩, h4⟩, h5⟩, ⟨hx0, hx1⟩, hy0, hy1⟩ := h
  refine ⟨?_, by omega, by omega, hk⟩
  have e0 : p.a = rowv ((cells6 p.a p.b p.c p.d p.e p.f) 0) := rowv_bits h0
  have e1 : p.b = rowv ((cells6 p.a p.b p.c p.d p.e p.f) 1) := rowv_bits h1
  have e2 : p.c = rowv ((cells6 p.a p.b p.c p.d p.e p.f) 2) := rowv_bits h2
  have e3 : p.d = rowv ((cells6 p.a p.b p.c p.d p.e p.f) 3) := rowv_bits h3
  have e4 : p.e = rowv ((cells6 p.a p.b p.c p.d p.e p.f) 4) := rowv_bits h4
  have e5 : p.f = rowv ((cells6 p.a p.b p.c p.d p.e p.f) 5) := rowv_bits h5
  rw [← e0, ← e1, ← e2, ← e3, ← e4, ← e5, show (p.x.toNat : Int) = p.x by omega, show (p.y.toNat : Int) = p.y by omega]
  rfl
theorem smade_p (m : Nat → Int) {p : Pn} (h : okR p = true) (w : World) : Calls Try.prog 93 #[pv m, .agg (p.cells).toArray] w fun e w' => e = .returned (pv (mp8 m p.k (gsP p) 36)) ∧ Below w.heap.size w w' := by
  obtain ⟨hc, hx, hy, _⟩ := okR_form h
  rw [hc]
  exact smade_f m p.k _ hx hy w
theorem iprinted_p (m : Nat → Int) {p : Pn} (h : okR p = true) (w : World) : Calls Try.prog 110 #[pv m, .agg (p.cells).toArray] w fun e w' => e = .returned (pv (mp8 m p.k (gsP p) 36)) ∧ Below w.heap.size w w' := by
  obtain ⟨hc, hx, hy, _⟩ := okR_form h
  rw [hc]
  exact iprinted_f m p.k _ hx hy w
theorem scell_p {p : Pn} (h : okR p = true) (w : World) : Calls Try.prog 86 #[.agg (p.cells).toArray] w fun e w' => e = .returned (.agg #[.int .i64 (rowv (gsP p 0)), .int .i64 (rowv (gsP p 1)), .int .i64 (rowv (gsP p 2)), .int .i64 (rowv (gsP p 3)), .int .i64 (rowv (gsP p 4)), .int .i64 (rowv (gsP p 5))]) ∧ Below w.heap.size w w' := by
  obtain ⟨hc, hx, hy, _⟩ := okR_form h
  rw [hc]
  exact scell_f p.k _ hx hy w
theorem isheet_p {p : Pn} (h : okR p = true) (w : World) : Calls Try.prog 95 #[.agg (p.cells).toArray] w fun e w' => e = .returned (.agg #[.int .i64 (rowv (gsP p 0)), .int .i64 (rowv (gsP p 1)), .int .i64 (rowv (gsP p 2)), .int .i64 (rowv (gsP p 3)), .int .i64 (rowv (gsP p 4)), .int .i64 (rowv (gsP p 5))]) ∧ Below w.heap.size w w' := by
  obtain ⟨hc, hx, hy, _⟩ := okR_form h
  rw [hc]
  exact isheet_f p.k _ hx hy w
/-- The picture behind one more print. -/
def md8 (m : Nat → Int) (p : Pn) : Nat → Int := mp8 m p.k (gsP p) 36
/-- The picture of the prints at some places, made in their order. -/
def al8 (z : List Pn) (o : List Nat) : Nat → Int := o.foldl (fun m i => md8 m (z.getD i pn0)) fun _ => 0
theorem al8_succ (z : List Pn) (o : List Nat) {i : Nat} (hi : i < o.length) (hz : o[i] < z.length) : al8 z (o.take (i + 1)) = md8 (al8 z (o.take i)) z[o[i]] := by
  unfold al8
  rw [List.take_add_one, List.getElem?_eq_getElem hi, Option.toList_some, List.foldl_append]
  simp only [List.foldl_cons, List.foldl_nil]
  rw [List.getD_eq_getElem?_getD, List.getElem?_eq_getElem hz]
  rfl
theorem KR.sets {n g : Nat} {l : List (Nat × Obj)} {w : World} : ∀ (vs : List Value) (o : Nat) {U : World}, KR n l w U → w.heap.size + n ≤ g → KR n l w (U.setCells g o vs)
  | [], _, _, h, _ => h
  | v :: r, o, U, h, hg => by
    rw [World.setCells]
    exact KR.sets r (o + 1) (h.set hg) hg
theorem grow_sets (b : Nat) : ∀ (vs : List Value) (o : Nat) (w : World), w.grownBy (w.setCells b o vs) (some b)
  | [], _, _ => ⟨rfl, rfl, rfl, Nat.le_refl _, fun _ _ _ => rfl⟩
  | v :: r, o, w => by
    rw [World.setCells]
    exact gtr9 (grow_set w ⟨b, o, none⟩ v) (grow_sets b r (o + 1) _)
/-- The numbers in a row of their own. -/
def On8 (B g c : Nat) (o : List Nat) (W : World) : Prop := W.ownsRow B 3 1 (.slice (some ⟨g, 0, none⟩) o.length c) o.length (nvs o)
theorem On8.below {B g c M : Nat} {o : List Nat} {W W' : World} (h : On8 B g c o W) (hb : Below M W W') (hM : M = W.heap.size) : On8 B g c o W' := h.kept (grown_below hb hM) (.inr (by simp [Value.ownBlock]))
theorem On8.at {B g c : Nat} {o : List Nat} {W : World} (h : On8 B g c o W) {i : Nat} (hi : i < o.length) : W.cell? ⟨g, i, none⟩ = some (.int .i64 (o[i] : Int)) := own_at h (nvs_at o i hi)
/-- Midway: rows known, the picture so far in a block, the prints and the order in rows of their own. -/
def Al9 (w : World) (n : Nat) (rows : List (Nat × Obj)) (gp : Nat) (m : Nat → Int) (z : List Pn) (gz cz : Nat) (o : List Nat) (go co : Nat) (U : World) : Prop :=
  KR n rows w U ∧ U.heap[gp]? = some (pb 27 m) ∧ w.heap.size + n ≤ gp ∧ gp < U.heap.size ∧ Op9 0 gz cz z U ∧ On8 0 go co o U ∧ gz ≠ gp ∧ go ≠ gp
theorem Al9.below {w U V : World} {n : Nat} {rows : List (Nat × Obj)} {gp : Nat} {m : Nat → Int} {z : List Pn} {gz cz : Nat} {o : List Nat} {go co M : Nat} (h : Al9 w n rows gp m z gz cz o go co U) (hb : Below M U V) (hM : M = U.heap.size) : Al9 w n rows gp m z gz cz o go co V := by
  obtain ⟨h1, h2, h3, h4, h5, h6, h7⟩ := h
  exact ⟨h1.far hb hM, rowk h2 hb hM, h3, Nat.lt_of_lt_of_le h4 hb.size, h5.below hb hM, h6.below hb hM, h7⟩
theorem Al9.put {w U : World} {n : Nat} {rows : List (Nat × Obj)} {gp : Nat} {m : Nat → Int} {z : List Pn} {gz cz : Nat} {o : List Nat} {go co : Nat} (q : Nat → Int) (h : Al9 w n rows gp m z gz cz o go co U) : Al9 w n rows gp q z gz cz o go co (U.setCells gp 0 (cs36 q)) := by
  obtain ⟨h1, h2, h3, h4, h5, h6, h7, h8⟩ := h
  exact ⟨h1.sets _ _ h3, pb_sets q h2, h3, by rw [setCells_size]; exact h4, h5.kept (grow_sets gp _ _ U) (.inr (by simp [Value.ownBlock, h7])), h6.kept (grow_sets gp _ _ U) (.inr (by simp [Value.ownBlock, h8])), h7, h8⟩
section
variable {P : Program} {ops : Array Oper} {rest : List Oper} {a : Act} {w : World} {Q : Act → Prop} {dst : Option Tmp} {type : TypeId} {pos : String} {after : Array Edge} {x : Operand} {ty : TypeId}
theorem wpStillL {v : Value} {A : Addr} (hrun : (loadVar ty A).run P w = .ok v w) (hx : a.eval x = .pointer (some A)) (h : wpStill P ops w Q rest (a.put dst v)) : wpStill P ops w Q (⟨dst, .load ty x, type, pos, after, none⟩ :: rest) a := by
  have hy : (execOp a.eval ⟨dst, .load ty x, type, pos, after, none⟩).run P w = .ok (.value v) w := by
    unfold execOp
    simp only [hx, Instr.loadAt, Instr.sureAddr, Sem.run_bind, Sem.run_pure, Result.andThen_ok, hrun]
  refine wpStill_step fun K hK => ?_
  have hw : Region.wanted ⟨dst, .load ty x, type, pos, after, none⟩ (yielded ops a.tmps) = true := rfl
  rw [if_pos hw]
  unfold Oper.still
  rw [hy, Oper.stillUpon_value]
  exact hK _ h
end
theorem run_load9 {X : World} {g o : Nat} {p : Pn} (hc : X.rangeAt g o p.cells) : (loadVar 38 ⟨g, o, none⟩).run Try.prog X = .ok (.agg (p.cells).toArray) X :=
  run_loadVar_mid X g o 38 p.cells _ hc Try.underlying38 rfl (by kernel_rfl)
theorem run_loadP {X : World} {g : Nat} {m : Nat → Int} (h : X.heap[g]? = some (pb 27 m)) : (loadVar 27 ⟨g, 0, none⟩).run Try.prog X = .ok (pv m) X :=
  run_load36 h 27 _ Try.underlying27 rfl (by kernel_rfl)
theorem run_loadP2 {X : World} {g : Nat} {m : Nat → Int} (h : X.heap[g]? = some (pb 27 m)) (U : World) (hU : U.heap = X.heap) : (loadVar 27 ⟨g, 0, none⟩).run Try.prog U = .ok (pv m) U := run_loadP (by rw [hU]; exact h)
theorem cell_heap {U X : World} (hU : U.heap = X.heap) (A : Addr) : U.cell? A = X.cell? A := by
  unfold World.cell?
  rw [hU]
theorem run_load92 {X : World} {g o : Nat} {p : Pn} (hc : X.rangeAt g o p.cells) (U : World) (hU : U.heap = X.heap) : (loadVar 38 ⟨g, o, none⟩).run Try.prog U = .ok (.agg (p.cells).toArray) U :=
  run_load9 (fun j v hv => by rw [cell_heap hU]; exact hc j v hv)
theorem kr1_two (w : World) (a b : Obj) : KR 1 [(w.heap.size, a)] w ((w.alloc a).alloc b) := by
  refine ⟨?_, by simp, by (repeat (first | exact Below.refl _ _ | assumption | refine Below.setCell ?_ (by first | (simp; done) | (simp; omega)) _ | refine Below.alloc ?_ (by first | (simp; done) | (simp; omega)) _ | refine Below.drew ?_))⟩
  intro p hp
  simp only [List.mem_cons, List.mem_nil_iff, or_false] at hp
  subst hp
  exact ⟨by simp, alloc_past (alloc_at rfl)⟩
theorem alP (W : World) : (Instr.alloc 27 true (.tuple #[])).run Try.prog W = .ok (.pointer (some ⟨W.heap.size, 0, none⟩)) (W.alloc (pb 27 fun _ => 0)) := by kernel_rfl
theorem bdP (W : World) : (Instr.build 27 #[]).run Try.prog W = .ok (pv fun _ => 0) W := by kernel_rfl
section
variable {ops : Array Oper} {rest : List Oper} {a : Act} {w : World} {Q : Exit → Act → World → Prop} {dst : Option Tmp} {type : TypeId} {pos : String} {after : Array Edge}
theorem wpAlP (N : Nat) (hN : w.heap.size = N) (h : wpList Try.prog ops Q rest (a.put dst (.pointer (some ⟨N, 0, none⟩))) (w.alloc (pb 27 fun _ => 0))) : wpList Try.prog ops Q (⟨dst, .alloc 27, type, pos, after, none⟩ :: rest) a w := by
  subst hN
  refine wpList_plain rfl fun K hK => ?_
  unfold Oper.wp execOp
  simp only [Sem.run_bind, Sem.run_pure, Result.andThen_ok, alP]
  exact hK _ _ h
theorem wpBdP (h : wpList Try.prog ops Q rest (a.put dst (pv fun _ => 0)) w) : wpList Try.prog ops Q (⟨dst, .build 27 #[], type, pos, after, none⟩ :: rest) a w := by
  refine wpList_plain rfl fun K hK => ?_
  unfold Oper.wp execOp
  simp only [Array.map_empty, Sem.run_bind, Sem.run_pure, Result.andThen_ok, bdP]
  exact hK _ _ h
end
end Go.Proofs.Ytcjomhjgjdjigaa
