/- CONTRACTS: the first image of a sheet under a list of motions. -/
import Derived.Test.YtkobgklpcpoglaaLx
import Derived.Test.YtkobgklpcpoglaaKc
import Derived.Test.YtkobgklpcpoglaaRh
import Derived.WalkKit
import Derived.ProofKit
import Derived.OpenShut
import Derived.Lib.Hide
import Derived.WalkSpells
import Derived.Below
import Derived.BigQuiet
import Derived.LoopN
namespace Go.Proofs.Ytkobgklpcpoglaa
open Go.ChangeShapes Go.WideShapes Go.ChangeAt Go.RowKit
set_option linter.unusedVariables false
open Go.Maps
/-- Whether one motion's image comes before another's. -/
def lm (f : Nat → Nat → Bool) (c d : Nat × Nat × Nat) : Bool := lx (rowv (sf c.2.1 c.2.2 (tf c.1 f) 0)) (rowv (sf c.2.1 c.2.2 (tf c.1 f) 1)) (rowv (sf c.2.1 c.2.2 (tf c.1 f) 2)) (rowv (sf c.2.1 c.2.2 (tf c.1 f) 3)) (rowv (sf c.2.1 c.2.2 (tf c.1 f) 4)) (rowv (sf c.2.1 c.2.2 (tf c.1 f) 5)) (rowv (sf d.2.1 d.2.2 (tf d.1 f) 0)) (rowv (sf d.2.1 d.2.2 (tf d.1 f) 1)) (rowv (sf d.2.1 d.2.2 (tf d.1 f) 2)) (rowv (sf d.2.1 d.2.2 (tf d.1 f) 3)) (rowv (sf d.2.1 d.2.2 (tf d.1 f) 4)) (rowv (sf d.2.1 d.2.2 (tf d.1 f) 5))
def bs (f : Nat → Nat → Bool) (b : Nat × Nat × Nat) (l : List (Nat × Nat × Nat)) : Nat × Nat × Nat := l.foldl (fun b c => if lm f c b then c else b) b
theorem bs_snoc (f : Nat → Nat → Bool) (b : Nat × Nat × Nat) (l : List (Nat × Nat × Nat)) (c : Nat × Nat × Nat) : bs f b (l ++ [c]) = if lm f c (bs f b l) then c else bs f b l := by unfold bs; rw [List.foldl_append]; rfl
theorem bs_mem (f : Nat → Nat → Bool) (b : Nat × Nat × Nat) : ∀ (l : List (Nat × Nat × Nat)), bs f b l = b ∨ bs f b l ∈ l := by
  intro l
  induction l generalizing b with
  | nil => exact .inl rfl
  | cons c l ih =>
    unfold bs
    rw [List.foldl_cons]
    rcases ih (if lm f c b then c else b) with h | h
    · unfold bs at h
      rw [h]
      split
      · exact .inr (List.mem_cons_self ..)
      · exact .inl rfl
    · exact .inr (List.mem_cons_of_mem _ h)
theorem take_snoc {l : List (Nat × Nat × Nat)} {i : Nat} (hi : i < l.length) : l.take (i + 1) = l.take i ++ [l[i]] := by
  rw [List.take_add_one, List.getElem?_eq_getElem hi]
  rfl
def o3 (d : Nat × Nat × Nat) : Obj := .cells #[.int .i64 (d.1 : Int), .int .i64 (d.2.1 : Int), .int .i64 (d.2.2 : Int)] 62 (0, 0)
/-- Midway: the motions' row and the map stand; the block gf holds the first motion so far. -/
def Rf (w : World) (f : Nat → Nat → Bool) (l : List (Nat × Nat × Nat)) (g1 c1 b gf : Nat) (d : Nat × Nat × Nat) (W : World) : Prop :=
  W.ownsRow 0 62 3 (.slice (some ⟨g1, 0, none⟩) l.length c1) l.length (tv l) ∧ (∃ D : DataW Value, W.ownsMap Try.prog 62 RV b l.length D ∧ Imgs f l D) ∧ Below w.heap.size w W ∧ W.heap[gf]? = some (o3 d) ∧ gf ≠ g1 ∧ gf ≠ b ∧ w.heap.size + 3 ≤ gf ∧ W.heap[w.heap.size + 1]? = some (.cells #[.int .i64 0, .int .i64 0, .int .i64 0, .int .i64 0, .int .i64 0, .int .i64 0] 25 (0, 0)) ∧ W.heap[w.heap.size + 2]? = some (.cells #[.int .i64 0, .int .i64 0, .int .i64 0] 62 (0, 0))
theorem Rf.below {w W W' : World} {f : Nat → Nat → Bool} {l : List (Nat × Nat × Nat)} {g1 c1 b gf N : Nat} {d : Nat × Nat × Nat} (h : Rf w f l g1 c1 b gf d W) (hb : Below N W W') (hN : N = W.heap.size) : Rf w f l g1 c1 b gf d W' := by
  obtain ⟨h1, ⟨D, h2, h3⟩, h4, h5, h6, h7, h8, h9, h10⟩ := h
  exact ⟨h1.kept (grown_below hb hN) (.inr (by simp [Value.ownBlock])), ⟨D, h2.kept (grown_below hb hN) (by simp), h3⟩, below_of h4 hb (by have := h4.size; omega), rowk h5 hb hN, h6, h7, h8, rowk h9 hb hN, rowk h10 hb hN⟩
theorem set3r {k : Nat} {W : World} {v0 v1 v2 : Value} {t : TypeId} (u0 u1 u2 : Value) (h : W.heap[k]? = some (Obj.cells #[v0, v1, v2] t (0, 0))) : (((W.setCell ⟨k, 0, none⟩ u0).setCell ⟨k, 1, none⟩ u1).setCell ⟨k, 2, none⟩ u2).heap[k]? = some (Obj.cells #[u0, u1, u2] t (0, 0)) := by
  have e0 : (W.setCell ⟨k, 0, none⟩ u0).heap[k]? = some (Obj.cells #[u0, v1, v2] t (0, 0)) := heap_setCell_same W k 0 _ t u0 h
  have e1 : ((W.setCell ⟨k, 0, none⟩ u0).setCell ⟨k, 1, none⟩ u1).heap[k]? = some (Obj.cells #[u0, u1, v2] t (0, 0)) := heap_setCell_same _ k 1 _ t u1 e0
  exact heap_setCell_same _ k 2 _ t u2 e1
theorem grown_set (w : World) (a : Addr) (u : Value) : w.grownBy (w.setCell a u) (some a.block) :=
  ⟨rfl, rfl, rfl, by simp, fun k _ hk => Below.heap_setCell _ _ _ _ (fun e => hk (by rw [e]))⟩
theorem Rf.put {w W : World} {f : Nat → Nat → Bool} {l : List (Nat × Nat × Nat)} {g1 c1 b gf : Nat} {d : Nat × Nat × Nat} (k x y : Nat) (h : Rf w f l g1 c1 b gf d W) : Rf w f l g1 c1 b gf (k, x, y) (((W.setCell ⟨gf, 0, none⟩ (.int .i64 (k : Int))).setCell ⟨gf, 1, none⟩ (.int .i64 (x : Int))).setCell ⟨gf, 2, none⟩ (.int .i64 (y : Int))) := by
  obtain ⟨h1, ⟨D, h2, h3⟩, h4, h5, h6, h7, h8, h9, h10⟩ := h
  have hg := ((grown_set W ⟨gf, 0, none⟩ (.int .i64 (k : Int))).trans (grown_set _ ⟨gf, 1, none⟩ (.int .i64 (x : Int)))).trans (grown_set _ ⟨gf, 2, none⟩ (.int .i64 (y : Int)))
  exact ⟨h1.kept hg (.inr (by simp only [Value.ownBlock, ne_eq, Option.some.injEq]; exact fun e => h6 e.symm)), ⟨D, h2.kept hg (by simp only [ne_eq, Option.some.injEq]; exact fun e => h7 e.symm), h3⟩, ((h4.setCell (by simp; omega) _).setCell (by simp; omega) _).setCell (by simp; omega) _, set3r _ _ _ h5, h6, h7, h8, by rw [Below.heap_setCell _ _ _ _ (by simp; omega), Below.heap_setCell _ _ _ _ (by simp; omega), Below.heap_setCell _ _ _ _ (by simp; omega)]; exact h9, by rw [Below.heap_setCell _ _ _ _ (by simp; omega), Below.heap_setCell _ _ _ _ (by simp; omega), Below.heap_setCell _ _ _ _ (by simp; omega)]; exact h10⟩
/-- What the region reads: the motion, the first one so far, and the images of both. -/
theorem rf_facts {w U : World} {f : Nat → Nat → Bool} {l : List (Nat × Nat × Nat)} {g1 c1 b gf : Nat} {d : Nat × Nat × Nat} (hm : Mos l) {c : Nat × Nat × Nat} (hc : c ∈ l) (hd : d ∈ l) (h : Rf w f l g1 c1 b gf d U) : (Instr.lookup 152 (.map (some b)) (mkey c.1 c.2.1 c.2.2) false).run Try.prog U = .ok (img f c) U ∧ (Instr.lookup 152 (.map (some b)) (mkey d.1 d.2.1 d.2.2) false).run Try.prog U = .ok (img f d) U ∧ U.cell? ⟨gf, 0, none⟩ = some (.int .i64 (d.1 : Int)) ∧ U.cell? ⟨gf, 1, none⟩ = some (.int .i64 (d.2.1 : Int)) ∧ U.cell? ⟨gf, 2, none⟩ = some (.int .i64 (d.2.2 : Int)) := by
  obtain ⟨_, ⟨D, h7, h8⟩, _, h5, _⟩ := h
  obtain ⟨m1, m2, m3⟩ := hm c hc
  obtain ⟨n1, n2, n3⟩ := hm d hd
  exact ⟨look_img h7 h8 hc m1 m2 m3, look_img h7 h8 hd n1 n2 n3, cell_of_row U _ 0 _ _ _ h5, cell_of_row U _ 1 _ _ _ h5, cell_of_row U _ 2 _ _ _ h5⟩
theorem set3o {k g : Nat} {W : World} {o : Obj} (u0 u1 u2 : Value) (hne : g ≠ k) (h : W.heap[g]? = some o) : (((W.setCell ⟨k, 0, none⟩ u0).setCell ⟨k, 1, none⟩ u1).setCell ⟨k, 2, none⟩ u2).heap[g]? = some o := by
  rw [Below.heap_setCell _ _ _ _ hne, Below.heap_setCell _ _ _ _ hne, Below.heap_setCell _ _ _ _ hne]
  exact h
theorem set6p {a g : Nat} {W : World} {o : Obj} (u0 u1 u2 u3 u4 u5 : Value) (hne : g ≠ a + 1) (h : W.heap[g]? = some o) : ((((((W.setCell ⟨a + 1, 0, none⟩ u0).setCell ⟨a + 1, 1, none⟩ u1).setCell ⟨a + 1, 2, none⟩ u2).setCell ⟨a + 1, 3, none⟩ u3).setCell ⟨a + 1, 4, none⟩ u4).setCell ⟨a + 1, 5, none⟩ u5).heap[g]? = some o := by
  rw [Below.heap_setCell _ _ _ _ hne, Below.heap_setCell _ _ _ _ hne, Below.heap_setCell _ _ _ _ hne, Below.heap_setCell _ _ _ _ hne, Below.heap_setCell _ _ _ _ hne, Below.heap_setCell _ _ _ _ hne]
  exact h
theorem outs_x {W : World} {a : Nat} (u0 u1 u2 u3 u4 u5 v0 v1 v2 : Value) (hx : W.heap[a + 1]? = some (.cells #[.int .i64 0, .int .i64 0, .int .i64 0, .int .i64 0, .int .i64 0, .int .i64 0] 25 (0, 0))) : (((((((((W.setCell ⟨a + 1, 0, none⟩ u0).setCell ⟨a + 1, 1, none⟩ u1).setCell ⟨a + 1, 2, none⟩ u2).setCell ⟨a + 1, 3, none⟩ u3).setCell ⟨a + 1, 4, none⟩ u4).setCell ⟨a + 1, 5, none⟩ u5).setCell ⟨a + 1 + 1, 0, none⟩ v0).setCell ⟨a + 1 + 1, 1, none⟩ v1).setCell ⟨a + 1 + 1, 2, none⟩ v2).drew.heap[a + 1]? = some (.cells #[u0, u1, u2, u3, u4, u5] 25 (0, 0)) :=
  drew_row (set3o v0 v1 v2 (by omega) (row6 u0 u1 u2 u3 u4 u5 hx))
theorem outs_y {W : World} {a : Nat} (u0 u1 u2 u3 u4 u5 v0 v1 v2 : Value) (hy : W.heap[a + 1 + 1]? = some (.cells #[.int .i64 0, .int .i64 0, .int .i64 0] 62 (0, 0))) : (((((((((W.setCell ⟨a + 1, 0, none⟩ u0).setCell ⟨a + 1, 1, none⟩ u1).setCell ⟨a + 1, 2, none⟩ u2).setCell ⟨a + 1, 3, none⟩ u3).setCell ⟨a + 1, 4, none⟩ u4).setCell ⟨a + 1, 5, none⟩ u5).setCell ⟨a + 1 + 1, 0, none⟩ v0).setCell ⟨a + 1 + 1, 1, none⟩ v1).setCell ⟨a + 1 + 1, 2, none⟩ v2).drew.heap[a + 1 + 1]? = some (.cells #[v0, v1, v2] 62 (0, 0)) :=
  drew_row (set3r v0 v1 v2 (set6p u0 u1 u2 u3 u4 u5 (by omega) hy))
theorem outs_b {W w : World} {a : Nat} (u0 u1 u2 u3 u4 u5 v0 v1 v2 : Value) (h : Below a w W) : Below a w (((((((((W.setCell ⟨a + 1, 0, none⟩ u0).setCell ⟨a + 1, 1, none⟩ u1).setCell ⟨a + 1, 2, none⟩ u2).setCell ⟨a + 1, 3, none⟩ u3).setCell ⟨a + 1, 4, none⟩ u4).setCell ⟨a + 1, 5, none⟩ u5).setCell ⟨a + 1 + 1, 0, none⟩ v0).setCell ⟨a + 1 + 1, 1, none⟩ v1).setCell ⟨a + 1 + 1, 2, none⟩ v2).drew := by
  have n1 : a ≤ a + 1 := by omega
  have n2 : a ≤ a + 1 + 1 := by omega
  exact (((((((((h.setCell n1 _).setCell n1 _).setCell n1 _).setCell n1 _).setCell n1 _).setCell n1 _).setCell n2 _).setCell n2 _).setCell n2 _).drew
theorem sf_all {w U : World} {f : Nat → Nat → Bool} {l : List (Nat × Nat × Nat)} {g1 c1 b gf gc ck cx cy dk dx dy : Nat} (hm : Hid (Mos l)) (hc : Hid ((ck, cx, cy) ∈ l)) (hd : Hid ((dk, dx, dy) ∈ l)) (h : Rf w f l g1 c1 b gf (dk, dx, dy) U) (hq : U.heap[gc]? = some (o3 (ck, cx, cy))) : ((Instr.lookup 152 (.map (some b)) (.agg #[.int .i64 (ck : Int), .int .i64 (cx : Int), .int .i64 (cy : Int)]) false).run Try.prog U = .ok (.agg #[.int .i64 (rowv (sf cx cy (tf ck f) 0)), .int .i64 (rowv (sf cx cy (tf ck f) 1)), .int .i64 (rowv (sf cx cy (tf ck f) 2)), .int .i64 (rowv (sf cx cy (tf ck f) 3)), .int .i64 (rowv (sf cx cy (tf ck f) 4)), .int .i64 (rowv (sf cx cy (tf ck f) 5))]) U ∧ (Instr.lookup 152 (.map (some b)) (.agg #[.int .i64 (dk : Int), .int .i64 (dx : Int), .int .i64 (dy : Int)]) false).run Try.prog U = .ok (.agg #[.int .i64 (rowv (sf dx dy (tf dk f) 0)), .int .i64 (rowv (sf dx dy (tf dk f) 1)), .int .i64 (rowv (sf dx dy (tf dk f) 2)), .int .i64 (rowv (sf dx dy (tf dk f) 3)), .int .i64 (rowv (sf dx dy (tf dk f) 4)), .int .i64 (rowv (sf dx dy (tf dk f) 5))]) U ∧ U.cell? ⟨gf, 0, none⟩ = some (.int .i64 (dk : Int)) ∧ U.cell? ⟨gf, 1, none⟩ = some (.int .i64 (dx : Int)) ∧ U.cell? ⟨gf, 2, none⟩ = some (.int .i64 (dy : Int)) ∧ U.cell? ⟨gc, 0, none⟩ = some (.int .i64 (ck : Int)) ∧ U.cell? ⟨gc, 1, none⟩ = some (.int .i64 (cx : Int)) ∧ U.cell? ⟨gc, 2, none⟩ = some (.int .i64 (cy : Int)) ∧ Rf w f l g1 c1 b gf (dk, dx, dy) U ∧ U.heap[gc]? = some (o3 (ck, cx, cy))) := by
  obtain ⟨e1, e2, e3, e4, e5⟩ := rf_facts hm.out hc.out hd.out h
  exact ⟨e1, e2, e3, e4, e5, cell_of_row U _ 0 _ _ _ hq, cell_of_row U _ 1 _ _ _ hq, cell_of_row U _ 2 _ _ _ hq, h, hq⟩
theorem sf_keep {w U : World} {f : Nat → Nat → Bool} {l : List (Nat × Nat × Nat)} {g1 c1 b gf gc ck cx cy dk dx dy : Nat} (hm : Hid (Mos l)) (hc : Hid ((ck, cx, cy) ∈ l)) (hd : Hid ((dk, dx, dy) ∈ l)) {V : World} {N : Nat} (h : ((Instr.lookup 152 (.map (some b)) (.agg #[.int .i64 (ck : Int), .int .i64 (cx : Int), .int .i64 (cy : Int)]) false).run Try.prog U = .ok (.agg #[.int .i64 (rowv (sf cx cy (tf ck f) 0)), .int .i64 (rowv (sf cx cy (tf ck f) 1)), .int .i64 (rowv (sf cx cy (tf ck f) 2)), .int .i64 (rowv (sf cx cy (tf ck f) 3)), .int .i64 (rowv (sf cx cy (tf ck f) 4)), .int .i64 (rowv (sf cx cy (tf ck f) 5))]) U ∧ (Instr.lookup 152 (.map (some b)) (.agg #[.int .i64 (dk : Int), .int .i64 (dx : Int), .int .i64 (dy : Int)]) false).run Try.prog U = .ok (.agg #[.int .i64 (rowv (sf dx dy (tf dk f) 0)), .int .i64 (rowv (sf dx dy (tf dk f) 1)), .int .i64 (rowv (sf dx dy (tf dk f) 2)), .int .i64 (rowv (sf dx dy (tf dk f) 3)), .int .i64 (rowv (sf dx dy (tf dk f) 4)), .int .i64 (rowv (sf dx dy (tf dk f) 5))]) U ∧ U.cell? ⟨gf, 0, none⟩ = some (.int .i64 (dk : Int)) ∧ U.cell? ⟨gf, 1, none⟩ = some (.int .i64 (dx : Int)) ∧ U.cell? ⟨gf, 2, none⟩ = some (.int .i64 (dy : Int)) ∧ U.cell? ⟨gc, 0, none⟩ = some (.int .i64 (ck : Int)) ∧ U.cell? ⟨gc, 1, none⟩ = some (.int .i64 (cx : Int)) ∧ U.cell? ⟨gc, 2, none⟩ = some (.int .i64 (cy : Int)) ∧ Rf w f l g1 c1 b gf (dk, dx, dy) U ∧ U.heap[gc]? = some (o3 (ck, cx, cy)))) (hb : Below N U V) (hN : N = U.heap.size) : ((Instr.lookup 152 (.map (some b)) (.agg #[.int .i64 (ck : Int), .int .i64 (cx : Int), .int .i64 (cy : Int)]) false).run Try.prog V = .ok (.agg #[.int .i64 (rowv (sf cx cy (tf ck f) 0)), .int .i64 (rowv (sf cx cy (tf ck f) 1)), .int .i64 (rowv (sf cx cy (tf ck f) 2)), .int .i64 (rowv (sf cx cy (tf ck f) 3)), .int .i64 (rowv (sf cx cy (tf ck f) 4)), .int .i64 (rowv (sf cx cy (tf ck f) 5))]) V ∧ (Instr.lookup 152 (.map (some b)) (.agg #[.int .i64 (dk : Int), .int .i64 (dx : Int), .int .i64 (dy : Int)]) false).run Try.prog V = .ok (.agg #[.int .i64 (rowv (sf dx dy (tf dk f) 0)), .int .i64 (rowv (sf dx dy (tf dk f) 1)), .int .i64 (rowv (sf dx dy (tf dk f) 2)), .int .i64 (rowv (sf dx dy (tf dk f) 3)), .int .i64 (rowv (sf dx dy (tf dk f) 4)), .int .i64 (rowv (sf dx dy (tf dk f) 5))]) V ∧ V.cell? ⟨gf, 0, none⟩ = some (.int .i64 (dk : Int)) ∧ V.cell? ⟨gf, 1, none⟩ = some (.int .i64 (dx : Int)) ∧ V.cell? ⟨gf, 2, none⟩ = some (.int .i64 (dy : Int)) ∧ V.cell? ⟨gc, 0, none⟩ = some (.int .i64 (ck : Int)) ∧ V.cell? ⟨gc, 1, none⟩ = some (.int .i64 (cx : Int)) ∧ V.cell? ⟨gc, 2, none⟩ = some (.int .i64 (cy : Int)) ∧ Rf w f l g1 c1 b gf (dk, dx, dy) V ∧ V.heap[gc]? = some (o3 (ck, cx, cy))) := by
  obtain ⟨_, _, _, _, _, _, _, _, hr, hq⟩ := h
  exact sf_all hm hc hd (hr.below hb hN) (rowk hq hb hN)
theorem sf_drew {w U : World} {f : Nat → Nat → Bool} {l : List (Nat × Nat × Nat)} {g1 c1 b gf gc ck cx cy dk dx dy : Nat} (hm : Hid (Mos l)) (hc : Hid ((ck, cx, cy) ∈ l)) (hd : Hid ((dk, dx, dy) ∈ l)) (h : ((Instr.lookup 152 (.map (some b)) (.agg #[.int .i64 (ck : Int), .int .i64 (cx : Int), .int .i64 (cy : Int)]) false).run Try.prog U = .ok (.agg #[.int .i64 (rowv (sf cx cy (tf ck f) 0)), .int .i64 (rowv (sf cx cy (tf ck f) 1)), .int .i64 (rowv (sf cx cy (tf ck f) 2)), .int .i64 (rowv (sf cx cy (tf ck f) 3)), .int .i64 (rowv (sf cx cy (tf ck f) 4)), .int .i64 (rowv (sf cx cy (tf ck f) 5))]) U ∧ (Instr.lookup 152 (.map (some b)) (.agg #[.int .i64 (dk : Int), .int .i64 (dx : Int), .int .i64 (dy : Int)]) false).run Try.prog U = .ok (.agg #[.int .i64 (rowv (sf dx dy (tf dk f) 0)), .int .i64 (rowv (sf dx dy (tf dk f) 1)), .int .i64 (rowv (sf dx dy (tf dk f) 2)), .int .i64 (rowv (sf dx dy (tf dk f) 3)), .int .i64 (rowv (sf dx dy (tf dk f) 4)), .int .i64 (rowv (sf dx dy (tf dk f) 5))]) U ∧ U.cell? ⟨gf, 0, none⟩ = some (.int .i64 (dk : Int)) ∧ U.cell? ⟨gf, 1, none⟩ = some (.int .i64 (dx : Int)) ∧ U.cell? ⟨gf, 2, none⟩ = some (.int .i64 (dy : Int)) ∧ U.cell? ⟨gc, 0, none⟩ = some (.int .i64 (ck : Int)) ∧ U.cell? ⟨gc, 1, none⟩ = some (.int .i64 (cx : Int)) ∧ U.cell? ⟨gc, 2, none⟩ = some (.int .i64 (cy : Int)) ∧ Rf w f l g1 c1 b gf (dk, dx, dy) U ∧ U.heap[gc]? = some (o3 (ck, cx, cy)))) : ((Instr.lookup 152 (.map (some b)) (.agg #[.int .i64 (ck : Int), .int .i64 (cx : Int), .int .i64 (cy : Int)]) false).run Try.prog U.drew = .ok (.agg #[.int .i64 (rowv (sf cx cy (tf ck f) 0)), .int .i64 (rowv (sf cx cy (tf ck f) 1)), .int .i64 (rowv (sf cx cy (tf ck f) 2)), .int .i64 (rowv (sf cx cy (tf ck f) 3)), .int .i64 (rowv (sf cx cy (tf ck f) 4)), .int .i64 (rowv (sf cx cy (tf ck f) 5))]) U.drew ∧ (Instr.lookup 152 (.map (some b)) (.agg #[.int .i64 (dk : Int), .int .i64 (dx : Int), .int .i64 (dy : Int)]) false).run Try.prog U.drew = .ok (.agg #[.int .i64 (rowv (sf dx dy (tf dk f) 0)), .int .i64 (rowv (sf dx dy (tf dk f) 1)), .int .i64 (rowv (sf dx dy (tf dk f) 2)), .int .i64 (rowv (sf dx dy (tf dk f) 3)), .int .i64 (rowv (sf dx dy (tf dk f) 4)), .int .i64 (rowv (sf dx dy (tf dk f) 5))]) U.drew ∧ U.drew.cell? ⟨gf, 0, none⟩ = some (.int .i64 (dk : Int)) ∧ U.drew.cell? ⟨gf, 1, none⟩ = some (.int .i64 (dx : Int)) ∧ U.drew.cell? ⟨gf, 2, none⟩ = some (.int .i64 (dy : Int)) ∧ U.drew.cell? ⟨gc, 0, none⟩ = some (.int .i64 (ck : Int)) ∧ U.drew.cell? ⟨gc, 1, none⟩ = some (.int .i64 (cx : Int)) ∧ U.drew.cell? ⟨gc, 2, none⟩ = some (.int .i64 (cy : Int)) ∧ Rf w f l g1 c1 b gf (dk, dx, dy) U.drew ∧ U.drew.heap[gc]? = some (o3 (ck, cx, cy))) := sf_keep hm hc hd h (N := U.heap.size) (Below.refl _ _).drew rfl
set_option maxHeartbeats 1000000 in
theorem first_f (f : Nat → Nat → Bool) (l : List (Nat × Nat × Nat)) (hm : Mos l) (hl : l.length ≤ 600) (h0 : 0 < l.length) (B g cap : Nat) (w : World) (hg : g < w.heap.size) (ho : w.ownsRow B 62 3 (.slice (some ⟨g, 0, none⟩) l.length cap) l.length (tv l)) : Calls Try.prog 155 #[.agg #[.int .i64 (rowv (f 0)), .int .i64 (rowv (f 1)), .int .i64 (rowv (f 2)), .int .i64 (rowv (f 3)), .int .i64 (rowv (f 4)), .int .i64 (rowv (f 5))], .slice (some ⟨g, 0, none⟩) l.length cap] w fun e w' => e = .returned (.tuple #[img f (bs f l[0] l), mkey (bs f l[0] l).1 (bs f l[0] l).2.1 (bs f l[0] l).2.2]) ∧ Below w.heap.size w w' := by
  go_enter Try.func155, Try.ntmps155
  go_wp2_with fail
  obtain ⟨p1, p2, p3⟩ := tv_at l 0 h0
  have Z0 := Lib.hid (show g < w.heap.size from hg)
  generalize hW : (World.alloc _ _ : World) = W0
  have B0 : Hid (Below w.heap.size w W0) := Lib.hid (by rw [← hW]; (repeat (first | exact Below.refl _ _ | assumption | refine Below.setCell ?_ (by first | (simp; done) | (simp; omega)) _ | refine Below.alloc ?_ (by first | (simp; done) | (simp; omega)) _ | refine Below.drew ?_)))
  have O0 : Hid (W0.ownsRow B 62 3 (.slice (some ⟨g, 0, none⟩) l.length cap) l.length (tv l)) := Lib.hid (by rw [← hW]; exact ((ho.alloc _).alloc _).alloc _)
  have Y0 : Hid (g < W0.heap.size) := Lib.hid (by rw [← hW]; simp; omega)
  have Q0 : Hid (W0.heap[w.heap.size + 1]? = some (.cells #[.int .i64 0, .int .i64 0, .int .i64 0, .int .i64 0, .int .i64 0, .int .i64 0] 25 (0, 0)) ∧ W0.heap[w.heap.size + 2]? = some (.cells #[.int .i64 0, .int .i64 0, .int .i64 0] 62 (0, 0))) := Lib.hid (by rw [← hW]; exact ⟨alloc_past (alloc_at (by simp)), alloc_at (by simp)⟩)
  have X0 : Hid (w.heap.size + 3 ≤ W0.heap.size) := Lib.hid (by rw [← hW]; simp)
  clear hW ho
  refine (images_f f l hm hl B g cap W0 Y0.out O0.out).mono ?_
  rintro e W1 ⟨b, D, rfl, hbge, hmap, him, hb⟩
  have B1 := Lib.hid (below_of B0.out hb B0.out.size)
  have O1 := Lib.hid (O0.out.kept (grown_below hb rfl) (.inr (by have := Y0.out; simp [Value.ownBlock])))
  have Q1 := Lib.hid (And.intro (rowk Q0.out.1 hb rfl) (rowk Q0.out.2 hb rfl))
  have Z1 := Lib.hid (show w.heap.size + 3 ≤ W1.heap.size from Nat.le_trans X0.out hb.size)
  have M1 := Lib.hid (show ∃ D : DataW Value, W1.ownsMap Try.prog 62 RV b l.length D ∧ Imgs f l D from ⟨D, hmap, him⟩)
  clear hb hbge hmap him B0 O0 Y0
  have a1 := own_at O1.out p1
  have a2 := own_at O1.out p2
  have a3 := own_at O1.out p3
  go_wp2_with fail
  have S0 : Hid (Rf w f l g cap b W1.heap.size l[0] (W1.alloc (.cells #[.int .i64 ((l[0]).1 : Int), .int .i64 ((l[0]).2.1 : Int), .int .i64 ((l[0]).2.2 : Int)] 62))) := Lib.hid (by
    obtain ⟨D, h7, h8⟩ := M1.out
    have hlt := h7.lt
    have hgl := (O1.out.lt g rfl).2
    have hz := Z1.out
    exact ⟨own_mono (O1.out.alloc _) (Nat.zero_le _), ⟨D, h7.alloc _, h8⟩, B1.out.alloc (by omega) _, alloc_at rfl, by omega, by omega, by omega, alloc_past Q1.out.1, alloc_past Q1.out.2⟩)
  clear a1 a2 a3 p1 p2 p3 O1 M1
  have HM := Lib.hid hm
  have hbs0 : bs f l[0] (l.take 0) = l[0] := by simp [bs]
  have hc0 : l[0] ∈ l := List.getElem_mem h0
  obtain ⟨c00, hc00⟩ : ∃ c, l[0] = c := ⟨_, rfl⟩
  rw [hc00] at S0 hbs0 hc0 ⊢
  have HC00 := Lib.hid hc00
  clear hc00
  generalize (World.alloc _ _ : World) = W2 at S0 ⊢
  rw [← hbs0] at S0
  have HC0 := Lib.hid hc0
  clear hm hbs0 hc0
  have Y1 := Z1.out
  generalize W1.heap.size = gf at S0 Y1 ⊢
  go_loopw [18] (fun c wr => ∃ i : Nat, i ≤ l.length ∧ c = .int .i64 i ∧ Hid (Rf w f l g cap b gf (bs f c00 (l.take i)) wr)) (fun c _ => l.length - (intOf c).toNat)
  case atStart => exact ⟨0, by omega, rfl, S0⟩
  case round =>
    obtain ⟨i, hi, rfl, HS⟩ := hrel
    by_cases hlt : i < l.length
    · have hlt' : (i : Int) < l.length := by omega
      have hi0 : (0 : Int) ≤ i := by omega
      obtain ⟨p1, p2, p3⟩ := tv_at l i hlt
      have a1 := own_at HS.out.1 p1
      have a2 := own_at HS.out.1 p2
      have a3 := own_at HS.out.1 p3
      clear p1 p2 p3
      have HT := Lib.hid (take_snoc hlt)
      have HV := Lib.hid (List.getElem_mem hlt)
      generalize l[i] = c at a1 a2 a3 HT HV
      obtain ⟨ck, cx, cy⟩ := c
      have hdm : bs f c00 (l.take i) ∈ l := by
        rcases bs_mem f c00 (l.take i) with h | h
        · rw [h]; exact HC0.out
        · exact List.mem_of_mem_take h
      have HTb : Hid (bs f c00 (l.take (i + 1)) = if lm f (ck, cx, cy) (bs f c00 (l.take i)) then (ck, cx, cy) else bs f c00 (l.take i)) := Lib.hid (by rw [HT.out, bs_snoc])
      clear HT
      obtain ⟨d, hdd⟩ : ∃ d, d = bs f c00 (l.take i) := ⟨_, rfl⟩
      rw [← hdd] at hdm HTb HS
      clear hdd
      obtain ⟨dk, dx, dy⟩ := d
      have HD := Lib.hid hdm
      obtain ⟨r, hr, hcmp⟩ := cmp_lx (rowv (sf cx cy (tf ck f) 0)) (rowv (sf cx cy (tf ck f) 1)) (rowv (sf cx cy (tf ck f) 2)) (rowv (sf cx cy (tf ck f) 3)) (rowv (sf cx cy (tf ck f) 4)) (rowv (sf cx cy (tf ck f) 5)) (rowv (sf dx dy (tf dk f) 0)) (rowv (sf dx dy (tf dk f) 1)) (rowv (sf dx dy (tf dk f) 2)) (rowv (sf dx dy (tf dk f) 3)) (rowv (sf dx dy (tf dk f) 4)) (rowv (sf dx dy (tf dk f) 5))
      have HC := Lib.hid hcmp
      have hlr : lm f (ck, cx, cy) (dk, dx, dy) = decide (r < 0) := hr.symm
      have HLR := Lib.hid hlr
      clear hr hcmp hdm hlr
      go_wp2_with fail
      have HA := HS.out.below (N := wr.heap.size) ((Below.refl _ _).alloc (Nat.le_refl _) (.cells #[.int .i64 (ck : Int), .int .i64 (cx : Int), .int .i64 (cy : Int)] 62)) rfl
      have hq : (wr.alloc (.cells #[.int .i64 (ck : Int), .int .i64 (cx : Int), .int .i64 (cy : Int)] 62)).heap[wr.heap.size]? = some (o3 (ck, cx, cy)) := alloc_at rfl
      have k0 := sf_all HM HV HD HA hq
      clear a1 a2 a3 HS HA hq
      generalize (World.alloc _ _ : World) = W3 at k0 ⊢
      generalize wr.heap.size = gc at k0 ⊢
      by_cases hr0 : r < 0
      · have hr1 : decide (r < 0) = true := decide_eq_true hr0
        set_option maxRecDepth 8000 in
        go_region_held3 (fun U => ((Instr.lookup 152 (.map (some b)) (.agg #[.int .i64 (ck : Int), .int .i64 (cx : Int), .int .i64 (cy : Int)]) false).run Try.prog U = .ok (.agg #[.int .i64 (rowv (sf cx cy (tf ck f) 0)), .int .i64 (rowv (sf cx cy (tf ck f) 1)), .int .i64 (rowv (sf cx cy (tf ck f) 2)), .int .i64 (rowv (sf cx cy (tf ck f) 3)), .int .i64 (rowv (sf cx cy (tf ck f) 4)), .int .i64 (rowv (sf cx cy (tf ck f) 5))]) U ∧ (Instr.lookup 152 (.map (some b)) (.agg #[.int .i64 (dk : Int), .int .i64 (dx : Int), .int .i64 (dy : Int)]) false).run Try.prog U = .ok (.agg #[.int .i64 (rowv (sf dx dy (tf dk f) 0)), .int .i64 (rowv (sf dx dy (tf dk f) 1)), .int .i64 (rowv (sf dx dy (tf dk f) 2)), .int .i64 (rowv (sf dx dy (tf dk f) 3)), .int .i64 (rowv (sf dx dy (tf dk f) 4)), .int .i64 (rowv (sf dx dy (tf dk f) 5))]) U ∧ U.cell? ⟨gf, 0, none⟩ = some (.int .i64 (dk : Int)) ∧ U.cell? ⟨gf, 1, none⟩ = some (.int .i64 (dx : Int)) ∧ U.cell? ⟨gf, 2, none⟩ = some (.int .i64 (dy : Int)) ∧ U.cell? ⟨gc, 0, none⟩ = some (.int .i64 (ck : Int)) ∧ U.cell? ⟨gc, 1, none⟩ = some (.int .i64 (cx : Int)) ∧ U.cell? ⟨gc, 2, none⟩ = some (.int .i64 (cy : Int)) ∧ Rf w f l g cap b gf (dk, dx, dy) U ∧ U.heap[gc]? = some (o3 (ck, cx, cy)))) (first | with_reducible exact sf_drew HM HV HD k0 | with_reducible assumption) (first | (go_at_call 208; with_reducible refine (HC.out _).mono ?_; rintro e w' ⟨rfl, hb'⟩; have hk := sf_keep HM HV HD (by with_reducible assumption) hb' rfl))
        all_goals
          obtain ⟨_, _, q0, q1, q2, c0, c1, c2, hr, _⟩ := hk
          have fz := fun k => frozen_of_row w' _ k _ _ hr.2.2.2.1
          have HR := Lib.hid hr
          clear k0 hb' hr
          go_wp2_with fail
          go_roundw
          case rel => exact ⟨i + 1, by omega, by go_num, Lib.hid (by rw [HTb.out, HLR.out, hr1, if_pos rfl]; exact HR.out.put ck cx cy)⟩
          case measure => simp [intOf]; omega
      · have hr1 : decide (r < 0) = false := decide_eq_false hr0
        set_option maxRecDepth 8000 in
        go_region_held3 (fun U => ((Instr.lookup 152 (.map (some b)) (.agg #[.int .i64 (ck : Int), .int .i64 (cx : Int), .int .i64 (cy : Int)]) false).run Try.prog U = .ok (.agg #[.int .i64 (rowv (sf cx cy (tf ck f) 0)), .int .i64 (rowv (sf cx cy (tf ck f) 1)), .int .i64 (rowv (sf cx cy (tf ck f) 2)), .int .i64 (rowv (sf cx cy (tf ck f) 3)), .int .i64 (rowv (sf cx cy (tf ck f) 4)), .int .i64 (rowv (sf cx cy (tf ck f) 5))]) U ∧ (Instr.lookup 152 (.map (some b)) (.agg #[.int .i64 (dk : Int), .int .i64 (dx : Int), .int .i64 (dy : Int)]) false).run Try.prog U = .ok (.agg #[.int .i64 (rowv (sf dx dy (tf dk f) 0)), .int .i64 (rowv (sf dx dy (tf dk f) 1)), .int .i64 (rowv (sf dx dy (tf dk f) 2)), .int .i64 (rowv (sf dx dy (tf dk f) 3)), .int .i64 (rowv (sf dx dy (tf dk f) 4)), .int .i64 (rowv (sf dx dy (tf dk f) 5))]) U ∧ U.cell? ⟨gf, 0, none⟩ = some (.int .i64 (dk : Int)) ∧ U.cell? ⟨gf, 1, none⟩ = some (.int .i64 (dx : Int)) ∧ U.cell? ⟨gf, 2, none⟩ = some (.int .i64 (dy : Int)) ∧ U.cell? ⟨gc, 0, none⟩ = some (.int .i64 (ck : Int)) ∧ U.cell? ⟨gc, 1, none⟩ = some (.int .i64 (cx : Int)) ∧ U.cell? ⟨gc, 2, none⟩ = some (.int .i64 (cy : Int)) ∧ Rf w f l g cap b gf (dk, dx, dy) U ∧ U.heap[gc]? = some (o3 (ck, cx, cy)))) (first | with_reducible exact sf_drew HM HV HD k0 | with_reducible assumption) (first | (go_at_call 208; with_reducible refine (HC.out _).mono ?_; rintro e w' ⟨rfl, hb'⟩; have hk := sf_keep HM HV HD (by with_reducible assumption) hb' rfl))
        all_goals
          obtain ⟨_, _, _, _, _, _, _, _, hr, _⟩ := hk
          have HR := Lib.hid hr
          clear k0 hb' hr
          go_wp2_with fail
          go_roundw
          case rel => exact ⟨i + 1, by omega, by go_num, Lib.hid (by rw [HTb.out, HLR.out, hr1, if_neg (by decide)]; exact HR.out)⟩
          case measure => simp [intOf]; omega
    · obtain rfl : i = l.length := by omega
      rw [List.take_length] at HS
      have hdm : bs f c00 l ∈ l := by
        rcases bs_mem f c00 l with h | h
        · rw [h]; exact HC0.out
        · exact h
      obtain ⟨d, hdd⟩ : ∃ d, bs f c00 l = d := ⟨_, rfl⟩
      rw [hdd] at HS hdm
      have HDD := Lib.hid hdd
      clear hdd
      obtain ⟨dk, dx, dy⟩ := d
      obtain ⟨_, e1, q0, q1, q2⟩ := rf_facts HM.out hdm hdm HS.out
      have H3 := Lib.hid HS.out.2.2.1
      have H8 := HS.out.2.2.2.2.2.2.1
      obtain ⟨_, e2, _, _, _⟩ := rf_facts HM.out hdm hdm (HS.out.below (N := wr.heap.size) (Below.refl _ _).drew rfl)
      have z_c := fun j => cell_of_row wr _ j _ _ _ HS.out.2.2.2.2.2.2.2.1
      have z_f := fun j => frozen_of_row wr _ j _ _ HS.out.2.2.2.2.2.2.2.1
      have y_c := fun j => cell_of_row wr _ j _ _ _ HS.out.2.2.2.2.2.2.2.2
      have y_f := fun j => frozen_of_row wr _ j _ _ HS.out.2.2.2.2.2.2.2.2
      have HQ := Lib.hid HS.out.2.2.2.2.2.2.2
      simp only [mkey, img] at e1 e2 ⊢
      clear hdm HS
      have n1 : gf ≠ w.heap.size + 1 := by omega
      have n2 : gf ≠ w.heap.size + 1 + 1 := by omega
      go_wp2_with fail
      set_option maxRecDepth 8000 in
      go_region
      all_goals
        clear z_c z_f y_c y_f e1 e2 q0 q1 q2
        generalize hX : World.drew _ = X
        have hB : Below w.heap.size w X := by rw [← hX]; exact outs_b _ _ _ _ _ _ _ _ _ H3.out
        have rx : X.heap[w.heap.size + 1]? = some (.cells #[.int .i64 (rowv (sf dx dy (tf dk f) 0)), .int .i64 (rowv (sf dx dy (tf dk f) 1)), .int .i64 (rowv (sf dx dy (tf dk f) 2)), .int .i64 (rowv (sf dx dy (tf dk f) 3)), .int .i64 (rowv (sf dx dy (tf dk f) 4)), .int .i64 (rowv (sf dx dy (tf dk f) 5))] 25 (0, 0)) := by rw [← hX]; exact outs_x _ _ _ _ _ _ _ _ _ HQ.out.1
        have ry : X.heap[w.heap.size + 1 + 1]? = some (.cells #[.int .i64 (dk : Int), .int .i64 (dx : Int), .int .i64 (dy : Int)] 62 (0, 0)) := by rw [← hX]; exact outs_y _ _ _ _ _ _ _ _ _ HQ.out.2
        clear hX
        have x_c := fun j => cell_of_row X _ j _ _ _ rx
        have y_c := fun j => cell_of_row X _ j _ _ _ ry
        go_wp2_with fail
        exact bodyPost_ret (v := .tuple #[.agg #[.int .i64 (rowv (sf dx dy (tf dk f) 0)), .int .i64 (rowv (sf dx dy (tf dk f) 1)), .int .i64 (rowv (sf dx dy (tf dk f) 2)), .int .i64 (rowv (sf dx dy (tf dk f) 3)), .int .i64 (rowv (sf dx dy (tf dk f) 4)), .int .i64 (rowv (sf dx dy (tf dk f) 5))], .agg #[.int .i64 (dk : Int), .int .i64 (dx : Int), .int .i64 (dy : Int)]]) (by simp [results, Try.results155, go_sem, x_c, y_c]) rfl ⟨by rw [HC00.out, HDD.out]; rfl, hB⟩
end Go.Proofs.Ytkobgklpcpoglaa
