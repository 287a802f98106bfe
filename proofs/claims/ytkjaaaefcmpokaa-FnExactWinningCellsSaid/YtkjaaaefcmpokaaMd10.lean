/- MERGED, for one claim's sake: Gn3, Md10, Md10. -/
import Derived.Test.YtkjaaaefcmpokaaMa10
import Derived.Test.YtkjaaaefcmpokaaMb10
import Derived.Test.YtkjaaaefcmpokaaGn2
import Derived.Deep.RegionHeld3
import Derived.RegionTactic
import Derived.WalkKit
import Derived.ProofKit
import Derived.OpenShut
import Derived.Lib.Hide
import Derived.WalkSpells
import Derived.Below
import Derived.BigQuiet
import Derived.LoopN
namespace Go.Proofs.Ytkjaaaefcmpokaa
open Go.ChangeShapes Go.WideShapes Go.ChangeAt Go.RowKit
set_option linter.unusedVariables false
/- Gn3 -/
theorem drewN_b {B : Nat} {a w : World} (h : Below B a w) (n : Nat) : Below B a (w.drewN n) := h.trans ⟨rfl, rfl, rfl, Nat.le_refl _, fun _ _ => rfl⟩
/-- Midway: the boxes, the free cells, the sheets so far; all below block w's size + m. -/
def Rm (w : World) (f p : Fn6) (l : List (Nat × Nat)) (g cap : Nat) (O : List T6) (v : Value) (m : Nat) (U : World) : Prop :=
  KR m [(w.heap.size, o6 f), (w.heap.size + 1, o6 p)] w U ∧ U.ownsRow 0 47 2 (.slice (some ⟨g, 0, none⟩) l.length cap) l.length (cv l) ∧ U.ownsRow (w.heap.size + 2) 28 6 v O.length (tv6 O) ∧ (∃ go co, v = .slice (some ⟨go, 0, none⟩) O.length co ∧ go < w.heap.size + m) ∧ g < w.heap.size + m
theorem Rm.below {w U U' : World} {f p : Fn6} {l : List (Nat × Nat)} {g cap m M : Nat} {O : List T6} {v : Value} (h : Rm w f p l g cap O v m U) (hb : Below M U U') (hM : M = U.heap.size) : Rm w f p l g cap O v m U' := by
  obtain ⟨h1, h2, h3, ⟨go, co, rfl, h4⟩, h5⟩ := h
  exact ⟨h1.far hb hM, h2.kept (grown_below hb hM) (.inr (by simp [Value.ownBlock])), h3.kept (grown_below hb hM) (.inr (by simp [Value.ownBlock])), ⟨go, co, rfl, h4⟩, h5⟩
theorem Rm.al {w U : World} {f p : Fn6} {l : List (Nat × Nat)} {g cap m : Nat} {O : List T6} {v : Value} (h : Rm w f p l g cap O v m U) (o : Obj) : Rm w f p l g cap O v m (U.alloc o) := h.below (M := U.heap.size) ((Below.refl _ _).alloc (Nat.le_refl _) o) rfl
theorem Rm.drew {w U : World} {f p : Fn6} {l : List (Nat × Nat)} {g cap m : Nat} {O : List T6} {v : Value} (h : Rm w f p l g cap O v m U) : Rm w f p l g cap O v m U.drew := h.below (M := U.heap.size) (Below.refl _ _).drew rfl
theorem Rm.drewN {w U : World} {f p : Fn6} {l : List (Nat × Nat)} {g cap m : Nat} {O : List T6} {v : Value} (h : Rm w f p l g cap O v m U) (q : Nat) : Rm w f p l g cap O v m (U.drewN q) := h.below (M := U.heap.size) (drewN_b (Below.refl _ _) q) rfl
theorem KR.widen {n : Nat} {L : List (Nat × Obj)} {w U : World} (h : KR n L w U) : KR (U.heap.size - w.heap.size) L w U := ⟨fun q hq => ⟨by have := (h.1 q hq).1; have := h.2.1; omega, (h.1 q hq).2⟩, by have := h.2.1; omega, h.2.2⟩
theorem Rm.widen {w U : World} {f p : Fn6} {l : List (Nat × Nat)} {g cap m : Nat} {O : List T6} {v : Value} (h : Rm w f p l g cap O v m U) : Rm w f p l g cap O v (U.heap.size - w.heap.size) U := by
  obtain ⟨h1, h2, h3, ⟨go, co, rfl, h4⟩, h5⟩ := h
  have := h1.2.1
  exact ⟨h1.widen, h2, h3, ⟨go, co, rfl, by omega⟩, by omega⟩
theorem Rm.le {w U : World} {f p : Fn6} {l : List (Nat × Nat)} {g cap m : Nat} {O : List T6} {v : Value} (h : Rm w f p l g cap O v m U) : w.heap.size + m ≤ U.heap.size := h.1.2.1
theorem Rm.put {w U : World} {f p : Fn6} {l : List (Nat × Nat)} {g cap m gn i : Nat} {O : List T6} {v : Value} (h : Rm w f p l g cap O v m U) (hg : w.heap.size + m ≤ gn) (u : Value) : Rm w f p l g cap O v m (U.setCell ⟨gn, i, none⟩ u) := by
  obtain ⟨h1, h2, h3, ⟨go, co, rfl, h4⟩, h5⟩ := h
  have n1 : g ≠ gn := by omega
  have n2 : go ≠ gn := by omega
  exact ⟨h1.set hg, h2.kept (grow_set U ⟨gn, i, none⟩ u) (.inr (by simp [Value.ownBlock, n1])), h3.kept (grow_set U ⟨gn, i, none⟩ u) (.inr (by simp [Value.ownBlock, n2])), ⟨go, co, rfl, h4⟩, h5⟩
theorem SKm {w U : World} {f p : Fn6} {l : List (Nat × Nat)} {g cap m i : Nat} {O : List T6} {v : Value} {x y : Nat} (hi : i < l.length) (hc : l[i] = (x, y)) (h : Rm w f p l g cap O v m U) : U.cell? ⟨w.heap.size, 0, none⟩ = some (.int .i64 (rowv (f 0))) ∧ U.cell? ⟨w.heap.size, 1, none⟩ = some (.int .i64 (rowv (f 1))) ∧ U.cell? ⟨w.heap.size, 2, none⟩ = some (.int .i64 (rowv (f 2))) ∧ U.cell? ⟨w.heap.size, 3, none⟩ = some (.int .i64 (rowv (f 3))) ∧ U.cell? ⟨w.heap.size, 4, none⟩ = some (.int .i64 (rowv (f 4))) ∧ U.cell? ⟨w.heap.size, 5, none⟩ = some (.int .i64 (rowv (f 5))) ∧ U.cell? ⟨w.heap.size + 1, 0, none⟩ = some (.int .i64 (rowv (p 0))) ∧ U.cell? ⟨w.heap.size + 1, 1, none⟩ = some (.int .i64 (rowv (p 1))) ∧ U.cell? ⟨w.heap.size + 1, 2, none⟩ = some (.int .i64 (rowv (p 2))) ∧ U.cell? ⟨w.heap.size + 1, 3, none⟩ = some (.int .i64 (rowv (p 3))) ∧ U.cell? ⟨w.heap.size + 1, 4, none⟩ = some (.int .i64 (rowv (p 4))) ∧ U.cell? ⟨w.heap.size + 1, 5, none⟩ = some (.int .i64 (rowv (p 5))) ∧ U.cell? ⟨g, i * 2, none⟩ = some (.int .i64 (x : Int)) ∧ U.cell? ⟨g, i * 2 + 1, none⟩ = some (.int .i64 (y : Int)) ∧ Rm w f p l g cap O v m U := by
  have h0 := fun j => cell_of_row U _ j _ _ _ (h.1.row (g := w.heap.size) (o := o6 f) (List.mem_cons_self ..))
  have h1 := fun j => cell_of_row U _ j _ _ _ (h.1.row (g := w.heap.size + 1) (o := o6 p) (List.mem_cons_of_mem _ (List.mem_cons_self ..)))
  obtain ⟨p1, p2⟩ := cv_at l i hi
  rw [hc] at p1 p2
  exact ⟨h0 0, h0 1, h0 2, h0 3, h0 4, h0 5, h1 0, h1 1, h1 2, h1 3, h1 4, h1 5, own_at h.2.1 p1, own_at h.2.1 p2, h⟩
set_option maxRecDepth 8000 in
set_option maxHeartbeats 4000000 in
/-- Region 5: the sheet behind the press is made. -/
theorem app5 {Q : Exit → Act → World → Prop} (w wr : World) (f p : Fn6) (l : List (Nat × Nat)) (g cap m i x y : Nat) (O : List T6) (v : Value) (hi : i < l.length) (hl : l.length ≤ 36) (hc : l[i] = (x, y)) (hx : x < 6) (hy : y < 6) {x0 x1 x4 x8 x9 x10 x11 x12 x13 x14 x15 x16 x17 x18 x19 x20 x21 x22 x23 x24 x25 x26 x27 x28 x29 x30 x31 x32 x33 x34 x35 x36 x37 x38 x39 x40 x41 x42 x43 x44 x45 x46 x47 x48 x49 x50 x51 x52 x53 x54 x55 x56 x57 x58 x59 x60 x61 x62 x63 x64 x65 x66 : Value} (hk : Rm w f p l g cap O v m wr)
    (hQ : ∀ (gn : Nat) (X : World) (y20 y21 y22 y23 y24 y25 y26 y27 : Value), Rm w f p l g cap O v m X → X.heap[gn]? = some (o6 (jf f (sf x y p))) → w.heap.size + m ≤ gn → Q .normal { tmps := #[x0, x1, (.pointer (some ⟨w.heap.size, 0, none⟩)), (.pointer (some ⟨w.heap.size + 1, 0, none⟩)), x4, v, (.slice (some ⟨g, 0, none⟩) l.length cap), (.int .i64 (i : Int)), (.pointer (some ⟨gn, 0, none⟩)), (.int .i64 0), x10, x11, x12, x13, x14, x15, x16, x17, x18, x19, y20, y21, y22, y23, y24, y25, y26, y27, x28, x29, x30, x31, x32, x33, x34, x35, x36, x37, x38, x39, x40, x41, x42, x43, x44, x45, x46, x47, x48, x49, x50, x51, x52, x53, x54, x55, x56, x57, x58, x59, x60, x61, x62, x63, x64, x65, x66], defers := [] } X) :
    (Code.region 5 #[{ dst := some 20, op := Go.Op.load 28 (Go.Operand.tmp 2), type := 28, pos := "l10_games.go:37", after := #[], guard := none }, { dst := some 21, op := Go.Op.load 28 (Go.Operand.tmp 3), type := 28, pos := "l10_games.go:37", after := #[], guard := none }, { dst := some 22, op := Go.Op.move (Go.Operand.tmp 6), type := 25, pos := "l10_games.go:37", after := #[], guard := none }, { dst := some 23, op := Go.Op.move (Go.Operand.tmp 7), type := 3, pos := "l10_games.go:37", after := #[], guard := none }, { dst := some 24, op := Go.Op.indexAddr 25 (Go.Operand.tmp 22) (Go.Operand.tmp 23), type := 0, pos := "l10_games.go:37", after := #[{ on := 2, ground := Go.Ground.data }, { on := 3, ground := Go.Ground.data }], guard := none }, { dst := some 25, op := Go.Op.load 47 (Go.Operand.tmp 24), type := 47, pos := "l10_games.go:37", after := #[{ on := 4, ground := Go.Ground.data }], guard := none }, { dst := some 26, op := Go.Op.call { callee := Go.Callee.value (Go.Operand.func 153), args := #[Go.Operand.tmp 21, Go.Operand.tmp 25], argTypes := #[28, 47] }, type := 28, pos := "l10_games.go:37", after := #[{ on := 1, ground := Go.Ground.data }, { on := 5, ground := Go.Ground.data }], guard := none }, { dst := some 27, op := Go.Op.call { callee := Go.Callee.value (Go.Operand.func 152), args := #[Go.Operand.tmp 20, Go.Operand.tmp 26], argTypes := #[28, 28] }, type := 28, pos := "l10_games.go:37", after := #[{ on := 0, ground := Go.Ground.data }, { on := 6, ground := Go.Ground.data }, { on := 6, ground := Go.Ground.chain }], guard := none }, { dst := some 8, op := Go.Op.alloc 28, type := 0, pos := "l10_games.go:37", after := #[], guard := none }, { dst := none, op := Go.Op.store 28 (Go.Operand.tmp 8) (Go.Operand.tmp 27), type := 0, pos := "l10_games.go:37", after := #[{ on := 8, ground := Go.Ground.data }, { on := 7, ground := Go.Ground.data }, { on := 7, ground := Go.Ground.chain }, { on := 0, ground := Go.Ground.phase }, { on := 1, ground := Go.Ground.phase }, { on := 2, ground := Go.Ground.phase }, { on := 3, ground := Go.Ground.phase }, { on := 4, ground := Go.Ground.phase }, { on := 5, ground := Go.Ground.phase }, { on := 6, ground := Go.Ground.phase }, { on := 7, ground := Go.Ground.phase }, { on := 8, ground := Go.Ground.phase }], guard := none }, { dst := some 9, op := Go.Op.assign (Go.Operand.const (Go.Value.int Go.IntKind.i64 0)), type := 3, pos := "l10_games.go:37", after := #[{ on := 9, ground := Go.Ground.chain }, { on := 0, ground := Go.Ground.phase }, { on := 1, ground := Go.Ground.phase }, { on := 2, ground := Go.Ground.phase }, { on := 3, ground := Go.Ground.phase }, { on := 4, ground := Go.Ground.phase }, { on := 5, ground := Go.Ground.phase }, { on := 6, ground := Go.Ground.phase }, { on := 7, ground := Go.Ground.phase }, { on := 8, ground := Go.Ground.phase }, { on := 9, ground := Go.Ground.phase }], guard := none }] true).wp Try.prog Q { tmps := #[x0, x1, (.pointer (some ⟨w.heap.size, 0, none⟩)), (.pointer (some ⟨w.heap.size + 1, 0, none⟩)), x4, v, (.slice (some ⟨g, 0, none⟩) l.length cap), (.int .i64 (i : Int)), x8, x9, x10, x11, x12, x13, x14, x15, x16, x17, x18, x19, x20, x21, x22, x23, x24, x25, x26, x27, x28, x29, x30, x31, x32, x33, x34, x35, x36, x37, x38, x39, x40, x41, x42, x43, x44, x45, x46, x47, x48, x49, x50, x51, x52, x53, x54, x55, x56, x57, x58, x59, x60, x61, x62, x63, x64, x65, x66], defers := [] } wr := by
  have HA := Lib.hid (l2at_n p hx hy)
  have HJ := Lib.hid (lor_f f (sf x y p))
  have HC := Lib.hid hc
  have HQ := Lib.hid hQ
  have hlt' : (i : Int) < l.length := by omega
  have hi0 : (0 : Int) ≤ i := by omega
  have hi2 : i ≤ 36 := by omega
  have hz0 := Rm.le hk
  clear hQ hc
  go_region_held3 (fun U => U.cell? ⟨w.heap.size, 0, none⟩ = some (.int .i64 (rowv (f 0))) ∧ U.cell? ⟨w.heap.size, 1, none⟩ = some (.int .i64 (rowv (f 1))) ∧ U.cell? ⟨w.heap.size, 2, none⟩ = some (.int .i64 (rowv (f 2))) ∧ U.cell? ⟨w.heap.size, 3, none⟩ = some (.int .i64 (rowv (f 3))) ∧ U.cell? ⟨w.heap.size, 4, none⟩ = some (.int .i64 (rowv (f 4))) ∧ U.cell? ⟨w.heap.size, 5, none⟩ = some (.int .i64 (rowv (f 5))) ∧ U.cell? ⟨w.heap.size + 1, 0, none⟩ = some (.int .i64 (rowv (p 0))) ∧ U.cell? ⟨w.heap.size + 1, 1, none⟩ = some (.int .i64 (rowv (p 1))) ∧ U.cell? ⟨w.heap.size + 1, 2, none⟩ = some (.int .i64 (rowv (p 2))) ∧ U.cell? ⟨w.heap.size + 1, 3, none⟩ = some (.int .i64 (rowv (p 3))) ∧ U.cell? ⟨w.heap.size + 1, 4, none⟩ = some (.int .i64 (rowv (p 4))) ∧ U.cell? ⟨w.heap.size + 1, 5, none⟩ = some (.int .i64 (rowv (p 5))) ∧ U.cell? ⟨g, i * 2, none⟩ = some (.int .i64 (x : Int)) ∧ U.cell? ⟨g, i * 2 + 1, none⟩ = some (.int .i64 (y : Int)) ∧ Rm w f p l g cap O v m U) (with_reducible refine SKm hi HC.out ?_; (repeat (first | with_reducible assumption | with_reducible refine Rm.al ?_ _ | with_reducible refine Rm.drew ?_ | with_reducible refine Rm.put ?_ (by first | assumption | omega) _))) (first | (go_at_call 153; with_reducible refine (HA.out _).mono ?_; rintro e w' ⟨rfl, hb'⟩; have hz1 := Rm.le hk; have hk : Rm w f p l g cap O v m w' := Rm.below (by (repeat (first | with_reducible assumption | with_reducible refine Rm.al ?_ _ | with_reducible refine Rm.drew ?_ | with_reducible refine Rm.put ?_ (by first | assumption | omega) _))) hb' rfl; have hz := Rm.le hk; (first | have hn := rowk hn hb' rfl | have hn := rowk (drew_row (alloc_at rfl)) hb' rfl | have hn := rowk (alloc_at rfl) hb' rfl | skip); (try (have hnz := oz_c hn; have hnf := oz_f hn))) | (go_at_call 152; with_reducible refine (HJ.out _).mono ?_; rintro e w' ⟨rfl, hb'⟩; have hz1 := Rm.le hk; have hk : Rm w f p l g cap O v m w' := Rm.below (by (repeat (first | with_reducible assumption | with_reducible refine Rm.al ?_ _ | with_reducible refine Rm.drew ?_ | with_reducible refine Rm.put ?_ (by first | assumption | omega) _))) hb' rfl; have hz := Rm.le hk; (first | have hn := rowk hn hb' rfl | have hn := rowk (drew_row (alloc_at rfl)) hb' rfl | have hn := rowk (alloc_at rfl) hb' rfl | skip); (try (have hnz := oz_c hn; have hnf := oz_f hn))))
  all_goals
    refine HQ.out _ _ _ _ _ _ _ _ _ _ ?_ ?_ ?_
    · (repeat (first | with_reducible assumption | with_reducible refine Rm.al ?_ _ | with_reducible refine Rm.drew ?_ | with_reducible refine Rm.put ?_ (by first | assumption | omega) _))
    · first | (have hx := set6a (.int .i64 (rowv (jf f (sf x y p) 0))) (.int .i64 (rowv (jf f (sf x y p) 1))) (.int .i64 (rowv (jf f (sf x y p) 2))) (.int .i64 (rowv (jf f (sf x y p) 3))) (.int .i64 (rowv (jf f (sf x y p) 4))) (.int .i64 (rowv (jf f (sf x y p) 5))) hn; exact hx.trans rfl) | exact (alloc_at rfl).trans rfl
    · first | assumption | omega | (simp; omega)
theorem own_form {W : World} {B n k : Nat} {e : TypeId} {v : Value} {xs : List Value} (h : W.ownsRow B e k v n xs) (hn : v ≠ .slice none 0 0) : ∃ g c, v = .slice (some ⟨g, 0, none⟩) n c := by
  rcases h.2 with ⟨e1, _⟩ | ⟨g, c, _, e1, _⟩
  · exact absurd e1 hn
  · exact ⟨g, c, e1⟩
/-- Behind the number N blocks are new: the rest stands. -/
def Rq3 (w : World) (f p : Fn6) (l : List (Nat × Nat)) (g cap : Nat) (O : List T6) (v : Value) (m gn : Nat) (F : Fn6) (N : Nat) (U : World) : Prop := Rm w f p l g cap O v m U ∧ U.heap[gn]? = some (o6 F) ∧ gn < N ∧ w.heap.size + m ≤ N ∧ N ≤ U.heap.size
theorem Rq3.al {w U : World} {f p : Fn6} {l : List (Nat × Nat)} {g cap m gn N : Nat} {O : List T6} {v : Value} {F : Fn6} (h : Rq3 w f p l g cap O v m gn F N U) (o : Obj) : Rq3 w f p l g cap O v m gn F N (U.alloc o) := ⟨h.1.al o, alloc_past h.2.1, h.2.2.1, h.2.2.2.1, Nat.le_trans h.2.2.2.2 (by simp)⟩
theorem Rq3.drew {w U : World} {f p : Fn6} {l : List (Nat × Nat)} {g cap m gn N : Nat} {O : List T6} {v : Value} {F : Fn6} (h : Rq3 w f p l g cap O v m gn F N U) : Rq3 w f p l g cap O v m gn F N U.drew := ⟨h.1.drew, h.2.1, h.2.2.1, h.2.2.2.1, h.2.2.2.2⟩
theorem Rm.grown {w U U' : World} {f p : Fn6} {l : List (Nat × Nat)} {g cap m b : Nat} {O : List T6} {v : Value} (h : Rm w f p l g cap O v m U) (hg : U.grownBy U' (some b)) (hb : w.heap.size + m ≤ b) : Rm w f p l g cap O v m U' := by
  obtain ⟨h1, h2, h3, ⟨go, co, rfl, h4⟩, h5⟩ := h
  have n1 : g ≠ b := by omega
  have n2 : go ≠ b := by omega
  exact ⟨h1.grown hg (fun k hk => by cases hk; exact hb), h2.kept hg (.inr (by simp [Value.ownBlock, n1])), h3.kept hg (.inr (by simp [Value.ownBlock, n2])), ⟨go, co, rfl, h4⟩, h5⟩
theorem Rq3.grown {w U U' : World} {f p : Fn6} {l : List (Nat × Nat)} {g cap m gn N b : Nat} {O : List T6} {v : Value} {F : Fn6} (h : Rq3 w f p l g cap O v m gn F N U) (hg : U.grownBy U' (some b)) (hb : N ≤ b) : Rq3 w f p l g cap O v m gn F N U' := by
  obtain ⟨h1, h2, h3, h4, h5⟩ := h
  refine ⟨h1.grown hg (by omega), ?_, h3, h4, Nat.le_trans h5 hg.size⟩
  rw [hg.block gn (by omega) (by simp; omega)]
  exact h2
theorem Rq3.cells {w U : World} {f p : Fn6} {l : List (Nat × Nat)} {g cap m gn N : Nat} {O : List T6} {v : Value} {F : Fn6} (h : Rq3 w f p l g cap O v m gn F N U) : U.cell? ⟨gn, 0, none⟩ = some (.int .i64 (rowv (F 0))) ∧ U.cell? ⟨gn, 1, none⟩ = some (.int .i64 (rowv (F 1))) ∧ U.cell? ⟨gn, 2, none⟩ = some (.int .i64 (rowv (F 2))) ∧ U.cell? ⟨gn, 3, none⟩ = some (.int .i64 (rowv (F 3))) ∧ U.cell? ⟨gn, 4, none⟩ = some (.int .i64 (rowv (F 4))) ∧ U.cell? ⟨gn, 5, none⟩ = some (.int .i64 (rowv (F 5))) ∧ Rq3 w f p l g cap O v m gn F N U := by
  have h0 := fun j => cell_of_row U _ j _ _ _ h.2.1
  exact ⟨h0 0, h0 1, h0 2, h0 3, h0 4, h0 5, h⟩
theorem add_off (b o j : Nat) : (⟨b, o, none⟩ : Addr).add j = ⟨b, o + j, none⟩ := by
  unfold Addr.add
  split
  · rename_i h; subst h; rfl
  · rfl
/-- The cells of what is appended out of the sheets so far. -/
theorem Rq3.part {w U : World} {f p : Fn6} {l : List (Nat × Nat)} {g cap m gn N go co : Nat} {O : List T6} {F : Fn6} (h : Rq3 w f p l g cap O (.slice (some ⟨go, 0, none⟩) O.length co) m gn F N U) (k : Nat) (hk : k ≤ O.length) : (∀ j u, (tv6 (O.take k))[j]? = some u → U.cell? ((⟨go, 0, none⟩ : Addr).add j) = some u) ∧ (∀ j u, (tv6 (O.drop k))[j]? = some u → U.cell? ((⟨go, k * 6, none⟩ : Addr).add j) = some u) := by
  have hO := h.1.2.2.1
  have e : tv6 O = tv6 (O.take k) ++ tv6 (O.drop k) := by rw [← tv6_app, List.take_append_drop]
  have hl : (tv6 (O.take k)).length = k * 6 := by rw [tv6_len, List.length_take]; congr 1; omega
  refine ⟨fun j u hj => ?_, fun j u hj => ?_⟩
  · have := own_at (j := j) hO (u := u) (by
      rw [e, List.getElem?_append_left (List.getElem?_eq_some_iff.mp hj).1]
      exact hj)
    rw [add_off, Nat.zero_add]
    exact this
  · have := own_at (j := k * 6 + j) hO (u := u) (by
      rw [e, List.getElem?_append_right (by omega), hl, Nat.add_sub_cancel_left]
      exact hj)
    rw [add_off]
    exact this
theorem tv6_one (l : List T6) : ∀ u ∈ tv6 l, u.oneCell' = true := by
  intro u hu
  obtain ⟨t, _, ht⟩ := List.mem_flatMap.mp hu
  simp only [e6, List.mem_cons, List.not_mem_nil, or_false] at ht
  rcases ht with rfl | rfl | rfl | rfl | rfl | rfl <;> rfl
theorem row_new {V : World} {b6 : Nat} {F : Fn6} (h : V.heap[b6]? = some (o6 F)) : ∀ (j : Nat) (u : Value), (e6 (t6 F))[j]? = some u → V.cell? ((⟨b6, 0, none⟩ : Addr).add j) = some u := by
  intro j u hj
  have hc := cell_of_row V _ j _ _ _ h
  rw [add_off, Nat.zero_add, hc, ← hj]
  simp [e6, t6]
theorem Rm_app {w X : World} {f p : Fn6} {l : List (Nat × Nat)} {g cap m gn N go co k gb cb : Nat} {O : List T6} {F : Fn6} (hk : k ≤ O.length) (h : Rq3 w f p l g cap O (.slice (some ⟨go, 0, none⟩) O.length co) m gn F N X) (ho : X.ownsRow (w.heap.size + 2) 28 6 (.slice (some ⟨gb, 0, none⟩) (k + 1 + (O.length - k)) cb) (k + 1 + (O.length - k)) ((tv6 (O.take k) ++ e6 (t6 F)) ++ tv6 (O.drop k))) : Rm w f p l g cap (O.take k ++ t6 F :: O.drop k) (.slice (some ⟨gb, 0, none⟩) (k + 1 + (O.length - k)) cb) (X.heap.size - w.heap.size) X := by
  obtain ⟨h1, h2, _, _, h5⟩ := h.1
  have hb := (ho.lt gb rfl).2
  have := h1.2.1
  have el : (O.take k ++ t6 F :: O.drop k).length = k + 1 + (O.length - k) := by
    rw [List.length_append, List.length_cons, List.length_take, List.length_drop]; omega
  have ec : (tv6 (O.take k) ++ e6 (t6 F)) ++ tv6 (O.drop k) = tv6 (O.take k ++ t6 F :: O.drop k) := by
    rw [tv6_app, List.append_assoc]; rfl
  rw [ec] at ho
  refine ⟨h1.widen, h2, ?_, ⟨gb, cb, ?_, by omega⟩, by omega⟩
  · rw [el]; exact ho
  · rw [el]
set_option maxRecDepth 8000 in
set_option maxHeartbeats 8000000 in
/-- Region 9: three appends, in whatever order the operations come. -/
theorem app9 {Q : Exit → Act → World → Prop} (w wr : World) (f p : Fn6) (l : List (Nat × Nat)) (g cap m i gn go co k : Nat) (O : List T6) (F : Fn6) (hO36 : O.length ≤ 36) (hk : k ≤ O.length) (hco : O.length ≤ co) (hm2 : 2 ≤ m) {x0 x1 x4 x10 x11 x12 x13 x14 x15 x16 x17 x18 x19 x20 x21 x22 x23 x24 x25 x26 x27 x28 x29 x30 x31 x32 x33 x34 x35 x36 x37 x38 x39 x40 x41 x42 x43 x44 x45 x46 x47 x48 x49 x50 x51 x52 x53 x54 x55 x56 x57 x58 x59 x60 x61 x62 x63 x64 x65 x66 : Value} (hR : Rq3 w f p l g cap O (.slice (some ⟨go, 0, none⟩) O.length co) m gn F wr.heap.size wr)
    (hQ : ∀ (v' : Value) (m' : Nat) (X : World) (y54 y55 y56 y57 y58 y59 y60 y61 y62 y63 y64 y65 : Value), Rm w f p l g cap (O.take k ++ t6 F :: O.drop k) v' m' X → Q .normal { tmps := #[x0, x1, (.pointer (some ⟨w.heap.size, 0, none⟩)), (.pointer (some ⟨w.heap.size + 1, 0, none⟩)), x4, v', (.slice (some ⟨g, 0, none⟩) l.length cap), (.int .i64 (i : Int)), (.pointer (some ⟨gn, 0, none⟩)), (.int .i64 (k : Int)), x10, x11, x12, x13, x14, x15, x16, x17, x18, x19, x20, x21, x22, x23, x24, x25, x26, x27, x28, x29, x30, x31, x32, x33, x34, x35, x36, x37, x38, x39, x40, x41, x42, x43, x44, x45, x46, x47, x48, x49, x50, x51, x52, x53, y54, y55, y56, y57, y58, y59, y60, y61, y62, y63, y64, y65, x66], defers := [] } X) :
    (Code.region 9 #[{ dst := some 54, op := Go.Op.buildSlice 33 0 #[], type := 33, pos := "l10_games.go:42", after := #[], guard := none }, { dst := some 55, op := Go.Op.move (Go.Operand.tmp 5), type := 33, pos := "l10_games.go:42", after := #[], guard := none }, { dst := some 56, op := Go.Op.move (Go.Operand.tmp 9), type := 3, pos := "l10_games.go:42", after := #[], guard := none }, { dst := some 57, op := Go.Op.slice 33 (Go.Operand.tmp 55) none (some (Go.Operand.tmp 56)) none, type := 33, pos := "l10_games.go:42", after := #[{ on := 1, ground := Go.Ground.data }, { on := 2, ground := Go.Ground.data }], guard := none }, { dst := some 58, op := Go.Op.call { callee := Go.Callee.builtin Go.Builtin.append, args := #[Go.Operand.tmp 54, Go.Operand.tmp 57], argTypes := #[33, 33] }, type := 33, pos := "l10_games.go:42", after := #[{ on := 0, ground := Go.Ground.data }, { on := 3, ground := Go.Ground.data }], guard := none }, { dst := some 59, op := Go.Op.load 28 (Go.Operand.tmp 8), type := 28, pos := "l10_games.go:42", after := #[], guard := none }, { dst := some 60, op := Go.Op.buildSlice 33 1 #[(0, Go.Operand.tmp 59)], type := 33, pos := "l10_games.go:42", after := #[{ on := 5, ground := Go.Ground.data }], guard := none }, { dst := some 61, op := Go.Op.call { callee := Go.Callee.builtin Go.Builtin.append, args := #[Go.Operand.tmp 58, Go.Operand.tmp 60], argTypes := #[33, 33] }, type := 33, pos := "l10_games.go:42", after := #[{ on := 4, ground := Go.Ground.data }, { on := 6, ground := Go.Ground.data }, { on := 4, ground := Go.Ground.chain }], guard := none }, { dst := some 62, op := Go.Op.move (Go.Operand.tmp 5), type := 33, pos := "l10_games.go:42", after := #[], guard := none }, { dst := some 63, op := Go.Op.move (Go.Operand.tmp 9), type := 3, pos := "l10_games.go:42", after := #[], guard := none }, { dst := some 64, op := Go.Op.slice 33 (Go.Operand.tmp 62) (some (Go.Operand.tmp 63)) none none, type := 33, pos := "l10_games.go:42", after := #[{ on := 8, ground := Go.Ground.data }, { on := 9, ground := Go.Ground.data }], guard := none }, { dst := some 65, op := Go.Op.call { callee := Go.Callee.builtin Go.Builtin.append, args := #[Go.Operand.tmp 61, Go.Operand.tmp 64], argTypes := #[33, 33] }, type := 33, pos := "l10_games.go:42", after := #[{ on := 7, ground := Go.Ground.data }, { on := 10, ground := Go.Ground.data }, { on := 7, ground := Go.Ground.chain }], guard := none }, { dst := some 5, op := Go.Op.assign (Go.Operand.tmp 65), type := 33, pos := "l10_games.go:42", after := #[{ on := 11, ground := Go.Ground.data }, { on := 11, ground := Go.Ground.chain }, { on := 0, ground := Go.Ground.phase }, { on := 1, ground := Go.Ground.phase }, { on := 2, ground := Go.Ground.phase }, { on := 3, ground := Go.Ground.phase }, { on := 4, ground := Go.Ground.phase }, { on := 5, ground := Go.Ground.phase }, { on := 6, ground := Go.Ground.phase }, { on := 7, ground := Go.Ground.phase }, { on := 8, ground := Go.Ground.phase }, { on := 9, ground := Go.Ground.phase }, { on := 10, ground := Go.Ground.phase }, { on := 11, ground := Go.Ground.phase }], guard := none }] true).wp Try.prog Q { tmps := #[x0, x1, (.pointer (some ⟨w.heap.size, 0, none⟩)), (.pointer (some ⟨w.heap.size + 1, 0, none⟩)), x4, (.slice (some ⟨go, 0, none⟩) O.length co), (.slice (some ⟨g, 0, none⟩) l.length cap), (.int .i64 (i : Int)), (.pointer (some ⟨gn, 0, none⟩)), (.int .i64 (k : Int)), x10, x11, x12, x13, x14, x15, x16, x17, x18, x19, x20, x21, x22, x23, x24, x25, x26, x27, x28, x29, x30, x31, x32, x33, x34, x35, x36, x37, x38, x39, x40, x41, x42, x43, x44, x45, x46, x47, x48, x49, x50, x51, x52, x53, x54, x55, x56, x57, x58, x59, x60, x61, x62, x63, x64, x65, x66], defers := [] } wr := by
  obtain ⟨i0, hi0, hz0, hz1, hz2⟩ := info28s
  have HQ := Lib.hid hQ
  clear hQ
  have hk0 : (0 : Int) ≤ k := by omega
  have hkl : (k : Int) ≤ O.length := by omega
  have hkc : (k : Int) ≤ co := by omega
  have hkc' : k ≤ co := by omega
  refine wp_region_noPanic ?_
  refine wp_region_held_drew (S := (fun U => U.cell? ⟨gn, 0, none⟩ = some (.int .i64 (rowv (F 0))) ∧ U.cell? ⟨gn, 1, none⟩ = some (.int .i64 (rowv (F 1))) ∧ U.cell? ⟨gn, 2, none⟩ = some (.int .i64 (rowv (F 2))) ∧ U.cell? ⟨gn, 3, none⟩ = some (.int .i64 (rowv (F 3))) ∧ U.cell? ⟨gn, 4, none⟩ = some (.int .i64 (rowv (F 4))) ∧ U.cell? ⟨gn, 5, none⟩ = some (.int .i64 (rowv (F 5))) ∧ Rq3 w f p l g cap O (.slice (some ⟨go, 0, none⟩) O.length co) m gn F wr.heap.size U)) (by kernel_rfl) ?_ (fun hHeld => ?_)
  · (try dsimp only)
    exact Rq3.cells hR.drew
  have HR := Lib.hid hR.drew
  have hVN : wr.heap.size ≤ wr.drew.heap.size := Nat.le_refl _
  clear hR
  obtain ⟨V, hV⟩ : ∃ X, X = wr.drew := ⟨_, rfl⟩
  rw [← hV] at HR hVN hHeld ⊢
  clear hV
  refine wpAnyH_take (i := 1) (oi := { dst := some 55, op := Go.Op.move (Go.Operand.tmp 5), type := 33, pos := "l10_games.go:42", after := #[], guard := none }) (v := ?_) rfl (by kernel_rfl) (by kernel_rfl) (by kernel_rfl) (fun _ _ _ h => h) (Or.inl ⟨by rfl, ?_⟩) (by assumption) ?_
  rotate_left
  · intro w hSw; (try dsimp only at hSw); go_simp; (try with_reducible rfl)
  simp only [Act.put, List.setIfInBounds_toArray, List.set_cons_zero, List.set_cons_succ]
  refine wpAnyH_take (i := 2) (oi := { dst := some 56, op := Go.Op.move (Go.Operand.tmp 9), type := 3, pos := "l10_games.go:42", after := #[], guard := none }) (v := ?_) rfl (by kernel_rfl) (by kernel_rfl) (by kernel_rfl) (fun _ _ _ h => h) (Or.inl ⟨by rfl, ?_⟩) (by assumption) ?_
  rotate_left
  · intro w hSw; (try dsimp only at hSw); go_simp; (try with_reducible rfl)
  simp only [Act.put, List.setIfInBounds_toArray, List.set_cons_zero, List.set_cons_succ]
  refine wpAnyH_take (i := 3) (oi := { dst := some 57, op := Go.Op.slice 33 (Go.Operand.tmp 55) none (some (Go.Operand.tmp 56)) none, type := 33, pos := "l10_games.go:42", after := #[{ on := 1, ground := Go.Ground.data }, { on := 2, ground := Go.Ground.data }], guard := none }) (v := ?_) rfl (by kernel_rfl) (by kernel_rfl) (by kernel_rfl) (fun _ _ _ h => h) (Or.inl ⟨by rfl, ?_⟩) (by assumption) ?_
  rotate_left
  · intro w hSw; (try dsimp only at hSw); go_simp; (try with_reducible rfl)
  simp only [Act.put, List.setIfInBounds_toArray, List.set_cons_zero, List.set_cons_succ]
  refine wpAnyH_take (i := 5) (oi := { dst := some 59, op := Go.Op.load 28 (Go.Operand.tmp 8), type := 28, pos := "l10_games.go:42", after := #[], guard := none }) (v := ?_) rfl (by kernel_rfl) (by kernel_rfl) (by kernel_rfl) (fun _ _ _ h => h) (Or.inl ⟨by rfl, ?_⟩) (by assumption) ?_
  rotate_left
  · intro w hSw; (try dsimp only at hSw); go_simp; (try with_reducible rfl)
  simp only [Act.put, List.setIfInBounds_toArray, List.set_cons_zero, List.set_cons_succ]
  refine wpAnyH_take (i := 8) (oi := { dst := some 62, op := Go.Op.move (Go.Operand.tmp 5), type := 33, pos := "l10_games.go:42", after := #[], guard := none }) (v := ?_) rfl (by kernel_rfl) (by kernel_rfl) (by kernel_rfl) (fun _ _ _ h => h) (Or.inl ⟨by rfl, ?_⟩) (by assumption) ?_
  rotate_left
  · intro w hSw; (try dsimp only at hSw); go_simp; (try with_reducible rfl)
  simp only [Act.put, List.setIfInBounds_toArray, List.set_cons_zero, List.set_cons_succ]
  refine wpAnyH_take (i := 9) (oi := { dst := some 63, op := Go.Op.move (Go.Operand.tmp 9), type := 3, pos := "l10_games.go:42", after := #[], guard := none }) (v := ?_) rfl (by kernel_rfl) (by kernel_rfl) (by kernel_rfl) (fun _ _ _ h => h) (Or.inl ⟨by rfl, ?_⟩) (by assumption) ?_
  rotate_left
  · intro w hSw; (try dsimp only at hSw); go_simp; (try with_reducible rfl)
  simp only [Act.put, List.setIfInBounds_toArray, List.set_cons_zero, List.set_cons_succ]
  refine wpAnyH_take (i := 10) (oi := { dst := some 64, op := Go.Op.slice 33 (Go.Operand.tmp 62) (some (Go.Operand.tmp 63)) none none, type := 33, pos := "l10_games.go:42", after := #[{ on := 8, ground := Go.Ground.data }, { on := 9, ground := Go.Ground.data }], guard := none }) (v := ?_) rfl (by kernel_rfl) (by kernel_rfl) (by kernel_rfl) (fun _ _ _ h => h) (Or.inl ⟨by rfl, ?_⟩) (by assumption) ?_
  rotate_left
  · intro w hSw; (try dsimp only at hSw); go_simp; (try with_reducible rfl)
  simp only [Act.put, List.setIfInBounds_toArray, List.set_cons_zero, List.set_cons_succ]
  obtain ⟨od, hod, hod2⟩ : ∃ od : Nat, (if co = k then (some ⟨go, 0, none⟩ : Option Addr) else some ⟨go, k * 6, none⟩) = some ⟨go, od, none⟩ ∧ (od = k * 6 ∨ (co = k ∧ od = 0)) := by
    by_cases h : co = k
    · exact ⟨0, if_pos h, .inr ⟨h, rfl⟩⟩
    · exact ⟨k * 6, if_neg h, .inl rfl⟩
  rw [hod]
  have HP2 : Hid (∀ U, Rq3 w f p l g cap O (.slice (some ⟨go, 0, none⟩) O.length co) m gn F wr.heap.size U → ∀ (j : Nat) (u : Value), (tv6 (O.drop k))[j]? = some u → U.cell? ((⟨go, od, none⟩ : Addr).add j) = some u) := Lib.hid (fun U h j u hj => by
    rcases hod2 with rfl | ⟨h1, _⟩
    · exact (h.part k hk).2 j u hj
    · rw [List.drop_of_length_le (by omega)] at hj
      simp [tv6] at hj)
  clear hod hod2
  clear hHeld
  refine wpAnyH_ready (rs := [0, 6]) (by kernel_rfl) (by simp) ?_
  refine (AllReadyH.cons (o := { dst := some 54, op := Go.Op.buildSlice 33 0 #[], type := 33, pos := "l10_games.go:42", after := #[], guard := none }) rfl (fun K hK => ?_) (AllReadyH.cons (o := { dst := some 60, op := Go.Op.buildSlice 33 1 #[(0, Go.Operand.tmp 59)], type := 33, pos := "l10_games.go:42", after := #[{ on := 5, ground := Go.Ground.data }], guard := none }) rfl (fun K hK => ?_) AllReadyH.nil))
  · go_simp
    have HR2 := Lib.hid (HR.out.al (.cells #[] 28))
    have HO2 : Hid ((V.alloc (.cells #[] 28)).ownsRow (w.heap.size + 2) 28 6 (.slice (some ⟨V.heap.size, 0, none⟩) 0 0) 0 []) := Lib.hid (World.ownsRow_lit (base := w.heap.size + 2) (e := 28) (size := 6) V #[] 0 (by have := HR.out.2.2.2.1; have := HR.out.2.2.2.2; omega) (by unfold maxLen; omega) rfl)
    refine hK.out _ _ ?_ (fun hHeld => ?_)
    · (try dsimp only)
      exact Rq3.cells HR2.out
    clear hK K hHeld HR
    (try simp only [Act.put, List.setIfInBounds_toArray, List.set_cons_zero, List.set_cons_succ])
    have hNg : wr.heap.size ≤ V.heap.size := hVN
    have hVN2 : wr.heap.size ≤ (V.alloc (.cells #[] 28)).heap.size := HR2.out.2.2.2.2
    generalize V.heap.size = ga at HO2 hNg ⊢
    generalize (World.alloc V _ : World) = V2 at HR2 HO2 hVN2 ⊢
    have HR := HR2
    have hVN := hVN2
    clear HR2 hVN2
    have HO := HO2
    clear HO2
    skip
    obtain ⟨Vn, hVn⟩ : ∃ X, X = V2 := ⟨_, rfl⟩
    rw [← hVn] at HR hVN HO ⊢
    clear hVn
    refine wpAnyH_ready (rs := [4, 6]) (by kernel_rfl) (by simp) ?_
    refine (AllReadyH.cons (o := { dst := some 58, op := Go.Op.call { callee := Go.Callee.builtin Go.Builtin.append, args := #[Go.Operand.tmp 54, Go.Operand.tmp 57], argTypes := #[33, 33] }, type := 33, pos := "l10_games.go:42", after := #[{ on := 0, ground := Go.Ground.data }, { on := 3, ground := Go.Ground.data }], guard := none }) rfl (fun K hK => ?_) (AllReadyH.cons (o := { dst := some 60, op := Go.Op.buildSlice 33 1 #[(0, Go.Operand.tmp 59)], type := 33, pos := "l10_games.go:42", after := #[{ on := 5, ground := Go.Ground.data }], guard := none }) rfl (fun K hK => ?_) AllReadyH.nil))
    · skip
      refine step_append_at rfl _ _ 33 rfl (w.heap.size + 2) 28 i0 (.agg #[.int .i64 0, .int .i64 0, .int .i64 0, .int .i64 0, .int .i64 0, .int .i64 0]) 6 48 Try.underlying33 hi0 hz0 hz1 hz2 rfl (by decide) (.slice (some ⟨ga, 0, none⟩) 0 0) 0 [] rfl HO.out ⟨go, 0, none⟩ k co (tv6 (O.take k)) rfl (by rw [tv6_len, List.length_take, Nat.min_eq_left hk]) ((HR.out.part k hk).1) (tv6_one _) (by have := hO36; unfold maxLen; omega) (by have := hO36; omega) (by have := HR.out.1.1.2.2.size; have := HR.out.2.2.2.2; have := HR.out.1.1.2.1; have := hm2; omega) ?_
      intro v' w' hown hgr hnn hat
      obtain ⟨gb, cb, rfl⟩ := own_form hown (fun e => by have := (hnn.mp e).1; simp at this)
      have hga := (HO.out.lt ga rfl).2
      have hNa : wr.heap.size ≤ ga := hNg
      have HR2 := Lib.hid (HR.out.grown (b := ga) hgr hNa)
      have hNg2 : wr.heap.size ≤ gb := by
        have := HR.out.2.2.2.2
        rcases hat with e | e <;> simp [Value.ownBlock] at e <;> omega
      have HO2 : Hid (w'.ownsRow (w.heap.size + 2) 28 6 (.slice (some ⟨gb, 0, none⟩) k cb) k (tv6 (O.take k))) := Lib.hid (by first | exact hown | simpa using hown)
      (try simp only [Nat.zero_add])
      refine hK.out _ _ ?_ (fun hHeld => ?_)
      · (try dsimp only)
        exact Rq3.cells HR2.out
      clear hK K hHeld HR
      (try simp only [Act.put, List.setIfInBounds_toArray, List.set_cons_zero, List.set_cons_succ])
      clear hown hgr hnn hat
      have hVN2 : wr.heap.size ≤ w'.heap.size := HR2.out.2.2.2.2
      clear HO hNg hga hNa hVN
      have HR := HR2
      have HO := HO2
      have hNg := hNg2
      have hVN := hVN2
      clear HR2 HO2 hNg2 hVN2
      obtain ⟨Vn, hVn⟩ : ∃ X, X = w' := ⟨_, rfl⟩
      rw [← hVn] at HR hVN HO ⊢
      clear hVn
      obtain ⟨gx, hgx⟩ : ∃ X, X = gb := ⟨_, rfl⟩
      rw [← hgx] at HO hNg ⊢
      clear hgx
      obtain ⟨cx, hcx⟩ : ∃ X, X = cb := ⟨_, rfl⟩
      rw [← hcx] at HO ⊢
      clear hcx
      refine wpAnyH_ready (rs := [6]) (by kernel_rfl) (by simp) ?_
      refine (AllReadyH.cons (o := { dst := some 60, op := Go.Op.buildSlice 33 1 #[(0, Go.Operand.tmp 59)], type := 33, pos := "l10_games.go:42", after := #[{ on := 5, ground := Go.Ground.data }], guard := none }) rfl (fun K hK => ?_) AllReadyH.nil)
      · go_simp
        have HR2 := Lib.hid (HR.out.al (o6 F))
        have HB2 : Hid ((Vn.alloc (o6 F)).heap[Vn.heap.size]? = some (o6 F)) := Lib.hid (alloc_at rfl)
        have HO2 := Lib.hid (HO.out.alloc (o6 F))
        have hne : gx ≠ Vn.heap.size := by have := (HO.out.lt gx rfl).2; omega
        refine hK.out _ _ ?_ (fun hHeld => ?_)
        · (try dsimp only)
          exact Rq3.cells HR2.out
        clear hK K hHeld HR
        (try simp only [Act.put, List.setIfInBounds_toArray, List.set_cons_zero, List.set_cons_succ])
        have hVN2 : wr.heap.size ≤ (Vn.alloc (o6 F)).heap.size := HR2.out.2.2.2.2
        skip -- HR2 HB2 hVN2 HO2 ⊢
        change wpAnyH _ _ _ _ _ _ _ _ (Vn.alloc (o6 F))
        generalize Vn.heap.size = b6 at HB2 hne ⊢
        generalize (Vn.alloc (o6 F) : World) = V2 at HR2 HB2 hVN2 HO2 ⊢
        have HR := HR2
        have hVN := hVN2
        clear HR2 hVN2
        have HB := HB2
        clear HB2
        have HO := HO2
        clear HO2
        skip
        obtain ⟨Vn, hVn⟩ : ∃ X, X = V2 := ⟨_, rfl⟩
        rw [← hVn] at HR hVN HO HB ⊢
        clear hVn
        refine wpAnyH_ready (rs := [7]) (by kernel_rfl) (by simp) ?_
        refine (AllReadyH.cons (o := { dst := some 61, op := Go.Op.call { callee := Go.Callee.builtin Go.Builtin.append, args := #[Go.Operand.tmp 58, Go.Operand.tmp 60], argTypes := #[33, 33] }, type := 33, pos := "l10_games.go:42", after := #[{ on := 4, ground := Go.Ground.data }, { on := 6, ground := Go.Ground.data }, { on := 4, ground := Go.Ground.chain }], guard := none }) rfl (fun K hK => ?_) AllReadyH.nil)
        · skip
          have HNw : Hid (∀ (j : Nat) (u : Value), (e6 (t6 F))[j]? = some u → Vn.cell? ((⟨b6, 0, none⟩ : Addr).add j) = some u) := Lib.hid (row_new HB.out)
          refine step_append_at rfl _ _ 33 rfl (w.heap.size + 2) 28 i0 (.agg #[.int .i64 0, .int .i64 0, .int .i64 0, .int .i64 0, .int .i64 0, .int .i64 0]) 6 48 Try.underlying33 hi0 hz0 hz1 hz2 rfl (by decide) (.slice (some ⟨gx, 0, none⟩) k cx) k (tv6 (O.take k)) rfl HO.out ⟨b6, 0, none⟩ 1 1 (e6 (t6 F)) rfl (rfl) (HNw.out) ((fun u hu => by simp only [e6, List.mem_cons, List.not_mem_nil, or_false] at hu; rcases hu with rfl | rfl | rfl | rfl | rfl | rfl <;> rfl)) (by have := hO36; unfold maxLen; omega) (by have := hO36; omega) (by have := HR.out.1.1.2.2.size; have := HR.out.2.2.2.2; have := HR.out.1.1.2.1; have := hm2; omega) ?_
          intro v' w' hown hgr hnn hat
          obtain ⟨gb, cb, rfl⟩ := own_form hown (fun e => by have := (hnn.mp e).1; simp at this)
          have hga := (HO.out.lt gx rfl).2
          have hNa : wr.heap.size ≤ gx := hNg
          have HR2 := Lib.hid (HR.out.grown (b := gx) hgr hNa)
          have hNg2 : wr.heap.size ≤ gb := by
            have := HR.out.2.2.2.2
            rcases hat with e | e <;> simp [Value.ownBlock] at e <;> omega
          have HO2 : Hid (w'.ownsRow (w.heap.size + 2) 28 6 (.slice (some ⟨gb, 0, none⟩) (k + 1) cb) (k + 1) (tv6 (O.take k) ++ e6 (t6 F))) := Lib.hid (by first | exact hown | simpa using hown)
          refine hK.out _ _ ?_ (fun hHeld => ?_)
          · (try dsimp only)
            exact Rq3.cells HR2.out
          clear hK K hHeld HR
          (try simp only [Act.put, List.setIfInBounds_toArray, List.set_cons_zero, List.set_cons_succ])
          clear hown hgr hnn hat
          have hVN2 : wr.heap.size ≤ w'.heap.size := HR2.out.2.2.2.2
          clear HO hNg hga hNa hVN HNw
          have HR := HR2
          have HO := HO2
          have hNg := hNg2
          have hVN := hVN2
          clear HR2 HO2 hNg2 hVN2
          obtain ⟨Vn, hVn⟩ : ∃ X, X = w' := ⟨_, rfl⟩
          rw [← hVn] at HR hVN HO ⊢
          clear hVn
          obtain ⟨gx, hgx⟩ : ∃ X, X = gb := ⟨_, rfl⟩
          rw [← hgx] at HO hNg ⊢
          clear hgx
          obtain ⟨cx, hcx⟩ : ∃ X, X = cb := ⟨_, rfl⟩
          rw [← hcx] at HO ⊢
          clear hcx
          refine wpAnyH_ready (rs := [11]) (by kernel_rfl) (by simp) ?_
          refine (AllReadyH.cons (o := { dst := some 65, op := Go.Op.call { callee := Go.Callee.builtin Go.Builtin.append, args := #[Go.Operand.tmp 61, Go.Operand.tmp 64], argTypes := #[33, 33] }, type := 33, pos := "l10_games.go:42", after := #[{ on := 7, ground := Go.Ground.data }, { on := 10, ground := Go.Ground.data }, { on := 7, ground := Go.Ground.chain }], guard := none }) rfl (fun K hK => ?_) AllReadyH.nil)
          · skip
            refine step_append_at rfl _ _ 33 rfl (w.heap.size + 2) 28 i0 (.agg #[.int .i64 0, .int .i64 0, .int .i64 0, .int .i64 0, .int .i64 0, .int .i64 0]) 6 48 Try.underlying33 hi0 hz0 hz1 hz2 rfl (by decide) (.slice (some ⟨gx, 0, none⟩) (k + 1) cx) (k + 1) (tv6 (O.take k) ++ e6 (t6 F)) rfl HO.out ⟨go, od, none⟩ (O.length - k) (co - k) (tv6 (O.drop k)) rfl (by rw [tv6_len, List.length_drop]) (HP2.out _ HR.out) (tv6_one _) (by have := hO36; unfold maxLen; omega) (by have := hO36; omega) (by have := HR.out.1.1.2.2.size; have := HR.out.2.2.2.2; have := HR.out.1.1.2.1; have := hm2; omega) ?_
            intro v' w' hown hgr hnn hat
            obtain ⟨gb, cb, rfl⟩ := own_form hown (fun e => by have := (hnn.mp e).1; simp at this)
            have hga := (HO.out.lt gx rfl).2
            have hNa : wr.heap.size ≤ gx := hNg
            have HR2 := Lib.hid (HR.out.grown (b := gx) hgr hNa)
            have hNg2 : wr.heap.size ≤ gb := by
              have := HR.out.2.2.2.2
              rcases hat with e | e <;> simp [Value.ownBlock] at e <;> omega
            have HO2 : Hid (w'.ownsRow (w.heap.size + 2) 28 6 (.slice (some ⟨gb, 0, none⟩) (k + 1 + (O.length - k)) cb) (k + 1 + (O.length - k)) ((tv6 (O.take k) ++ e6 (t6 F)) ++ tv6 (O.drop k))) := Lib.hid (by first | exact hown | simpa using hown)
            refine hK.out _ _ ?_ (fun hHeld => ?_)
            · (try dsimp only)
              exact Rq3.cells HR2.out
            clear hK K HR
            (try simp only [Act.put, List.setIfInBounds_toArray, List.set_cons_zero, List.set_cons_succ])
            clear hown hgr hnn hat
            have hVN2 : wr.heap.size ≤ w'.heap.size := HR2.out.2.2.2.2
            clear HO hNg hga hNa hVN
            clear hVN2
            refine wpAnyH_take (i := 12) (oi := { dst := some 5, op := Go.Op.assign (Go.Operand.tmp 65), type := 33, pos := "l10_games.go:42", after := #[{ on := 11, ground := Go.Ground.data }, { on := 11, ground := Go.Ground.chain }, { on := 0, ground := Go.Ground.phase }, { on := 1, ground := Go.Ground.phase }, { on := 2, ground := Go.Ground.phase }, { on := 3, ground := Go.Ground.phase }, { on := 4, ground := Go.Ground.phase }, { on := 5, ground := Go.Ground.phase }, { on := 6, ground := Go.Ground.phase }, { on := 7, ground := Go.Ground.phase }, { on := 8, ground := Go.Ground.phase }, { on := 9, ground := Go.Ground.phase }, { on := 10, ground := Go.Ground.phase }, { on := 11, ground := Go.Ground.phase }], guard := none }) (v := ?_) rfl (by kernel_rfl) (by kernel_rfl) (by kernel_rfl) (fun _ _ _ h => h) (Or.inl ⟨by rfl, ?_⟩) (by assumption) ?_
            rotate_left
            · intro w hSw; (try dsimp only at hSw); go_simp; (try with_reducible rfl)
            simp only [Act.put, List.setIfInBounds_toArray, List.set_cons_zero, List.set_cons_succ]
            refine wpAnyH_done (by kernel_rfl) ?_ _
            refine NoPanic.normal (HQ.out _ (w'.heap.size - w.heap.size) w' _ _ _ _ _ _ _ _ _ _ _ _ ?_)
            exact Rm_app hk HR2.out HO2.out
    · go_simp
      have HR2 := Lib.hid (HR.out.al (o6 F))
      have HB2 : Hid ((Vn.alloc (o6 F)).heap[Vn.heap.size]? = some (o6 F)) := Lib.hid (alloc_at rfl)
      have HO2 := Lib.hid (HO.out.alloc (o6 F))
      have hne : ga ≠ Vn.heap.size := by have := (HO.out.lt ga rfl).2; omega
      refine hK.out _ _ ?_ (fun hHeld => ?_)
      · (try dsimp only)
        exact Rq3.cells HR2.out
      clear hK K hHeld HR
      (try simp only [Act.put, List.setIfInBounds_toArray, List.set_cons_zero, List.set_cons_succ])
      have hVN2 : wr.heap.size ≤ (Vn.alloc (o6 F)).heap.size := HR2.out.2.2.2.2
      skip -- HR2 HB2 hVN2 HO2 ⊢
      change wpAnyH _ _ _ _ _ _ _ _ (Vn.alloc (o6 F))
      generalize Vn.heap.size = b6 at HB2 hne ⊢
      generalize (Vn.alloc (o6 F) : World) = V2 at HR2 HB2 hVN2 HO2 ⊢
      have HR := HR2
      have hVN := hVN2
      clear HR2 hVN2
      have HB := HB2
      clear HB2
      have HO := HO2
      clear HO2
      skip
      obtain ⟨Vn, hVn⟩ : ∃ X, X = V2 := ⟨_, rfl⟩
      rw [← hVn] at HR hVN HO HB ⊢
      clear hVn
      refine wpAnyH_ready (rs := [4]) (by kernel_rfl) (by simp) ?_
      refine (AllReadyH.cons (o := { dst := some 58, op := Go.Op.call { callee := Go.Callee.builtin Go.Builtin.append, args := #[Go.Operand.tmp 54, Go.Operand.tmp 57], argTypes := #[33, 33] }, type := 33, pos := "l10_games.go:42", after := #[{ on := 0, ground := Go.Ground.data }, { on := 3, ground := Go.Ground.data }], guard := none }) rfl (fun K hK => ?_) AllReadyH.nil)
      · skip
        refine step_append_at rfl _ _ 33 rfl (w.heap.size + 2) 28 i0 (.agg #[.int .i64 0, .int .i64 0, .int .i64 0, .int .i64 0, .int .i64 0, .int .i64 0]) 6 48 Try.underlying33 hi0 hz0 hz1 hz2 rfl (by decide) (.slice (some ⟨ga, 0, none⟩) 0 0) 0 [] rfl HO.out ⟨go, 0, none⟩ k co (tv6 (O.take k)) rfl (by rw [tv6_len, List.length_take, Nat.min_eq_left hk]) ((HR.out.part k hk).1) (tv6_one _) (by have := hO36; unfold maxLen; omega) (by have := hO36; omega) (by have := HR.out.1.1.2.2.size; have := HR.out.2.2.2.2; have := HR.out.1.1.2.1; have := hm2; omega) ?_
        intro v' w' hown hgr hnn hat
        obtain ⟨gb, cb, rfl⟩ := own_form hown (fun e => by have := (hnn.mp e).1; simp at this)
        have hga := (HO.out.lt ga rfl).2
        have hNa : wr.heap.size ≤ ga := hNg
        have HR2 := Lib.hid (HR.out.grown (b := ga) hgr hNa)
        have hNg2 : wr.heap.size ≤ gb := by
          have := HR.out.2.2.2.2
          rcases hat with e | e <;> simp [Value.ownBlock] at e <;> omega
        have HO2 : Hid (w'.ownsRow (w.heap.size + 2) 28 6 (.slice (some ⟨gb, 0, none⟩) k cb) k (tv6 (O.take k))) := Lib.hid (by first | exact hown | simpa using hown)
        have HB2 : Hid (w'.heap[b6]? = some (o6 F)) := Lib.hid (by rw [hgr.block b6 (row_lt HB.out) (by simp [Value.ownBlock]; omega)]; exact HB.out)
        have hne2 : gb ≠ b6 := by
          have := row_lt HB.out
          rcases hat with e | e <;> simp [Value.ownBlock] at e <;> omega
        (try simp only [Nat.zero_add])
        refine hK.out _ _ ?_ (fun hHeld => ?_)
        · (try dsimp only)
          exact Rq3.cells HR2.out
        clear hK K hHeld HR
        (try simp only [Act.put, List.setIfInBounds_toArray, List.set_cons_zero, List.set_cons_succ])
        clear hown hgr hnn hat
        have hVN2 : wr.heap.size ≤ w'.heap.size := HR2.out.2.2.2.2
        clear HO hNg hga hNa hVN HB hne
        have HR := HR2
        have HO := HO2
        have hNg := hNg2
        have hVN := hVN2
        clear HR2 HO2 hNg2 hVN2
        have HB := HB2
        have hne := hne2
        clear HB2 hne2
        obtain ⟨Vn, hVn⟩ : ∃ X, X = w' := ⟨_, rfl⟩
        rw [← hVn] at HR hVN HO HB ⊢
        clear hVn
        obtain ⟨gx, hgx⟩ : ∃ X, X = gb := ⟨_, rfl⟩
        rw [← hgx] at HO hNg hne ⊢
        clear hgx
        obtain ⟨cx, hcx⟩ : ∃ X, X = cb := ⟨_, rfl⟩
        rw [← hcx] at HO ⊢
        clear hcx
        refine wpAnyH_ready (rs := [7]) (by kernel_rfl) (by simp) ?_
        refine (AllReadyH.cons (o := { dst := some 61, op := Go.Op.call { callee := Go.Callee.builtin Go.Builtin.append, args := #[Go.Operand.tmp 58, Go.Operand.tmp 60], argTypes := #[33, 33] }, type := 33, pos := "l10_games.go:42", after := #[{ on := 4, ground := Go.Ground.data }, { on := 6, ground := Go.Ground.data }, { on := 4, ground := Go.Ground.chain }], guard := none }) rfl (fun K hK => ?_) AllReadyH.nil)
        · skip
          have HNw : Hid (∀ (j : Nat) (u : Value), (e6 (t6 F))[j]? = some u → Vn.cell? ((⟨b6, 0, none⟩ : Addr).add j) = some u) := Lib.hid (row_new HB.out)
          refine step_append_at rfl _ _ 33 rfl (w.heap.size + 2) 28 i0 (.agg #[.int .i64 0, .int .i64 0, .int .i64 0, .int .i64 0, .int .i64 0, .int .i64 0]) 6 48 Try.underlying33 hi0 hz0 hz1 hz2 rfl (by decide) (.slice (some ⟨gx, 0, none⟩) k cx) k (tv6 (O.take k)) rfl HO.out ⟨b6, 0, none⟩ 1 1 (e6 (t6 F)) rfl (rfl) (HNw.out) ((fun u hu => by simp only [e6, List.mem_cons, List.not_mem_nil, or_false] at hu; rcases hu with rfl | rfl | rfl | rfl | rfl | rfl <;> rfl)) (by have := hO36; unfold maxLen; omega) (by have := hO36; omega) (by have := HR.out.1.1.2.2.size; have := HR.out.2.2.2.2; have := HR.out.1.1.2.1; have := hm2; omega) ?_
          intro v' w' hown hgr hnn hat
          obtain ⟨gb, cb, rfl⟩ := own_form hown (fun e => by have := (hnn.mp e).1; simp at this)
          have hga := (HO.out.lt gx rfl).2
          have hNa : wr.heap.size ≤ gx := hNg
          have HR2 := Lib.hid (HR.out.grown (b := gx) hgr hNa)
          have hNg2 : wr.heap.size ≤ gb := by
            have := HR.out.2.2.2.2
            rcases hat with e | e <;> simp [Value.ownBlock] at e <;> omega
          have HO2 : Hid (w'.ownsRow (w.heap.size + 2) 28 6 (.slice (some ⟨gb, 0, none⟩) (k + 1) cb) (k + 1) (tv6 (O.take k) ++ e6 (t6 F))) := Lib.hid (by first | exact hown | simpa using hown)
          refine hK.out _ _ ?_ (fun hHeld => ?_)
          · (try dsimp only)
            exact Rq3.cells HR2.out
          clear hK K hHeld HR
          (try simp only [Act.put, List.setIfInBounds_toArray, List.set_cons_zero, List.set_cons_succ])
          clear hown hgr hnn hat
          have hVN2 : wr.heap.size ≤ w'.heap.size := HR2.out.2.2.2.2
          clear HO hNg hga hNa hVN HNw
          have HR := HR2
          have HO := HO2
          have hNg := hNg2
          have hVN := hVN2
          clear HR2 HO2 hNg2 hVN2
          obtain ⟨Vn, hVn⟩ : ∃ X, X = w' := ⟨_, rfl⟩
          rw [← hVn] at HR hVN HO ⊢
          clear hVn
          obtain ⟨gx, hgx⟩ : ∃ X, X = gb := ⟨_, rfl⟩
          rw [← hgx] at HO hNg ⊢
          clear hgx
          obtain ⟨cx, hcx⟩ : ∃ X, X = cb := ⟨_, rfl⟩
          rw [← hcx] at HO ⊢
          clear hcx
          refine wpAnyH_ready (rs := [11]) (by kernel_rfl) (by simp) ?_
          refine (AllReadyH.cons (o := { dst := some 65, op := Go.Op.call { callee := Go.Callee.builtin Go.Builtin.append, args := #[Go.Operand.tmp 61, Go.Operand.tmp 64], argTypes := #[33, 33] }, type := 33, pos := "l10_games.go:42", after := #[{ on := 7, ground := Go.Ground.data }, { on := 10, ground := Go.Ground.data }, { on := 7, ground := Go.Ground.chain }], guard := none }) rfl (fun K hK => ?_) AllReadyH.nil)
          · skip
            refine step_append_at rfl _ _ 33 rfl (w.heap.size + 2) 28 i0 (.agg #[.int .i64 0, .int .i64 0, .int .i64 0, .int .i64 0, .int .i64 0, .int .i64 0]) 6 48 Try.underlying33 hi0 hz0 hz1 hz2 rfl (by decide) (.slice (some ⟨gx, 0, none⟩) (k + 1) cx) (k + 1) (tv6 (O.take k) ++ e6 (t6 F)) rfl HO.out ⟨go, od, none⟩ (O.length - k) (co - k) (tv6 (O.drop k)) rfl (by rw [tv6_len, List.length_drop]) (HP2.out _ HR.out) (tv6_one _) (by have := hO36; unfold maxLen; omega) (by have := hO36; omega) (by have := HR.out.1.1.2.2.size; have := HR.out.2.2.2.2; have := HR.out.1.1.2.1; have := hm2; omega) ?_
            intro v' w' hown hgr hnn hat
            obtain ⟨gb, cb, rfl⟩ := own_form hown (fun e => by have := (hnn.mp e).1; simp at this)
            have hga := (HO.out.lt gx rfl).2
            have hNa : wr.heap.size ≤ gx := hNg
            have HR2 := Lib.hid (HR.out.grown (b := gx) hgr hNa)
            have hNg2 : wr.heap.size ≤ gb := by
              have := HR.out.2.2.2.2
              rcases hat with e | e <;> simp [Value.ownBlock] at e <;> omega
            have HO2 : Hid (w'.ownsRow (w.heap.size + 2) 28 6 (.slice (some ⟨gb, 0, none⟩) (k + 1 + (O.length - k)) cb) (k + 1 + (O.length - k)) ((tv6 (O.take k) ++ e6 (t6 F)) ++ tv6 (O.drop k))) := Lib.hid (by first | exact hown | simpa using hown)
            refine hK.out _ _ ?_ (fun hHeld => ?_)
            · (try dsimp only)
              exact Rq3.cells HR2.out
            clear hK K HR
            (try simp only [Act.put, List.setIfInBounds_toArray, List.set_cons_zero, List.set_cons_succ])
            clear hown hgr hnn hat
            have hVN2 : wr.heap.size ≤ w'.heap.size := HR2.out.2.2.2.2
            clear HO hNg hga hNa hVN
            clear hVN2
            refine wpAnyH_take (i := 12) (oi := { dst := some 5, op := Go.Op.assign (Go.Operand.tmp 65), type := 33, pos := "l10_games.go:42", after := #[{ on := 11, ground := Go.Ground.data }, { on := 11, ground := Go.Ground.chain }, { on := 0, ground := Go.Ground.phase }, { on := 1, ground := Go.Ground.phase }, { on := 2, ground := Go.Ground.phase }, { on := 3, ground := Go.Ground.phase }, { on := 4, ground := Go.Ground.phase }, { on := 5, ground := Go.Ground.phase }, { on := 6, ground := Go.Ground.phase }, { on := 7, ground := Go.Ground.phase }, { on := 8, ground := Go.Ground.phase }, { on := 9, ground := Go.Ground.phase }, { on := 10, ground := Go.Ground.phase }, { on := 11, ground := Go.Ground.phase }], guard := none }) (v := ?_) rfl (by kernel_rfl) (by kernel_rfl) (by kernel_rfl) (fun _ _ _ h => h) (Or.inl ⟨by rfl, ?_⟩) (by assumption) ?_
            rotate_left
            · intro w hSw; (try dsimp only at hSw); go_simp; (try with_reducible rfl)
            simp only [Act.put, List.setIfInBounds_toArray, List.set_cons_zero, List.set_cons_succ]
            refine wpAnyH_done (by kernel_rfl) ?_ _
            refine NoPanic.normal (HQ.out _ (w'.heap.size - w.heap.size) w' _ _ _ _ _ _ _ _ _ _ _ _ ?_)
            exact Rm_app hk HR2.out HO2.out
  · go_simp
    have HR2 := Lib.hid (HR.out.al (o6 F))
    have HB2 : Hid ((V.alloc (o6 F)).heap[V.heap.size]? = some (o6 F)) := Lib.hid (alloc_at rfl)
    refine hK.out _ _ ?_ (fun hHeld => ?_)
    · (try dsimp only)
      exact Rq3.cells HR2.out
    clear hK K hHeld HR
    (try simp only [Act.put, List.setIfInBounds_toArray, List.set_cons_zero, List.set_cons_succ])
    have hVN2 : wr.heap.size ≤ (V.alloc (o6 F)).heap.size := HR2.out.2.2.2.2
    skip -- HR2 HB2 hVN2 ⊢
    change wpAnyH _ _ _ _ _ _ _ _ (V.alloc (o6 F))
    generalize V.heap.size = b6 at HB2 ⊢
    generalize (V.alloc (o6 F) : World) = V2 at HR2 HB2 hVN2 ⊢
    have HR := HR2
    have hVN := hVN2
    clear HR2 hVN2
    have HB := HB2
    clear HB2
    skip
    obtain ⟨Vn, hVn⟩ : ∃ X, X = V2 := ⟨_, rfl⟩
    rw [← hVn] at HR hVN HB ⊢
    clear hVn
    refine wpAnyH_ready (rs := [0]) (by kernel_rfl) (by simp) ?_
    refine (AllReadyH.cons (o := { dst := some 54, op := Go.Op.buildSlice 33 0 #[], type := 33, pos := "l10_games.go:42", after := #[], guard := none }) rfl (fun K hK => ?_) AllReadyH.nil)
    · go_simp
      have HR2 := Lib.hid (HR.out.al (.cells #[] 28))
      have HO2 : Hid ((Vn.alloc (.cells #[] 28)).ownsRow (w.heap.size + 2) 28 6 (.slice (some ⟨Vn.heap.size, 0, none⟩) 0 0) 0 []) := Lib.hid (World.ownsRow_lit (base := w.heap.size + 2) (e := 28) (size := 6) Vn #[] 0 (by have := HR.out.2.2.2.1; have := HR.out.2.2.2.2; omega) (by unfold maxLen; omega) rfl)
      have HB2 : Hid ((Vn.alloc (.cells #[] 28)).heap[b6]? = some (o6 F)) := Lib.hid (alloc_past HB.out)
      have hne : Vn.heap.size ≠ b6 := by have := row_lt HB.out; omega
      refine hK.out _ _ ?_ (fun hHeld => ?_)
      · (try dsimp only)
        exact Rq3.cells HR2.out
      clear hK K hHeld HR
      (try simp only [Act.put, List.setIfInBounds_toArray, List.set_cons_zero, List.set_cons_succ])
      have hNg : wr.heap.size ≤ Vn.heap.size := hVN
      have hVN2 : wr.heap.size ≤ (Vn.alloc (.cells #[] 28)).heap.size := HR2.out.2.2.2.2
      generalize Vn.heap.size = ga at HO2 hNg hne ⊢
      generalize (World.alloc Vn _ : World) = V2 at HR2 HO2 hVN2 HB2 ⊢
      have HR := HR2
      have hVN := hVN2
      clear HR2 hVN2
      have HO := HO2
      clear HO2
      have HB := HB2
      clear HB2
      skip
      obtain ⟨Vn, hVn⟩ : ∃ X, X = V2 := ⟨_, rfl⟩
      rw [← hVn] at HR hVN HO HB ⊢
      clear hVn
      refine wpAnyH_ready (rs := [4]) (by kernel_rfl) (by simp) ?_
      refine (AllReadyH.cons (o := { dst := some 58, op := Go.Op.call { callee := Go.Callee.builtin Go.Builtin.append, args := #[Go.Operand.tmp 54, Go.Operand.tmp 57], argTypes := #[33, 33] }, type := 33, pos := "l10_games.go:42", after := #[{ on := 0, ground := Go.Ground.data }, { on := 3, ground := Go.Ground.data }], guard := none }) rfl (fun K hK => ?_) AllReadyH.nil)
      · skip
        refine step_append_at rfl _ _ 33 rfl (w.heap.size + 2) 28 i0 (.agg #[.int .i64 0, .int .i64 0, .int .i64 0, .int .i64 0, .int .i64 0, .int .i64 0]) 6 48 Try.underlying33 hi0 hz0 hz1 hz2 rfl (by decide) (.slice (some ⟨ga, 0, none⟩) 0 0) 0 [] rfl HO.out ⟨go, 0, none⟩ k co (tv6 (O.take k)) rfl (by rw [tv6_len, List.length_take, Nat.min_eq_left hk]) ((HR.out.part k hk).1) (tv6_one _) (by have := hO36; unfold maxLen; omega) (by have := hO36; omega) (by have := HR.out.1.1.2.2.size; have := HR.out.2.2.2.2; have := HR.out.1.1.2.1; have := hm2; omega) ?_
        intro v' w' hown hgr hnn hat
        obtain ⟨gb, cb, rfl⟩ := own_form hown (fun e => by have := (hnn.mp e).1; simp at this)
        have hga := (HO.out.lt ga rfl).2
        have hNa : wr.heap.size ≤ ga := hNg
        have HR2 := Lib.hid (HR.out.grown (b := ga) hgr hNa)
        have hNg2 : wr.heap.size ≤ gb := by
          have := HR.out.2.2.2.2
          rcases hat with e | e <;> simp [Value.ownBlock] at e <;> omega
        have HO2 : Hid (w'.ownsRow (w.heap.size + 2) 28 6 (.slice (some ⟨gb, 0, none⟩) k cb) k (tv6 (O.take k))) := Lib.hid (by first | exact hown | simpa using hown)
        have HB2 : Hid (w'.heap[b6]? = some (o6 F)) := Lib.hid (by rw [hgr.block b6 (row_lt HB.out) (by simp [Value.ownBlock]; omega)]; exact HB.out)
        have hne2 : gb ≠ b6 := by
          have := row_lt HB.out
          rcases hat with e | e <;> simp [Value.ownBlock] at e <;> omega
        (try simp only [Nat.zero_add])
        refine hK.out _ _ ?_ (fun hHeld => ?_)
        · (try dsimp only)
          exact Rq3.cells HR2.out
        clear hK K hHeld HR
        (try simp only [Act.put, List.setIfInBounds_toArray, List.set_cons_zero, List.set_cons_succ])
        clear hown hgr hnn hat
        have hVN2 : wr.heap.size ≤ w'.heap.size := HR2.out.2.2.2.2
        clear HO hNg hga hNa hVN HB hne
        have HR := HR2
        have HO := HO2
        have hNg := hNg2
        have hVN := hVN2
        clear HR2 HO2 hNg2 hVN2
        have HB := HB2
        have hne := hne2
        clear HB2 hne2
        obtain ⟨Vn, hVn⟩ : ∃ X, X = w' := ⟨_, rfl⟩
        rw [← hVn] at HR hVN HO HB ⊢
        clear hVn
        obtain ⟨gx, hgx⟩ : ∃ X, X = gb := ⟨_, rfl⟩
        rw [← hgx] at HO hNg hne ⊢
        clear hgx
        obtain ⟨cx, hcx⟩ : ∃ X, X = cb := ⟨_, rfl⟩
        rw [← hcx] at HO ⊢
        clear hcx
        refine wpAnyH_ready (rs := [7]) (by kernel_rfl) (by simp) ?_
        refine (AllReadyH.cons (o := { dst := some 61, op := Go.Op.call { callee := Go.Callee.builtin Go.Builtin.append, args := #[Go.Operand.tmp 58, Go.Operand.tmp 60], argTypes := #[33, 33] }, type := 33, pos := "l10_games.go:42", after := #[{ on := 4, ground := Go.Ground.data }, { on := 6, ground := Go.Ground.data }, { on := 4, ground := Go.Ground.chain }], guard := none }) rfl (fun K hK => ?_) AllReadyH.nil)
        · skip
          have HNw : Hid (∀ (j : Nat) (u : Value), (e6 (t6 F))[j]? = some u → Vn.cell? ((⟨b6, 0, none⟩ : Addr).add j) = some u) := Lib.hid (row_new HB.out)
          refine step_append_at rfl _ _ 33 rfl (w.heap.size + 2) 28 i0 (.agg #[.int .i64 0, .int .i64 0, .int .i64 0, .int .i64 0, .int .i64 0, .int .i64 0]) 6 48 Try.underlying33 hi0 hz0 hz1 hz2 rfl (by decide) (.slice (some ⟨gx, 0, none⟩) k cx) k (tv6 (O.take k)) rfl HO.out ⟨b6, 0, none⟩ 1 1 (e6 (t6 F)) rfl (rfl) (HNw.out) ((fun u hu => by simp only [e6, List.mem_cons, List.not_mem_nil, or_false] at hu; rcases hu with rfl | rfl | rfl | rfl | rfl | rfl <;> rfl)) (by have := hO36; unfold maxLen; omega) (by have := hO36; omega) (by have := HR.out.1.1.2.2.size; have := HR.out.2.2.2.2; have := HR.out.1.1.2.1; have := hm2; omega) ?_
          intro v' w' hown hgr hnn hat
          obtain ⟨gb, cb, rfl⟩ := own_form hown (fun e => by have := (hnn.mp e).1; simp at this)
          have hga := (HO.out.lt gx rfl).2
          have hNa : wr.heap.size ≤ gx := hNg
          have HR2 := Lib.hid (HR.out.grown (b := gx) hgr hNa)
          have hNg2 : wr.heap.size ≤ gb := by
            have := HR.out.2.2.2.2
            rcases hat with e | e <;> simp [Value.ownBlock] at e <;> omega
          have HO2 : Hid (w'.ownsRow (w.heap.size + 2) 28 6 (.slice (some ⟨gb, 0, none⟩) (k + 1) cb) (k + 1) (tv6 (O.take k) ++ e6 (t6 F))) := Lib.hid (by first | exact hown | simpa using hown)
          refine hK.out _ _ ?_ (fun hHeld => ?_)
          · (try dsimp only)
            exact Rq3.cells HR2.out
          clear hK K hHeld HR
          (try simp only [Act.put, List.setIfInBounds_toArray, List.set_cons_zero, List.set_cons_succ])
          clear hown hgr hnn hat
          have hVN2 : wr.heap.size ≤ w'.heap.size := HR2.out.2.2.2.2
          clear HO hNg hga hNa hVN HNw
          have HR := HR2
          have HO := HO2
          have hNg := hNg2
          have hVN := hVN2
          clear HR2 HO2 hNg2 hVN2
          obtain ⟨Vn, hVn⟩ : ∃ X, X = w' := ⟨_, rfl⟩
          rw [← hVn] at HR hVN HO ⊢
          clear hVn
          obtain ⟨gx, hgx⟩ : ∃ X, X = gb := ⟨_, rfl⟩
          rw [← hgx] at HO hNg ⊢
          clear hgx
          obtain ⟨cx, hcx⟩ : ∃ X, X = cb := ⟨_, rfl⟩
          rw [← hcx] at HO ⊢
          clear hcx
          refine wpAnyH_ready (rs := [11]) (by kernel_rfl) (by simp) ?_
          refine (AllReadyH.cons (o := { dst := some 65, op := Go.Op.call { callee := Go.Callee.builtin Go.Builtin.append, args := #[Go.Operand.tmp 61, Go.Operand.tmp 64], argTypes := #[33, 33] }, type := 33, pos := "l10_games.go:42", after := #[{ on := 7, ground := Go.Ground.data }, { on := 10, ground := Go.Ground.data }, { on := 7, ground := Go.Ground.chain }], guard := none }) rfl (fun K hK => ?_) AllReadyH.nil)
          · skip
            refine step_append_at rfl _ _ 33 rfl (w.heap.size + 2) 28 i0 (.agg #[.int .i64 0, .int .i64 0, .int .i64 0, .int .i64 0, .int .i64 0, .int .i64 0]) 6 48 Try.underlying33 hi0 hz0 hz1 hz2 rfl (by decide) (.slice (some ⟨gx, 0, none⟩) (k + 1) cx) (k + 1) (tv6 (O.take k) ++ e6 (t6 F)) rfl HO.out ⟨go, od, none⟩ (O.length - k) (co - k) (tv6 (O.drop k)) rfl (by rw [tv6_len, List.length_drop]) (HP2.out _ HR.out) (tv6_one _) (by have := hO36; unfold maxLen; omega) (by have := hO36; omega) (by have := HR.out.1.1.2.2.size; have := HR.out.2.2.2.2; have := HR.out.1.1.2.1; have := hm2; omega) ?_
            intro v' w' hown hgr hnn hat
            obtain ⟨gb, cb, rfl⟩ := own_form hown (fun e => by have := (hnn.mp e).1; simp at this)
            have hga := (HO.out.lt gx rfl).2
            have hNa : wr.heap.size ≤ gx := hNg
            have HR2 := Lib.hid (HR.out.grown (b := gx) hgr hNa)
            have hNg2 : wr.heap.size ≤ gb := by
              have := HR.out.2.2.2.2
              rcases hat with e | e <;> simp [Value.ownBlock] at e <;> omega
            have HO2 : Hid (w'.ownsRow (w.heap.size + 2) 28 6 (.slice (some ⟨gb, 0, none⟩) (k + 1 + (O.length - k)) cb) (k + 1 + (O.length - k)) ((tv6 (O.take k) ++ e6 (t6 F)) ++ tv6 (O.drop k))) := Lib.hid (by first | exact hown | simpa using hown)
            refine hK.out _ _ ?_ (fun hHeld => ?_)
            · (try dsimp only)
              exact Rq3.cells HR2.out
            clear hK K HR
            (try simp only [Act.put, List.setIfInBounds_toArray, List.set_cons_zero, List.set_cons_succ])
            clear hown hgr hnn hat
            have hVN2 : wr.heap.size ≤ w'.heap.size := HR2.out.2.2.2.2
            clear HO hNg hga hNa hVN
            clear hVN2
            refine wpAnyH_take (i := 12) (oi := { dst := some 5, op := Go.Op.assign (Go.Operand.tmp 65), type := 33, pos := "l10_games.go:42", after := #[{ on := 11, ground := Go.Ground.data }, { on := 11, ground := Go.Ground.chain }, { on := 0, ground := Go.Ground.phase }, { on := 1, ground := Go.Ground.phase }, { on := 2, ground := Go.Ground.phase }, { on := 3, ground := Go.Ground.phase }, { on := 4, ground := Go.Ground.phase }, { on := 5, ground := Go.Ground.phase }, { on := 6, ground := Go.Ground.phase }, { on := 7, ground := Go.Ground.phase }, { on := 8, ground := Go.Ground.phase }, { on := 9, ground := Go.Ground.phase }, { on := 10, ground := Go.Ground.phase }, { on := 11, ground := Go.Ground.phase }], guard := none }) (v := ?_) rfl (by kernel_rfl) (by kernel_rfl) (by kernel_rfl) (fun _ _ _ h => h) (Or.inl ⟨by rfl, ?_⟩) (by assumption) ?_
            rotate_left
            · intro w hSw; (try dsimp only at hSw); go_simp; (try with_reducible rfl)
            simp only [Act.put, List.setIfInBounds_toArray, List.set_cons_zero, List.set_cons_succ]
            refine wpAnyH_done (by kernel_rfl) ?_ _
            refine NoPanic.normal (HQ.out _ (w'.heap.size - w.heap.size) w' _ _ _ _ _ _ _ _ _ _ _ _ ?_)
            exact Rm_app hk HR2.out HO2.out
/- Md10 -/
def Rj3 (w : World) (f p : Fn6) (l : List (Nat × Nat)) (g cap : Nat) (O : List T6) (go co m gn : Nat) (F : Fn6) (U : World) : Prop := Rm w f p l g cap O (.slice (some ⟨go, 0, none⟩) O.length co) m U ∧ U.heap[gn]? = some (o6 F) ∧ w.heap.size + m ≤ gn
theorem Rj3.below {w U U' : World} {f p : Fn6} {l : List (Nat × Nat)} {g cap go co m gn M : Nat} {O : List T6} {F : Fn6} (h : Rj3 w f p l g cap O go co m gn F U) (hb : Below M U U') (hM : M = U.heap.size) : Rj3 w f p l g cap O go co m gn F U' := ⟨h.1.below hb hM, rowk h.2.1 hb hM, h.2.2⟩
theorem Rj3.drew {w U : World} {f p : Fn6} {l : List (Nat × Nat)} {g cap go co m gn : Nat} {O : List T6} {F : Fn6} (h : Rj3 w f p l g cap O go co m gn F U) : Rj3 w f p l g cap O go co m gn F U.drew := h.below (M := U.heap.size) (Below.refl _ _).drew rfl
theorem Rj3.drewN {w U : World} {f p : Fn6} {l : List (Nat × Nat)} {g cap go co m gn : Nat} {O : List T6} {F : Fn6} (h : Rj3 w f p l g cap O go co m gn F U) (q : Nat) : Rj3 w f p l g cap O go co m gn F (U.drewN q) := h.below (M := U.heap.size) (drewN_b (Below.refl _ _) q) rfl
theorem SKj {w U : World} {f p : Fn6} {l : List (Nat × Nat)} {g cap go co m gn k : Nat} {O : List T6} {F : Fn6} {a0 a1 a2 a3 a4 a5 : Int} (hk : k < O.length) (ht : O[k] = (a0, a1, a2, a3, a4, a5)) (h : Rj3 w f p l g cap O go co m gn F U) : U.cell? ⟨go, k * 6, none⟩ = some (.int .i64 a0) ∧ U.cell? ⟨go, k * 6 + 1, none⟩ = some (.int .i64 a1) ∧ U.cell? ⟨go, k * 6 + 2, none⟩ = some (.int .i64 a2) ∧ U.cell? ⟨go, k * 6 + 3, none⟩ = some (.int .i64 a3) ∧ U.cell? ⟨go, k * 6 + 4, none⟩ = some (.int .i64 a4) ∧ U.cell? ⟨go, k * 6 + 5, none⟩ = some (.int .i64 a5) ∧ U.cell? ⟨gn, 0, none⟩ = some (.int .i64 (rowv (F 0))) ∧ U.cell? ⟨gn, 1, none⟩ = some (.int .i64 (rowv (F 1))) ∧ U.cell? ⟨gn, 2, none⟩ = some (.int .i64 (rowv (F 2))) ∧ U.cell? ⟨gn, 3, none⟩ = some (.int .i64 (rowv (F 3))) ∧ U.cell? ⟨gn, 4, none⟩ = some (.int .i64 (rowv (F 4))) ∧ U.cell? ⟨gn, 5, none⟩ = some (.int .i64 (rowv (F 5))) ∧ Rj3 w f p l g cap O go co m gn F U := by
  obtain ⟨p0, p1, p2, p3, p4, p5⟩ := tv6_at O k hk
  have h0 := fun j => cell_of_row U _ j _ _ _ h.2.1
  rw [ht] at p0 p1 p2 p3 p4 p5
  exact ⟨own_at h.1.2.2.1 p0, own_at h.1.2.2.1 p1, own_at h.1.2.2.1 p2, own_at h.1.2.2.1 p3, own_at h.1.2.2.1 p4, own_at h.1.2.2.1 p5, h0 0, h0 1, h0 2, h0 3, h0 4, h0 5, h⟩
set_option maxRecDepth 8000 in
set_option maxHeartbeats 8000000 in
theorem lnexts_f (f p : Fn6) (w : World) : Calls Try.prog 143 #[.agg #[.int .i64 (rowv (f 0)), .int .i64 (rowv (f 1)), .int .i64 (rowv (f 2)), .int .i64 (rowv (f 3)), .int .i64 (rowv (f 4)), .int .i64 (rowv (f 5))], .agg #[.int .i64 (rowv (p 0)), .int .i64 (rowv (p 1)), .int .i64 (rowv (p 2)), .int .i64 (rowv (p 3)), .int .i64 (rowv (p 4)), .int .i64 (rowv (p 5))]] w (LT (nxf f p) w) := by
  have HF := Lib.hid (lfree_f f p)
  have HLm := Lib.hid (bl_lt (frf f p) 36 (Nat.le_refl _))
  have hl36 := bl_len (frf f p) 36
  unfold nxf
  generalize bl (frf f p) 36 = l at HF HLm hl36 ⊢
  go_enter Try.func143, Try.ntmps143
  go_wp2_with fail
  generalize hW : (World.alloc (World.alloc w _) _ : World) = W0
  have K0 : KR 2 [(w.heap.size, o6 f), (w.heap.size + 1, o6 p)] w W0 := by
    rw [← hW]
    exact two_b w _ _ (by (repeat (first | exact Below.refl _ _ | assumption | refine Below.setCell ?_ (by first | (simp; done) | (simp; omega)) _ | refine Below.alloc ?_ (by first | (simp; done) | (simp; omega)) _ | refine Below.drew ?_))) (alloc_past (alloc_at rfl)) (alloc_at (by simp)) (by simp)
  have hb0 : W0.heap.size = w.heap.size + 1 + 1 := by rw [← hW]; simp
  clear hW
  have K1 := K0.al (o := .cells #[] 28)
  have a_c := fun j => cell_of_row (W0.alloc (.cells #[] 28)) _ j _ _ _ (K1.row (g := w.heap.size) (o := o6 f) (by simp))
  have b_c := fun j => cell_of_row (W0.alloc (.cells #[] 28)) _ j _ _ _ (K1.row (g := w.heap.size + 1) (o := o6 p) (by simp))
  have hO0 : (W0.alloc (.cells #[] 28)).ownsRow (w.heap.size + 2) 28 6 (.slice (some ⟨W0.heap.size, 0, none⟩) 0 0) 0 [] := World.ownsRow_lit W0 #[] 0 K0.2.1 (by unfold maxLen; omega) rfl
  rw [hb0] at hO0
  have HO0 := Lib.hid hO0
  have hsz : W0.heap.size < (W0.alloc (.cells #[] 28)).heap.size := by simp
  rw [hb0] at hsz
  clear hO0 K0 hb0
  go_wp2_with fail
  generalize (World.alloc _ _ : World) = W1 at K1 a_c b_c HO0 hsz ⊢
  refine (HF.out _).mono ?_
  rintro e W2 ⟨g, cap, rfl, ho, hb⟩
  have S0 : Hid (Rm w f p l g cap (insl lt6 ((l.take 0).map (nx1 f p))) (.slice (some ⟨w.heap.size + 1 + 1, 0, none⟩) 0 0) (W2.heap.size - w.heap.size) W2) := by
    have hs2 := hb.size
    have hg := (ho.lt g rfl).2
    have hK := (K1.far hb rfl).widen
    exact Lib.hid ⟨hK, own_mono ho (Nat.zero_le _), HO0.out.kept (grown_below hb rfl) (.inr (by simp [Value.ownBlock])), ⟨w.heap.size + 1 + 1, 0, rfl, by have := hK.2.1; omega⟩, by have := hK.2.1; omega⟩
  have hm0 : 2 ≤ W2.heap.size - w.heap.size := by have := K1.2.1; have := hb.size; omega
  generalize W2.heap.size - w.heap.size = m0 at S0 hm0
  clear hb ho K1 a_c b_c HO0 hsz HF
  go_wp2_with fail
  go_loopw [5, 7] (fun v n wr => ∃ i m : Nat, i ≤ l.length ∧ n = .int .i64 i ∧ 2 ≤ m ∧ Hid (Rm w f p l g cap (insl lt6 ((l.take i).map (nx1 f p))) v m wr)) (fun _ n _ => l.length - (intOf n).toNat)
  case atStart => exact ⟨0, m0, by omega, rfl, hm0, S0⟩
  case round =>
    obtain ⟨i, m, hi, rfl, hm2, HS⟩ := hrel
    clear S0 hm0
    by_cases hlt : i < l.length
    · have hlt' : (i : Int) < l.length := by omega
      have hi0 : (0 : Int) ≤ i := by omega
      obtain ⟨hx, hy⟩ := HLm.out _ (List.getElem_mem hlt)
      have hNext : insl lt6 ((l.take (i + 1)).map (nx1 f p)) = insr lt6 (nx1 f p l[i]) (insl lt6 ((l.take i).map (nx1 f p))) := by
        have := insl_k lt6 (l.map (nx1 f p)) (i := i) (by rw [List.length_map]; exact hlt)
        rw [List.getElem_map, ← List.map_take, ← List.map_take] at this
        exact this
      have hO36 : (insl lt6 ((l.take i).map (nx1 f p))).length ≤ 36 := Nat.le_trans (insl_len lt6 _) (by rw [List.length_map, List.length_take]; omega)
      have HNext := Lib.hid hNext
      clear hNext
      generalize insl lt6 ((l.take i).map (nx1 f p)) = O at HS HNext hO36
      obtain ⟨c, hc⟩ : ∃ c, c = l[i] := ⟨_, rfl⟩
      rw [← hc] at hx hy HNext
      obtain ⟨x, y⟩ := c
      dsimp only at hx hy
      have HC : Hid (l[i] = (x, y)) := Lib.hid hc.symm
      clear hc
      have HNx : Hid (nx1 f p (x, y) = t6 (jf f (sf x y p))) := Lib.hid rfl
      rw [HNx.out] at HNext
      obtain ⟨go, co, rfl, hgo⟩ := HS.out.2.2.2.1
      have hco : O.length ≤ co := by
        rcases HS.out.2.2.1.2 with ⟨e1, _⟩ | ⟨_, _, _, e1, _, _, h1, _⟩
        · exact absurd e1 (by simp)
        · simp only [Value.slice.injEq, true_and] at e1
          omega
      go_wp2_with fail
      refine app5 w wr f p l g cap m i x y O _ hlt hl36 HC.out hx hy HS.out ?_
      intro gn X y20 y21 y22 y23 y24 y25 y26 y27 hRX hgn hgnle
      generalize jf f (sf x y p) = F at hgn HNext HNx
      have R0 : Hid (Rj3 w f p l g cap O go co m gn F X) := Lib.hid ⟨hRX, hgn, hgnle⟩
      clear hRX hgn HS HNx HC
      have hcle := cntb_le lt6 (t6 F) O
      go_wp2_with fail
      go_loopw [9] (fun n wr2 => ∃ k : Nat, k ≤ cntb lt6 (t6 F) O ∧ n = .int .i64 k ∧ Hid (Rj3 w f p l g cap O go co m gn F wr2)) (fun n _ => O.length - (intOf n).toNat)
      case atStart => exact ⟨0, by omega, rfl, R0⟩
      case round =>
        obtain ⟨k, hk, rfl, HJ⟩ := hrel
        clear R0
        have hk0 : (0 : Int) ≤ k := by omega
        have hkco : k ≤ co := by omega
        by_cases hlt2 : k < O.length
        · have hlt2' : (k : Int) < O.length := by omega
          have HSK := Lib.hid (fun (U : World) (a0 a1 a2 a3 a4 a5 : Int) (ht : O[k] = (a0, a1, a2, a3, a4, a5)) (h : Rj3 w f p l g cap O go co m gn F U) => SKj hlt2 ht h)
          have HBf := Lib.hid (before_lx)
          obtain ⟨t, ht⟩ : ∃ t, t = O[k] := ⟨_, rfl⟩
          have HT := Lib.hid ht.symm
          by_cases hb : k < cntb lt6 (t6 F) O
          · have hlx := cntb_lt lt6 (t6 F) O k hlt2 hb
            rw [← ht] at hlx
            clear ht
            obtain ⟨a0, a1, a2, a3, a4, a5⟩ := t
            have HB : Hid (∀ w, Calls Try.prog 256 #[.agg #[.int .i64 a0, .int .i64 a1, .int .i64 a2, .int .i64 a3, .int .i64 a4, .int .i64 a5], .agg #[.int .i64 (rowv (F 0)), .int .i64 (rowv (F 1)), .int .i64 (rowv (F 2)), .int .i64 (rowv (F 3)), .int .i64 (rowv (F 4)), .int .i64 (rowv (F 5))]] w fun e w' => e = .returned (.bool true) ∧ Below w.heap.size w w') := Lib.hid (fun w => by
              have := before_lx a0 a1 a2 a3 a4 a5 (rowv (F 0)) (rowv (F 1)) (rowv (F 2)) (rowv (F 3)) (rowv (F 4)) (rowv (F 5)) w
              rw [show lx a0 a1 a2 a3 a4 a5 (rowv (F 0)) (rowv (F 1)) (rowv (F 2)) (rowv (F 3)) (rowv (F 4)) (rowv (F 5)) = true from hlx] at this
              exact this)
            have hk := HJ.out
            clear hlx HBf
            go_wp2_with fail
            go_region_held3 (fun U => U.cell? ⟨go, k * 6, none⟩ = some (.int .i64 a0) ∧ U.cell? ⟨go, k * 6 + 1, none⟩ = some (.int .i64 a1) ∧ U.cell? ⟨go, k * 6 + 2, none⟩ = some (.int .i64 a2) ∧ U.cell? ⟨go, k * 6 + 3, none⟩ = some (.int .i64 a3) ∧ U.cell? ⟨go, k * 6 + 4, none⟩ = some (.int .i64 a4) ∧ U.cell? ⟨go, k * 6 + 5, none⟩ = some (.int .i64 a5) ∧ U.cell? ⟨gn, 0, none⟩ = some (.int .i64 (rowv (F 0))) ∧ U.cell? ⟨gn, 1, none⟩ = some (.int .i64 (rowv (F 1))) ∧ U.cell? ⟨gn, 2, none⟩ = some (.int .i64 (rowv (F 2))) ∧ U.cell? ⟨gn, 3, none⟩ = some (.int .i64 (rowv (F 3))) ∧ U.cell? ⟨gn, 4, none⟩ = some (.int .i64 (rowv (F 4))) ∧ U.cell? ⟨gn, 5, none⟩ = some (.int .i64 (rowv (F 5))) ∧ Rj3 w f p l g cap O go co m gn F U) (with_reducible refine HSK.out _ _ _ _ _ _ _ HT.out ?_; (first | with_reducible assumption | (with_reducible refine Rj3.drew ?_; with_reducible assumption))) (first | (go_at_call 256; with_reducible refine (HB.out _).mono ?_; rintro e w' ⟨rfl, hb'⟩; have hk : Rj3 w f p l g cap O go co m gn F w' := Rj3.below (by (first | with_reducible assumption | (with_reducible refine Rj3.drew ?_; with_reducible assumption))) hb' rfl))
            all_goals
              have HJ2 := Lib.hid hk
              rename_i hHeld
              clear hHeld hk HJ
              go_wp2_with fail
              go_roundw
              case rel => exact ⟨k + 1, by omega, by go_num, HJ2⟩
              case measure => simp [intOf]; omega
          · have hke : k = cntb lt6 (t6 F) O := by omega
            have hlx : lt6 O[k] (t6 F) = false := by
              have := cntb_at lt6 (t6 F) O (by omega)
              simp only [← hke] at this
              exact this
            rw [← ht] at hlx
            clear ht hb
            obtain ⟨a0, a1, a2, a3, a4, a5⟩ := t
            have HB : Hid (∀ w, Calls Try.prog 256 #[.agg #[.int .i64 a0, .int .i64 a1, .int .i64 a2, .int .i64 a3, .int .i64 a4, .int .i64 a5], .agg #[.int .i64 (rowv (F 0)), .int .i64 (rowv (F 1)), .int .i64 (rowv (F 2)), .int .i64 (rowv (F 3)), .int .i64 (rowv (F 4)), .int .i64 (rowv (F 5))]] w fun e w' => e = .returned (.bool false) ∧ Below w.heap.size w w') := Lib.hid (fun w => by
              have := before_lx a0 a1 a2 a3 a4 a5 (rowv (F 0)) (rowv (F 1)) (rowv (F 2)) (rowv (F 3)) (rowv (F 4)) (rowv (F 5)) w
              rw [show lx a0 a1 a2 a3 a4 a5 (rowv (F 0)) (rowv (F 1)) (rowv (F 2)) (rowv (F 3)) (rowv (F 4)) (rowv (F 5)) = false from hlx] at this
              exact this)
            have HKe := Lib.hid hke
            have hk := HJ.out
            have hkn : ¬ ((k : Int) = (O.length : Int)) := by omega
            clear hlx HBf hke
            go_wp2_with fail
            go_region_held3 (fun U => U.cell? ⟨go, k * 6, none⟩ = some (.int .i64 a0) ∧ U.cell? ⟨go, k * 6 + 1, none⟩ = some (.int .i64 a1) ∧ U.cell? ⟨go, k * 6 + 2, none⟩ = some (.int .i64 a2) ∧ U.cell? ⟨go, k * 6 + 3, none⟩ = some (.int .i64 a3) ∧ U.cell? ⟨go, k * 6 + 4, none⟩ = some (.int .i64 a4) ∧ U.cell? ⟨go, k * 6 + 5, none⟩ = some (.int .i64 a5) ∧ U.cell? ⟨gn, 0, none⟩ = some (.int .i64 (rowv (F 0))) ∧ U.cell? ⟨gn, 1, none⟩ = some (.int .i64 (rowv (F 1))) ∧ U.cell? ⟨gn, 2, none⟩ = some (.int .i64 (rowv (F 2))) ∧ U.cell? ⟨gn, 3, none⟩ = some (.int .i64 (rowv (F 3))) ∧ U.cell? ⟨gn, 4, none⟩ = some (.int .i64 (rowv (F 4))) ∧ U.cell? ⟨gn, 5, none⟩ = some (.int .i64 (rowv (F 5))) ∧ Rj3 w f p l g cap O go co m gn F U) (with_reducible refine HSK.out _ _ _ _ _ _ _ HT.out ?_; (first | with_reducible assumption | (with_reducible refine Rj3.drew ?_; with_reducible assumption))) (first | (go_at_call 256; with_reducible refine (HB.out _).mono ?_; rintro e w' ⟨rfl, hb'⟩; have hk : Rj3 w f p l g cap O go co m gn F w' := Rj3.below (by (first | with_reducible assumption | (with_reducible refine Rj3.drew ?_; with_reducible assumption))) hb' rfl))
            all_goals
              have HJ2 := Lib.hid hk
              rename_i hHeld
              clear hHeld hk HJ
              go_wp2_with fail
              obtain ⟨c0, c1, c2, c3, c4, c5, d0, d1, d2, d3, d4, d5, _⟩ := HSK.out _ _ _ _ _ _ _ HT.out HJ2.out
              by_cases heq : ((a0, a1, a2, a3, a4, a5) : T6) = t6 F
              · have he : ∀ w, (binOp .neq 28 (.agg #[.int .i64 a0, .int .i64 a1, .int .i64 a2, .int .i64 a3, .int .i64 a4, .int .i64 a5]) (.agg #[.int .i64 (rowv (F 0)), .int .i64 (rowv (F 1)), .int .i64 (rowv (F 2)), .int .i64 (rowv (F 3)), .int .i64 (rowv (F 4)), .int .i64 (rowv (F 5))])).run Try.prog w = .ok (.bool false) w := fun w => by
                  have h := neq_t6 a0 a1 a2 a3 a4 a5 (rowv (F 0)) (rowv (F 1)) (rowv (F 2)) (rowv (F 3)) (rowv (F 4)) (rowv (F 5)) w
                  rw [show decide (¬ ((a0, a1, a2, a3, a4, a5) : T6) = (rowv (F 0), rowv (F 1), rowv (F 2), rowv (F 3), rowv (F 4), rowv (F 5))) = false from decide_eq_false (fun q => q heq)] at h
                  exact h
                have HIn := Lib.hid (insr_in lt6 (t6 F) O (by have := HKe.out; omega) (by simp only [← HKe.out]; rw [HT.out]; exact heq))
                clear heq
                go_quiet (fail)
                go_wp2_with fail
                go_roundw
                case rel => exact ⟨i + 1, m, by omega, by go_num, hm2, by rw [HNext.out, HIn.out]; exact Lib.hid (HJ2.out.drewN _).1⟩
                case measure => simp [intOf]; omega
              · have he : ∀ w, (binOp .neq 28 (.agg #[.int .i64 a0, .int .i64 a1, .int .i64 a2, .int .i64 a3, .int .i64 a4, .int .i64 a5]) (.agg #[.int .i64 (rowv (F 0)), .int .i64 (rowv (F 1)), .int .i64 (rowv (F 2)), .int .i64 (rowv (F 3)), .int .i64 (rowv (F 4)), .int .i64 (rowv (F 5))])).run Try.prog w = .ok (.bool true) w := fun w => by
                  have h := neq_t6 a0 a1 a2 a3 a4 a5 (rowv (F 0)) (rowv (F 1)) (rowv (F 2)) (rowv (F 3)) (rowv (F 4)) (rowv (F 5)) w
                  rw [show decide (¬ ((a0, a1, a2, a3, a4, a5) : T6) = (rowv (F 0), rowv (F 1), rowv (F 2), rowv (F 3), rowv (F 4), rowv (F 5))) = true from decide_eq_true heq] at h
                  exact h
                have HNew := Lib.hid (insr_new lt6 (t6 F) O (fun h => by simp only [← HKe.out]; rw [HT.out]; exact heq))
                rw [← HKe.out] at HNew
                clear heq
                go_quiet (fail)
                have HJ3 := Lib.hid (HJ2.out.drewN nq)
                go_wp2_with fail
                refine app9 w _ f p l g cap m i gn go co k O F hO36 (by omega) hco hm2 ⟨HJ3.out.1, HJ3.out.2.1, row_lt HJ3.out.2.1, HJ3.out.1.le, Nat.le_refl _⟩ ?_
                intro v' m' X9 y54 y55 y56 y57 y58 y59 y60 y61 y62 y63 y64 y65 hRm
                have HRm := Lib.hid hRm
                have hm3 : 2 ≤ m' := by have := (hRm.1.1 (w.heap.size + 1, o6 p) (by simp)).1; dsimp only at this; omega
                clear hRm
                go_wp2_with fail
                go_roundw
                case rel => exact ⟨i + 1, m', by omega, by go_num, hm3, by rw [HNext.out, HNew.out]; exact HRm⟩
                case measure => simp [intOf]; omega
        · have hke : O.length = cntb lt6 (t6 F) O := by omega
          obtain rfl : k = O.length := by omega
          have HNew := Lib.hid (insr_new lt6 (t6 F) O (fun h => by omega))
          rw [← hke] at HNew
          clear hke
          go_wp2_with fail
          go_quiet (fail)
          have HJ2 := Lib.hid (HJ.out.drewN nq)
          generalize (World.drewN _ _ : World) = W8 at HJ2 ⊢
          clear HJ
          go_wp2_with fail
          go_quiet (fail)
          have HJ3 := Lib.hid (HJ2.out.drewN nq)
          clear HJ2
          go_wp2_with fail
          refine app9 w _ f p l g cap m i gn go co O.length O F hO36 (by omega) hco hm2 ⟨HJ3.out.1, HJ3.out.2.1, row_lt HJ3.out.2.1, HJ3.out.1.le, Nat.le_refl _⟩ ?_
          intro v' m' X9 y54 y55 y56 y57 y58 y59 y60 y61 y62 y63 y64 y65 hRm
          have HRm := Lib.hid hRm
          have hm3 : 2 ≤ m' := by have := (hRm.1.1 (w.heap.size + 1, o6 p) (by simp)).1; dsimp only at this; omega
          clear hRm
          go_wp2_with fail
          go_roundw
          case rel => exact ⟨i + 1, m', by omega, by go_num, hm3, by rw [HNext.out, HNew.out]; exact HRm⟩
          case measure => simp [intOf]; omega
    · obtain rfl : i = l.length := by omega
      obtain ⟨h1, _, h3, ⟨go, co, rfl, _⟩, _⟩ := HS.out
      rw [List.take_length] at h3
      have HO := Lib.hid (own_mono h3 (show w.heap.size ≤ w.heap.size + 2 by omega))
      have HB := Lib.hid h1.2.2
      rw [List.take_length]
      clear h1 h3 HS
      go_wp2_with fail
      go_ret
      exact ⟨go, co, rfl, HO.out, HB.out⟩
/- Md10 -/
set_option maxHeartbeats 1000000 in
theorem snext_no (a0 a1 a2 a3 a4 a5 : Int) (b0 b1 b2 b3 b4 b5 : Int) (H0 : Hid (∀ w, Calls Try.prog 137 #[.agg #[.int .i64 a0, .int .i64 a1, .int .i64 a2, .int .i64 a3, .int .i64 a4, .int .i64 a5], .agg #[.int .i64 b0, .int .i64 b1, .int .i64 b2, .int .i64 b3, .int .i64 b4, .int .i64 b5]] w fun e w' => e = .returned (.bool false) ∧ Below w.heap.size w w')) (w : World) : Calls Try.prog 28 #[.agg #[.int .i64 a0, .int .i64 a1, .int .i64 a2, .int .i64 a3, .int .i64 a4, .int .i64 a5], .agg #[.int .i64 b0, .int .i64 b1, .int .i64 b2, .int .i64 b3, .int .i64 b4, .int .i64 b5]] w (LTb [] false w) := by
  go_enter Try.func28, Try.ntmps28
  go_wp2_with fail
  generalize hW : (World.alloc _ _ : World) = W0
  have K0 : KR 2 [(w.heap.size, os a0 a1 a2 a3 a4 a5), (w.heap.size + 1, os b0 b1 b2 b3 b4 b5)] w W0 := by
    rw [← hW]
    exact two_boxes w _ _ (by (repeat (first | exact Below.refl _ _ | assumption | refine Below.setCell ?_ (by first | (simp; done) | (simp; omega)) _ | refine Below.alloc ?_ (by first | (simp; done) | (simp; omega)) _ | refine Below.drew ?_))) (alloc_past (alloc_at rfl)) (alloc_at (by simp)) (by simp)
  clear hW
  have a_c := fun j => cell_of_row W0 _ j _ _ _ (K0.row (g := w.heap.size) (o := os a0 a1 a2 a3 a4 a5) (by simp))
  have b_c := fun j => cell_of_row W0 _ j _ _ _ (K0.row (g := w.heap.size + 1) (o := os b0 b1 b2 b3 b4 b5) (by simp))
  go_wp2_with fail
  refine (H0.out _).mono ?_
  rintro e W1 ⟨rfl, hb⟩
  have K1 := K0.far hb rfl
  clear hb K0 a_c b_c
  go_wp2_with fail
  go_ret2
  exact ⟨W1.heap.size, 0, rfl, World.ownsRow_lit (base := w.heap.size) (e := 28) (size := 6) W1 #[] 0 K1.2.2.size (by unfold maxLen; omega) rfl, K1.2.2.alloc K1.2.2.size _⟩
set_option maxHeartbeats 1000000 in
theorem snext_yes (f p : Fn6) (H0 : Hid (∀ w, Calls Try.prog 137 #[.agg #[.int .i64 (rowv (f 0)), .int .i64 (rowv (f 1)), .int .i64 (rowv (f 2)), .int .i64 (rowv (f 3)), .int .i64 (rowv (f 4)), .int .i64 (rowv (f 5))], .agg #[.int .i64 (rowv (p 0)), .int .i64 (rowv (p 1)), .int .i64 (rowv (p 2)), .int .i64 (rowv (p 3)), .int .i64 (rowv (p 4)), .int .i64 (rowv (p 5))]] w fun e w' => e = .returned (.bool true) ∧ Below w.heap.size w w')) (w : World) : Calls Try.prog 28 #[.agg #[.int .i64 (rowv (f 0)), .int .i64 (rowv (f 1)), .int .i64 (rowv (f 2)), .int .i64 (rowv (f 3)), .int .i64 (rowv (f 4)), .int .i64 (rowv (f 5))], .agg #[.int .i64 (rowv (p 0)), .int .i64 (rowv (p 1)), .int .i64 (rowv (p 2)), .int .i64 (rowv (p 3)), .int .i64 (rowv (p 4)), .int .i64 (rowv (p 5))]] w (LTb (nxf f p) true w) := by
  have HF := Lib.hid (lnexts_f f p)
  go_enter Try.func28, Try.ntmps28
  go_wp2_with fail
  generalize hW : (World.alloc _ _ : World) = W0
  have K0 : KR 2 [(w.heap.size, o6 f), (w.heap.size + 1, o6 p)] w W0 := by
    rw [← hW]
    exact two_boxes w _ _ (by (repeat (first | exact Below.refl _ _ | assumption | refine Below.setCell ?_ (by first | (simp; done) | (simp; omega)) _ | refine Below.alloc ?_ (by first | (simp; done) | (simp; omega)) _ | refine Below.drew ?_))) (alloc_past (alloc_at rfl)) (alloc_at (by simp)) (by simp)
  clear hW
  have a_c := fun j => cell_of_row W0 _ j _ _ _ (K0.row (g := w.heap.size) (o := o6 f) (by simp))
  have b_c := fun j => cell_of_row W0 _ j _ _ _ (K0.row (g := w.heap.size + 1) (o := o6 p) (by simp))
  go_wp2_with fail
  refine (H0.out _).mono ?_
  rintro e W1 ⟨rfl, hb⟩
  have K1 := K0.far hb rfl
  clear hb K0 a_c b_c
  have a_c := fun j => cell_of_row W1 _ j _ _ _ (K1.row (g := w.heap.size) (o := o6 f) (by simp))
  have b_c := fun j => cell_of_row W1 _ j _ _ _ (K1.row (g := w.heap.size + 1) (o := o6 p) (by simp))
  go_wp2_with fail
  refine (HF.out _).mono ?_
  rintro e W3 ⟨g, cap, rfl, ho, hb⟩
  have HO := Lib.hid (own_mono ho (K1.2.2.size))
  have HB := Lib.hid (below_of K1.2.2 hb K1.2.2.size)
  clear hb ho K1 a_c b_c
  go_wp2_with fail
  go_ret2
  exact ⟨g, cap, rfl, HO.out, HB.out⟩
set_option maxHeartbeats 1000000 in
theorem inext_no0 (a0 a1 a2 a3 a4 a5 : Int) (b0 b1 b2 b3 b4 b5 : Int) (H0 : Hid (∀ w, Calls Try.prog 144 #[.agg #[.int .i64 a0, .int .i64 a1, .int .i64 a2, .int .i64 a3, .int .i64 a4, .int .i64 a5]] w fun e w' => e = .returned (.bool false) ∧ Below w.heap.size w w')) (w : World) : Calls Try.prog 29 #[.agg #[.int .i64 a0, .int .i64 a1, .int .i64 a2, .int .i64 a3, .int .i64 a4, .int .i64 a5], .agg #[.int .i64 b0, .int .i64 b1, .int .i64 b2, .int .i64 b3, .int .i64 b4, .int .i64 b5]] w (LTb [] false w) := by
  go_enter Try.func29, Try.ntmps29
  go_wp2_with fail
  generalize hW : (World.alloc _ _ : World) = W0
  have K0 : KR 2 [(w.heap.size, bx6 a0 a1 a2 a3 a4 a5), (w.heap.size + 1, bx6 b0 b1 b2 b3 b4 b5)] w W0 := by
    rw [← hW]
    exact two_b w _ _ (by (repeat (first | exact Below.refl _ _ | assumption | refine Below.setCell ?_ (by first | (simp; done) | (simp; omega)) _ | refine Below.alloc ?_ (by first | (simp; done) | (simp; omega)) _ | refine Below.drew ?_))) (alloc_past (alloc_at rfl)) (alloc_at (by simp)) (by simp)
  clear hW
  have a_c := fun j => cell_of_row W0 _ j _ _ _ (K0.row (g := w.heap.size) (o := bx6 a0 a1 a2 a3 a4 a5) (by simp))
  have b_c := fun j => cell_of_row W0 _ j _ _ _ (K0.row (g := w.heap.size + 1) (o := bx6 b0 b1 b2 b3 b4 b5) (by simp))
  go_wp2_with fail
  refine (H0.out _).mono ?_
  rintro e W1 ⟨rfl, hb⟩
  have K1 := K0.far hb rfl
  clear hb K0 a_c b_c
  go_wp2_with fail
  go_ret2
  exact ⟨W1.heap.size, 0, rfl, World.ownsRow_lit (base := w.heap.size) (e := 28) (size := 6) W1 #[] 0 K1.2.2.size (by unfold maxLen; omega) rfl, K1.2.2.alloc K1.2.2.size _⟩
set_option maxHeartbeats 1000000 in
theorem inext_no1 (a0 a1 a2 a3 a4 a5 : Int) (b0 b1 b2 b3 b4 b5 : Int) (H0 : Hid (∀ w, Calls Try.prog 144 #[.agg #[.int .i64 a0, .int .i64 a1, .int .i64 a2, .int .i64 a3, .int .i64 a4, .int .i64 a5]] w fun e w' => e = .returned (.bool true) ∧ Below w.heap.size w w')) (H1 : Hid (∀ w, Calls Try.prog 141 #[.agg #[.int .i64 b0, .int .i64 b1, .int .i64 b2, .int .i64 b3, .int .i64 b4, .int .i64 b5]] w fun e w' => e = .returned (.bool false) ∧ Below w.heap.size w w')) (w : World) : Calls Try.prog 29 #[.agg #[.int .i64 a0, .int .i64 a1, .int .i64 a2, .int .i64 a3, .int .i64 a4, .int .i64 a5], .agg #[.int .i64 b0, .int .i64 b1, .int .i64 b2, .int .i64 b3, .int .i64 b4, .int .i64 b5]] w (LTb [] false w) := by
  go_enter Try.func29, Try.ntmps29
  go_wp2_with fail
  generalize hW : (World.alloc _ _ : World) = W0
  have K0 : KR 2 [(w.heap.size, bx6 a0 a1 a2 a3 a4 a5), (w.heap.size + 1, bx6 b0 b1 b2 b3 b4 b5)] w W0 := by
    rw [← hW]
    exact two_b w _ _ (by (repeat (first | exact Below.refl _ _ | assumption | refine Below.setCell ?_ (by first | (simp; done) | (simp; omega)) _ | refine Below.alloc ?_ (by first | (simp; done) | (simp; omega)) _ | refine Below.drew ?_))) (alloc_past (alloc_at rfl)) (alloc_at (by simp)) (by simp)
  clear hW
  have a_c := fun j => cell_of_row W0 _ j _ _ _ (K0.row (g := w.heap.size) (o := bx6 a0 a1 a2 a3 a4 a5) (by simp))
  have b_c := fun j => cell_of_row W0 _ j _ _ _ (K0.row (g := w.heap.size + 1) (o := bx6 b0 b1 b2 b3 b4 b5) (by simp))
  go_wp2_with fail
  refine (H0.out _).mono ?_
  rintro e W1 ⟨rfl, hb⟩
  have K1 := K0.far hb rfl
  clear hb K0 a_c b_c
  have a_c := fun j => cell_of_row W1 _ j _ _ _ (K1.row (g := w.heap.size) (o := bx6 a0 a1 a2 a3 a4 a5) (by simp))
  have b_c := fun j => cell_of_row W1 _ j _ _ _ (K1.row (g := w.heap.size + 1) (o := bx6 b0 b1 b2 b3 b4 b5) (by simp))
  go_wp2_with fail
  refine (H1.out _).mono ?_
  rintro e W2 ⟨rfl, hb⟩
  have K2 := K1.far hb rfl
  clear hb K1 a_c b_c
  go_wp2_with fail
  go_ret2
  exact ⟨W2.heap.size, 0, rfl, World.ownsRow_lit (base := w.heap.size) (e := 28) (size := 6) W2 #[] 0 K2.2.2.size (by unfold maxLen; omega) rfl, K2.2.2.alloc K2.2.2.size _⟩
set_option maxHeartbeats 1000000 in
theorem inext_yes (f p : Fn6) (H0 : Hid (∀ w, Calls Try.prog 144 #[.agg #[.int .i64 (rowv (f 0)), .int .i64 (rowv (f 1)), .int .i64 (rowv (f 2)), .int .i64 (rowv (f 3)), .int .i64 (rowv (f 4)), .int .i64 (rowv (f 5))]] w fun e w' => e = .returned (.bool true) ∧ Below w.heap.size w w')) (H1 : Hid (∀ w, Calls Try.prog 141 #[.agg #[.int .i64 (rowv (p 0)), .int .i64 (rowv (p 1)), .int .i64 (rowv (p 2)), .int .i64 (rowv (p 3)), .int .i64 (rowv (p 4)), .int .i64 (rowv (p 5))]] w fun e w' => e = .returned (.bool true) ∧ Below w.heap.size w w')) (w : World) : Calls Try.prog 29 #[.agg #[.int .i64 (rowv (f 0)), .int .i64 (rowv (f 1)), .int .i64 (rowv (f 2)), .int .i64 (rowv (f 3)), .int .i64 (rowv (f 4)), .int .i64 (rowv (f 5))], .agg #[.int .i64 (rowv (p 0)), .int .i64 (rowv (p 1)), .int .i64 (rowv (p 2)), .int .i64 (rowv (p 3)), .int .i64 (rowv (p 4)), .int .i64 (rowv (p 5))]] w (LTb (nxf f p) true w) := by
  have HF := Lib.hid (inexts_f f p H1)
  go_enter Try.func29, Try.ntmps29
  go_wp2_with fail
  generalize hW : (World.alloc _ _ : World) = W0
  have K0 : KR 2 [(w.heap.size, o6 f), (w.heap.size + 1, o6 p)] w W0 := by
    rw [← hW]
    exact two_b w _ _ (by (repeat (first | exact Below.refl _ _ | assumption | refine Below.setCell ?_ (by first | (simp; done) | (simp; omega)) _ | refine Below.alloc ?_ (by first | (simp; done) | (simp; omega)) _ | refine Below.drew ?_))) (alloc_past (alloc_at rfl)) (alloc_at (by simp)) (by simp)
  clear hW
  have a_c := fun j => cell_of_row W0 _ j _ _ _ (K0.row (g := w.heap.size) (o := o6 f) (by simp))
  have b_c := fun j => cell_of_row W0 _ j _ _ _ (K0.row (g := w.heap.size + 1) (o := o6 p) (by simp))
  go_wp2_with fail
  refine (H0.out _).mono ?_
  rintro e W1 ⟨rfl, hb⟩
  have K1 := K0.far hb rfl
  clear hb K0 a_c b_c
  have a_c := fun j => cell_of_row W1 _ j _ _ _ (K1.row (g := w.heap.size) (o := o6 f) (by simp))
  have b_c := fun j => cell_of_row W1 _ j _ _ _ (K1.row (g := w.heap.size + 1) (o := o6 p) (by simp))
  go_wp2_with fail
  refine (H1.out _).mono ?_
  rintro e W2 ⟨rfl, hb⟩
  have K2 := K1.far hb rfl
  clear hb K1 a_c b_c
  have a_c := fun j => cell_of_row W2 _ j _ _ _ (K2.row (g := w.heap.size) (o := o6 f) (by simp))
  have b_c := fun j => cell_of_row W2 _ j _ _ _ (K2.row (g := w.heap.size + 1) (o := o6 p) (by simp))
  go_wp2_with fail
  refine (HF.out _).mono ?_
  rintro e W3 ⟨g, cap, rfl, ho, hb⟩
  have HO := Lib.hid (own_mono ho K2.2.2.size)
  have HB := Lib.hid (below_of K2.2.2 hb K2.2.2.size)
  clear hb ho K2 a_c b_c
  go_wp2_with fail
  go_ret2
  exact ⟨g, cap, rfl, HO.out, HB.out⟩
theorem nexts_pair (a0 a1 a2 a3 a4 a5 : Int) (b0 b1 b2 b3 b4 b5 : Int) : ∃ (l : List T6) (t : Bool), l.length ≤ 36 ∧ (∀ w, Calls Try.prog 28 #[.agg #[.int .i64 a0, .int .i64 a1, .int .i64 a2, .int .i64 a3, .int .i64 a4, .int .i64 a5], .agg #[.int .i64 b0, .int .i64 b1, .int .i64 b2, .int .i64 b3, .int .i64 b4, .int .i64 b5]] w (LTb l t w)) ∧ (∀ w, Calls Try.prog 29 #[.agg #[.int .i64 a0, .int .i64 a1, .int .i64 a2, .int .i64 a3, .int .i64 a4, .int .i64 a5], .agg #[.int .i64 b0, .int .i64 b1, .int .i64 b2, .int .i64 b3, .int .i64 b4, .int .i64 b5]] w (LTb l t w)) := by
  have HG := lgood_any a0 a1 a2 a3 a4 a5 b0 b1 b2 b3 b4 b5
  have HS := istamp_any b0 b1 b2 b3 b4 b5
  rcases good_ways a0 a1 a2 a3 a4 a5 b0 b1 b2 b3 b4 b5 with ⟨h, hv⟩ | ⟨h, hv, hs⟩ | ⟨h, hv, hc, hn⟩
  · rw [h] at HG
    exact ⟨[], false, by simp, snext_no a0 a1 a2 a3 a4 a5 b0 b1 b2 b3 b4 b5 (Lib.hid HG), inext_no0 a0 a1 a2 a3 a4 a5 b0 b1 b2 b3 b4 b5 (sh_ai a0 a1 a2 a3 a4 a5 hv)⟩
  · rw [h] at HG
    rw [hs] at HS
    exact ⟨[], false, by simp, snext_no a0 a1 a2 a3 a4 a5 b0 b1 b2 b3 b4 b5 (Lib.hid HG), inext_no1 a0 a1 a2 a3 a4 a5 b0 b1 b2 b3 b4 b5 (sh_ai a0 a1 a2 a3 a4 a5 hv) (Lib.hid HS)⟩
  · rw [h] at HG
    rw [hc, hn] at HS
    have HV := sh_ai a0 a1 a2 a3 a4 a5 hv
    obtain ⟨f, rfl, rfl, rfl, rfl, rfl, rfl⟩ := sheet_bits a0 a1 a2 a3 a4 a5 hv
    obtain ⟨p, rfl, rfl, rfl, rfl, rfl, rfl⟩ := sheet_bits b0 b1 b2 b3 b4 b5 hc
    exact ⟨nxf f p, true, nxf_len f p, snext_yes f p (Lib.hid HG), inext_yes f p HV (Lib.hid HS)⟩
end Go.Proofs.Ytkjaaaefcmpokaa
