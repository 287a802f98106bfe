/- CONTRACTS: UndoSteps, of the model and of the code. -/
import Derived.Test.YtnkjamdpafpcpaaHv11
import Derived.Test.YtnkjamdpafpcpaaPg11
import Derived.StillTailTactics
import Derived.Test.YtnkjamdpafpcpaaPk11
import Derived.WalkKit
import Derived.ProofKit
import Derived.OpenShut
import Derived.Lib.Hide
import Derived.WalkSpells
import Derived.Below
import Derived.BigQuiet
import Derived.LoopN
namespace Go.Proofs.Ytnkjamdpafpcpaa
open Go.ChangeShapes Go.WideShapes Go.ChangeAt Go.RowKit
set_option linter.unusedVariables false
/-- What is answered: a plan in rows of its own, and whether there is one. -/
def TP11 (m0 m1 m2 m3 m4 m5 : Int) (l : List H11) (st : List S11) (t : Bool) (w : World) (E : Ending) (w' : World) : Prop := ∃ v1 v2, E = .returned (.tuple #[.agg #[.int .i64 m0, .int .i64 m1, .int .i64 m2, .int .i64 m3, .int .i64 m4, .int .i64 m5, v1, v2], .bool t]) ∧ Pr11 w.heap.size w'.heap.size v1 v2 l st w' ∧ Below w.heap.size w w'
theorem Pr11.mono {lo hi lo' hi' : Nat} {v1 v2 : Value} {l : List H11} {st : List S11} {U : World} (h : Pr11 lo hi v1 v2 l st U) (h1 : lo' ≤ lo) (h2 : hi ≤ hi') : Pr11 lo' hi' v1 v2 l st U := ⟨own_mono h.1 h1, own_mono h.2.1 h1, fun k hk => Nat.lt_of_lt_of_le (h.2.2.1 k hk) h2, fun k hk => Nat.lt_of_lt_of_le (h.2.2.2.1 k hk) h2, h.2.2.2.2⟩
theorem own_one11 {W : World} {B n k : Nat} {e : TypeId} {v : Value} {xs : List Value} (h : W.ownsRow B e k v n xs) : v.oneCell' = true := by
  rcases h.2 with ⟨e1, _⟩ | ⟨g, c, _, e1, _⟩ <;> rw [e1] <;> rfl
theorem st_one11 {v : Value} (hv : v.oneCell' = true) (W : World) (a : Addr) (hc : (W.cell? a).isSome = true) (hf : W.frozen? a = false) : (store a v).run Try.prog W = .ok () (W.setCell a v) := by
  obtain ⟨u, hu⟩ := Option.isSome_iff_exists.mp hc
  rw [run_store _ _ _ _ _ hv, hu]
  simp [hf]
theorem Pr11.nil (lo hi : Nat) (U : World) : Pr11 lo hi (.slice none 0 0) (.slice none 0 0) [] [] U := ⟨World.ownsRow_nil U lo _ 6, World.ownsRow_nil U lo _ 4, fun k hk => by simp [Value.ownBlock] at hk, fun k hk => by simp [Value.ownBlock] at hk, fun k hk => by simp [Value.ownBlock] at hk⟩
/-- A plan stored whole into a box below its rows. -/
theorem box_put11 {g lo : Nat} {T : TypeId} {w U X : World} {v0 v1 v2 v3 v4 v5 v6 v7 u6 u7 : Value} {m0 m1 m2 m3 m4 m5 : Int} {l : List H11} {st : List S11} (hr : U.heap[g]? = some (.cells #[v0, v1, v2, v3, v4, v5, v6, v7] T (0, 0))) (hp : Pr11 lo U.heap.size u6 u7 l st U) (hg : g < lo) (hB : w.heap.size ≤ g) (hlo : w.heap.size ≤ lo) (hb : Below w.heap.size w U) (hX : ((((((((U.setCell ⟨g, 0, none⟩ (.int .i64 m0)).setCell ⟨g, 1, none⟩ (.int .i64 m1)).setCell ⟨g, 2, none⟩ (.int .i64 m2)).setCell ⟨g, 3, none⟩ (.int .i64 m3)).setCell ⟨g, 4, none⟩ (.int .i64 m4)).setCell ⟨g, 5, none⟩ (.int .i64 m5)).setCell ⟨g, 6, none⟩ u6).setCell ⟨g, 7, none⟩ u7) = X) : X.heap[g]? = some (.cells #[.int .i64 m0, .int .i64 m1, .int .i64 m2, .int .i64 m3, .int .i64 m4, .int .i64 m5, u6, u7] T (0, 0)) ∧ Pr11 w.heap.size X.heap.size u6 u7 l st X ∧ Below w.heap.size w X := by
  have hs := same8b (lo := lo) (hi := U.heap.size) (g := g) (W := U) hg (.int .i64 m0) (.int .i64 m1) (.int .i64 m2) (.int .i64 m3) (.int .i64 m4) (.int .i64 m5) u6 u7
  have hq := set8b (.int .i64 m0) (.int .i64 m1) (.int .i64 m2) (.int .i64 m3) (.int .i64 m4) (.int .i64 m5) u6 u7 hr
  have hbl := bel8b (g := g) (.int .i64 m0) (.int .i64 m1) (.int .i64 m2) (.int .i64 m3) (.int .i64 m4) (.int .i64 m5) u6 u7 hb hB
  have hsz : X.heap.size = U.heap.size := by rw [← hX]; simp
  rw [hX] at hs hq hbl
  exact ⟨hq, (hp.st U X hs).mono hlo (by omega), hbl⟩
theorem tk_len (st : List S11) {j : Nat} (h : j ≤ st.length) : (st.take j).length = j := by rw [List.length_take]; omega
end Go.Proofs.Ytnkjamdpafpcpaa
