/- CONTRACTS: SheetAt and EndOf, of the model and of the code. -/
import Derived.Test.YtkbpfdmmjpmbmaaPj11
import Derived.Test.YtkbpfdmmjpmbmaaPg11
import Derived.WalkKit
import Derived.ProofKit
import Derived.OpenShut
import Derived.Lib.Hide
import Derived.WalkSpells
import Derived.Below
import Derived.BigQuiet
import Derived.LoopN
namespace Go.Proofs.Ytkbpfdmmjpmbmaa
open Go.ChangeShapes Go.WideShapes Go.ChangeAt Go.RowKit
set_option linter.unusedVariables false
abbrev pv11 (m0 m1 m2 m3 m4 m5 : Int) (g1 n1 c1 g2 n2 c2 : Nat) : Value := .agg #[.int .i64 m0, .int .i64 m1, .int .i64 m2, .int .i64 m3, .int .i64 m4, .int .i64 m5, .slice (some ⟨g1, 0, none⟩) n1 c1, .slice (some ⟨g2, 0, none⟩) n2 c2]
theorem wfs_of {n : Nat} {st : List S11} (h : ∀ p ∈ st, okS n p = true) : ∀ p ∈ st, (Lit.int .i64 p.x).wf = true ∧ (Lit.int .i64 p.y).wf = true := by
  intro p hp
  obtain ⟨_, _, s, x, y, _, e2, e3, _, hx, hy⟩ := okS_get (h p hp)
  rw [e2, e3]
  exact ⟨WalkArith.wf_i64 (by omega), WalkArith.wf_i64 (by omega)⟩
set_option maxRecDepth 8000 in
set_option maxHeartbeats 1000000 in
theorem sspl_11 (m0 m1 m2 m3 m4 m5 : Int) (l : List H11) (st : List S11) (g1 c1 g2 c2 : Nat) (hl : l.length ≤ 1048576) (hst : st.length ≤ 1048576) (w : World) (h1 : w.rangeAt g1 0 (hv11 l)) (h2 : w.rangeAt g2 0 (sv11 st)) : Calls Try.prog 19 #[.agg #[.int .i64 m0, .int .i64 m1, .int .i64 m2, .int .i64 m3, .int .i64 m4, .int .i64 m5, .slice (some ⟨g1, 0, none⟩) l.length c1, .slice (some ⟨g2, 0, none⟩) st.length c2]] w fun e w' => e = .returned (.bool (okP (m0, m1, m2, m3, m4, m5) l st)) ∧ Below w.heap.size w w' := by
  have H := Lib.hid (fun W a b => lplan_11 m0 m1 m2 m3 m4 m5 l st g1 c1 g2 c2 hl hst W a b)
  have R1 := Lib.hid h1
  have R2 := Lib.hid h2
  clear h1 h2
  generalize okP (m0, m1, m2, m3, m4, m5) l st = r at H ⊢
  go_enter Try.func19, Try.ntmps19
  go_wp2_with fail
  generalize hW : (World.alloc _ _ : World) = W0
  have hB : Below w.heap.size w W0 := by rw [← hW]; (repeat (first | exact Below.refl _ _ | assumption | refine Below.setCell ?_ (by first | (simp; done) | (simp; omega)) _ | refine Below.alloc ?_ (by first | (simp; done) | (simp; omega)) _ | refine Below.drew ?_))
  clear hW
  refine (H.out _ (ra_below R1.out hB rfl) (ra_below R2.out hB rfl)).mono ?_
  rintro e W1 ⟨rfl, hb⟩
  have hB1 := below_of hB hb (by have := hB.size; omega)
  clear hb hB
  go_wp2_with fail
  go_ret
  exact ⟨rfl, hB1⟩
theorem isplan_pair (m0 m1 m2 m3 m4 m5 : Int) (l : List H11) (st : List S11) (hl : l.length ≤ 1048576) (hst : st.length ≤ 1048576) (hwf : ∀ p ∈ st, (Lit.int .i64 p.x).wf = true ∧ (Lit.int .i64 p.y).wf = true) : ∃ r, (∀ (g1 c1 g2 c2 : Nat) (W : World), W.rangeAt g1 0 (hv11 l) → W.rangeAt g2 0 (sv11 st) → Calls Try.prog 19 #[.agg #[.int .i64 m0, .int .i64 m1, .int .i64 m2, .int .i64 m3, .int .i64 m4, .int .i64 m5, .slice (some ⟨g1, 0, none⟩) l.length c1, .slice (some ⟨g2, 0, none⟩) st.length c2]] W fun e w' => e = .returned (.bool r) ∧ Below W.heap.size W w') ∧ (∀ (g1 c1 g2 c2 : Nat) (W : World), W.rangeAt g1 0 (hv11 l) → W.rangeAt g2 0 (sv11 st) → Calls Try.prog 21 #[.agg #[.int .i64 m0, .int .i64 m1, .int .i64 m2, .int .i64 m3, .int .i64 m4, .int .i64 m5, .slice (some ⟨g1, 0, none⟩) l.length c1, .slice (some ⟨g2, 0, none⟩) st.length c2]] W fun e w' => e = .returned (.bool r) ∧ Below W.heap.size W w') :=
  ⟨_, fun g1 c1 g2 c2 W a b => sspl_11 m0 m1 m2 m3 m4 m5 l st g1 c1 g2 c2 hl hst W a b, fun g1 c1 g2 c2 W a b => iplan_11 m0 m1 m2 m3 m4 m5 l st g1 c1 g2 c2 hl hst hwf W a b⟩
end Go.Proofs.Ytkbpfdmmjpmbmaa
