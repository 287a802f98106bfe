/- PLAIN LEMMAS: a map whose keys are motions and whose elements are sheets. -/
import Derived.Test.YtkobgklpcpoglaaMo
import Derived.Test.YtkobgklpcpoglaaSv
import Derived.Maps.Own
import Derived.Maps.Views
import Derived.DeepKeys4
import Derived.WalkKit
import Derived.ProofKit
import Derived.OpenShut
import Derived.Lib.Hide
import Derived.WalkSpells
import Derived.Below
import Derived.BigQuiet
import Derived.LoopN
namespace Go.Proofs.Ytkobgklpcpoglaa
open Go.ChangeShapes Go.WideShapes Go.ChangeAt Go.RowKit
set_option linter.unusedVariables false
open Go.Maps
theorem keyed67 : Keyed Try.prog 62 := Keyed.of_law (deep_law_laid (m := 2) (by kernel_rfl) (by decide) (by decide +kernel) (by kernel_rfl) (by kernel_rfl))
def mkey (k x y : Nat) : Value := .agg #[.int .i64 (k : Int), .int .i64 (x : Int), .int .i64 (y : Int)]
theorem key_some8 : ∀ (k : Fin 8) (x y : Fin 6), (keyOf Try.prog 62 (mkey k.val x.val y.val)).isSome = true := by decide +kernel
theorem key_some {k x y : Nat} (hk : k < 8) (hx : x < 6) (hy : y < 6) : ∃ kl, keyOf Try.prog 62 (mkey k x y) = some kl := Option.isSome_iff_exists.mp (key_some8 ⟨k, hk⟩ ⟨x, hx⟩ ⟨y, hy⟩)
/-- Elements read as themselves. -/
def RV (v : Value) : Option (DataW Value × List MemPlace) := some (.held v, [])
theorem zero28 (w : World) : (zeroValue 25).run Try.prog w = .ok (.agg #[.int .i64 (0), .int .i64 (0), .int .i64 (0), .int .i64 (0), .int .i64 (0), .int .i64 (0)]) w := by kernel_rfl
/-- The sheet behind a motion. -/
def img (f : Nat → Nat → Bool) (c : Nat × Nat × Nat) : Value := .agg #[.int .i64 (rowv (sf c.2.1 c.2.2 (tf c.1 f) 0)), .int .i64 (rowv (sf c.2.1 c.2.2 (tf c.1 f) 1)), .int .i64 (rowv (sf c.2.1 c.2.2 (tf c.1 f) 2)), .int .i64 (rowv (sf c.2.1 c.2.2 (tf c.1 f) 3)), .int .i64 (rowv (sf c.2.1 c.2.2 (tf c.1 f) 4)), .int .i64 (rowv (sf c.2.1 c.2.2 (tf c.1 f) 5))]
/-- The map reads at each motion of l as the sheet behind it. -/
def Imgs (f : Nat → Nat → Bool) (l : List (Nat × Nat × Nat)) (D : DataW Value) : Prop := IsMap D ∧ ∀ c ∈ l, ∀ kl, keyOf Try.prog 62 (mkey c.1 c.2.1 c.2.2) = some kl → ∀ z, D.atKey kl z = .held (img f c)
theorem mkey_inj {a b c d e g : Nat} (h : mkey a b c = mkey d e g) : (a, b, c) = (d, e, g) := by
  simp only [mkey, Value.agg.injEq, Array.mk.injEq, List.cons.injEq, Value.int.injEq, true_and, and_true] at h
  obtain ⟨h1, h2, h3⟩ := h
  rw [Int.ofNat.inj h1, Int.ofNat.inj h2, Int.ofNat.inj h3]
theorem Imgs.put {f : Nat → Nat → Bool} {l : List (Nat × Nat × Nat)} {D : DataW Value} (h : Imgs f l D) {c : Nat × Nat × Nat} {kl : Lit} (hk : keyOf Try.prog 62 (mkey c.1 c.2.1 c.2.2) = some kl) : Imgs f (l ++ [c]) (D.put kl (.held (img f c))) := by
  refine ⟨h.1.put kl _, fun d hd kd hkd z => ?_⟩
  by_cases e : d = c
  · subst e
    rw [hk] at hkd
    cases hkd
    exact atKey_put_same h.1 (keyed67.key hk) _ z
  · have hne : kd ≠ kl := fun e2 => by
      subst e2
      exact e (mkey_inj (keyed67.inj hkd hk))
    rw [atKey_put_other hne]
    rcases List.mem_append.mp hd with hd | hd
    · exact h.2 d hd kd hkd z
    · exact absurd (List.mem_singleton.mp hd) e
theorem look_img {w : World} {f : Nat → Nat → Bool} {l : List (Nat × Nat × Nat)} {D : DataW Value} {b n : Nat} (h : w.ownsMap Try.prog 62 RV b n D) (hi : Imgs f l D) {c : Nat × Nat × Nat} (hc : c ∈ l) (h1 : c.1 < 8) (h2 : c.2.1 < 6) (h3 : c.2.2 < 6) : (Instr.lookup 152 (.map (some b)) (mkey c.1 c.2.1 c.2.2) false).run Try.prog w = .ok (img f c) w := by
  obtain ⟨kl, hk⟩ := key_some h1 h2 h3
  obtain ⟨v, ps, hrun, hv⟩ := h.lookup keyed67 Try.underlying152 (zero28 w) (zd := .held (.agg #[.int .i64 (0), .int .i64 (0), .int .i64 (0), .int .i64 (0), .int .i64 (0), .int .i64 (0)])) (zp := []) rfl hk
  rw [hi.2 c hc kl hk] at hv
  simp only [RV, Option.some.injEq, Prod.mk.injEq, DataW.held.injEq] at hv
  rw [hrun, hv.1]
end Go.Proofs.Ytkobgklpcpoglaa
