/- CONTRACTS: countShifts of the code: a map of sheets seen. -/
import Derived.Test.YtpmhnikilianoaaKy7
import Derived.Test.YtpmhnikilianoaaKa7
import Derived.Test.YtpmhnikilianoaaI7
import Derived.Test.YtpmhnikilianoaaCo
import Derived.WalkKit
import Derived.ProofKit
import Derived.OpenShut
import Derived.Lib.Hide
import Derived.WalkSpells
import Derived.Below
import Derived.BigQuiet
import Derived.LoopN
namespace Go.Proofs.Ytpmhnikilianoaa
open Go.ChangeShapes Go.WideShapes Go.ChangeAt Go.RowKit
set_option linter.unusedVariables false
open Go.Maps Go.ChangeMaps Go.MapKept
/-- Elements read as themselves. -/
def RV7 (v : Value) : Option (DataW Value × List MemPlace) := some (.held v, [])
theorem map_u : Try.prog.underlying 118 = some (.map 28 4) := by kernel_rfl
theorem clear_own {w : World} {b n : Nat} {D : DataW Value} (h : w.ownsMap Try.prog 28 RV7 b n D) (ty : TypeId) : ∃ w', (Builtin.clear_ #[118] ty #[.map (some b)]).run Try.prog w = .ok (.tuple #[]) w' ∧ w'.ownsMap Try.prog 28 RV7 b 0 (.map []) ∧ w.mapTurned w' b := by
  obtain ⟨es, clock, hb, F, hs, hD⟩ := h
  refine ⟨setBlock w b (.map #[] clock), ?_, ⟨#[], clock, heap_setBlock_same hb _, ⟨by simp, MapKept.stamped_empty _, by simp⟩, Nat.le_refl _, rfl⟩, ⟨es, clock, #[], clock, hb, rfl⟩⟩
  simp [Builtin.clear_, run_underlying map_u, MapKept.run_getObj_map hb, MapKept.run_setObj_map _ hb, Result.andThen, setBlock]
/-- The key of the shift j, with r to a column. -/
def kk (a : Fn6) (r j : Nat) : Lit := ks7 (rowv (sf (j / r) (j % r) a 0)) (rowv (sf (j / r) (j % r) a 1)) (rowv (sf (j / r) (j % r) a 2)) (rowv (sf (j / r) (j % r) a 3)) (rowv (sf (j / r) (j % r) a 4)) (rowv (sf (j / r) (j % r) a 5))
def kv (a : Fn6) (r j : Nat) : Value := .agg #[.int .i64 (rowv (sf (j / r) (j % r) a 0)), .int .i64 (rowv (sf (j / r) (j % r) a 1)), .int .i64 (rowv (sf (j / r) (j % r) a 2)), .int .i64 (rowv (sf (j / r) (j % r) a 3)), .int .i64 (rowv (sf (j / r) (j % r) a 4)), .int .i64 (rowv (sf (j / r) (j % r) a 5))]
theorem rowv_wf7 (f : Nat → Bool) : (Lit.int .i64 (rowv f)).wf = true := WalkArith.wf_i64 (by have := row_in f; omega)
theorem kk_key (a : Fn6) (r j : Nat) : keyOf Try.prog 28 (kv a r j) = some (kk a r j) := key7 (rowv_wf7 _) (rowv_wf7 _) (rowv_wf7 _) (rowv_wf7 _) (rowv_wf7 _) (rowv_wf7 _)
theorem kk_iff (a : Fn6) (r i j : Nat) : kk a r i = kk a r j ↔ ek a r i j = true := by
  constructor
  · intro h
    have h1 := kk_key a r i
    rw [h] at h1
    have h2 := keyed28.inj h1 (kk_key a r j)
    simp only [kv, Value.agg.injEq, Array.mk.injEq, List.cons.injEq, Value.int.injEq, true_and, and_true] at h2
    obtain ⟨e0, e1, e2, e3, e4, e5⟩ := h2
    unfold ek eqs
    rw [e0, e1, e2, e3, e4, e5]
    simp
  · intro h
    unfold ek eqs at h
    simp only [Bool.and_eq_true, beq_iff_eq] at h
    obtain ⟨⟨⟨⟨⟨e0, e1⟩, e2⟩, e3⟩, e4⟩, e5⟩ := h
    unfold kk
    rw [e0, e1, e2, e3, e4, e5]
/-- The map holds the first k shifts. -/
def Mk7 (a : Fn6) (r k : Nat) (D : DataW Value) : Prop := Tidy D ∧ Maps.size D = nd (ek a r) k ∧ ∀ i, (has D (kk a r i) = true ↔ (List.range k).any (fun j => ek a r i j) = true)
theorem Mk7.start (a : Fn6) (r : Nat) : Mk7 a r 0 (.map []) := ⟨tidy_empty, rfl, fun i => by simp [has]⟩
theorem Mk7.put {a : Fn6} {r k : Nat} {D : DataW Value} (h : Mk7 a r k D) (d : DataW Value) : Mk7 a r (k + 1) (D.put (kk a r k) d) := by
  obtain ⟨h1, h2, h3⟩ := h
  have hkey := keyed28.key (kk_key a r k)
  refine ⟨h1.put hkey d, ?_, fun i => ?_⟩
  · rw [size_put h1, h2]
    show _ = nd (ek a r) k + _
    by_cases hh : has D (kk a r k) = true
    · rw [if_pos hh, if_pos ((h3 k).mp hh)]; rfl
    · rw [if_neg hh, if_neg (fun e => hh ((h3 k).mpr e))]
  · rw [List.range_succ, List.any_append]
    by_cases hik : kk a r i = kk a r k
    · have he := (kk_iff a r i k).mp hik
      rw [hik, has_put_same h1.isMap hkey]
      simp [he]
    · have he : ek a r i k = false := by
        cases h4 : ek a r i k
        · rfl
        · exact absurd ((kk_iff a r i k).mpr h4) hik
      rw [has_put_other hik, h3 i]
      simp [he]
theorem gtn {W W' W2 : World} {g : Nat} (h : W.grownBy W' (some g)) (h' : W'.grownBy W2 none) : W.grownBy W2 (some g) := ⟨h'.os.trans h.os, h'.tape.trans h.tape, h'.output.trans h.output, Nat.le_trans h.size h'.size, fun k hk hne => (h'.block k (Nat.lt_of_lt_of_le hk h.size) (by simp)).trans (h.block k hk hne)⟩
/-- Midway: the sheet's box, and the map in block b. -/
def Sm7 (w : World) (a : Fn6) (r b k : Nat) (W : World) : Prop := W.heap[w.heap.size]? = some (o6 a) ∧ b < w.heap.size ∧ w.heap.size < W.heap.size ∧ w.grownBy W (some b) ∧ ∃ D n, n ≤ k ∧ W.ownsMap Try.prog 28 RV7 b n D ∧ Mk7 a r k D
theorem Sm7.below {w W W' : World} {a : Fn6} {r b k M : Nat} (h : Sm7 w a r b k W) (hb : Below M W W') (hM : M = W.heap.size) : Sm7 w a r b k W' := by
  obtain ⟨h1, h2, h3, h4, D, n, hn, h5, h6⟩ := h
  have hg := grown_below hb hM
  exact ⟨rowk h1 hb hM, h2, Nat.lt_of_lt_of_le h3 hb.size, gtn h4 hg, D, n, hn, h5.kept hg (by simp), h6⟩
theorem Sm7.upd {w W : World} {a : Fn6} {r b k : Nat} (h : Sm7 w a r b k W) (hk : k < 100) : ∃ w2, (Instr.mapUpdate 118 (.map (some b)) (kv a r k) (.bool true)).run Try.prog W = .ok () w2 ∧ Sm7 w a r b (k + 1) w2 := by
  obtain ⟨h1, h2, h3, h4, D, n, hn, h5, h6⟩ := h
  obtain ⟨w2, hrun, ho, ht⟩ := h5.store keyed28 map_u (by unfold maxLen; omega) (kk_key a r k) (val := .bool true) (d := .held (.bool true)) (ps := []) rfl
  have hg := ht.grown
  refine ⟨w2, hrun, ?_, h2, Nat.lt_of_lt_of_le h3 hg.size, gtr h4 hg, _, n + 1, by omega, ho, h6.put _⟩
  rw [hg.block _ h3 (by simp; omega)]
  exact h1
end Go.Proofs.Ytpmhnikilianoaa
