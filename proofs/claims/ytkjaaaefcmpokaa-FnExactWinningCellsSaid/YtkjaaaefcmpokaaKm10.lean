/- PLAIN LEMMAS: a map of numbers of sheets. -/
import Derived.Test.YtkjaaaefcmpokaaKy10
import Derived.Test.YtkjaaaefcmpokaaNt10
import Derived.WalkKit
import Derived.ProofKit
import Derived.OpenShut
import Derived.Lib.Hide
import Derived.WalkSpells
import Derived.Below
import Derived.BigQuiet
import Derived.LoopN
namespace Go.Proofs.Ytkjaaaefcmpokaa
open Go.ChangeShapes Go.WideShapes Go.ChangeAt Go.RowKit
set_option linter.unusedVariables false
open Go.Maps Go.ChangeMaps Go.MapKept
/-- Elements read as themselves. -/
def RV10 (v : Value) : Option (DataW Value × List MemPlace) := some (.held v, [])
theorem rowv_wf10 (f : Nat → Bool) : (Lit.int .i64 (rowv f)).wf = true := WalkArith.wf_i64 (by have := row_in f; omega)
def kf10 (f : Fn6) : Lit := ks7 (rowv (f 0)) (rowv (f 1)) (rowv (f 2)) (rowv (f 3)) (rowv (f 4)) (rowv (f 5))
theorem kf10_key (f : Fn6) : keyOf Try.prog 28 (.agg #[.int .i64 (rowv (f 0)), .int .i64 (rowv (f 1)), .int .i64 (rowv (f 2)), .int .i64 (rowv (f 3)), .int .i64 (rowv (f 4)), .int .i64 (rowv (f 5))]) = some (kf10 f) := key7 (rowv_wf10 _) (rowv_wf10 _) (rowv_wf10 _) (rowv_wf10 _) (rowv_wf10 _) (rowv_wf10 _)
theorem kf10_iff (f g : Fn6) : kf10 f = kf10 g ↔ t6 f = t6 g := by
  constructor
  · intro h
    have h1 := kf10_key f
    rw [h] at h1
    have h2 := keyed28.inj h1 (kf10_key g)
    simp only [Value.agg.injEq, Array.mk.injEq, List.cons.injEq, Value.int.injEq, true_and, and_true] at h2
    obtain ⟨e0, e1, e2, e3, e4, e5⟩ := h2
    unfold t6
    rw [e0, e1, e2, e3, e4, e5]
  · intro h
    unfold t6 at h
    simp only [Prod.mk.injEq] at h
    obtain ⟨e0, e1, e2, e3, e4, e5⟩ := h
    unfold kf10
    rw [e0, e1, e2, e3, e4, e5]
theorem map_u10 : Try.prog.underlying 138 = some (.map 28 3) := by kernel_rfl
theorem zero_i (w : World) : (zeroValue 3).run Try.prog w = .ok (.int .i64 0) w := Try.zeroValue3 w
/-- All rows of six numbers below 64. -/
def all6 : List T6 := (List.range 64).flatMap fun (a : Nat) => (List.range 64).flatMap fun (b : Nat) => (List.range 64).flatMap fun (c : Nat) => (List.range 64).flatMap fun (d : Nat) => (List.range 64).flatMap fun (e : Nat) => (List.range 64).flatMap fun (g : Nat) => [((a : Int), (b : Int), (c : Int), (d : Int), (e : Int), (g : Int))]
theorem all6_len : all6.length = 64 * (64 * (64 * (64 * (64 * (64 * 1))))) := by
  have hr : (List.range 64).length = 64 := List.length_range
  unfold all6
  rw [flat_len _ (64 * (64 * (64 * (64 * (64 * 1))))) (fun a => ?_), hr]
  rw [flat_len _ (64 * (64 * (64 * (64 * 1)))) (fun b => ?_), hr]
  rw [flat_len _ (64 * (64 * (64 * 1))) (fun c => ?_), hr]
  rw [flat_len _ (64 * (64 * 1)) (fun d => ?_), hr]
  rw [flat_len _ (64 * 1) (fun e => ?_), hr]
  rw [flat_len _ 1 (fun g => rfl), hr]
theorem row_nat (g : Nat → Bool) : ∃ n : Nat, n < 64 ∧ rowv g = (n : Int) := by
  obtain ⟨h1, h2⟩ := row_in g
  obtain ⟨n, hn⟩ := Int.eq_ofNat_of_zero_le h1
  exact ⟨n, by omega, hn⟩
theorem mem_all6 (f : Fn6) : t6 f ∈ all6 := by
  obtain ⟨n0, h0, e0⟩ := row_nat (f 0)
  obtain ⟨n1, h1, e1⟩ := row_nat (f 1)
  obtain ⟨n2, h2, e2⟩ := row_nat (f 2)
  obtain ⟨n3, h3, e3⟩ := row_nat (f 3)
  obtain ⟨n4, h4, e4⟩ := row_nat (f 4)
  obtain ⟨n5, h5, e5⟩ := row_nat (f 5)
  unfold t6 all6
  rw [e0, e1, e2, e3, e4, e5]
  refine List.mem_flatMap.mpr ⟨n0, List.mem_range.mpr h0, List.mem_flatMap.mpr ⟨n1, List.mem_range.mpr h1, List.mem_flatMap.mpr ⟨n2, List.mem_range.mpr h2, List.mem_flatMap.mpr ⟨n3, List.mem_range.mpr h3, List.mem_flatMap.mpr ⟨n4, List.mem_range.mpr h4, List.mem_flatMap.mpr ⟨n5, List.mem_range.mpr h5, List.mem_singleton.mpr rfl⟩⟩⟩⟩⟩⟩
/-- The map tells right numbers. -/
def Gd10 (V : T6 → Int) (D : DataW Value) : Prop := Tidy D ∧ ∃ L : List T6, L.Nodup ∧ (∀ t ∈ L, t ∈ all6) ∧ Maps.size D = L.length ∧ (∀ f : Fn6, has D (kf10 f) = true ↔ t6 f ∈ L) ∧ ∀ (f : Fn6) (z : DataW Value), t6 f ∈ L → D.atKey (kf10 f) z = .held (.int .i64 (V (t6 f)))
theorem Gd10.start (V : T6 → Int) : Gd10 V (.map []) := ⟨tidy_empty, [], List.nodup_nil, by simp, rfl, fun f => by simp [has], fun f z h => by simp at h⟩
theorem Gd10.size {V : T6 → Int} {D : DataW Value} (h : Gd10 V D) : Maps.size D ≤ 68719476736 := by
  obtain ⟨_, L, h1, h2, h3, _⟩ := h
  have := nodup_sub L all6 h1 h2
  rw [all6_len] at this
  omega
theorem Gd10.put {V : T6 → Int} {D : DataW Value} (h : Gd10 V D) (f : Fn6) (hn : has D (kf10 f) = false) : Gd10 V (D.put (kf10 f) (.held (.int .i64 (V (t6 f))))) := by
  obtain ⟨h0, L, h1, h2, h3, h4, h5⟩ := h
  have hkey := keyed28.key (kf10_key f)
  have hm : t6 f ∉ L := fun q => by
    have := (h4 f).mpr q
    rw [hn] at this
    exact absurd this (by decide)
  refine ⟨h0.put hkey _, t6 f :: L, List.nodup_cons.mpr ⟨hm, h1⟩, fun t ht => ?_, ?_, fun g => ?_, fun g z hg => ?_⟩
  · rcases List.mem_cons.mp ht with rfl | ht
    · exact mem_all6 f
    · exact h2 t ht
  · rw [size_put h0, if_neg (by rw [hn]; decide), h3]
    rfl
  · by_cases hfg : t6 g = t6 f
    · rw [(kf10_iff g f).mpr hfg, has_put_same h0.isMap hkey, hfg]
      simp
    · rw [has_put_other (fun e => hfg ((kf10_iff g f).mp e)), h4 g, List.mem_cons]
      simp [hfg]
  · by_cases hfg : t6 g = t6 f
    · rw [(kf10_iff g f).mpr hfg, atKey_put_same h0.isMap hkey, hfg]
    · rw [atKey_put_other (fun e => hfg ((kf10_iff g f).mp e))]
      exact h5 g z ((List.mem_cons.mp hg).resolve_left hfg)
theorem map_norm {w : World} {b n : Nat} {D : DataW Value} (h : w.ownsMap Try.prog 28 RV10 b n D) : w.ownsMap Try.prog 28 RV10 b (Maps.size D) D := by
  obtain ⟨es, clock, hb, F, hs, hD⟩ := h
  refine ⟨es, clock, hb, F, ?_, hD⟩
  rw [hD, size_eq, length_read]
  exact Nat.le_refl _
/-- The map in block b tells right numbers. -/
def Mo10 (V : T6 → Int) (b : Nat) (w : World) : Prop := ∃ n D, w.ownsMap Try.prog 28 RV10 b n D ∧ Gd10 V D
theorem Mo10.kept {V : T6 → Int} {b : Nat} {w w' : World} {row : Option Nat} (h : Mo10 V b w) (hg : w.grownBy w' row) (hne : some b ≠ row) : Mo10 V b w' := by
  obtain ⟨n, D, h1, h2⟩ := h
  exact ⟨n, D, h1.kept hg hne, h2⟩
theorem Mo10.lt {V : T6 → Int} {b : Nat} {w : World} (h : Mo10 V b w) : b < w.heap.size := by
  obtain ⟨n, D, h1, h2⟩ := h
  exact h1.lt
theorem Mo10.look {V : T6 → Int} {b : Nat} {w : World} (h : Mo10 V b w) (f : Fn6) : ((Instr.lookup 138 (.map (some b)) (.agg #[.int .i64 (rowv (f 0)), .int .i64 (rowv (f 1)), .int .i64 (rowv (f 2)), .int .i64 (rowv (f 3)), .int .i64 (rowv (f 4)), .int .i64 (rowv (f 5))]) true).run Try.prog w = .ok (.tuple #[.int .i64 (V (t6 f)), .bool true]) w) ∨ ((∃ v, (Instr.lookup 138 (.map (some b)) (.agg #[.int .i64 (rowv (f 0)), .int .i64 (rowv (f 1)), .int .i64 (rowv (f 2)), .int .i64 (rowv (f 3)), .int .i64 (rowv (f 4)), .int .i64 (rowv (f 5))]) true).run Try.prog w = .ok (.tuple #[v, .bool false]) w)) := by
  obtain ⟨n, D, h1, h0, L, h2, h3, h4, h5, h6⟩ := h
  obtain ⟨v, ps, hrun, hv⟩ := h1.look_ok keyed28 map_u10 (zero_i w) (zd := .held (.int .i64 0)) (zp := []) rfl (kf10_key f)
  cases hh : has D (kf10 f)
  · rw [hh] at hrun
    exact .inr ⟨v, hrun⟩
  · rw [hh] at hrun
    rw [h6 f _ ((h5 f).mp hh)] at hv
    simp only [RV10, Option.some.injEq, Prod.mk.injEq, DataW.held.injEq] at hv
    rw [hv.1] at hrun
    exact .inl hrun
theorem Mo10.store {V : T6 → Int} {b : Nat} {w : World} (h : Mo10 V b w) (f : Fn6) : ∃ w', (Instr.mapUpdate 138 (.map (some b)) (.agg #[.int .i64 (rowv (f 0)), .int .i64 (rowv (f 1)), .int .i64 (rowv (f 2)), .int .i64 (rowv (f 3)), .int .i64 (rowv (f 4)), .int .i64 (rowv (f 5))]) (.int .i64 (V (t6 f)))).run Try.prog w = .ok () w' ∧ Mo10 V b w' ∧ w.grownBy w' (some b) := by
  obtain ⟨n, D, h1, hG⟩ := h
  have hs := hG.size
  obtain ⟨w', hrun, ho, ht⟩ := (map_norm h1).store keyed28 map_u10 (by unfold maxLen; omega) (kf10_key f) (val := .int .i64 (V (t6 f))) (d := .held (.int .i64 (V (t6 f)))) (ps := []) rfl
  refine ⟨w', hrun, ⟨_, _, ho, ?_⟩, ht.grown⟩
  cases hh : has D (kf10 f)
  · exact hG.put f hh
  · obtain ⟨h0, L, h2, h3, h4, h5, h6⟩ := hG
    have hkey := keyed28.key (kf10_key f)
    have hm := (h5 f).mp hh
    refine ⟨h0.put hkey _, L, h2, h3, by rw [size_put h0, if_pos hh, h4], fun g => ?_, fun g z hg => ?_⟩
    · by_cases hfg : t6 g = t6 f
      · rw [(kf10_iff g f).mpr hfg, has_put_same h0.isMap hkey, hfg]
        simp [hm]
      · rw [has_put_other (fun e => hfg ((kf10_iff g f).mp e)), h5 g]
    · by_cases hfg : t6 g = t6 f
      · rw [(kf10_iff g f).mpr hfg, atKey_put_same h0.isMap hkey, hfg]
      · rw [atKey_put_other (fun e => hfg ((kf10_iff g f).mp e))]
        exact h6 g z hg
end Go.Proofs.Ytkjaaaefcmpokaa
