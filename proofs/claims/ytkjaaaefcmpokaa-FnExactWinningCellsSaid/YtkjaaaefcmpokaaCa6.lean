/- CONTRACTS: the model's open cells. -/
import Derived.Test.YtkjaaaefcmpokaaRl6
import Derived.Deep.RegionHeld3
import Derived.WalkKit
import Derived.ProofKit
import Derived.OpenShut
import Derived.Lib.Hide
import Derived.WalkSpells
import Derived.Below
import Derived.BigQuiet
import Derived.LoopN
namespace Go.Proofs.Ytkjaaaefcmpokaa
open Go.ChangeShapes Go.WideShapes Go.ChangeAt Go.RowKit
set_option linter.unusedVariables false
/-- Midway, with the cell that is looked at in a block. -/
def Qo (w : World) (p s : Fn6) (xs : List (Nat × Nat)) (v : Value) (gc x y : Nat) (U : World) : Prop := Rl 2 [(w.heap.size, o6 p), (w.heap.size + 1, o6 s)] w xs v U ∧ U.heap[gc]? = some (oc x y)
theorem Qo.below {w U U' : World} {p s : Fn6} {xs : List (Nat × Nat)} {v : Value} {gc x y M : Nat} (h : Qo w p s xs v gc x y U) (hb : Below M U U') (hM : M = U.heap.size) : Qo w p s xs v gc x y U' := ⟨h.1.below hb hM, rowk h.2 hb hM⟩
theorem Qo.drew {w U : World} {p s : Fn6} {xs : List (Nat × Nat)} {v : Value} {gc x y : Nat} (h : Qo w p s xs v gc x y U) : Qo w p s xs v gc x y U.drew := h.below (M := U.heap.size) (Below.refl _ _).drew rfl
theorem SKo {w U : World} {p s : Fn6} {xs : List (Nat × Nat)} {v : Value} {gc x y : Nat} (h : Qo w p s xs v gc x y U) : U.cell? ⟨w.heap.size, 0, none⟩ = some (.int .i64 (rowv (p 0))) ∧ U.cell? ⟨w.heap.size, 1, none⟩ = some (.int .i64 (rowv (p 1))) ∧ U.cell? ⟨w.heap.size, 2, none⟩ = some (.int .i64 (rowv (p 2))) ∧ U.cell? ⟨w.heap.size, 3, none⟩ = some (.int .i64 (rowv (p 3))) ∧ U.cell? ⟨w.heap.size, 4, none⟩ = some (.int .i64 (rowv (p 4))) ∧ U.cell? ⟨w.heap.size, 5, none⟩ = some (.int .i64 (rowv (p 5))) ∧ U.cell? ⟨w.heap.size + 1, 0, none⟩ = some (.int .i64 (rowv (s 0))) ∧ U.cell? ⟨w.heap.size + 1, 1, none⟩ = some (.int .i64 (rowv (s 1))) ∧ U.cell? ⟨w.heap.size + 1, 2, none⟩ = some (.int .i64 (rowv (s 2))) ∧ U.cell? ⟨w.heap.size + 1, 3, none⟩ = some (.int .i64 (rowv (s 3))) ∧ U.cell? ⟨w.heap.size + 1, 4, none⟩ = some (.int .i64 (rowv (s 4))) ∧ U.cell? ⟨w.heap.size + 1, 5, none⟩ = some (.int .i64 (rowv (s 5))) ∧ U.cell? ⟨gc, 0, none⟩ = some (.int .i64 (x : Int)) ∧ U.cell? ⟨gc, 1, none⟩ = some (.int .i64 (y : Int)) ∧ Qo w p s xs v gc x y U :=
  have h0 := fun j => cell_of_row U _ j _ _ _ (h.1.1.row (g := w.heap.size) (o := o6 p) (List.mem_cons_self ..))
  have h1 := fun j => cell_of_row U _ j _ _ _ (h.1.1.row (g := w.heap.size + 1) (o := o6 s) (List.mem_cons_of_mem _ (List.mem_cons_self ..)))
  have h2 := fun j => cell_of_row U _ j _ _ _ h.2
  ⟨h0 0, h0 1, h0 2, h0 3, h0 4, h0 5, h1 0, h1 1, h1 2, h1 3, h1 4, h1 5, h2 0, h2 1, h⟩
set_option maxHeartbeats 4000000 in
theorem lopen6_f (p s : Fn6) (w : World) : Calls Try.prog 211 #[.agg #[.int .i64 (rowv (p 0)), .int .i64 (rowv (p 1)), .int .i64 (rowv (p 2)), .int .i64 (rowv (p 3)), .int .i64 (rowv (p 4)), .int .i64 (rowv (p 5))], .agg #[.int .i64 (rowv (s 0)), .int .i64 (rowv (s 1)), .int .i64 (rowv (s 2)), .int .i64 (rowv (s 3)), .int .i64 (rowv (s 4)), .int .i64 (rowv (s 5))]] w (LP (bl (shr s p) 36) w) := by
  obtain ⟨i0, hi, hz0, hz1, hz2⟩ := info_parts info44
  go_enter Try.func211, Try.ntmps211
  go_wp2_with fail
  generalize hW : (World.alloc (World.alloc w _) _ : World) = W0
  have hsz : W0.heap.size = w.heap.size + 1 + 1 := by rw [← hW]; simp
  have hB0 : Below w.heap.size w W0 := by rw [← hW]; (repeat (first | exact Below.refl _ _ | assumption | refine Below.setCell ?_ (by first | (simp; done) | (simp; omega)) _ | refine Below.alloc ?_ (by first | (simp; done) | (simp; omega)) _ | refine Below.drew ?_))
  have q0 : W0.heap[(w.heap.size : Nat)]? = some (o6 p) := by
    rw [← hW]
    repeat (first | (refine alloc_at ?_; first | (simp; done) | (simp; omega)) | refine drew_row ?_ | refine alloc_past ?_ | assumption)
  have q1 : W0.heap[(w.heap.size + 1 : Nat)]? = some (o6 s) := by
    rw [← hW]
    repeat (first | (refine alloc_at ?_; first | (simp; done) | (simp; omega)) | refine drew_row ?_ | refine alloc_past ?_ | assumption)
  have K0 : KR 2 [(w.heap.size, o6 p), (w.heap.size + 1, o6 s)] w W0 := ⟨by simp [q0, q1], by rw [← hW]; simp, hB0⟩
  have S0 := Lib.hid (Rl.start K0)
  rw [hsz] at S0
  clear hsz
  clear hW hB0 q0 q1 K0
  generalize (World.alloc _ _ : World) = W1 at S0 ⊢
  generalize hv0 : (Value.slice (some ⟨_, 0, none⟩) 0 0) = v0 at S0 ⊢
  clear hv0
  go_loopw [5, 6] (fun v n wr => ∃ k : Nat, k ≤ 36 ∧ n = .int .i64 k ∧ Hid (Rl 2 [(w.heap.size, o6 p), (w.heap.size + 1, o6 s)] w (bl (shr s p) k) v wr)) (fun _ n _ => 36 - (intOf n).toNat)
  case atStart => exact ⟨0, by omega, rfl, S0⟩
  case round =>
    obtain ⟨k, hk, rfl, HS⟩ := hrel
    by_cases hlt : k < 36
    · have hlt' : (k : Int) < 36 := by omega
      have hk0 : (0 : Int) ≤ k := by omega
      have hx : k % 6 < 6 := Nat.mod_lt _ (by decide)
      have hy : k / 6 < 6 := by omega
      have HF := Lib.hid (l2at_n p hx hy)
      have HP := Lib.hid (l2part_f s p hx hy)
      have HX := Lib.hid (show (k : Int) % 6 = ((k % 6 : Nat) : Int) by omega)
      have HY := Lib.hid (show (k : Int) / 6 = ((k / 6 : Nat) : Int) by omega)
      have H0 := Lib.hid (@bl_k0 (shr s p) k)
      have H1 := Lib.hid (@bl_k1 (shr s p) k)
      go_wp2_with fail
      rw [HX.out, HY.out]
      clear HX HY
      generalize k % 6 = x at *
      generalize k / 6 = y at *
      obtain ⟨g, cap, rfl, ho⟩ := HS.out.2
      clear ho
      have hq : Qo w p s (bl (shr s p) k) (.slice (some ⟨g, 0, none⟩) (bl (shr s p) k).length cap) wr.heap.size x y (wr.alloc (.cells #[.int .i64 (x : Int), .int .i64 (y : Int)] 47)) := ⟨HS.out.alloc _, alloc_at rfl⟩
      clear HS
      generalize (World.alloc _ _ : World) = W1 at hq ⊢
      generalize wr.heap.size = gc at hq ⊢
      set_option maxRecDepth 8000 in
      go_region_held3 (fun U => U.cell? ⟨w.heap.size, 0, none⟩ = some (.int .i64 (rowv (p 0))) ∧ U.cell? ⟨w.heap.size, 1, none⟩ = some (.int .i64 (rowv (p 1))) ∧ U.cell? ⟨w.heap.size, 2, none⟩ = some (.int .i64 (rowv (p 2))) ∧ U.cell? ⟨w.heap.size, 3, none⟩ = some (.int .i64 (rowv (p 3))) ∧ U.cell? ⟨w.heap.size, 4, none⟩ = some (.int .i64 (rowv (p 4))) ∧ U.cell? ⟨w.heap.size, 5, none⟩ = some (.int .i64 (rowv (p 5))) ∧ U.cell? ⟨w.heap.size + 1, 0, none⟩ = some (.int .i64 (rowv (s 0))) ∧ U.cell? ⟨w.heap.size + 1, 1, none⟩ = some (.int .i64 (rowv (s 1))) ∧ U.cell? ⟨w.heap.size + 1, 2, none⟩ = some (.int .i64 (rowv (s 2))) ∧ U.cell? ⟨w.heap.size + 1, 3, none⟩ = some (.int .i64 (rowv (s 3))) ∧ U.cell? ⟨w.heap.size + 1, 4, none⟩ = some (.int .i64 (rowv (s 4))) ∧ U.cell? ⟨w.heap.size + 1, 5, none⟩ = some (.int .i64 (rowv (s 5))) ∧ U.cell? ⟨gc, 0, none⟩ = some (.int .i64 (x : Int)) ∧ U.cell? ⟨gc, 1, none⟩ = some (.int .i64 (y : Int)) ∧ Qo w p s (bl (shr s p) k) (.slice (some ⟨g, 0, none⟩) (bl (shr s p) k).length cap) gc x y U) (with_reducible refine SKo ?_; (first | with_reducible assumption | (with_reducible refine Qo.drew ?_; with_reducible assumption))) (first | (go_at_call 153; with_reducible refine (HF.out _).mono ?_; rintro e w' ⟨rfl, hb'⟩; have hq : Qo w p s (bl (shr s p) k) (.slice (some ⟨g, 0, none⟩) (bl (shr s p) k).length cap) gc x y w' := Qo.below (by (first | with_reducible assumption | (with_reducible refine Qo.drew ?_; with_reducible assumption))) hb' rfl) | (go_at_call 278; with_reducible refine (HP.out _).mono ?_; rintro e w' ⟨rfl, hb'⟩; have hq : Qo w p s (bl (shr s p) k) (.slice (some ⟨g, 0, none⟩) (bl (shr s p) k).length cap) gc x y w' := Qo.below (by (first | with_reducible assumption | (with_reducible refine Qo.drew ?_; with_reducible assumption))) hb' rfl))
      all_goals
        have HJ := Lib.hid hq
        rename_i hS
        clear hS hq HF HP
        obtain ⟨u, hu⟩ : ∃ u, u = shr s p y x := ⟨_, rfl⟩
        rw [← hu] at H0 H1 ⊢
        clear hu
        cases u
        · go_wp2_with fail
          go_roundw
          case rel => exact ⟨k + 1, by omega, by go_num, by rw [H0.out rfl]; exact Lib.hid HJ.out.1⟩
          case measure => simp [intOf]; omega
        · obtain ⟨hK, _, _, hv, ho⟩ := HJ.out.1
          have HO := ho.kept (grown_below ((Below.refl _ _).alloc (Nat.le_refl _) (.cells #[.int .i64 (x : Int), .int .i64 (y : Int)] 47)) rfl) (.inr (by simp [Value.ownBlock]))
          have HY := Lib.hid (HJ.out.1.alloc (.cells #[.int .i64 (x : Int), .int .i64 (y : Int)] 47))
          have HL := bl_len (shr s p) k
          have hks := hK.2.1
          have g_c := fun j => cell_of_row w' _ j _ _ _ HJ.out.2
          clear ho HJ hv hK
          go_wp2_with (at_builtin; refine wpList_append_own _ rfl _ _ 25 rfl (w.heap.size + 2) 47 i0 (.agg #[.int .i64 0, .int .i64 0]) 2 16 Try.underlying25 hi hz0 hz1 hz2 rfl (by decide) _ _ _ rfl HO ⟨w'.heap.size, 0, none⟩ 1 1 [.int .i64 (x : Int), .int .i64 (y : Int)] rfl rfl (two_new _ _ _ _) (ints_one _ _) (by have := HL; unfold maxLen; omega) (by have := HL; omega) (by have := hks; simp; omega) ?_; intro v' w1 hown' hgrow hnn; have R := Lib.hid (HY.out.snoc hown' hgrow hnn); clear hown' hgrow hnn HY HO HL hks g_c)
          go_roundw
          case rel => exact ⟨k + 1, by omega, by go_num, by rw [H1.out rfl]; exact R⟩
          case measure => simp [intOf]; omega
    · obtain rfl : k = 36 := by omega
      obtain ⟨g, cap, rfl, h2, h3⟩ := HS.out.post
      have H2 := Lib.hid h2
      have H3 := Lib.hid h3
      clear h2 h3 HS
      go_wp2_with fail
      go_ret
      exact ⟨g, cap, rfl, H2.out, H3.out⟩
end Go.Proofs.Ytkjaaaefcmpokaa
