/- CONTRACTS: ShrinkLeft, the model's. -/
import Derived.Test.YtjhokdccgachcaaBs5
import Derived.Deep.Cut
import Derived.RegionTactic
import Derived.WalkKit
import Derived.ProofKit
import Derived.OpenShut
import Derived.Lib.Hide
import Derived.WalkSpells
import Derived.Below
import Derived.BigQuiet
import Derived.LoopN
namespace Go.Proofs.Ytjhokdccgachcaa
open Go.ChangeShapes Go.WideShapes Go.ChangeAt Go.RowKit
set_option linter.unusedVariables false
theorem neq26 (a0 a1 a2 a3 a4 a5 : Int) (b0 b1 b2 b3 b4 b5 : Int) (w : World) : (binOp .neq 25 (.agg #[.int .i64 a0, .int .i64 a1, .int .i64 a2, .int .i64 a3, .int .i64 a4, .int .i64 a5]) (.agg #[.int .i64 b0, .int .i64 b1, .int .i64 b2, .int .i64 b3, .int .i64 b4, .int .i64 b5])).run Try.prog w = .ok (.bool (!(a0 == b0 && a1 == b1 && a2 == b2 && a3 == b3 && a4 == b4 && a5 == b5))) w := by
  have h := eq26 a0 a1 a2 a3 a4 a5 b0 b1 b2 b3 b4 b5 w
  rw [run_eql_struct] at h
  rw [run_neq_struct]
  generalize (Op.equalIn 10000 25 (.agg #[.int .i64 a0, .int .i64 a1, .int .i64 a2, .int .i64 a3, .int .i64 a4, .int .i64 a5]) (.agg #[.int .i64 b0, .int .i64 b1, .int .i64 b2, .int .i64 b3, .int .i64 b4, .int .i64 b5])).run Try.prog w = x at h ⊢
  cases x with
  | ok v w' =>
    simp only [Result.andThen_ok, Result.ok.injEq, Value.bool.injEq] at h ⊢
    exact ⟨by rw [h.1], h.2⟩
  | halt e w' => cases h
theorem neq_white (F : Fn6) (w : World) : (binOp .neq 25 (.agg #[.int .i64 (rowv (F 0)), .int .i64 (rowv (F 1)), .int .i64 (rowv (F 2)), .int .i64 (rowv (F 3)), .int .i64 (rowv (F 4)), .int .i64 (rowv (F 5))]) (.agg #[.int .i64 0, .int .i64 0, .int .i64 0, .int .i64 0, .int .i64 0, .int .i64 0])).run Try.prog w = .ok (.bool (!wh5 F)) w := neq26 (rowv (F 0)) (rowv (F 1)) (rowv (F 2)) (rowv (F 3)) (rowv (F 4)) (rowv (F 5)) 0 0 0 0 0 0 w
/-- Shrunk n times. -/
def shn5 (s p : Fn6) : Nat → Fn6
  | 0 => s
  | n + 1 => shr (shn5 s p n) p
/-- How often a sheet is shrunk: the first round at which it, or what would come of it, is white, or 12. -/
def lft5 (s p : Fn6) (N : Nat) : Prop := N ≤ 12 ∧ (∀ m, m < N → wh5 (shn5 s p m) = false ∧ wh5 (shn5 s p (m + 1)) = false) ∧ (N < 12 → wh5 (shn5 s p N) = true ∨ wh5 (shn5 s p (N + 1)) = true)
theorem lft5_ex (s p : Fn6) : ∃ N, lft5 s p N := by
  obtain ⟨N, h1, h2, h3⟩ := first13 (fun n => n == 12 || wh5 (shn5 s p n) || wh5 (shn5 s p (n + 1)))
  have h13 : N < 13 := by
    rcases Nat.lt_or_ge N 13 with h | h
    · exact h
    · have := h2 12 (by omega)
      simp at this
  refine ⟨N, by omega, fun m hm => ?_, fun h => ?_⟩
  · have := h2 m hm
    simp only [Bool.or_eq_false_iff] at this
    exact ⟨this.1.2, this.2⟩
  · have := h3 h13
    have hne : (N == 12) = false := by simp; omega
    simp only [hne, Bool.false_or, Bool.or_eq_true] at this
    exact this
/-- Midway: the sheet, the stamp and the result in their blocks, what comes next in a block of its own. -/
def Bn5 (w : World) (p F G : Fn6) (g : Nat) (W : World) : Prop := Bh5 w p F W ∧ W.heap[g]? = some (o6 G) ∧ w.heap.size + 3 ≤ g
theorem Bn5.far {w W V : World} {p F G : Fn6} {g M : Nat} (h : Bn5 w p F G g W) (hb : Below M W V) (hM : M = W.heap.size) : Bn5 w p F G g V := ⟨h.1.far hb hM, rowk h.2.1 hb hM, h.2.2⟩
theorem Bn5_g {w W : World} {p F G : Fn6} {g : Nat} (h : Bn5 w p F G g W) : ∀ j, W.cell? ⟨g, j, none⟩ = (#[.int .i64 (rowv (G 0)), .int .i64 (rowv (G 1)), .int .i64 (rowv (G 2)), .int .i64 (rowv (G 3)), .int .i64 (rowv (G 4)), .int .i64 (rowv (G 5))] : Array Value)[j]? := fun j => cell_of_row W _ j _ _ _ h.2.1
theorem Bn5.put {w W : World} {p F G : Fn6} {g : Nat} (H : Fn6) (h : Bn5 w p F G g W) : Bn5 w p H G g ((((((W.setCell ⟨w.heap.size, 0, none⟩ (.int .i64 (rowv (H 0)))).setCell ⟨w.heap.size, 1, none⟩ (.int .i64 (rowv (H 1)))).setCell ⟨w.heap.size, 2, none⟩ (.int .i64 (rowv (H 2)))).setCell ⟨w.heap.size, 3, none⟩ (.int .i64 (rowv (H 3)))).setCell ⟨w.heap.size, 4, none⟩ (.int .i64 (rowv (H 4)))).setCell ⟨w.heap.size, 5, none⟩ (.int .i64 (rowv (H 5)))) := ⟨h.1.put H, set6o _ _ _ _ _ _ (by have := h.2.2; omega) h.2.1, h.2.2⟩
theorem Bh5.set {w W : World} {p F : Fn6} {g : Nat} (v0 v1 v2 v3 v4 v5 : Value) (hg : w.heap.size + 3 ≤ g) (h : Bh5 w p F W) : Bh5 w p F ((((((W.setCell ⟨g, 0, none⟩ v0).setCell ⟨g, 1, none⟩ v1).setCell ⟨g, 2, none⟩ v2).setCell ⟨g, 3, none⟩ v3).setCell ⟨g, 4, none⟩ v4).setCell ⟨g, 5, none⟩ v5) :=
  ⟨set6o _ _ _ _ _ _ (by omega) h.1, set6o _ _ _ _ _ _ (by omega) h.2.1, set6o _ _ _ _ _ _ (by omega) h.2.2.1, by simpa using h.2.2.2.1, below6 h.2.2.2.2 (by omega)⟩
theorem Bn5.putn {w W : World} {p F G : Fn6} {g : Nat} (H : Fn6) (h : Bn5 w p F G g W) : Bn5 w p F H g ((((((W.setCell ⟨g, 0, none⟩ (.int .i64 (rowv (H 0)))).setCell ⟨g, 1, none⟩ (.int .i64 (rowv (H 1)))).setCell ⟨g, 2, none⟩ (.int .i64 (rowv (H 2)))).setCell ⟨g, 3, none⟩ (.int .i64 (rowv (H 3)))).setCell ⟨g, 4, none⟩ (.int .i64 (rowv (H 4)))).setCell ⟨g, 5, none⟩ (.int .i64 (rowv (H 5)))) := ⟨h.1.set _ _ _ _ _ _ h.2.2, set6a _ _ _ _ _ _ h.2.1, h.2.2⟩
theorem Bn5.new {w W : World} {p F G : Fn6} (h : Bh5 w p F W) : Bn5 w p F G W.heap.size (W.alloc (.cells #[.int .i64 (rowv (G 0)), .int .i64 (rowv (G 1)), .int .i64 (rowv (G 2)), .int .i64 (rowv (G 3)), .int .i64 (rowv (G 4)), .int .i64 (rowv (G 5))] 25)) := ⟨h.far (M := W.heap.size) ((Below.refl _ _).alloc (Nat.le_refl _) _) rfl, alloc_at rfl, h.2.2.2.1⟩
theorem Bh5_f0 {w W : World} {p F : Fn6} (h : Bh5 w p F W) : ∀ j, W.frozen? ⟨w.heap.size, j, none⟩ = false := Bh5_sf h
set_option maxHeartbeats 1000000 in
theorem ssl_yes (s p : Fn6) (N : Nat) (hN : lft5 s p N) (K0 : Hid (∀ w, Calls Try.prog 91 #[.agg #[.int .i64 (rowv (s 0)), .int .i64 (rowv (s 1)), .int .i64 (rowv (s 2)), .int .i64 (rowv (s 3)), .int .i64 (rowv (s 4)), .int .i64 (rowv (s 5))]] w fun e w' => e = .returned (.bool true) ∧ Below w.heap.size w w')) (K1 : Hid (∀ w, Calls Try.prog 91 #[.agg #[.int .i64 (rowv (p 0)), .int .i64 (rowv (p 1)), .int .i64 (rowv (p 2)), .int .i64 (rowv (p 3)), .int .i64 (rowv (p 4)), .int .i64 (rowv (p 5))]] w fun e w' => e = .returned (.bool true) ∧ Below w.heap.size w w')) (w : World) : Calls Try.prog 45 #[.agg #[.int .i64 (rowv (s 0)), .int .i64 (rowv (s 1)), .int .i64 (rowv (s 2)), .int .i64 (rowv (s 3)), .int .i64 (rowv (s 4)), .int .i64 (rowv (s 5))], .agg #[.int .i64 (rowv (p 0)), .int .i64 (rowv (p 1)), .int .i64 (rowv (p 2)), .int .i64 (rowv (p 3)), .int .i64 (rowv (p 4)), .int .i64 (rowv (p 5))]] w fun e w' => e = .returned (.tuple #[.int .i64 (N : Int), .agg #[.int .i64 (rowv (shn5 s p N 0)), .int .i64 (rowv (shn5 s p N 1)), .int .i64 (rowv (shn5 s p N 2)), .int .i64 (rowv (shn5 s p N 3)), .int .i64 (rowv (shn5 s p N 4)), .int .i64 (rowv (shn5 s p N 5))], .bool true]) ∧ Below w.heap.size w w' := by
  have h12 := hN.1
  have Hno := Lib.hid hN.2.1
  have Hyes := Lib.hid hN.2.2
  clear hN
  go_enter Try.func45, Try.ntmps45
  go_wp2_with fail
  generalize hW : (World.alloc _ _ : World) = W0
  have hB0 : Below w.heap.size w W0 := by rw [← hW]; (repeat (first | exact Below.refl _ _ | assumption | refine Below.setCell ?_ (by first | (simp; done) | (simp; omega)) _ | refine Below.alloc ?_ (by first | (simp; done) | (simp; omega)) _ | refine Below.drew ?_))
  have q0 : W0.heap[(w.heap.size : Nat)]? = some (o6 s) := by
    rw [← hW]
    repeat (first | (refine alloc_at ?_; first | (simp; done) | (simp; omega)) | refine drew_row ?_ | refine alloc_past ?_ | assumption)
  have q1 : W0.heap[(w.heap.size + 1 : Nat)]? = some (o6 p) := by
    rw [← hW]
    repeat (first | (refine alloc_at ?_; first | (simp; done) | (simp; omega)) | refine drew_row ?_ | refine alloc_past ?_ | assumption)
  have q2 : W0.heap[(w.heap.size + 2 : Nat)]? = some (oz) := by
    rw [← hW]
    repeat (first | (refine alloc_at ?_; first | (simp; done) | (simp; omega)) | refine drew_row ?_ | refine alloc_past ?_ | assumption)
  have hk : KR 2 [(w.heap.size, o6 s), (w.heap.size + 1, o6 p)] w W0 := ⟨by simp [q0, q1], by rw [← hW]; simp, hB0⟩
  have hq := q2
  clear hW hB0 q0 q1 q2
  have HS : Hid (Bh5 w p s W0) := Lib.hid ⟨hk.row (g := w.heap.size) (o := o6 s) (by simp), hk.row (g := w.heap.size + 1) (o := o6 p) (by simp), hq, row_lt hq, hk.2.2⟩
  clear hk hq
  have s_c := Bh5_s HS.out
  go_wp2_with fail
  refine (K0.out _).mono ?_
  rintro e V0 ⟨rfl, hb⟩
  have HS := Lib.hid (HS.out.far hb rfl)
  clear hb s_c
  have p_c := Bh5_p HS.out
  go_wp2_with fail
  refine (K1.out _).mono ?_
  rintro e V1 ⟨rfl, hb⟩
  have HS := Lib.hid (HS.out.far hb rfl)
  clear hb p_c K0 K1
  have HL := Lib.hid (lshrink_f s p)
  have s_c := Bh5_s HS.out
  have p_c := Bh5_p HS.out
  go_wp2_with fail
  refine (HL.out _).mono ?_
  rintro e V2 ⟨rfl, hb⟩
  have HB := HS.out.far hb rfl
  clear hb HS s_c p_c HL
  have S0 : Hid (Bn5 w p (shn5 s p 0) (shn5 s p 1) V2.heap.size (V2.alloc (.cells #[.int .i64 (rowv (shr s p 0)), .int .i64 (rowv (shr s p 1)), .int .i64 (rowv (shr s p 2)), .int .i64 (rowv (shr s p 3)), .int .i64 (rowv (shr s p 4)), .int .i64 (rowv (shr s p 5))] 25))) := Lib.hid (Bn5.new HB)
  clear HB
  go_wp2_with fail
  generalize (World.alloc _ _ : World) = V3 at S0 ⊢
  generalize V2.heap.size = g0 at S0 ⊢
  go_loopw [7, 8] (fun c d wr => ∃ n g : Nat, n ≤ N ∧ c = .int .i64 n ∧ d = .pointer (some ⟨g, 0, none⟩) ∧ Hid (Bn5 w p (shn5 s p n) (shn5 s p (n + 1)) g wr)) (fun c _ _ => 12 - (intOf c).toNat)
  case atStart => exact ⟨0, g0, by omega, rfl, rfl, S0⟩
  case round =>
    obtain ⟨n, g, hn, rfl, rfl, HS⟩ := hrel
    obtain ⟨F, hF⟩ : ∃ F, F = shn5 s p n := ⟨_, rfl⟩
    have hG : shn5 s p (n + 1) = shr F p := by rw [hF]; rfl
    rw [← hF, hG] at HS
    have HF := Lib.hid hF
    have HG := Lib.hid hG
    clear hF hG
    have e1 := neq_white F
    have e2 := neq_white (shr F p)
    have s_c := Bh5_s HS.out.1
    have g_c := Bn5_g HS.out
    by_cases hgo : n < N
    · have h1 := (Hno.out n hgo).1
      have h2 := (Hno.out n hgo).2
      rw [← HF.out] at h1
      rw [HG.out] at h2
      simp only [h1, h2, Bool.not_false] at e1 e2
      have hlt' : (n : Int) < 12 := by omega
      clear h1 h2
      have s_f := Bh5_sf HS.out.1
      have gne : g ≠ w.heap.size := by have := HS.out.2.2; omega
      have gne2 : w.heap.size ≠ g := Ne.symm gne
      have glt := row_lt HS.out.2.1
      have glt2 := Nat.ne_of_lt glt
      have slt : w.heap.size < wr.heap.size := by have := HS.out.1.2.2.2.1; omega
      have slt2 := Nat.ne_of_lt slt
      go_upto_region 8 with (fail)
      have HX := Lib.hid (HS.out.put (shr F p))
      clear HS s_c g_c s_f gne gne2 glt glt2 slt slt2 e1 e2
      generalize hX : (World.setCell _ _ _ : World) = X at HX ⊢
      clear hX
      have g_c := Bn5_g HX.out
      have s_c := Bh5_s HX.out.1
      have p_c := Bh5_p HX.out.1
      have glt := row_lt HX.out.2.1
      have glt2 := Nat.ne_of_lt glt
      have slt : w.heap.size < X.heap.size := by have := HX.out.1.2.2.2.1; omega
      have slt2 := Nat.ne_of_lt slt
      have plt : w.heap.size + 1 < X.heap.size := by have := HX.out.1.2.2.2.1; omega
      have plt2 := Nat.ne_of_lt plt
      have slt3 := Nat.lt_succ_of_lt slt
      have plt3 := Nat.lt_succ_of_lt plt
      go_wp2_with fail
      have HY := Bn5.new (G := shr F p) HX.out.1
      clear HX g_c s_c p_c glt glt2 slt slt2 plt plt2 slt3 plt3
      generalize (World.alloc _ _ : World) = Y at HY ⊢
      generalize X.heap.size = g2 at HY ⊢
      refine (lshrink_f (shr F p) p _).mono ?_
      rintro e Z ⟨rfl, hb⟩
      have HZ := Lib.hid (HY.far hb rfl)
      clear hb HY
      have g_c := Bn5_g HZ.out
      have g_f := fun j => frozen_of_row Z _ j _ _ HZ.out.2.1
      go_wp2_with fail
      have HI := Lib.hid (HZ.out.putn (shr (shr F p) p))
      clear HZ g_c g_f
      go_roundw
      case rel => exact ⟨n + 1, g2, by omega, by go_num, rfl, by have hF := HF.out; subst hF; exact HI⟩
      case measure => simp [intOf]; omega
    · have hnN : n = N := by omega
      have HNn := Lib.hid hnN
      have HBX := HS.out.1
      by_cases h12n : n < 12
      · have hlt' : (n : Int) < 12 := by omega
        have hor := Hyes.out (by omega)
        rw [← hnN, ← HF.out, HG.out] at hor
        clear hnN
        cases hw : wh5 F
        · rw [hw] at hor
          simp only [Bool.false_eq_true, false_or] at hor
          simp only [hw, hor, Bool.not_false, Bool.not_true] at e1 e2
          clear hor
          go_wp2_with fail
          clear g_c
          have z_c : ∀ j, wr.cell? ⟨w.heap.size + 1 + 1, j, none⟩ = (#[.int .i64 0, .int .i64 0, .int .i64 0, .int .i64 0, .int .i64 0, .int .i64 0] : Array Value)[j]? := oz_c HBX.2.2.1
          have z_f : ∀ j, wr.frozen? ⟨w.heap.size + 1 + 1, j, none⟩ = false := oz_f HBX.2.2.1
          have hBB := HBX.2.2.2.2
          go_region
          all_goals
            go_wp2_with fail
            refine bodyPost_ret (v := .tuple #[.int .i64 (n : Int), .agg #[.int .i64 (rowv (F 0)), .int .i64 (rowv (F 1)), .int .i64 (rowv (F 2)), .int .i64 (rowv (F 3)), .int .i64 (rowv (F 4)), .int .i64 (rowv (F 5))], .bool true]) (by simp [results, Try.results45, go_sem, z_c]) rfl ⟨by rw [HF.out, HNn.out], ?_⟩
            first | with_reducible exact below6 hBB (by omega) | with_reducible exact (below6 hBB (by omega)).drew | with_reducible exact below6 hBB.drew (by omega)
        · simp only [hw, Bool.not_true] at e1
          clear hor
          go_wp2_with fail
          clear g_c
          have z_c : ∀ j, wr.cell? ⟨w.heap.size + 1 + 1, j, none⟩ = (#[.int .i64 0, .int .i64 0, .int .i64 0, .int .i64 0, .int .i64 0, .int .i64 0] : Array Value)[j]? := oz_c HBX.2.2.1
          have z_f : ∀ j, wr.frozen? ⟨w.heap.size + 1 + 1, j, none⟩ = false := oz_f HBX.2.2.1
          have hBB := HBX.2.2.2.2
          go_region
          all_goals
            go_wp2_with fail
            refine bodyPost_ret (v := .tuple #[.int .i64 (n : Int), .agg #[.int .i64 (rowv (F 0)), .int .i64 (rowv (F 1)), .int .i64 (rowv (F 2)), .int .i64 (rowv (F 3)), .int .i64 (rowv (F 4)), .int .i64 (rowv (F 5))], .bool true]) (by simp [results, Try.results45, go_sem, z_c]) rfl ⟨by rw [HF.out, HNn.out], ?_⟩
            first | with_reducible exact below6 hBB (by omega) | with_reducible exact (below6 hBB (by omega)).drew | with_reducible exact below6 hBB.drew (by omega)
      · have hge : ¬ ((n : Int) < 12) := by omega
        clear hnN
        go_wp2_with fail
        clear g_c
        have z_c : ∀ j, wr.cell? ⟨w.heap.size + 1 + 1, j, none⟩ = (#[.int .i64 0, .int .i64 0, .int .i64 0, .int .i64 0, .int .i64 0, .int .i64 0] : Array Value)[j]? := oz_c HBX.2.2.1
        have z_f : ∀ j, wr.frozen? ⟨w.heap.size + 1 + 1, j, none⟩ = false := oz_f HBX.2.2.1
        have hBB := HBX.2.2.2.2
        go_region
        all_goals
          go_wp2_with fail
          refine bodyPost_ret (v := .tuple #[.int .i64 (n : Int), .agg #[.int .i64 (rowv (F 0)), .int .i64 (rowv (F 1)), .int .i64 (rowv (F 2)), .int .i64 (rowv (F 3)), .int .i64 (rowv (F 4)), .int .i64 (rowv (F 5))], .bool true]) (by simp [results, Try.results45, go_sem, z_c]) rfl ⟨by rw [HF.out, HNn.out], ?_⟩
          first | with_reducible exact below6 hBB (by omega) | with_reducible exact (below6 hBB (by omega)).drew | with_reducible exact below6 hBB.drew (by omega)
end Go.Proofs.Ytjhokdccgachcaa
