/- CONTRACTS: the code's shifts of a sheet by a stamp. -/
import Derived.Test.YtkjaaaefcmpokaaSj5
import Derived.Test.YtkjaaaefcmpokaaSw5
import Derived.OwnWalk
import Derived.WalkKit
import Derived.ProofKit
import Derived.OpenShut
import Derived.Lib.Hide
import Derived.WalkSpells
import Derived.Below
import Derived.BigQuiet
import Derived.LoopN
namespace Go.Proofs.Ytkjaaaefcmpokaa
open Go.ChangeShapes Go.WideShapes Go.ChangeAt Go.RowKit
set_option linter.unusedVariables false
theorem made_zero (v : Value) (m : Nat) : (madeCells #[v, v, v, v, v, v] m).toList = List.replicate m v := by
  rw [List.eq_replicate_iff]
  refine ⟨by simp [madeCells], fun b hb => ?_⟩
  simp only [madeCells, Array.toList_map, List.mem_map] at hb
  obtain ⟨a, _, rfl⟩ := hb
  have h6 : a % 6 < 6 := Nat.mod_lt _ (by decide)
  show (#[v, v, v, v, v, v] : Array Value)[a % 6]! = v
  rcases six_n h6 with h | h | h | h | h | h <;> (rw [h]; rfl)
theorem sv_white : ∀ n : Nat, sv (List.replicate n zf) = List.replicate (n * 6) (Value.int .i64 0)
  | 0 => rfl
  | n + 1 => by
    have ih := sv_white n
    rw [List.replicate_succ, show (n + 1) * 6 = n * 6 + 1 + 1 + 1 + 1 + 1 + 1 by omega]
    simp only [List.replicate_succ]
    rw [← ih]
    rfl
theorem info25 : (Try.prog.info? 28).map (fun i => (i.zero, i.size, i.bytes)) = some (some (.agg #[.int .i64 0, .int .i64 0, .int .i64 0, .int .i64 0, .int .i64 0, .int .i64 0]), 6, 48) := by kernel_rfl
/-- What is answered: the shifts, in a row of their own. -/
def SlPost (s p : Nat → Nat → Bool) (w : World) (e : Ending) (w' : World) : Prop := ∃ (l : List (Nat × Nat)) (g cap : Nat), l = bl p 36 ∧ e = .returned (.slice (some ⟨g, 0, none⟩) l.length cap) ∧ w'.ownsRow w.heap.size 28 6 (.slice (some ⟨g, 0, none⟩) l.length cap) l.length (sv (l.map (fun c => sf c.1 c.2 s))) ∧ Below w.heap.size w w'
/-- Midway: i of the shifts are made. -/
def Rv5 (w : World) (s p : Nat → Nat → Bool) (l : List (Nat × Nat)) (g cap gs i : Nat) (W : World) : Prop :=
  KR 1 [(w.heap.size, o6 p)] w W ∧ W.ownsRow 0 47 2 (.slice (some ⟨g, 0, none⟩) l.length cap) l.length (cv l) ∧ W.ownsRow w.heap.size 28 6 (.slice (some ⟨gs, 0, none⟩) l.length l.length) l.length (sv (shl5 s l i)) ∧ w.heap.size + 1 ≤ gs ∧ g ≠ gs ∧ i ≤ l.length
theorem Rv5.below {w W W' : World} {s p : Nat → Nat → Bool} {l : List (Nat × Nat)} {g cap gs i M : Nat} (h : Rv5 w s p l g cap gs i W) (hb : Below M W W') (hM : M = W.heap.size) : Rv5 w s p l g cap gs i W' := by
  obtain ⟨h1, h2, h3, h4, h5, h6⟩ := h
  exact ⟨h1.far hb hM, h2.kept (grown_below hb hM) (.inr (by simp [Value.ownBlock])), h3.kept (grown_below hb hM) (.inr (by simp [Value.ownBlock])), h4, h5, h6⟩
theorem Rv5.put {w W : World} {s p : Nat → Nat → Bool} {l : List (Nat × Nat)} {g cap gs i : Nat} (h : Rv5 w s p l g cap gs i W) (hi : i < l.length) : Rv5 w s p l g cap gs (i + 1) ((((((W.setCell ⟨gs, i * 6, none⟩ (.int .i64 (rowv (sf (l[i]).1 (l[i]).2 s 0)))).setCell ⟨gs, i * 6 + 1, none⟩ (.int .i64 (rowv (sf (l[i]).1 (l[i]).2 s 1)))).setCell ⟨gs, i * 6 + 2, none⟩ (.int .i64 (rowv (sf (l[i]).1 (l[i]).2 s 2)))).setCell ⟨gs, i * 6 + 3, none⟩ (.int .i64 (rowv (sf (l[i]).1 (l[i]).2 s 3)))).setCell ⟨gs, i * 6 + 4, none⟩ (.int .i64 (rowv (sf (l[i]).1 (l[i]).2 s 4)))).setCell ⟨gs, i * 6 + 5, none⟩ (.int .i64 (rowv (sf (l[i]).1 (l[i]).2 s 5)))) := by
  obtain ⟨h1, h2, h3, h4, h5, h6⟩ := h
  have hk : ∀ (U : World) (j : Nat) (u : Value), U.ownsRow 0 47 2 (.slice (some ⟨g, 0, none⟩) l.length cap) l.length (cv l) → (U.setCell ⟨gs, j, none⟩ u).ownsRow 0 47 2 (.slice (some ⟨g, 0, none⟩) l.length cap) l.length (cv l) := fun U j u h => h.kept (grow_set U ⟨gs, j, none⟩ u) (.inr (by simp [Value.ownBlock, h5]))
  have e := sv_set (sf (l[i]).1 (l[i]).2 s) (shl5 s l i) i (by rw [shl5_len s l h6]; exact hi)
  rw [shl5_set s l hi] at e
  refine ⟨h1.set h4 |>.set h4 |>.set h4 |>.set h4 |>.set h4 |>.set h4, hk _ _ _ (hk _ _ _ (hk _ _ _ (hk _ _ _ (hk _ _ _ (hk _ _ _ h2))))), ?_, h4, h5, hi⟩
  rw [← e]
  exact ((((((h3.stored _ _).1.stored _ _).1.stored _ _).1.stored _ _).1.stored _ _).1.stored _ _).1
theorem Rv5.cells {w W : World} {s p : Nat → Nat → Bool} {l : List (Nat × Nat)} {g cap gs i : Nat} (h : Rv5 w s p l g cap gs i W) (hi : i < l.length) : (∃ f : Fn6, W.cell? ⟨gs, i * 6, none⟩ = some (.int .i64 (rowv (f 0))) ∧ W.cell? ⟨gs, i * 6 + 1, none⟩ = some (.int .i64 (rowv (f 1))) ∧ W.cell? ⟨gs, i * 6 + 2, none⟩ = some (.int .i64 (rowv (f 2))) ∧ W.cell? ⟨gs, i * 6 + 3, none⟩ = some (.int .i64 (rowv (f 3))) ∧ W.cell? ⟨gs, i * 6 + 4, none⟩ = some (.int .i64 (rowv (f 4))) ∧ W.cell? ⟨gs, i * 6 + 5, none⟩ = some (.int .i64 (rowv (f 5)))) ∧ ∀ j, W.frozen? ⟨gs, j, none⟩ = false := by
  obtain ⟨h1, h2, h3, h4, h5, h6⟩ := h
  have hl : i < (shl5 s l i).length := by rw [shl5_len s l h6]; exact hi
  obtain ⟨p0, p1, p2, p3, p4, p5⟩ := sv_at (shl5 s l i) i hl
  exact ⟨⟨(shl5 s l i)[i], own_at h3 p0, own_at h3 p1, own_at h3 p2, own_at h3 p3, own_at h3 p4, own_at h3 p5⟩, fun j => h3.frozenAt j⟩
theorem shifted_m (s : Nat → Nat → Bool) {x y : Nat} (hx : x < 6) (hy : y < 6) (w : World) : Calls Try.prog 192 #[.agg #[.int .i64 (rowv (s 0)), .int .i64 (rowv (s 1)), .int .i64 (rowv (s 2)), .int .i64 (rowv (s 3)), .int .i64 (rowv (s 4)), .int .i64 (rowv (s 5))], .int .i64 (x : Int), .int .i64 (y : Int)] w fun e w' => e = .returned (.agg #[.int .i64 (rowv (sf x y s 0)), .int .i64 (rowv (sf x y s 1)), .int .i64 (rowv (sf x y s 2)), .int .i64 (rowv (sf x y s 3)), .int .i64 (rowv (sf x y s 4)), .int .i64 (rowv (sf x y s 5))]) ∧ Below w.heap.size w w' := shifted_f s (x : Int) (y : Int) (WalkArith.wf_i64 (by omega)) (WalkArith.wf_i64 (by omega)) hx hy (by omega) (by omega) w
set_option maxHeartbeats 1000000 in
theorem shifts_f (s p : Nat → Nat → Bool) (w : World) : Calls Try.prog 202 #[.agg #[.int .i64 (rowv (p 0)), .int .i64 (rowv (p 1)), .int .i64 (rowv (p 2)), .int .i64 (rowv (p 3)), .int .i64 (rowv (p 4)), .int .i64 (rowv (p 5))], .func (.func 192) #[.agg #[.int .i64 (rowv (s 0)), .int .i64 (rowv (s 1)), .int .i64 (rowv (s 2)), .int .i64 (rowv (s 3)), .int .i64 (rowv (s 4)), .int .i64 (rowv (s 5))]] #[]] w (SlPost s p w) := by
  have hmf : ∀ (fn : Fn) (first cap : Array Value) (w : World), (Instr.makeFunc fn first cap).run Try.prog w = .ok (.func fn first cap) w := fun _ _ _ _ => rfl
  obtain ⟨i0, hi, hz⟩ : ∃ i0, Try.prog.info? 28 = some i0 ∧ (i0.zero, i0.size, i0.bytes) = (some (.agg #[.int .i64 0, .int .i64 0, .int .i64 0, .int .i64 0, .int .i64 0, .int .i64 0]), 6, 48) := by
    have h := info25
    cases hh : Try.prog.info? 28 with
    | none => rw [hh] at h; simp at h
    | some i0 => rw [hh] at h; exact ⟨i0, rfl, by simpa using h⟩
  simp only [Prod.mk.injEq] at hz
  obtain ⟨hz0, hz1, hz2⟩ := hz
  go_enter Try.func202, Try.ntmps202
  go_wp2_with fail
  generalize hW : (World.alloc _ _ : World) = W0
  have qa : W0.heap[(w.heap.size : Nat)]? = some (o6 p) := by
    rw [← hW]
    repeat (first | (refine alloc_at ?_; first | (simp; done) | (simp; omega)) | refine drew_row ?_ | refine alloc_past ?_ | assumption)
  have K0 : KR 1 [(w.heap.size, o6 p)] w W0 := ⟨by simp [qa], by rw [← hW]; simp, by rw [← hW]; (repeat (first | exact Below.refl _ _ | assumption | refine Below.setCell ?_ (by first | (simp; done) | (simp; omega)) _ | refine Below.alloc ?_ (by first | (simp; done) | (simp; omega)) _ | refine Below.drew ?_))⟩
  clear hW qa
  refine (icells_f p _).mono ?_
  rintro e W1 ⟨g, cap, rfl, ho, hb⟩
  have K1 := K0.far hb rfl
  have hg := (ho.lt g rfl).2
  have ho0 := own_mono ho (Nat.zero_le _)
  clear hb K0 ho
  obtain ⟨l, hl⟩ : ∃ l, l = bl p 36 := ⟨_, rfl⟩
  have hl36 : l.length ≤ 36 := by rw [hl]; exact bl_len p 36
  have HLm := Lib.hid (show ∀ c ∈ l, c.1 < 6 ∧ c.2 < 6 by rw [hl]; exact bl_lt p 36 (Nat.le_refl _))
  have HL0 := Lib.hid hl
  rw [← hl] at ho0 ⊢
  clear hl
  go_wp2_with (refine wpList_make_full _ rfl _ _ 33 rfl w.heap.size 28 i0 (.agg #[.int .i64 0, .int .i64 0, .int .i64 0, .int .i64 0, .int .i64 0, .int .i64 0]) 6 Try.underlying33 hi hz0 hz1 .i64 .i64 _ _ l.length rfl rfl rfl rfl (by rw [hz2]; omega) (by unfold maxLen; omega) (by have := K1.le; omega) ?_)
  intro W2 hown hgr
  have S0 : Hid (Rv5 w s p l g cap W1.heap.size 0 W2) := Lib.hid ⟨K1.far ((Below.refl W1.heap.size W1).grown hgr (Nat.le_refl _) (by simp)) rfl, ho0.kept hgr (.inr (by simp [Value.ownBlock])), by
    have e : (madeCells #[.int .i64 0, .int .i64 0, .int .i64 0, .int .i64 0, .int .i64 0, .int .i64 0] (l.length * 6)).toList = sv (shl5 s l 0) := by
      rw [made_zero]
      exact (sv_white l.length).symm
    rw [← e]
    exact hown, K1.le, by omega, Nat.zero_le _⟩
  clear hown hgr K1 ho0 hi hz0 hz1 hz2
  generalize W1.heap.size = gs at S0 ⊢
  clear hg W1
  go_wp2_with fail
  go_loopw [20] (fun c wr => ∃ i : Nat, i ≤ l.length ∧ c = .int .i64 i ∧ Hid (Rv5 w s p l g cap gs i wr)) (fun c _ => l.length - (intOf c).toNat)
  case atStart => exact ⟨0, by omega, rfl, S0⟩
  case round =>
    obtain ⟨i, hi, rfl, HS⟩ := hrel
    by_cases hlt : i < l.length
    · have hlt' : (i : Int) < l.length := by omega
      have hi0 : (0 : Int) ≤ i := by omega
      have hi2 : i ≤ 36 := by omega
      obtain ⟨p1, p2⟩ := cv_at l i hlt
      have a1 := own_at HS.out.2.1 p1
      have a2 := own_at HS.out.2.1 p2
      clear p1 p2
      obtain ⟨m1, m2⟩ := HLm.out _ (List.getElem_mem hlt)
      have HF := Lib.hid (shifted_m s m1 m2)
      have HP := Lib.hid (fun (W : World) (h : Rv5 w s p l g cap gs i W) => h.put hlt)
      have HC := Lib.hid (fun (W : World) (h : Rv5 w s p l g cap gs i W) => h.cells hlt)
      generalize l[i] = c at a1 a2 HF HP
      obtain ⟨x, y⟩ := c
      dsimp only at HP HF a1 a2
      go_wp2_with fail
      refine (HF.out _).mono ?_
      rintro e W3 ⟨rfl, hb⟩
      have HE := Lib.hid ((HS.out.below (M := wr.heap.size) ((Below.refl _ _).alloc (Nat.le_refl _) _) rfl).below hb rfl)
      clear hb a1 a2 HS
      obtain ⟨⟨f, c0, c1, c2, c3, c4, c5⟩, c_f⟩ := HC.out _ HE.out
      go_wp2_with fail
      have HI2 := Lib.hid (HP.out _ HE.out)
      clear c0 c1 c2 c3 c4 c5 c_f HE
      go_roundw
      case rel => exact ⟨i + 1, by omega, by go_num, HI2⟩
      case measure => simp [intOf]; omega
    · obtain rfl : i = l.length := by omega
      obtain ⟨h1, h2, h3, h4, h5, h6⟩ := HS.out
      rw [shl5_end] at h3
      have HO := Lib.hid h3
      have HB := Lib.hid h1.2.2
      clear h1 h2 h3 HS
      go_wp2_with fail
      go_ret
      exact ⟨l, gs, _, HL0.out, rfl, HO.out, HB.out⟩
end Go.Proofs.Ytkjaaaefcmpokaa
