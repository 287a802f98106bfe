/- MERGED, for one claim's sake: Cs5, Rw5, Ck5, Bh5, Bw5, Fs, Pm5, Cb6. -/
import Derived.Test.YtkjaaaefcmpokaaSj5
import Derived.Test.YtkjaaaefcmpokaaSw5
import Derived.Test.YtkjaaaefcmpokaaSv
import Derived.Test.YtkjaaaefcmpokaaPb
import Derived.Test.YtkjaaaefcmpokaaOm5
import Derived.Test.YtkjaaaefcmpokaaCa6
import Derived.Test.YtkjaaaefcmpokaaSc
import Derived.OwnWalk
import Derived.WalkKit
import Derived.ProofKit
import Derived.OpenShut
import Derived.Lib.Hide
import Derived.WalkSpells
import Derived.Below
import Derived.BigQuiet
import Derived.LoopN
import Derived.RegionTactic
namespace Go.Proofs.Ytkjaaaefcmpokaa
open Go.ChangeShapes Go.WideShapes Go.ChangeAt Go.RowKit
set_option linter.unusedVariables false
/- Cs5 -/
theorem made_zero (v : Value) (m : Nat) : (madeCells #[v, v, v, v, v, v] m).toList = List.replicate m v := by
  rw [List.eq_replicate_iff]
  refine ⟨by simp [madeCells], fun b hb => ?_⟩
  simp only [madeCells, Array.toList_map, List.mem_map] at hb
  obtain ⟨a, _, rfl⟩ := hb
  have h6 : a % 6 < 6 := Nat.mod_lt _ (by decide)
  show (#[v, v, v, v, v, v] : Array Value)[a % 6]! = v
  rcases six_n h6 with h | h | h | h | h | h <;> (rw [h]; rfl)
theorem sv_white : ∀ n : Nat, sv (List.replicate n zf) = List.replicate (n * 6) (Value.int .i64 0)
  | 0 => rfl
  | n + 1 => by
    have ih := sv_white n
    rw [List.replicate_succ, show (n + 1) * 6 = n * 6 + 1 + 1 + 1 + 1 + 1 + 1 by omega]
    simp only [List.replicate_succ]
    rw [← ih]
    rfl
theorem info25 : (Try.prog.info? 28).map (fun i => (i.zero, i.size, i.bytes)) = some (some (.agg #[.int .i64 0, .int .i64 0, .int .i64 0, .int .i64 0, .int .i64 0, .int .i64 0]), 6, 48) := by kernel_rfl
/-- What is answered: the shifts, in a row of their own. -/
def SlPost (s p : Nat → Nat → Bool) (w : World) (e : Ending) (w' : World) : Prop := ∃ (l : List (Nat × Nat)) (g cap : Nat), l = bl p 36 ∧ e = .returned (.slice (some ⟨g, 0, none⟩) l.length cap) ∧ w'.ownsRow w.heap.size 28 6 (.slice (some ⟨g, 0, none⟩) l.length cap) l.length (sv (l.map (fun c => sf c.1 c.2 s))) ∧ Below w.heap.size w w'
/-- Midway: i of the shifts are made. -/
def Rv5 (w : World) (s p : Nat → Nat → Bool) (l : List (Nat × Nat)) (g cap gs i : Nat) (W : World) : Prop :=
  KR 1 [(w.heap.size, o6 p)] w W ∧ W.ownsRow 0 47 2 (.slice (some ⟨g, 0, none⟩) l.length cap) l.length (cv l) ∧ W.ownsRow w.heap.size 28 6 (.slice (some ⟨gs, 0, none⟩) l.length l.length) l.length (sv (shl5 s l i)) ∧ w.heap.size + 1 ≤ gs ∧ g ≠ gs ∧ i ≤ l.length
theorem Rv5.below {w W W' : World} {s p : Nat → Nat → Bool} {l : List (Nat × Nat)} {g cap gs i M : Nat} (h : Rv5 w s p l g cap gs i W) (hb : Below M W W') (hM : M = W.heap.size) : Rv5 w s p l g cap gs i W' := by
  obtain ⟨h1, h2, h3, h4, h5, h6⟩ := h
  exact ⟨h1.far hb hM, h2.kept (grown_below hb hM) (.inr (by simp [Value.ownBlock])), h3.kept (grown_below hb hM) (.inr (by simp [Value.ownBlock])), h4, h5, h6⟩
theorem Rv5.put {w W : World} {s p : Nat → Nat → Bool} {l : List (Nat × Nat)} {g cap gs i : Nat} (h : Rv5 w s p l g cap gs i W) (hi : i < l.length) : Rv5 w s p l g cap gs (i + 1) ((((((W.setCell ⟨gs, i * 6, none⟩ (.int .i64 (rowv (sf (l[i]).1 (l[i]).2 s 0)))).setCell ⟨gs, i * 6 + 1, none⟩ (.int .i64 (rowv (sf (l[i]).1 (l[i]).2 s 1)))).setCell ⟨gs, i * 6 + 2, none⟩ (.int .i64 (rowv (sf (l[i]).1 (l[i]).2 s 2)))).setCell ⟨gs, i * 6 + 3, none⟩ (.int .i64 (rowv (sf (l[i]).1 (l[i]).2 s 3)))).setCell ⟨gs, i * 6 + 4, none⟩ (.int .i64 (rowv (sf (l[i]).1 (l[i]).2 s 4)))).setCell ⟨gs, i * 6 + 5, none⟩ (.int .i64 (rowv (sf (l[i]).1 (l[i]).2 s 5)))) := by
  obtain ⟨h1, h2, h3, h4, h5, h6⟩ := h
  have hk : ∀ (U : World) (j : Nat) (u : Value), U.ownsRow 0 47 2 (.slice (some ⟨g, 0, none⟩) l.length cap) l.length (cv l) → (U.setCell ⟨gs, j, none⟩ u).ownsRow 0 47 2 (.slice (some ⟨g, 0, none⟩) l.length cap) l.length (cv l) := fun U j u h => h.kept (grow_set U ⟨gs, j, none⟩ u) (.inr (by simp [Value.ownBlock, h5]))
  have e := sv_set (sf (l[i]).1 (l[i]).2 s) (shl5 s l i) i (by rw [shl5_len s l h6]; exact hi)
  rw [shl5_set s l hi] at e
  refine ⟨h1.set h4 |>.set h4 |>.set h4 |>.set h4 |>.set h4 |>.set h4, hk _ _ _ (hk _ _ _ (hk _ _ _ (hk _ _ _ (hk _ _ _ (hk _ _ _ h2))))), ?_, h4, h5, hi⟩
  rw [← e]
  exact ((((((h3.stored _ _).1.stored _ _).1.stored _ _).1.stored _ _).1.stored _ _).1.stored _ _).1
theorem Rv5.cells {w W : World} {s p : Nat → Nat → Bool} {l : List (Nat × Nat)} {g cap gs i : Nat} (h : Rv5 w s p l g cap gs i W) (hi : i < l.length) : (∃ f : Fn6, W.cell? ⟨gs, i * 6, none⟩ = some (.int .i64 (rowv (f 0))) ∧ W.cell? ⟨gs, i * 6 + 1, none⟩ = some (.int .i64 (rowv (f 1))) ∧ W.cell? ⟨gs, i * 6 + 2, none⟩ = some (.int .i64 (rowv (f 2))) ∧ W.cell? ⟨gs, i * 6 + 3, none⟩ = some (.int .i64 (rowv (f 3))) ∧ W.cell? ⟨gs, i * 6 + 4, none⟩ = some (.int .i64 (rowv (f 4))) ∧ W.cell? ⟨gs, i * 6 + 5, none⟩ = some (.int .i64 (rowv (f 5)))) ∧ ∀ j, W.frozen? ⟨gs, j, none⟩ = false := by
  obtain ⟨h1, h2, h3, h4, h5, h6⟩ := h
  have hl : i < (shl5 s l i).length := by rw [shl5_len s l h6]; exact hi
  obtain ⟨p0, p1, p2, p3, p4, p5⟩ := sv_at (shl5 s l i) i hl
  exact ⟨⟨(shl5 s l i)[i], own_at h3 p0, own_at h3 p1, own_at h3 p2, own_at h3 p3, own_at h3 p4, own_at h3 p5⟩, fun j => h3.frozenAt j⟩
theorem shifted_m (s : Nat → Nat → Bool) {x y : Nat} (hx : x < 6) (hy : y < 6) (w : World) : Calls Try.prog 192 #[.agg #[.int .i64 (rowv (s 0)), .int .i64 (rowv (s 1)), .int .i64 (rowv (s 2)), .int .i64 (rowv (s 3)), .int .i64 (rowv (s 4)), .int .i64 (rowv (s 5))], .int .i64 (x : Int), .int .i64 (y : Int)] w fun e w' => e = .returned (.agg #[.int .i64 (rowv (sf x y s 0)), .int .i64 (rowv (sf x y s 1)), .int .i64 (rowv (sf x y s 2)), .int .i64 (rowv (sf x y s 3)), .int .i64 (rowv (sf x y s 4)), .int .i64 (rowv (sf x y s 5))]) ∧ Below w.heap.size w w' := shifted_f s (x : Int) (y : Int) (WalkArith.wf_i64 (by omega)) (WalkArith.wf_i64 (by omega)) hx hy (by omega) (by omega) w
set_option maxHeartbeats 1000000 in
theorem shifts_f (s p : Nat → Nat → Bool) (w : World) : Calls Try.prog 202 #[.agg #[.int .i64 (rowv (p 0)), .int .i64 (rowv (p 1)), .int .i64 (rowv (p 2)), .int .i64 (rowv (p 3)), .int .i64 (rowv (p 4)), .int .i64 (rowv (p 5))], .func (.func 192) #[.agg #[.int .i64 (rowv (s 0)), .int .i64 (rowv (s 1)), .int .i64 (rowv (s 2)), .int .i64 (rowv (s 3)), .int .i64 (rowv (s 4)), .int .i64 (rowv (s 5))]] #[]] w (SlPost s p w) := by
  have hmf : ∀ (fn : Fn) (first cap : Array Value) (w : World), (Instr.makeFunc fn first cap).run Try.prog w = .ok (.func fn first cap) w := fun _ _ _ _ => rfl
  obtain ⟨i0, hi, hz⟩ : ∃ i0, Try.prog.info? 28 = some i0 ∧ (i0.zero, i0.size, i0.bytes) = (some (.agg #[.int .i64 0, .int .i64 0, .int .i64 0, .int .i64 0, .int .i64 0, .int .i64 0]), 6, 48) := by
    have h := info25
    cases hh : Try.prog.info? 28 with
    | none => rw [hh] at h; simp at h
    | some i0 => rw [hh] at h; exact ⟨i0, rfl, by simpa using h⟩
  simp only [Prod.mk.injEq] at hz
  obtain ⟨hz0, hz1, hz2⟩ := hz
  go_enter Try.func202, Try.ntmps202
  go_wp2_with fail
  generalize hW : (World.alloc _ _ : World) = W0
  have qa : W0.heap[(w.heap.size : Nat)]? = some (o6 p) := by
    rw [← hW]
    repeat (first | (refine alloc_at ?_; first | (simp; done) | (simp; omega)) | refine drew_row ?_ | refine alloc_past ?_ | assumption)
  have K0 : KR 1 [(w.heap.size, o6 p)] w W0 := ⟨by simp [qa], by rw [← hW]; simp, by rw [← hW]; (repeat (first | exact Below.refl _ _ | assumption | refine Below.setCell ?_ (by first | (simp; done) | (simp; omega)) _ | refine Below.alloc ?_ (by first | (simp; done) | (simp; omega)) _ | refine Below.drew ?_))⟩
  clear hW qa
  refine (icells_f p _).mono ?_
  rintro e W1 ⟨g, cap, rfl, ho, hb⟩
  have K1 := K0.far hb rfl
  have hg := (ho.lt g rfl).2
  have ho0 := own_mono ho (Nat.zero_le _)
  clear hb K0 ho
  obtain ⟨l, hl⟩ : ∃ l, l = bl p 36 := ⟨_, rfl⟩
  have hl36 : l.length ≤ 36 := by rw [hl]; exact bl_len p 36
  have HLm := Lib.hid (show ∀ c ∈ l, c.1 < 6 ∧ c.2 < 6 by rw [hl]; exact bl_lt p 36 (Nat.le_refl _))
  have HL0 := Lib.hid hl
  rw [← hl] at ho0 ⊢
  clear hl
  go_wp2_with (refine wpList_make_full _ rfl _ _ 33 rfl w.heap.size 28 i0 (.agg #[.int .i64 0, .int .i64 0, .int .i64 0, .int .i64 0, .int .i64 0, .int .i64 0]) 6 Try.underlying33 hi hz0 hz1 .i64 .i64 _ _ l.length rfl rfl rfl rfl (by rw [hz2]; omega) (by unfold maxLen; omega) (by have := K1.le; omega) ?_)
  intro W2 hown hgr
  have S0 : Hid (Rv5 w s p l g cap W1.heap.size 0 W2) := Lib.hid ⟨K1.far ((Below.refl W1.heap.size W1).grown hgr (Nat.le_refl _) (by simp)) rfl, ho0.kept hgr (.inr (by simp [Value.ownBlock])), by
    have e : (madeCells #[.int .i64 0, .int .i64 0, .int .i64 0, .int .i64 0, .int .i64 0, .int .i64 0] (l.length * 6)).toList = sv (shl5 s l 0) := by
      rw [made_zero]
      exact (sv_white l.length).symm
    rw [← e]
    exact hown, K1.le, by omega, Nat.zero_le _⟩
  clear hown hgr K1 ho0 hi hz0 hz1 hz2
  generalize W1.heap.size = gs at S0 ⊢
  clear hg W1
  go_wp2_with fail
  go_loopw [20] (fun c wr => ∃ i : Nat, i ≤ l.length ∧ c = .int .i64 i ∧ Hid (Rv5 w s p l g cap gs i wr)) (fun c _ => l.length - (intOf c).toNat)
  case atStart => exact ⟨0, by omega, rfl, S0⟩
  case round =>
    obtain ⟨i, hi, rfl, HS⟩ := hrel
    by_cases hlt : i < l.length
    · have hlt' : (i : Int) < l.length := by omega
      have hi0 : (0 : Int) ≤ i := by omega
      have hi2 : i ≤ 36 := by omega
      obtain ⟨p1, p2⟩ := cv_at l i hlt
      have a1 := own_at HS.out.2.1 p1
      have a2 := own_at HS.out.2.1 p2
      clear p1 p2
      obtain ⟨m1, m2⟩ := HLm.out _ (List.getElem_mem hlt)
      have HF := Lib.hid (shifted_m s m1 m2)
      have HP := Lib.hid (fun (W : World) (h : Rv5 w s p l g cap gs i W) => h.put hlt)
      have HC := Lib.hid (fun (W : World) (h : Rv5 w s p l g cap gs i W) => h.cells hlt)
      generalize l[i] = c at a1 a2 HF HP
      obtain ⟨x, y⟩ := c
      dsimp only at HP HF a1 a2
      go_wp2_with fail
      refine (HF.out _).mono ?_
      rintro e W3 ⟨rfl, hb⟩
      have HE := Lib.hid ((HS.out.below (M := wr.heap.size) ((Below.refl _ _).alloc (Nat.le_refl _) _) rfl).below hb rfl)
      clear hb a1 a2 HS
      obtain ⟨⟨f, c0, c1, c2, c3, c4, c5⟩, c_f⟩ := HC.out _ HE.out
      go_wp2_with fail
      have HI2 := Lib.hid (HP.out _ HE.out)
      clear c0 c1 c2 c3 c4 c5 c_f HE
      go_roundw
      case rel => exact ⟨i + 1, by omega, by go_num, HI2⟩
      case measure => simp [intOf]; omega
    · obtain rfl : i = l.length := by omega
      obtain ⟨h1, h2, h3, h4, h5, h6⟩ := HS.out
      rw [shl5_end] at h3
      have HO := Lib.hid h3
      have HB := Lib.hid h1.2.2
      clear h1 h2 h3 HS
      go_wp2_with fail
      go_ret
      exact ⟨l, gs, _, HL0.out, rfl, HO.out, HB.out⟩
/- Rw5 -/
/-- A fold over the first sheets of a list. -/
def fo5 (J : Fn6 → Fn6 → Fn6) (L : List Fn6) (i : Nat) (o : Fn6) : Fn6 := (L.take i).foldl J o
theorem fo5_succ (J : Fn6 → Fn6 → Fn6) (L : List Fn6) (o : Fn6) {i : Nat} (h : i < L.length) : fo5 J L (i + 1) o = J (fo5 J L i o) L[i] := by
  unfold fo5
  rw [List.take_add_one, List.getElem?_eq_getElem h, List.foldl_append]
  rfl
theorem fo5_end (J : Fn6 → Fn6 → Fn6) (L : List Fn6) (o : Fn6) : fo5 J L L.length o = L.foldl J o := by
  unfold fo5
  rw [List.take_length]
theorem fo5_spo (s : Fn6) (l : List (Nat × Nat)) (o : Fn6) : (l.map (fun c => sf c.1 c.2 s)).foldl jf o = spo s l o := by
  rw [List.foldl_map]; rfl
theorem fo5_sho (s : Fn6) (l : List (Nat × Nat)) (o : Fn6) : (l.map (fun c => sf c.1 c.2 s)).foldl af o = sho s l o := by
  rw [List.foldl_map]; rfl
/-- Midway: what is made so far lies in the block gb; the sheets in a row of their own. -/
def Rw5 (w : World) (n : Nat) (rows : List (Nat × Obj)) (L : List Fn6) (g cap gb : Nat) (F : Fn6) (W : World) : Prop :=
  KR n rows w W ∧ W.ownsRow 0 28 6 (.slice (some ⟨g, 0, none⟩) L.length cap) L.length (sv L) ∧ W.heap[gb]? = some (o6 F) ∧ w.heap.size + n ≤ gb ∧ gb < W.heap.size ∧ g ≠ gb
theorem Rw5.below {w W W' : World} {n : Nat} {rows : List (Nat × Obj)} {L : List Fn6} {g cap gb M : Nat} {F : Fn6} (h : Rw5 w n rows L g cap gb F W) (hb : Below M W W') (hM : M = W.heap.size) : Rw5 w n rows L g cap gb F W' := by
  obtain ⟨h1, h2, h3, h4, h5, h6⟩ := h
  exact ⟨h1.far hb hM, h2.kept (grown_below hb hM) (.inr (by simp [Value.ownBlock])), rowk h3 hb hM, h4, Nat.lt_of_lt_of_le h5 hb.size, h6⟩
theorem Rw5.put {w W : World} {n : Nat} {rows : List (Nat × Obj)} {L : List Fn6} {g cap gb : Nat} {F : Fn6} (G : Fn6) (h : Rw5 w n rows L g cap gb F W) : Rw5 w n rows L g cap gb G ((((((W.setCell ⟨gb, 0, none⟩ (.int .i64 (rowv (G 0)))).setCell ⟨gb, 1, none⟩ (.int .i64 (rowv (G 1)))).setCell ⟨gb, 2, none⟩ (.int .i64 (rowv (G 2)))).setCell ⟨gb, 3, none⟩ (.int .i64 (rowv (G 3)))).setCell ⟨gb, 4, none⟩ (.int .i64 (rowv (G 4)))).setCell ⟨gb, 5, none⟩ (.int .i64 (rowv (G 5)))) := by
  obtain ⟨h1, h2, h3, h4, h5, h6⟩ := h
  exact ⟨h1.set h4 |>.set h4 |>.set h4 |>.set h4 |>.set h4 |>.set h4, own_set6 _ _ _ _ _ _ h2 h6, set6a _ _ _ _ _ _ h3, h4, by simpa using h5, h6⟩
theorem Rw5_c {w U : World} {n : Nat} {rows : List (Nat × Obj)} {L : List Fn6} {g cap gb : Nat} {F : Fn6} (h : Rw5 w n rows L g cap gb F U) : ∀ j, U.cell? ⟨gb, j, none⟩ = (#[.int .i64 (rowv (F 0)), .int .i64 (rowv (F 1)), .int .i64 (rowv (F 2)), .int .i64 (rowv (F 3)), .int .i64 (rowv (F 4)), .int .i64 (rowv (F 5))] : Array Value)[j]? := fun j => cell_of_row U _ j _ _ _ h.2.2.1
theorem Rw5_f {w U : World} {n : Nat} {rows : List (Nat × Obj)} {L : List Fn6} {g cap gb : Nat} {F : Fn6} (h : Rw5 w n rows L g cap gb F U) : ∀ j, U.frozen? ⟨gb, j, none⟩ = false := fun j => frozen_of_row U _ j _ _ h.2.2.1
theorem Rw5_s {w U : World} {n : Nat} {rows : List (Nat × Obj)} {L : List Fn6} {g cap gb : Nat} {F : Fn6} (h : Rw5 w n rows L g cap gb F U) {i : Nat} (hi : i < L.length) : U.cell? ⟨g, i * 6, none⟩ = some (.int .i64 (rowv (L[i] 0))) ∧ U.cell? ⟨g, i * 6 + 1, none⟩ = some (.int .i64 (rowv (L[i] 1))) ∧ U.cell? ⟨g, i * 6 + 2, none⟩ = some (.int .i64 (rowv (L[i] 2))) ∧ U.cell? ⟨g, i * 6 + 3, none⟩ = some (.int .i64 (rowv (L[i] 3))) ∧ U.cell? ⟨g, i * 6 + 4, none⟩ = some (.int .i64 (rowv (L[i] 4))) ∧ U.cell? ⟨g, i * 6 + 5, none⟩ = some (.int .i64 (rowv (L[i] 5))) := by
  obtain ⟨p0, p1, p2, p3, p4, p5⟩ := sv_at L i hi
  exact ⟨own_at h.2.1 p0, own_at h.2.1 p1, own_at h.2.1 p2, own_at h.2.1 p3, own_at h.2.1 p4, own_at h.2.1 p5⟩
/-- Reflected by two quarters and a shift. -/
theorem rf_move (p : Fn6) {j : Nat} (hj : j < 6) : rowv (sf 1 1 (tf 2 p) j) = rowv (rf p j) := rowv_congr fun i hi => by
  have e1 : 5 - (j + 6 - 1) % 6 = (6 - j) % 6 := by omega
  have e2 : 5 - (i + 6 - 1) % 6 = (6 - i) % 6 := by omega
  show p (5 - (j + 6 - 1) % 6) (5 - (i + 6 - 1) % 6) = p ((6 - j) % 6) ((6 - i) % 6)
  rw [e1, e2]
/- Ck5 -/
theorem reflected_f (p : Fn6) (w : World) : Calls Try.prog 271 #[.agg #[.int .i64 (rowv (p 0)), .int .i64 (rowv (p 1)), .int .i64 (rowv (p 2)), .int .i64 (rowv (p 3)), .int .i64 (rowv (p 4)), .int .i64 (rowv (p 5))]] w fun e w' => e = .returned (.agg #[.int .i64 (rowv (rf p 0)), .int .i64 (rowv (rf p 1)), .int .i64 (rowv (rf p 2)), .int .i64 (rowv (rf p 3)), .int .i64 (rowv (rf p 4)), .int .i64 (rowv (rf p 5))]) ∧ Below w.heap.size w w' := by
  have HM : Hid (∀ w, Calls Try.prog 236 #[.agg #[.int .i64 (rowv (p 0)), .int .i64 (rowv (p 1)), .int .i64 (rowv (p 2)), .int .i64 (rowv (p 3)), .int .i64 (rowv (p 4)), .int .i64 (rowv (p 5))], .agg #[.int .i64 2, .int .i64 1, .int .i64 1]] w fun e w' => e = .returned (.agg #[.int .i64 (rowv (rf p 0)), .int .i64 (rowv (rf p 1)), .int .i64 (rowv (rf p 2)), .int .i64 (rowv (rf p 3)), .int .i64 (rowv (rf p 4)), .int .i64 (rowv (rf p 5))]) ∧ Below w.heap.size w w') := Lib.hid (fun w => by
    have h := moved_f p (k := 2) (x := 1) (y := 1) (by decide) (by decide) (by decide) w
    rw [rf_move p (show 0 < 6 by decide), rf_move p (show 1 < 6 by decide), rf_move p (show 2 < 6 by decide), rf_move p (show 3 < 6 by decide), rf_move p (show 4 < 6 by decide), rf_move p (show 5 < 6 by decide)] at h
    exact h)
  go_enter Try.func271, Try.ntmps271
  go_wp2_with fail
  generalize hW : (World.alloc _ _ : World) = W0
  have hB0 : Below w.heap.size w W0 := by rw [← hW]; (repeat (first | exact Below.refl _ _ | assumption | refine Below.setCell ?_ (by first | (simp; done) | (simp; omega)) _ | refine Below.alloc ?_ (by first | (simp; done) | (simp; omega)) _ | refine Below.drew ?_))
  have q0 : W0.heap[(w.heap.size : Nat)]? = some (o6 p) := by
    rw [← hW]
    repeat (first | (refine alloc_at ?_; first | (simp; done) | (simp; omega)) | refine drew_row ?_ | refine alloc_past ?_ | assumption)
  have q1 : W0.heap[(w.heap.size + 1 : Nat)]? = some (oz) := by
    rw [← hW]
    repeat (first | (refine alloc_at ?_; first | (simp; done) | (simp; omega)) | refine drew_row ?_ | refine alloc_past ?_ | assumption)
  have hk : KR 1 [(w.heap.size, o6 p)] w W0 := ⟨by simp [q0], by rw [← hW]; simp, hB0⟩
  have hq := q1
  clear hW hB0 q0 q1
  refine (HM.out _).mono ?_
  rintro e W1 ⟨rfl, hb⟩
  have hk1 := hk.far hb rfl
  have hq1 := rowk hq hb rfl
  have z_c := fun j => cell_of_row _ _ j _ _ _ hq1
  have z_f := fun j => frozen_of_row _ _ j _ _ hq1
  clear hb hk hq
  go_wp2_with fail
  refine bodyPost_ret (v := .agg #[.int .i64 (rowv (rf p 0)), .int .i64 (rowv (rf p 1)), .int .i64 (rowv (rf p 2)), .int .i64 (rowv (rf p 3)), .int .i64 (rowv (rf p 4)), .int .i64 (rowv (rf p 5))]) (by simp [results, Try.results271, go_sem, z_c]) rfl ⟨rfl, ?_⟩
  exact below6 hk1.2.2 (by omega)
/-- A closure over a stamp. -/
theorem spreading_f (p : Fn6) (w : World) : Calls Try.prog 308 #[.agg #[.int .i64 (rowv (p 0)), .int .i64 (rowv (p 1)), .int .i64 (rowv (p 2)), .int .i64 (rowv (p 3)), .int .i64 (rowv (p 4)), .int .i64 (rowv (p 5))]] w fun e w' => ∃ g, e = .returned (.func (.func 327) #[] #[.pointer (some ⟨g, 0, none⟩)]) ∧ w'.heap[g]? = some (o6 p) ∧ Below w.heap.size w w' := by
  have hmf : ∀ (fn : Fn) (first cap : Array Value) (w : World), (Instr.makeFunc fn first cap).run Try.prog w = .ok (.func fn first cap) w := fun _ _ _ _ => rfl
  go_enter Try.func308, Try.ntmps308
  go_wp2_with fail
  go_ret
  exact ⟨_, rfl, alloc_at rfl, by (repeat (first | exact Below.refl _ _ | assumption | refine Below.setCell ?_ (by first | (simp; done) | (simp; omega)) _ | refine Below.alloc ?_ (by first | (simp; done) | (simp; omega)) _ | refine Below.drew ?_))⟩
theorem shrinking_f (p : Fn6) (w : World) : Calls Try.prog 190 #[.agg #[.int .i64 (rowv (p 0)), .int .i64 (rowv (p 1)), .int .i64 (rowv (p 2)), .int .i64 (rowv (p 3)), .int .i64 (rowv (p 4)), .int .i64 (rowv (p 5))]] w fun e w' => ∃ g, e = .returned (.func (.func 272) #[] #[.pointer (some ⟨g, 0, none⟩)]) ∧ w'.heap[g]? = some (o6 (rf p)) ∧ Below w.heap.size w w' := by
  have hmf : ∀ (fn : Fn) (first cap : Array Value) (w : World), (Instr.makeFunc fn first cap).run Try.prog w = .ok (.func fn first cap) w := fun _ _ _ _ => rfl
  have HR := Lib.hid (reflected_f p)
  go_enter Try.func190, Try.ntmps190
  go_wp2_with fail
  refine (HR.out _).mono ?_
  rintro e W1 ⟨rfl, hb⟩
  have hB : Below w.heap.size w W1 := below_of (by (repeat (first | exact Below.refl _ _ | assumption | refine Below.setCell ?_ (by first | (simp; done) | (simp; omega)) _ | refine Below.alloc ?_ (by first | (simp; done) | (simp; omega)) _ | refine Below.drew ?_))) hb (by simp)
  clear hb
  go_wp2_with fail
  go_ret
  exact ⟨_, rfl, alloc_at rfl, hB.alloc hB.size _⟩
set_option maxHeartbeats 4000000 in
theorem spread1_f (s q : Fn6) (gp : Nat) (w : World) (hp : w.heap[gp]? = some (o6 q)) : Calls Try.prog 327 #[.agg #[.int .i64 (rowv (s 0)), .int .i64 (rowv (s 1)), .int .i64 (rowv (s 2)), .int .i64 (rowv (s 3)), .int .i64 (rowv (s 4)), .int .i64 (rowv (s 5))], .pointer (some ⟨gp, 0, none⟩)] w fun e w' => e = .returned (.agg #[.int .i64 (rowv (((bl q 36).map (fun c => sf c.1 c.2 s)).foldl jf zf 0)), .int .i64 (rowv (((bl q 36).map (fun c => sf c.1 c.2 s)).foldl jf zf 1)), .int .i64 (rowv (((bl q 36).map (fun c => sf c.1 c.2 s)).foldl jf zf 2)), .int .i64 (rowv (((bl q 36).map (fun c => sf c.1 c.2 s)).foldl jf zf 3)), .int .i64 (rowv (((bl q 36).map (fun c => sf c.1 c.2 s)).foldl jf zf 4)), .int .i64 (rowv (((bl q 36).map (fun c => sf c.1 c.2 s)).foldl jf zf 5))]) ∧ Below w.heap.size w w' := by
  have hmf : ∀ (fn : Fn) (first cap : Array Value) (w : World), (Instr.makeFunc fn first cap).run Try.prog w = .ok (.func fn first cap) w := fun _ _ _ _ => rfl
  have hgl := row_lt hp
  have hgl1 := Nat.lt_succ_of_lt hgl
  have hgl2 := Nat.lt_succ_of_lt hgl1
  have hgl3 := Nat.lt_succ_of_lt hgl2
  have hn0 := Nat.ne_of_lt hgl
  have hn1 := Nat.ne_of_lt hgl1
  have hn2 := Nat.ne_of_lt hgl2
  have p_c := fun j => cell_of_row w _ j _ _ _ hp
  go_enter Try.func327, Try.ntmps327
  go_wp2_with fail
  generalize hW : (World.alloc _ _ : World) = W0
  have q0 : W0.heap[(w.heap.size : Nat)]? = some (o6 s) := by
    rw [← hW]
    repeat (first | (refine alloc_at ?_; first | (simp; done) | (simp; omega)) | refine drew_row ?_ | refine alloc_past ?_ | assumption)
  have q1 : W0.heap[(w.heap.size + 1 : Nat)]? = some oz := by
    rw [← hW]
    repeat (first | (refine alloc_at ?_; first | (simp; done) | (simp; omega)) | refine drew_row ?_ | refine alloc_past ?_ | assumption)
  have q2 : W0.heap[(w.heap.size + 2 : Nat)]? = some (o6 zf) := by
    rw [← hW]
    repeat (first | (refine alloc_at ?_; first | (simp; done) | (simp; omega)) | refine drew_row ?_ | refine alloc_past ?_ | assumption)
  have K0 : KR 2 [(w.heap.size, o6 s), (w.heap.size + 1, oz)] w W0 := ⟨by simp [q0, q1], by rw [← hW]; simp, by rw [← hW]; (repeat (first | exact Below.refl _ _ | assumption | refine Below.setCell ?_ (by first | (simp; done) | (simp; omega)) _ | refine Below.alloc ?_ (by first | (simp; done) | (simp; omega)) _ | refine Below.drew ?_))⟩
  clear hW q0 q1 p_c hgl1 hgl2 hgl3 hn0 hn1 hn2
  have hge : w.heap.size + 2 ≤ w.heap.size + 2 := Nat.le_refl _
  refine (shifts_f s q _).mono ?_
  rintro e W2 ⟨l, g, cap, hl, rfl, ho, hb⟩
  have K1 := K0.far hb rfl
  have q3 := rowk q2 hb rfl
  have hgn : g ≠ w.heap.size + 2 := by have h1 := (ho.lt g rfl).1; have h2 := row_lt q2; omega
  have ho0 := own_mono ho (Nat.zero_le _)
  clear hb K0 ho q2
  obtain ⟨L, hL⟩ : ∃ L, L = l.map (fun c => sf c.1 c.2 s) := ⟨_, rfl⟩
  have hLn : l.length = L.length := by rw [hL, List.length_map]
  have hL36 : L.length ≤ 36 := by rw [← hLn, hl]; exact bl_len q 36
  have HL := Lib.hid (show ((bl q 36).map (fun c => sf c.1 c.2 s)).foldl jf zf = fo5 jf L L.length zf by rw [fo5_end, hL, hl])
  rw [← hL, hLn] at ho0
  rw [hLn]
  clear hl hL hLn
  have S0 : Hid (Rw5 w 2 [(w.heap.size, o6 s), (w.heap.size + 1, oz)] L g cap (w.heap.size + 2) (fo5 jf L 0 zf) W2) := Lib.hid ⟨K1, ho0, q3, hge, row_lt q3, hgn⟩
  clear K1 ho0 q3 hge hgn
  go_wp2_with fail
  go_loopw [12] (fun c wr => ∃ i : Nat, i ≤ L.length ∧ c = .int .i64 i ∧ Hid (Rw5 w 2 [(w.heap.size, o6 s), (w.heap.size + 1, oz)] L g cap (w.heap.size + 2) (fo5 jf L i zf) wr)) (fun c _ => L.length - (intOf c).toNat)
  case atStart => exact ⟨0, by omega, rfl, S0⟩
  case round =>
    obtain ⟨i, hi, rfl, HS⟩ := hrel
    by_cases hlt : i < L.length
    · have hlt' : (i : Int) < L.length := by omega
      have hi0 : (0 : Int) ≤ i := by omega
      have hi2 : i ≤ 36 := by omega
      have HE := Lib.hid (fo5_succ jf L zf hlt)
      obtain ⟨a0, a1, a2, a3, a4, a5⟩ := Rw5_s HS.out hlt
      obtain ⟨F, hF⟩ : ∃ F, F = fo5 jf L i zf := ⟨_, rfl⟩
      rw [← hF] at HE HS
      clear hF
      generalize L[i] = c at HE a0 a1 a2 a3 a4 a5
      have HX : Hid (∀ w, Calls Try.prog 156 #[.agg #[.int .i64 (rowv (F 0)), .int .i64 (rowv (F 1)), .int .i64 (rowv (F 2)), .int .i64 (rowv (F 3)), .int .i64 (rowv (F 4)), .int .i64 (rowv (F 5))], .agg #[.int .i64 (rowv (c 0)), .int .i64 (rowv (c 1)), .int .i64 (rowv (c 2)), .int .i64 (rowv (c 3)), .int .i64 (rowv (c 4)), .int .i64 (rowv (c 5))]] w fun e w' => e = .returned (.agg #[.int .i64 (rowv (jf F c 0)), .int .i64 (rowv (jf F c 1)), .int .i64 (rowv (jf F c 2)), .int .i64 (rowv (jf F c 3)), .int .i64 (rowv (jf F c 4)), .int .i64 (rowv (jf F c 5))]) ∧ Below w.heap.size w w') := Lib.hid (fun w => by
        have h := or_any (rowv (F 0)) (rowv (F 1)) (rowv (F 2)) (rowv (F 3)) (rowv (F 4)) (rowv (F 5)) (rowv (c 0)) (rowv (c 1)) (rowv (c 2)) (rowv (c 3)) (rowv (c 4)) (rowv (c 5)) w
        simp only [row_jf] at h
        exact h)
      have d_c := Rw5_c HS.out
      have hg5 := HS.out.2.2.2.2.1
      have hg6 := Nat.lt_succ_of_lt hg5
      have hg7 := Nat.ne_of_lt hg5
      go_wp2_with fail
      refine (HX.out _).mono ?_
      rintro e W3 ⟨rfl, hb⟩
      have HE2 := Lib.hid ((HS.out.below (M := wr.heap.size) ((Below.refl _ _).alloc (Nat.le_refl _) _) rfl).below hb rfl)
      clear hb a0 a1 a2 a3 a4 a5 HS d_c hg5 hg6 hg7
      have b_c := Rw5_c HE2.out
      have b_f := Rw5_f HE2.out
      go_wp2_with fail
      have HI2 := Lib.hid (HE2.out.put (jf F c))
      clear b_c b_f HE2
      go_roundw
      case rel => exact ⟨i + 1, by omega, by go_num, by rw [HE.out]; exact HI2⟩
      case measure => simp [intOf]; omega
    · obtain rfl : i = L.length := by omega
      have d_c := Rw5_c HS.out
      have z_c := fun j => cell_of_row wr _ j _ _ _ (HS.out.1.row (g := w.heap.size + 1) (o := oz) (by simp))
      have z_f := fun j => frozen_of_row wr _ j _ _ (HS.out.1.row (g := w.heap.size + 1) (o := oz) (by simp))
      go_wp2_with fail
      rw [HL.out]
      refine bodyPost_ret (v := .agg #[.int .i64 (rowv (fo5 jf L L.length zf 0)), .int .i64 (rowv (fo5 jf L L.length zf 1)), .int .i64 (rowv (fo5 jf L L.length zf 2)), .int .i64 (rowv (fo5 jf L L.length zf 3)), .int .i64 (rowv (fo5 jf L L.length zf 4)), .int .i64 (rowv (fo5 jf L L.length zf 5))]) (by simp [results, Try.results327, go_sem, z_c]) rfl ⟨rfl, ?_⟩
      exact below6 HS.out.1.2.2 (by omega)
set_option maxHeartbeats 4000000 in
theorem shrink1_f (s q : Fn6) (gp : Nat) (w : World) (hp : w.heap[gp]? = some (o6 q)) : Calls Try.prog 272 #[.agg #[.int .i64 (rowv (s 0)), .int .i64 (rowv (s 1)), .int .i64 (rowv (s 2)), .int .i64 (rowv (s 3)), .int .i64 (rowv (s 4)), .int .i64 (rowv (s 5))], .pointer (some ⟨gp, 0, none⟩)] w fun e w' => e = .returned (.agg #[.int .i64 (rowv (((bl q 36).map (fun c => sf c.1 c.2 s)).foldl af onf 0)), .int .i64 (rowv (((bl q 36).map (fun c => sf c.1 c.2 s)).foldl af onf 1)), .int .i64 (rowv (((bl q 36).map (fun c => sf c.1 c.2 s)).foldl af onf 2)), .int .i64 (rowv (((bl q 36).map (fun c => sf c.1 c.2 s)).foldl af onf 3)), .int .i64 (rowv (((bl q 36).map (fun c => sf c.1 c.2 s)).foldl af onf 4)), .int .i64 (rowv (((bl q 36).map (fun c => sf c.1 c.2 s)).foldl af onf 5))]) ∧ Below w.heap.size w w' := by
  have hmf : ∀ (fn : Fn) (first cap : Array Value) (w : World), (Instr.makeFunc fn first cap).run Try.prog w = .ok (.func fn first cap) w := fun _ _ _ _ => rfl
  have hgl := row_lt hp
  have hgl1 := Nat.lt_succ_of_lt hgl
  have hgl2 := Nat.lt_succ_of_lt hgl1
  have hgl3 := Nat.lt_succ_of_lt hgl2
  have hn0 := Nat.ne_of_lt hgl
  have hn1 := Nat.ne_of_lt hgl1
  have hn2 := Nat.ne_of_lt hgl2
  have p_c := fun j => cell_of_row w _ j _ _ _ hp
  go_enter Try.func272, Try.ntmps272
  go_wp2_with fail
  generalize hW : (World.alloc _ _ : World) = W0
  have q0 : W0.heap[(w.heap.size : Nat)]? = some (o6 s) := by
    rw [← hW]
    repeat (first | (refine alloc_at ?_; first | (simp; done) | (simp; omega)) | refine drew_row ?_ | refine alloc_past ?_ | assumption)
  have q1 : W0.heap[(w.heap.size + 1 : Nat)]? = some oz := by
    rw [← hW]
    repeat (first | (refine alloc_at ?_; first | (simp; done) | (simp; omega)) | refine drew_row ?_ | refine alloc_past ?_ | assumption)
  have hB0 : Below w.heap.size w W0 := by rw [← hW]; (repeat (first | exact Below.refl _ _ | assumption | refine Below.setCell ?_ (by first | (simp; done) | (simp; omega)) _ | refine Below.alloc ?_ (by first | (simp; done) | (simp; omega)) _ | refine Below.drew ?_))
  have qp := rowk hp hB0 rfl
  have K0 : KR 2 [(w.heap.size, o6 s), (w.heap.size + 1, oz)] w W0 := ⟨by simp [q0, q1], by rw [← hW]; simp, hB0⟩
  clear hW hB0 q0 q1 p_c hgl1 hgl2 hgl3 hn0 hn1 hn2
  refine (full_any _).mono ?_
  rintro e W1 ⟨rfl, hb⟩
  have K1 := K0.far hb rfl
  have qp1 := rowk qp hb rfl
  clear hb K0 qp
  have hge : w.heap.size + 2 ≤ W1.heap.size := K1.le
  have m0 := row_lt qp1
  have m1 := Nat.lt_succ_of_lt m0
  have m2 := Nat.ne_of_lt m0
  have m3 : w.heap.size < W1.heap.size := by omega
  have m4 := Nat.lt_succ_of_lt m3
  have m5 := Nat.ne_of_lt m3
  have p_c := fun j => cell_of_row W1 _ j _ _ _ qp1
  have s_c := fun j => cell_of_row W1 _ j _ _ _ (K1.row (g := w.heap.size) (o := o6 s) (by simp))
  go_wp2_with fail
  have K0 := K1.al (o := .cells #[.int .i64 63, .int .i64 63, .int .i64 63, .int .i64 63, .int .i64 63, .int .i64 63] 28)
  have q2 : (W1.alloc (.cells #[.int .i64 63, .int .i64 63, .int .i64 63, .int .i64 63, .int .i64 63, .int .i64 63] 28)).heap[W1.heap.size]? = some (o6 onf) := alloc_at rfl
  clear K1 qp1 p_c s_c m0 m1 m2 m3 m4 m5
  generalize (World.alloc _ _ : World) = W0 at K0 q2 ⊢
  generalize W1.heap.size = gb at q2 hge ⊢
  refine (shifts_f s q _).mono ?_
  rintro e W2 ⟨l, g, cap, hl, rfl, ho, hb⟩
  have K1 := K0.far hb rfl
  have q3 := rowk q2 hb rfl
  have hgn : g ≠ gb := by have h1 := (ho.lt g rfl).1; have h2 := row_lt q2; omega
  have ho0 := own_mono ho (Nat.zero_le _)
  clear hb K0 ho q2
  obtain ⟨L, hL⟩ : ∃ L, L = l.map (fun c => sf c.1 c.2 s) := ⟨_, rfl⟩
  have hLn : l.length = L.length := by rw [hL, List.length_map]
  have hL36 : L.length ≤ 36 := by rw [← hLn, hl]; exact bl_len q 36
  have HL := Lib.hid (show ((bl q 36).map (fun c => sf c.1 c.2 s)).foldl af onf = fo5 af L L.length onf by rw [fo5_end, hL, hl])
  rw [← hL, hLn] at ho0
  rw [hLn]
  clear hl hL hLn
  have S0 : Hid (Rw5 w 2 [(w.heap.size, o6 s), (w.heap.size + 1, oz)] L g cap gb (fo5 af L 0 onf) W2) := Lib.hid ⟨K1, ho0, q3, hge, row_lt q3, hgn⟩
  clear K1 ho0 q3 hge hgn
  go_wp2_with fail
  go_loopw [13] (fun c wr => ∃ i : Nat, i ≤ L.length ∧ c = .int .i64 i ∧ Hid (Rw5 w 2 [(w.heap.size, o6 s), (w.heap.size + 1, oz)] L g cap gb (fo5 af L i onf) wr)) (fun c _ => L.length - (intOf c).toNat)
  case atStart => exact ⟨0, by omega, rfl, S0⟩
  case round =>
    obtain ⟨i, hi, rfl, HS⟩ := hrel
    by_cases hlt : i < L.length
    · have hlt' : (i : Int) < L.length := by omega
      have hi0 : (0 : Int) ≤ i := by omega
      have hi2 : i ≤ 36 := by omega
      have HE := Lib.hid (fo5_succ af L onf hlt)
      obtain ⟨a0, a1, a2, a3, a4, a5⟩ := Rw5_s HS.out hlt
      obtain ⟨F, hF⟩ : ∃ F, F = fo5 af L i onf := ⟨_, rfl⟩
      rw [← hF] at HE HS
      clear hF
      generalize L[i] = c at HE a0 a1 a2 a3 a4 a5
      have HX : Hid (∀ w, Calls Try.prog 170 #[.agg #[.int .i64 (rowv (F 0)), .int .i64 (rowv (F 1)), .int .i64 (rowv (F 2)), .int .i64 (rowv (F 3)), .int .i64 (rowv (F 4)), .int .i64 (rowv (F 5))], .agg #[.int .i64 (rowv (c 0)), .int .i64 (rowv (c 1)), .int .i64 (rowv (c 2)), .int .i64 (rowv (c 3)), .int .i64 (rowv (c 4)), .int .i64 (rowv (c 5))]] w fun e w' => e = .returned (.agg #[.int .i64 (rowv (af F c 0)), .int .i64 (rowv (af F c 1)), .int .i64 (rowv (af F c 2)), .int .i64 (rowv (af F c 3)), .int .i64 (rowv (af F c 4)), .int .i64 (rowv (af F c 5))]) ∧ Below w.heap.size w w') := Lib.hid (fun w => by
        have h := shared_any (rowv (F 0)) (rowv (F 1)) (rowv (F 2)) (rowv (F 3)) (rowv (F 4)) (rowv (F 5)) (rowv (c 0)) (rowv (c 1)) (rowv (c 2)) (rowv (c 3)) (rowv (c 4)) (rowv (c 5)) w
        simp only [row_af] at h
        exact h)
      have d_c := Rw5_c HS.out
      have hg5 := HS.out.2.2.2.2.1
      have hg6 := Nat.lt_succ_of_lt hg5
      have hg7 := Nat.ne_of_lt hg5
      go_wp2_with fail
      refine (HX.out _).mono ?_
      rintro e W3 ⟨rfl, hb⟩
      have HE2 := Lib.hid ((HS.out.below (M := wr.heap.size) ((Below.refl _ _).alloc (Nat.le_refl _) _) rfl).below hb rfl)
      clear hb a0 a1 a2 a3 a4 a5 HS d_c hg5 hg6 hg7
      have b_c := Rw5_c HE2.out
      have b_f := Rw5_f HE2.out
      go_wp2_with fail
      have HI2 := Lib.hid (HE2.out.put (af F c))
      clear b_c b_f HE2
      go_roundw
      case rel => exact ⟨i + 1, by omega, by go_num, by rw [HE.out]; exact HI2⟩
      case measure => simp [intOf]; omega
    · obtain rfl : i = L.length := by omega
      have d_c := Rw5_c HS.out
      have z_c := fun j => cell_of_row wr _ j _ _ _ (HS.out.1.row (g := w.heap.size + 1) (o := oz) (by simp))
      have z_f := fun j => frozen_of_row wr _ j _ _ (HS.out.1.row (g := w.heap.size + 1) (o := oz) (by simp))
      go_wp2_with fail
      rw [HL.out]
      refine bodyPost_ret (v := .agg #[.int .i64 (rowv (fo5 af L L.length onf 0)), .int .i64 (rowv (fo5 af L L.length onf 1)), .int .i64 (rowv (fo5 af L L.length onf 2)), .int .i64 (rowv (fo5 af L L.length onf 3)), .int .i64 (rowv (fo5 af L L.length onf 4)), .int .i64 (rowv (fo5 af L L.length onf 5))]) (by simp [results, Try.results272, go_sem, z_c]) rfl ⟨rfl, ?_⟩
      exact below6 HS.out.1.2.2 (by omega)
/- Bh5 -/
/-- What steps make of a sheet: true is shrinking, false spreading. -/
def st5 (b : Bool) (s p : Fn6) : Fn6 := if b then shr s p else spd s p
def be5 (T : List Bool) (s p : Fn6) : Fn6 := T.foldl (fun s b => st5 b s p) s
theorem be5_succ (T : List Bool) (s p : Fn6) {i : Nat} (h : i < T.length) : be5 (T.take (i + 1)) s p = st5 T[i] (be5 (T.take i) s p) p := by
  unfold be5
  rw [List.take_add_one, List.getElem?_eq_getElem h, List.foldl_append]
  rfl
def fv5 (b : Bool) : Value := .func (.func (if b then 190 else 308)) #[] #[]
theorem spread_1 (s p : Fn6) (gp : Nat) (w : World) (hp : w.heap[gp]? = some (o6 p)) : Calls Try.prog 327 #[.agg #[.int .i64 (rowv (s 0)), .int .i64 (rowv (s 1)), .int .i64 (rowv (s 2)), .int .i64 (rowv (s 3)), .int .i64 (rowv (s 4)), .int .i64 (rowv (s 5))], .pointer (some ⟨gp, 0, none⟩)] w fun e w' => e = .returned (.agg #[.int .i64 (rowv (spd s p 0)), .int .i64 (rowv (spd s p 1)), .int .i64 (rowv (spd s p 2)), .int .i64 (rowv (spd s p 3)), .int .i64 (rowv (spd s p 4)), .int .i64 (rowv (spd s p 5))]) ∧ Below w.heap.size w w' := by
  have h := spread1_f s p gp w hp
  rw [fo5_spo] at h
  exact h
theorem shrink_1 (s p : Fn6) (gp : Nat) (w : World) (hp : w.heap[gp]? = some (o6 (rf p))) : Calls Try.prog 272 #[.agg #[.int .i64 (rowv (s 0)), .int .i64 (rowv (s 1)), .int .i64 (rowv (s 2)), .int .i64 (rowv (s 3)), .int .i64 (rowv (s 4)), .int .i64 (rowv (s 5))], .pointer (some ⟨gp, 0, none⟩)] w fun e w' => e = .returned (.agg #[.int .i64 (rowv (shr s p 0)), .int .i64 (rowv (shr s p 1)), .int .i64 (rowv (shr s p 2)), .int .i64 (rowv (shr s p 3)), .int .i64 (rowv (shr s p 4)), .int .i64 (rowv (shr s p 5))]) ∧ Below w.heap.size w w' := by
  have h := shrink1_f s (rf p) gp w hp
  rw [fo5_sho] at h
  exact h
/-- Midway: what came of the sheet lies in its own block. -/
def Bh5 (w : World) (p F : Fn6) (W : World) : Prop := W.heap[w.heap.size]? = some (o6 F) ∧ W.heap[w.heap.size + 1]? = some (o6 p) ∧ W.heap[w.heap.size + 2]? = some oz ∧ w.heap.size + 3 ≤ W.heap.size ∧ Below w.heap.size w W
theorem Bh5.far {w W V : World} {p F : Fn6} {M : Nat} (h : Bh5 w p F W) (hb : Below M W V) (hM : M = W.heap.size) : Bh5 w p F V :=
  ⟨rowk h.1 hb hM, rowk h.2.1 hb hM, rowk h.2.2.1 hb hM, Nat.le_trans h.2.2.2.1 hb.size, below_of h.2.2.2.2 hb (by have := h.2.2.2.1; omega)⟩
theorem Bh5.put {w W : World} {p F : Fn6} (G : Fn6) (h : Bh5 w p F W) : Bh5 w p G ((((((W.setCell ⟨w.heap.size, 0, none⟩ (.int .i64 (rowv (G 0)))).setCell ⟨w.heap.size, 1, none⟩ (.int .i64 (rowv (G 1)))).setCell ⟨w.heap.size, 2, none⟩ (.int .i64 (rowv (G 2)))).setCell ⟨w.heap.size, 3, none⟩ (.int .i64 (rowv (G 3)))).setCell ⟨w.heap.size, 4, none⟩ (.int .i64 (rowv (G 4)))).setCell ⟨w.heap.size, 5, none⟩ (.int .i64 (rowv (G 5)))) := by
  obtain ⟨h1, h2, h3, h4, h5⟩ := h
  exact ⟨set6a _ _ _ _ _ _ h1, set6o _ _ _ _ _ _ (by omega) h2, set6o _ _ _ _ _ _ (by omega) h3, by simpa using h4, below6 h5 (by omega)⟩
theorem Bh5_s {w W : World} {p F : Fn6} (h : Bh5 w p F W) : ∀ j, W.cell? ⟨w.heap.size, j, none⟩ = (#[.int .i64 (rowv (F 0)), .int .i64 (rowv (F 1)), .int .i64 (rowv (F 2)), .int .i64 (rowv (F 3)), .int .i64 (rowv (F 4)), .int .i64 (rowv (F 5))] : Array Value)[j]? := fun j => cell_of_row W _ j _ _ _ h.1
theorem Bh5_sf {w W : World} {p F : Fn6} (h : Bh5 w p F W) : ∀ j, W.frozen? ⟨w.heap.size, j, none⟩ = false := fun j => frozen_of_row W _ j _ _ h.1
theorem Bh5_p {w W : World} {p F : Fn6} (h : Bh5 w p F W) : ∀ j, W.cell? ⟨w.heap.size + 1, j, none⟩ = (#[.int .i64 (rowv (p 0)), .int .i64 (rowv (p 1)), .int .i64 (rowv (p 2)), .int .i64 (rowv (p 3)), .int .i64 (rowv (p 4)), .int .i64 (rowv (p 5))] : Array Value)[j]? := fun j => cell_of_row W _ j _ _ _ h.2.1
set_option maxHeartbeats 4000000 in
theorem behind_f (T : List Bool) (hT : T.length ≤ 12) (s p : Fn6) (g cap : Nat) (w : World) (hgw : g < w.heap.size) (hc : ∀ (i : Nat) (h : i < T.length), w.cell? ⟨g, i, none⟩ = some (fv5 T[i])) (H0 : Hid (∀ w, Calls Try.prog 144 #[.agg #[.int .i64 (rowv (s 0)), .int .i64 (rowv (s 1)), .int .i64 (rowv (s 2)), .int .i64 (rowv (s 3)), .int .i64 (rowv (s 4)), .int .i64 (rowv (s 5))]] w fun e w' => e = .returned (.bool true) ∧ Below w.heap.size w w')) (H1 : Hid (∀ w, Calls Try.prog 144 #[.agg #[.int .i64 (rowv (p 0)), .int .i64 (rowv (p 1)), .int .i64 (rowv (p 2)), .int .i64 (rowv (p 3)), .int .i64 (rowv (p 4)), .int .i64 (rowv (p 5))]] w fun e w' => e = .returned (.bool true) ∧ Below w.heap.size w w')) : Calls Try.prog 189 #[.agg #[.int .i64 (rowv (s 0)), .int .i64 (rowv (s 1)), .int .i64 (rowv (s 2)), .int .i64 (rowv (s 3)), .int .i64 (rowv (s 4)), .int .i64 (rowv (s 5))], .agg #[.int .i64 (rowv (p 0)), .int .i64 (rowv (p 1)), .int .i64 (rowv (p 2)), .int .i64 (rowv (p 3)), .int .i64 (rowv (p 4)), .int .i64 (rowv (p 5))], .slice (some ⟨g, 0, none⟩) T.length cap] w fun e w' => e = .returned (.tuple #[.agg #[.int .i64 (rowv (be5 T s p 0)), .int .i64 (rowv (be5 T s p 1)), .int .i64 (rowv (be5 T s p 2)), .int .i64 (rowv (be5 T s p 3)), .int .i64 (rowv (be5 T s p 4)), .int .i64 (rowv (be5 T s p 5))], .bool true]) ∧ Below w.heap.size w w' := by
  have HC := Lib.hid hc
  clear hc
  go_enter Try.func189, Try.ntmps189
  go_wp2_with fail
  generalize hW : (World.alloc _ _ : World) = W0
  have hB0 : Below w.heap.size w W0 := by rw [← hW]; (repeat (first | exact Below.refl _ _ | assumption | refine Below.setCell ?_ (by first | (simp; done) | (simp; omega)) _ | refine Below.alloc ?_ (by first | (simp; done) | (simp; omega)) _ | refine Below.drew ?_))
  have q0 : W0.heap[(w.heap.size : Nat)]? = some (o6 s) := by
    rw [← hW]
    repeat (first | (refine alloc_at ?_; first | (simp; done) | (simp; omega)) | refine drew_row ?_ | refine alloc_past ?_ | assumption)
  have q1 : W0.heap[(w.heap.size + 1 : Nat)]? = some (o6 p) := by
    rw [← hW]
    repeat (first | (refine alloc_at ?_; first | (simp; done) | (simp; omega)) | refine drew_row ?_ | refine alloc_past ?_ | assumption)
  have q2 : W0.heap[(w.heap.size + 2 : Nat)]? = some (oz) := by
    rw [← hW]
    repeat (first | (refine alloc_at ?_; first | (simp; done) | (simp; omega)) | refine drew_row ?_ | refine alloc_past ?_ | assumption)
  have hk : KR 2 [(w.heap.size, o6 s), (w.heap.size + 1, o6 p)] w W0 := ⟨by simp [q0, q1], by rw [← hW]; simp, hB0⟩
  have hq := q2
  clear hW hB0 q0 q1 q2
  have HS : Hid (Bh5 w p s W0) := Lib.hid ⟨hk.row (g := w.heap.size) (o := o6 s) (by simp), hk.row (g := w.heap.size + 1) (o := o6 p) (by simp), hq, row_lt hq, hk.2.2⟩
  clear hk hq
  have s_c := Bh5_s HS.out
  go_wp2_with fail
  refine (H0.out _).mono ?_
  rintro e W1 ⟨rfl, hb⟩
  have HS1 := Lib.hid (HS.out.far hb rfl)
  clear hb HS s_c
  have p_c := Bh5_p HS1.out
  go_wp2_with fail
  refine (H1.out _).mono ?_
  rintro e W2 ⟨rfl, hb⟩
  have S0 : Hid (Bh5 w p (be5 (T.take 0) s p) W2) := Lib.hid (HS1.out.far hb rfl)
  clear hb HS1 p_c H0 H1
  go_wp2_with fail
  go_loopw [21] (fun c wr => ∃ i : Nat, i ≤ T.length ∧ c = .int .i64 i ∧ Hid (Bh5 w p (be5 (T.take i) s p) wr)) (fun c _ => T.length - (intOf c).toNat)
  case atStart => exact ⟨0, by omega, rfl, S0⟩
  case round =>
    obtain ⟨i, hi, rfl, HS⟩ := hrel
    by_cases hlt : i < T.length
    · have hlt' : (i : Int) < T.length := by omega
      have hi0 : (0 : Int) ≤ i := by omega
      have hi2 : i ≤ 12 := by omega
      have HE := Lib.hid (be5_succ T s p hlt)
      obtain ⟨F, hF⟩ : ∃ F, F = be5 (T.take i) s p := ⟨_, rfl⟩
      rw [← hF] at HE HS
      have hcw : wr.cell? ⟨g, i, none⟩ = some (fv5 T[i]) := (HS.out.2.2.2.2.cell (p := ⟨g, i, none⟩) hgw).trans (HC.out i hlt)
      clear hF
      cases hb : T[i]
      · rw [hb] at hcw HE
        simp only [fv5, Bool.false_eq_true, if_false] at hcw
        go_wp2_with fail
        have HD := Lib.hid (HS.out.far (M := wr.heap.size) (Below.refl _ _).drew rfl)
        clear HS hcw
        have s_c := Bh5_s HD.out
        have p_c := Bh5_p HD.out
        have HP := Lib.hid (spreading_f p)
        have HQ := Lib.hid (spread_1 F p)
        set_option maxRecDepth 8000 in
        go_region_with (first | (go_at_call 308; with_reducible refine (HP.out _).mono ?_; rintro e w1 ⟨g1, rfl, hq1, hb1⟩; have HA := Lib.hid (HD.out.far hb1 rfl); have e_c := Bh5_s HA.out) | (go_at_call 327; with_reducible refine (HQ.out g1 _ hq1).mono ?_; rintro e w2 ⟨rfl, hb2⟩; have HB := Lib.hid (HA.out.far hb2 rfl); clear e_c s_c p_c; have t_c := Bh5_s HB.out; have t_f := Bh5_sf HB.out))
        all_goals
          have HI := Lib.hid (HB.out.put (spd F p))
          clear HB HA HD HP HQ t_c t_f hq1 hb1 hb2
          go_wp2_with fail
          go_roundw
          case rel => exact ⟨i + 1, by omega, by go_num, by rw [HE.out]; exact HI⟩
          case measure => simp [intOf]; omega
      · rw [hb] at hcw HE
        simp only [fv5, if_true] at hcw
        go_wp2_with fail
        have HD := Lib.hid (HS.out.far (M := wr.heap.size) (Below.refl _ _).drew rfl)
        clear HS hcw
        have s_c := Bh5_s HD.out
        have p_c := Bh5_p HD.out
        have HP := Lib.hid (shrinking_f p)
        have HQ := Lib.hid (shrink_1 F p)
        set_option maxRecDepth 8000 in
        go_region_with (first | (go_at_call 190; with_reducible refine (HP.out _).mono ?_; rintro e w1 ⟨g1, rfl, hq1, hb1⟩; have HA := Lib.hid (HD.out.far hb1 rfl); have e_c := Bh5_s HA.out) | (go_at_call 272; with_reducible refine (HQ.out g1 _ hq1).mono ?_; rintro e w2 ⟨rfl, hb2⟩; have HB := Lib.hid (HA.out.far hb2 rfl); clear e_c s_c p_c; have t_c := Bh5_s HB.out; have t_f := Bh5_sf HB.out))
        all_goals
          have HI := Lib.hid (HB.out.put (shr F p))
          clear HB HA HD HP HQ t_c t_f hq1 hb1 hb2
          go_wp2_with fail
          go_roundw
          case rel => exact ⟨i + 1, by omega, by go_num, by rw [HE.out]; exact HI⟩
          case measure => simp [intOf]; omega
    · obtain rfl : i = T.length := by omega
      rw [List.take_length] at HS
      have s_c := Bh5_s HS.out
      have z_c := fun j => cell_of_row wr _ j _ _ _ HS.out.2.2.1
      have z_f := fun j => frozen_of_row wr _ j _ _ HS.out.2.2.1
      go_wp2_with fail
      refine bodyPost_ret (v := .tuple #[.agg #[.int .i64 (rowv (be5 T s p 0)), .int .i64 (rowv (be5 T s p 1)), .int .i64 (rowv (be5 T s p 2)), .int .i64 (rowv (be5 T s p 3)), .int .i64 (rowv (be5 T s p 4)), .int .i64 (rowv (be5 T s p 5))], .bool true]) (by simp [results, Try.results189, go_sem, z_c]) rfl ⟨rfl, ?_⟩
      exact below6 HS.out.2.2.2.2 (by omega)
/- Bw5 -/
set_option maxHeartbeats 1000000 in
theorem behind_no0 (a0 a1 a2 a3 a4 a5 : Int) (b0 b1 b2 b3 b4 b5 : Int) (v : Value) (H0 : Hid (∀ w, Calls Try.prog 144 #[.agg #[.int .i64 a0, .int .i64 a1, .int .i64 a2, .int .i64 a3, .int .i64 a4, .int .i64 a5]] w fun e w' => e = .returned (.bool false) ∧ Below w.heap.size w w')) (w : World) : Calls Try.prog 189 #[.agg #[.int .i64 a0, .int .i64 a1, .int .i64 a2, .int .i64 a3, .int .i64 a4, .int .i64 a5], .agg #[.int .i64 b0, .int .i64 b1, .int .i64 b2, .int .i64 b3, .int .i64 b4, .int .i64 b5], v] w fun e w' => e = .returned (.tuple #[.agg #[.int .i64 0, .int .i64 0, .int .i64 0, .int .i64 0, .int .i64 0, .int .i64 0], .bool false]) ∧ Below w.heap.size w w' := by
  go_enter Try.func189, Try.ntmps189
  go_wp2_with fail
  generalize hW : (World.alloc _ _ : World) = W0
  have hB0 : Below w.heap.size w W0 := by rw [← hW]; (repeat (first | exact Below.refl _ _ | assumption | refine Below.setCell ?_ (by first | (simp; done) | (simp; omega)) _ | refine Below.alloc ?_ (by first | (simp; done) | (simp; omega)) _ | refine Below.drew ?_))
  have qa : W0.heap[(w.heap.size : Nat)]? = some (Obj.cells (#[.int .i64 a0, .int .i64 a1, .int .i64 a2, .int .i64 a3, .int .i64 a4, .int .i64 a5]) 28 (0, 0)) := by
    rw [← hW]
    repeat (first | (refine alloc_at ?_; first | (simp; done) | (simp; omega)) | refine drew_row ?_ | refine alloc_past ?_ | assumption)
  have qb : W0.heap[(w.heap.size + 1 : Nat)]? = some (Obj.cells (#[.int .i64 b0, .int .i64 b1, .int .i64 b2, .int .i64 b3, .int .i64 b4, .int .i64 b5]) 28 (0, 0)) := by
    rw [← hW]
    repeat (first | (refine alloc_at ?_; first | (simp; done) | (simp; omega)) | refine drew_row ?_ | refine alloc_past ?_ | assumption)
  have qz : W0.heap[(w.heap.size + 1 + 1 : Nat)]? = some (Obj.cells (#[.int .i64 0, .int .i64 0, .int .i64 0, .int .i64 0, .int .i64 0, .int .i64 0]) 28 (0, 0)) := by
    rw [← hW]
    repeat (first | (refine alloc_at ?_; first | (simp; done) | (simp; omega)) | refine drew_row ?_ | refine alloc_past ?_ | assumption)
  clear hW
  refine (H0.out _).mono ?_
  rintro e W1 ⟨rfl, hb⟩
  have nqa := rowk qa hb rfl
  have nqb := rowk qb hb rfl
  have nqz := rowk qz hb rfl
  have hB1 := below_of hB0 hb hB0.size
  clear hb hB0 qa qb qz
  have qa := nqa
  have qb := nqb
  have qz := nqz
  clear nqa nqb nqz
  have qa_c := fun j => cell_of_row W1 _ j _ _ _ qa
  have qa_f := fun j => frozen_of_row W1 _ j _ _ qa
  have qb_c := fun j => cell_of_row W1 _ j _ _ _ qb
  have qb_f := fun j => frozen_of_row W1 _ j _ _ qb
  have qz_c := fun j => cell_of_row W1 _ j _ _ _ qz
  have qz_f := fun j => frozen_of_row W1 _ j _ _ qz
  go_wp2_with fail
  refine bodyPost_ret (v := .tuple #[.agg #[.int .i64 0, .int .i64 0, .int .i64 0, .int .i64 0, .int .i64 0, .int .i64 0], .bool false]) (by simp [results, Try.results189, go_sem, qz_c]) rfl ⟨rfl, ?_⟩
  exact below6 hB1 (by omega)
set_option maxHeartbeats 1000000 in
theorem behind_no1 (a0 a1 a2 a3 a4 a5 : Int) (b0 b1 b2 b3 b4 b5 : Int) (v : Value) (H0 : Hid (∀ w, Calls Try.prog 144 #[.agg #[.int .i64 a0, .int .i64 a1, .int .i64 a2, .int .i64 a3, .int .i64 a4, .int .i64 a5]] w fun e w' => e = .returned (.bool true) ∧ Below w.heap.size w w')) (H1 : Hid (∀ w, Calls Try.prog 144 #[.agg #[.int .i64 b0, .int .i64 b1, .int .i64 b2, .int .i64 b3, .int .i64 b4, .int .i64 b5]] w fun e w' => e = .returned (.bool false) ∧ Below w.heap.size w w')) (w : World) : Calls Try.prog 189 #[.agg #[.int .i64 a0, .int .i64 a1, .int .i64 a2, .int .i64 a3, .int .i64 a4, .int .i64 a5], .agg #[.int .i64 b0, .int .i64 b1, .int .i64 b2, .int .i64 b3, .int .i64 b4, .int .i64 b5], v] w fun e w' => e = .returned (.tuple #[.agg #[.int .i64 0, .int .i64 0, .int .i64 0, .int .i64 0, .int .i64 0, .int .i64 0], .bool false]) ∧ Below w.heap.size w w' := by
  go_enter Try.func189, Try.ntmps189
  go_wp2_with fail
  generalize hW : (World.alloc _ _ : World) = W0
  have hB0 : Below w.heap.size w W0 := by rw [← hW]; (repeat (first | exact Below.refl _ _ | assumption | refine Below.setCell ?_ (by first | (simp; done) | (simp; omega)) _ | refine Below.alloc ?_ (by first | (simp; done) | (simp; omega)) _ | refine Below.drew ?_))
  have qa : W0.heap[(w.heap.size : Nat)]? = some (Obj.cells (#[.int .i64 a0, .int .i64 a1, .int .i64 a2, .int .i64 a3, .int .i64 a4, .int .i64 a5]) 28 (0, 0)) := by
    rw [← hW]
    repeat (first | (refine alloc_at ?_; first | (simp; done) | (simp; omega)) | refine drew_row ?_ | refine alloc_past ?_ | assumption)
  have qb : W0.heap[(w.heap.size + 1 : Nat)]? = some (Obj.cells (#[.int .i64 b0, .int .i64 b1, .int .i64 b2, .int .i64 b3, .int .i64 b4, .int .i64 b5]) 28 (0, 0)) := by
    rw [← hW]
    repeat (first | (refine alloc_at ?_; first | (simp; done) | (simp; omega)) | refine drew_row ?_ | refine alloc_past ?_ | assumption)
  have qz : W0.heap[(w.heap.size + 1 + 1 : Nat)]? = some (Obj.cells (#[.int .i64 0, .int .i64 0, .int .i64 0, .int .i64 0, .int .i64 0, .int .i64 0]) 28 (0, 0)) := by
    rw [← hW]
    repeat (first | (refine alloc_at ?_; first | (simp; done) | (simp; omega)) | refine drew_row ?_ | refine alloc_past ?_ | assumption)
  clear hW
  refine (H0.out _).mono ?_
  rintro e W1 ⟨rfl, hb⟩
  have nqa := rowk qa hb rfl
  have nqb := rowk qb hb rfl
  have nqz := rowk qz hb rfl
  have hB1 := below_of hB0 hb hB0.size
  clear hb hB0 qa qb qz
  have qa := nqa
  have qb := nqb
  have qz := nqz
  clear nqa nqb nqz
  have qa_c := fun j => cell_of_row W1 _ j _ _ _ qa
  have qa_f := fun j => frozen_of_row W1 _ j _ _ qa
  have qb_c := fun j => cell_of_row W1 _ j _ _ _ qb
  have qb_f := fun j => frozen_of_row W1 _ j _ _ qb
  have qz_c := fun j => cell_of_row W1 _ j _ _ _ qz
  have qz_f := fun j => frozen_of_row W1 _ j _ _ qz
  go_wp2_with fail
  refine (H1.out _).mono ?_
  rintro e W2 ⟨rfl, hb⟩
  have nqa := rowk qa hb rfl
  have nqb := rowk qb hb rfl
  have nqz := rowk qz hb rfl
  have hB2 := below_of hB1 hb hB1.size
  clear hb hB1 qa qb qz qa_c qa_f qb_c qb_f qz_c qz_f
  have qa := nqa
  have qb := nqb
  have qz := nqz
  clear nqa nqb nqz
  have qa_c := fun j => cell_of_row W2 _ j _ _ _ qa
  have qa_f := fun j => frozen_of_row W2 _ j _ _ qa
  have qb_c := fun j => cell_of_row W2 _ j _ _ _ qb
  have qb_f := fun j => frozen_of_row W2 _ j _ _ qb
  have qz_c := fun j => cell_of_row W2 _ j _ _ _ qz
  have qz_f := fun j => frozen_of_row W2 _ j _ _ qz
  go_wp2_with fail
  refine bodyPost_ret (v := .tuple #[.agg #[.int .i64 0, .int .i64 0, .int .i64 0, .int .i64 0, .int .i64 0, .int .i64 0], .bool false]) (by simp [results, Try.results189, go_sem, qz_c]) rfl ⟨rfl, ?_⟩
  exact below6 hB2 (by omega)
set_option maxHeartbeats 1000000 in
theorem ispr_any (a0 a1 a2 a3 a4 a5 : Int) (b0 b1 b2 b3 b4 b5 : Int) (r0 r1 r2 r3 r4 r5 : Int) (t : Bool) (HB : Hid (∀ (w : World) (g : Nat), w.heap[g]? = some (.cells #[.func (.func 308) #[] #[]] 167 (0, 0)) → Calls Try.prog 189 #[.agg #[.int .i64 a0, .int .i64 a1, .int .i64 a2, .int .i64 a3, .int .i64 a4, .int .i64 a5], .agg #[.int .i64 b0, .int .i64 b1, .int .i64 b2, .int .i64 b3, .int .i64 b4, .int .i64 b5], .slice (some ⟨g, 0, none⟩) 1 1] w fun e w' => e = .returned (.tuple #[.agg #[.int .i64 r0, .int .i64 r1, .int .i64 r2, .int .i64 r3, .int .i64 r4, .int .i64 r5], .bool t]) ∧ Below w.heap.size w w')) (w : World) : Calls Try.prog 282 #[.agg #[.int .i64 a0, .int .i64 a1, .int .i64 a2, .int .i64 a3, .int .i64 a4, .int .i64 a5], .agg #[.int .i64 b0, .int .i64 b1, .int .i64 b2, .int .i64 b3, .int .i64 b4, .int .i64 b5]] w fun e w' => e = .returned (.tuple #[.agg #[.int .i64 r0, .int .i64 r1, .int .i64 r2, .int .i64 r3, .int .i64 r4, .int .i64 r5], .bool t]) ∧ Below w.heap.size w w' := by
  go_enter Try.func282, Try.ntmps282
  go_wp2_with fail
  generalize hW : (World.alloc _ _ : World) = W0
  have q : W0.heap[w.heap.size + 1 + 1 + 1]? = some (.cells #[.func (.func 308) #[] #[]] 167 (0, 0)) := by rw [← hW]; exact alloc_at (by simp)
  have qz : W0.heap[w.heap.size + 1 + 1]? = some (.cells #[.int .i64 0, .int .i64 0, .int .i64 0, .int .i64 0, .int .i64 0, .int .i64 0] 28 (0, 0)) := by
    rw [← hW]
    exact alloc_past (alloc_at (by simp))
  have hB0 : Below w.heap.size w W0 := by rw [← hW]; (repeat (first | exact Below.refl _ _ | assumption | refine Below.setCell ?_ (by first | (simp; done) | (simp; omega)) _ | refine Below.alloc ?_ (by first | (simp; done) | (simp; omega)) _ | refine Below.drew ?_))
  clear hW
  refine (HB.out _ _ q).mono ?_
  rintro e W1 ⟨rfl, hb⟩
  have qz1 := rowk qz hb rfl
  have hB1 := below_of hB0 hb hB0.size
  clear hb hB0 q qz
  have z_c := fun j => cell_of_row W1 _ j _ _ _ qz1
  have z_f := fun j => frozen_of_row W1 _ j _ _ qz1
  go_wp2_with fail
  refine bodyPost_ret (v := .tuple #[.agg #[.int .i64 r0, .int .i64 r1, .int .i64 r2, .int .i64 r3, .int .i64 r4, .int .i64 r5], .bool t]) (by simp [results, Try.results282, go_sem, z_c]) rfl ⟨rfl, ?_⟩
  exact below6 hB1 (by omega)
set_option maxHeartbeats 1000000 in
theorem ishr_any (a0 a1 a2 a3 a4 a5 : Int) (b0 b1 b2 b3 b4 b5 : Int) (r0 r1 r2 r3 r4 r5 : Int) (t : Bool) (HB : Hid (∀ (w : World) (g : Nat), w.heap[g]? = some (.cells #[.func (.func 190) #[] #[]] 167 (0, 0)) → Calls Try.prog 189 #[.agg #[.int .i64 a0, .int .i64 a1, .int .i64 a2, .int .i64 a3, .int .i64 a4, .int .i64 a5], .agg #[.int .i64 b0, .int .i64 b1, .int .i64 b2, .int .i64 b3, .int .i64 b4, .int .i64 b5], .slice (some ⟨g, 0, none⟩) 1 1] w fun e w' => e = .returned (.tuple #[.agg #[.int .i64 r0, .int .i64 r1, .int .i64 r2, .int .i64 r3, .int .i64 r4, .int .i64 r5], .bool t]) ∧ Below w.heap.size w w')) (w : World) : Calls Try.prog 78 #[.agg #[.int .i64 a0, .int .i64 a1, .int .i64 a2, .int .i64 a3, .int .i64 a4, .int .i64 a5], .agg #[.int .i64 b0, .int .i64 b1, .int .i64 b2, .int .i64 b3, .int .i64 b4, .int .i64 b5]] w fun e w' => e = .returned (.tuple #[.agg #[.int .i64 r0, .int .i64 r1, .int .i64 r2, .int .i64 r3, .int .i64 r4, .int .i64 r5], .bool t]) ∧ Below w.heap.size w w' := by
  go_enter Try.func78, Try.ntmps78
  go_wp2_with fail
  generalize hW : (World.alloc _ _ : World) = W0
  have q : W0.heap[w.heap.size + 1 + 1 + 1]? = some (.cells #[.func (.func 190) #[] #[]] 167 (0, 0)) := by rw [← hW]; exact alloc_at (by simp)
  have qz : W0.heap[w.heap.size + 1 + 1]? = some (.cells #[.int .i64 0, .int .i64 0, .int .i64 0, .int .i64 0, .int .i64 0, .int .i64 0] 28 (0, 0)) := by
    rw [← hW]
    exact alloc_past (alloc_at (by simp))
  have hB0 : Below w.heap.size w W0 := by rw [← hW]; (repeat (first | exact Below.refl _ _ | assumption | refine Below.setCell ?_ (by first | (simp; done) | (simp; omega)) _ | refine Below.alloc ?_ (by first | (simp; done) | (simp; omega)) _ | refine Below.drew ?_))
  clear hW
  refine (HB.out _ _ q).mono ?_
  rintro e W1 ⟨rfl, hb⟩
  have qz1 := rowk qz hb rfl
  have hB1 := below_of hB0 hb hB0.size
  clear hb hB0 q qz
  have z_c := fun j => cell_of_row W1 _ j _ _ _ qz1
  have z_f := fun j => frozen_of_row W1 _ j _ _ qz1
  go_wp2_with fail
  refine bodyPost_ret (v := .tuple #[.agg #[.int .i64 r0, .int .i64 r1, .int .i64 r2, .int .i64 r3, .int .i64 r4, .int .i64 r5], .bool t]) (by simp [results, Try.results78, go_sem, z_c]) rfl ⟨rfl, ?_⟩
  exact below6 hB1 (by omega)
set_option maxHeartbeats 1000000 in
theorem iope_any (a0 a1 a2 a3 a4 a5 : Int) (b0 b1 b2 b3 b4 b5 : Int) (r0 r1 r2 r3 r4 r5 : Int) (t : Bool) (HB : Hid (∀ (w : World) (g : Nat), w.heap[g]? = some (.cells #[.func (.func 190) #[] #[], .func (.func 308) #[] #[]] 167 (0, 0)) → Calls Try.prog 189 #[.agg #[.int .i64 a0, .int .i64 a1, .int .i64 a2, .int .i64 a3, .int .i64 a4, .int .i64 a5], .agg #[.int .i64 b0, .int .i64 b1, .int .i64 b2, .int .i64 b3, .int .i64 b4, .int .i64 b5], .slice (some ⟨g, 0, none⟩) 2 2] w fun e w' => e = .returned (.tuple #[.agg #[.int .i64 r0, .int .i64 r1, .int .i64 r2, .int .i64 r3, .int .i64 r4, .int .i64 r5], .bool t]) ∧ Below w.heap.size w w')) (w : World) : Calls Try.prog 326 #[.agg #[.int .i64 a0, .int .i64 a1, .int .i64 a2, .int .i64 a3, .int .i64 a4, .int .i64 a5], .agg #[.int .i64 b0, .int .i64 b1, .int .i64 b2, .int .i64 b3, .int .i64 b4, .int .i64 b5]] w fun e w' => e = .returned (.tuple #[.agg #[.int .i64 r0, .int .i64 r1, .int .i64 r2, .int .i64 r3, .int .i64 r4, .int .i64 r5], .bool t]) ∧ Below w.heap.size w w' := by
  go_enter Try.func326, Try.ntmps326
  go_wp2_with fail
  generalize hW : (World.alloc _ _ : World) = W0
  have q : W0.heap[w.heap.size + 1 + 1 + 1]? = some (.cells #[.func (.func 190) #[] #[], .func (.func 308) #[] #[]] 167 (0, 0)) := by rw [← hW]; exact alloc_at (by simp)
  have qz : W0.heap[w.heap.size + 1 + 1]? = some (.cells #[.int .i64 0, .int .i64 0, .int .i64 0, .int .i64 0, .int .i64 0, .int .i64 0] 28 (0, 0)) := by
    rw [← hW]
    exact alloc_past (alloc_at (by simp))
  have hB0 : Below w.heap.size w W0 := by rw [← hW]; (repeat (first | exact Below.refl _ _ | assumption | refine Below.setCell ?_ (by first | (simp; done) | (simp; omega)) _ | refine Below.alloc ?_ (by first | (simp; done) | (simp; omega)) _ | refine Below.drew ?_))
  clear hW
  refine (HB.out _ _ q).mono ?_
  rintro e W1 ⟨rfl, hb⟩
  have qz1 := rowk qz hb rfl
  have hB1 := below_of hB0 hb hB0.size
  clear hb hB0 q qz
  have z_c := fun j => cell_of_row W1 _ j _ _ _ qz1
  have z_f := fun j => frozen_of_row W1 _ j _ _ qz1
  go_wp2_with fail
  refine bodyPost_ret (v := .tuple #[.agg #[.int .i64 r0, .int .i64 r1, .int .i64 r2, .int .i64 r3, .int .i64 r4, .int .i64 r5], .bool t]) (by simp [results, Try.results326, go_sem, z_c]) rfl ⟨rfl, ?_⟩
  exact below6 hB1 (by omega)
set_option maxHeartbeats 1000000 in
theorem iio_no (a0 a1 a2 a3 a4 a5 : Int) (b0 b1 b2 b3 b4 b5 : Int) (HF : Hid (∀ w, Calls Try.prog 326 #[.agg #[.int .i64 a0, .int .i64 a1, .int .i64 a2, .int .i64 a3, .int .i64 a4, .int .i64 a5], .agg #[.int .i64 b0, .int .i64 b1, .int .i64 b2, .int .i64 b3, .int .i64 b4, .int .i64 b5]] w fun e w' => e = .returned (.tuple #[.agg #[.int .i64 0, .int .i64 0, .int .i64 0, .int .i64 0, .int .i64 0, .int .i64 0], .bool false]) ∧ Below w.heap.size w w')) (w : World) : Calls Try.prog 307 #[.agg #[.int .i64 a0, .int .i64 a1, .int .i64 a2, .int .i64 a3, .int .i64 a4, .int .i64 a5], .agg #[.int .i64 b0, .int .i64 b1, .int .i64 b2, .int .i64 b3, .int .i64 b4, .int .i64 b5]] w fun e w' => e = .returned (.tuple #[.bool false, .bool false]) ∧ Below w.heap.size w w' := by
  go_enter Try.func307, Try.ntmps307
  go_wp2_with fail
  generalize hW : (World.alloc _ _ : World) = W0
  have hB0 : Below w.heap.size w W0 := by rw [← hW]; (repeat (first | exact Below.refl _ _ | assumption | refine Below.setCell ?_ (by first | (simp; done) | (simp; omega)) _ | refine Below.alloc ?_ (by first | (simp; done) | (simp; omega)) _ | refine Below.drew ?_))
  have qa : W0.heap[(w.heap.size : Nat)]? = some (.cells #[.int .i64 a0, .int .i64 a1, .int .i64 a2, .int .i64 a3, .int .i64 a4, .int .i64 a5] 28 (0, 0)) := by
    rw [← hW]
    repeat (first | (refine alloc_at ?_; first | (simp; done) | (simp; omega)) | refine drew_row ?_ | refine alloc_past ?_ | assumption)
  clear hW
  refine (HF.out _).mono ?_
  rintro e W1 ⟨rfl, hb⟩
  have qa1 := rowk qa hb rfl
  have hB1 := below_of hB0 hb hB0.size
  clear hb hB0 qa
  have hla := row_lt qa1
  have hna := Nat.ne_of_lt hla
  have a_c := fun j => cell_of_row W1 _ j _ _ _ qa1
  go_wp2_with fail
  go_ret2
  exact ⟨rfl, hB1.alloc hB1.size _⟩
set_option maxHeartbeats 1000000 in
theorem iio_yes (a0 a1 a2 a3 a4 a5 : Int) (b0 b1 b2 b3 b4 b5 : Int) (r0 r1 r2 r3 r4 r5 : Int) (HF : Hid (∀ w, Calls Try.prog 326 #[.agg #[.int .i64 a0, .int .i64 a1, .int .i64 a2, .int .i64 a3, .int .i64 a4, .int .i64 a5], .agg #[.int .i64 b0, .int .i64 b1, .int .i64 b2, .int .i64 b3, .int .i64 b4, .int .i64 b5]] w fun e w' => e = .returned (.tuple #[.agg #[.int .i64 r0, .int .i64 r1, .int .i64 r2, .int .i64 r3, .int .i64 r4, .int .i64 r5], .bool true]) ∧ Below w.heap.size w w')) (w : World) : Calls Try.prog 307 #[.agg #[.int .i64 a0, .int .i64 a1, .int .i64 a2, .int .i64 a3, .int .i64 a4, .int .i64 a5], .agg #[.int .i64 b0, .int .i64 b1, .int .i64 b2, .int .i64 b3, .int .i64 b4, .int .i64 b5]] w fun e w' => e = .returned (.tuple #[.bool (r0 == a0 && r1 == a1 && r2 == a2 && r3 == a3 && r4 == a4 && r5 == a5), .bool true]) ∧ Below w.heap.size w w' := by
  have he := eq26 r0 r1 r2 r3 r4 r5 a0 a1 a2 a3 a4 a5
  go_enter Try.func307, Try.ntmps307
  go_wp2_with fail
  generalize hW : (World.alloc _ _ : World) = W0
  have hB0 : Below w.heap.size w W0 := by rw [← hW]; (repeat (first | exact Below.refl _ _ | assumption | refine Below.setCell ?_ (by first | (simp; done) | (simp; omega)) _ | refine Below.alloc ?_ (by first | (simp; done) | (simp; omega)) _ | refine Below.drew ?_))
  have qa : W0.heap[(w.heap.size : Nat)]? = some (.cells #[.int .i64 a0, .int .i64 a1, .int .i64 a2, .int .i64 a3, .int .i64 a4, .int .i64 a5] 28 (0, 0)) := by
    rw [← hW]
    repeat (first | (refine alloc_at ?_; first | (simp; done) | (simp; omega)) | refine drew_row ?_ | refine alloc_past ?_ | assumption)
  clear hW
  refine (HF.out _).mono ?_
  rintro e W1 ⟨rfl, hb⟩
  have qa1 := rowk qa hb rfl
  have hB1 := below_of hB0 hb hB0.size
  clear hb hB0 qa
  have hla := row_lt qa1
  have hna := Nat.ne_of_lt hla
  have a_c := fun j => cell_of_row W1 _ j _ _ _ qa1
  go_wp2_with fail
  go_ret2
  exact ⟨rfl, hB1.alloc hB1.size _⟩
/- Fs -/
theorem sh_of (f : Nat → Nat → Bool) : (ok (rowv (f 0)) && ok (rowv (f 1)) && ok (rowv (f 2)) && ok (rowv (f 3)) && ok (rowv (f 4)) && ok (rowv (f 5))) = true := by simp only [rowv_ok, Bool.and_self]
/- Pm5 -/
theorem fv_cells (T : List Bool) (w : World) (g : Nat) (hg : w.heap[g]? = some (.cells (T.map fv5).toArray 167 (0, 0))) : ∀ (i : Nat) (h : i < T.length), w.cell? ⟨g, i, none⟩ = some (fv5 T[i]) := by
  intro i h
  have e := cell_of_row w g i _ _ _ hg
  rw [e]
  simp [h]
theorem be_f (s p : Fn6) : be5 [false] s p = spd s p := by simp [be5, st5]
theorem be_t (s p : Fn6) : be5 [true] s p = shr s p := by simp [be5, st5]
theorem be_tf (s p : Fn6) : be5 [true, false] s p = spd (shr s p) p := by simp [be5, st5]
theorem be_ft (s p : Fn6) : be5 [false, true] s p = shr (spd s p) p := by simp [be5, st5]
/-- As behind_f, with equations for what the walk has. -/
theorem behind_g (T : List Bool) (n : Nat) (hn : T.length = n) (h12 : n ≤ 12) (cs : Array Value) (hcs : cs = (T.map fv5).toArray) (F s p : Fn6) (hF : be5 T s p = F) (w : World) (g : Nat) (hg : w.heap[g]? = some (.cells cs 167 (0, 0))) : Calls Try.prog 189 #[.agg #[.int .i64 (rowv (s 0)), .int .i64 (rowv (s 1)), .int .i64 (rowv (s 2)), .int .i64 (rowv (s 3)), .int .i64 (rowv (s 4)), .int .i64 (rowv (s 5))], .agg #[.int .i64 (rowv (p 0)), .int .i64 (rowv (p 1)), .int .i64 (rowv (p 2)), .int .i64 (rowv (p 3)), .int .i64 (rowv (p 4)), .int .i64 (rowv (p 5))], .slice (some ⟨g, 0, none⟩) n n] w fun e w' => e = .returned (.tuple #[.agg #[.int .i64 (rowv (F 0)), .int .i64 (rowv (F 1)), .int .i64 (rowv (F 2)), .int .i64 (rowv (F 3)), .int .i64 (rowv (F 4)), .int .i64 (rowv (F 5))], .bool true]) ∧ Below w.heap.size w w' := by
  subst hn
  subst hcs
  subst hF
  exact behind_f T h12 s p g _ w (row_lt hg) (fv_cells T w g hg) (sh_ai (rowv (s 0)) (rowv (s 1)) (rowv (s 2)) (rowv (s 3)) (rowv (s 4)) (rowv (s 5)) (sh_of s)) (sh_ai (rowv (p 0)) (rowv (p 1)) (rowv (p 2)) (rowv (p 3)) (rowv (p 4)) (rowv (p 5)) (sh_of p))
theorem ispread_c (s p : Fn6) (w : World) : Calls Try.prog 282 #[.agg #[.int .i64 (rowv (s 0)), .int .i64 (rowv (s 1)), .int .i64 (rowv (s 2)), .int .i64 (rowv (s 3)), .int .i64 (rowv (s 4)), .int .i64 (rowv (s 5))], .agg #[.int .i64 (rowv (p 0)), .int .i64 (rowv (p 1)), .int .i64 (rowv (p 2)), .int .i64 (rowv (p 3)), .int .i64 (rowv (p 4)), .int .i64 (rowv (p 5))]] w fun e w' => e = .returned (.tuple #[.agg #[.int .i64 (rowv (spd s p 0)), .int .i64 (rowv (spd s p 1)), .int .i64 (rowv (spd s p 2)), .int .i64 (rowv (spd s p 3)), .int .i64 (rowv (spd s p 4)), .int .i64 (rowv (spd s p 5))], .bool true]) ∧ Below w.heap.size w w' :=
  ispr_any (rowv (s 0)) (rowv (s 1)) (rowv (s 2)) (rowv (s 3)) (rowv (s 4)) (rowv (s 5)) (rowv (p 0)) (rowv (p 1)) (rowv (p 2)) (rowv (p 3)) (rowv (p 4)) (rowv (p 5)) _ _ _ _ _ _ true (Lib.hid fun w g hg => behind_g [false] 1 rfl (by decide) _ rfl (spd s p) s p (be_f s p) w g hg) w
theorem ishrink_c (s p : Fn6) (w : World) : Calls Try.prog 78 #[.agg #[.int .i64 (rowv (s 0)), .int .i64 (rowv (s 1)), .int .i64 (rowv (s 2)), .int .i64 (rowv (s 3)), .int .i64 (rowv (s 4)), .int .i64 (rowv (s 5))], .agg #[.int .i64 (rowv (p 0)), .int .i64 (rowv (p 1)), .int .i64 (rowv (p 2)), .int .i64 (rowv (p 3)), .int .i64 (rowv (p 4)), .int .i64 (rowv (p 5))]] w fun e w' => e = .returned (.tuple #[.agg #[.int .i64 (rowv (shr s p 0)), .int .i64 (rowv (shr s p 1)), .int .i64 (rowv (shr s p 2)), .int .i64 (rowv (shr s p 3)), .int .i64 (rowv (shr s p 4)), .int .i64 (rowv (shr s p 5))], .bool true]) ∧ Below w.heap.size w w' :=
  ishr_any (rowv (s 0)) (rowv (s 1)) (rowv (s 2)) (rowv (s 3)) (rowv (s 4)) (rowv (s 5)) (rowv (p 0)) (rowv (p 1)) (rowv (p 2)) (rowv (p 3)) (rowv (p 4)) (rowv (p 5)) _ _ _ _ _ _ true (Lib.hid fun w g hg => behind_g [true] 1 rfl (by decide) _ rfl (shr s p) s p (be_t s p) w g hg) w
theorem iopen_c (s p : Fn6) (w : World) : Calls Try.prog 326 #[.agg #[.int .i64 (rowv (s 0)), .int .i64 (rowv (s 1)), .int .i64 (rowv (s 2)), .int .i64 (rowv (s 3)), .int .i64 (rowv (s 4)), .int .i64 (rowv (s 5))], .agg #[.int .i64 (rowv (p 0)), .int .i64 (rowv (p 1)), .int .i64 (rowv (p 2)), .int .i64 (rowv (p 3)), .int .i64 (rowv (p 4)), .int .i64 (rowv (p 5))]] w fun e w' => e = .returned (.tuple #[.agg #[.int .i64 (rowv (spd (shr s p) p 0)), .int .i64 (rowv (spd (shr s p) p 1)), .int .i64 (rowv (spd (shr s p) p 2)), .int .i64 (rowv (spd (shr s p) p 3)), .int .i64 (rowv (spd (shr s p) p 4)), .int .i64 (rowv (spd (shr s p) p 5))], .bool true]) ∧ Below w.heap.size w w' :=
  iope_any (rowv (s 0)) (rowv (s 1)) (rowv (s 2)) (rowv (s 3)) (rowv (s 4)) (rowv (s 5)) (rowv (p 0)) (rowv (p 1)) (rowv (p 2)) (rowv (p 3)) (rowv (p 4)) (rowv (p 5)) _ _ _ _ _ _ true (Lib.hid fun w g hg => behind_g [true, false] 2 rfl (by decide) _ rfl (spd (shr s p) p) s p (be_tf s p) w g hg) w
theorem ispread_n0 (a0 a1 a2 a3 a4 a5 : Int) (b0 b1 b2 b3 b4 b5 : Int) (hv : (ok a0 && ok a1 && ok a2 && ok a3 && ok a4 && ok a5) = false) (w : World) : Calls Try.prog 282 #[.agg #[.int .i64 a0, .int .i64 a1, .int .i64 a2, .int .i64 a3, .int .i64 a4, .int .i64 a5], .agg #[.int .i64 b0, .int .i64 b1, .int .i64 b2, .int .i64 b3, .int .i64 b4, .int .i64 b5]] w fun e w' => e = .returned (.tuple #[.agg #[.int .i64 0, .int .i64 0, .int .i64 0, .int .i64 0, .int .i64 0, .int .i64 0], .bool false]) ∧ Below w.heap.size w w' := ispr_any a0 a1 a2 a3 a4 a5 b0 b1 b2 b3 b4 b5 0 0 0 0 0 0 false (Lib.hid fun w g _ => behind_no0 a0 a1 a2 a3 a4 a5 b0 b1 b2 b3 b4 b5 _ (sh_ai a0 a1 a2 a3 a4 a5 hv) w) w
theorem ispread_n1 (a0 a1 a2 a3 a4 a5 : Int) (b0 b1 b2 b3 b4 b5 : Int) (hv : (ok a0 && ok a1 && ok a2 && ok a3 && ok a4 && ok a5) = true) (hc : (ok b0 && ok b1 && ok b2 && ok b3 && ok b4 && ok b5) = false) (w : World) : Calls Try.prog 282 #[.agg #[.int .i64 a0, .int .i64 a1, .int .i64 a2, .int .i64 a3, .int .i64 a4, .int .i64 a5], .agg #[.int .i64 b0, .int .i64 b1, .int .i64 b2, .int .i64 b3, .int .i64 b4, .int .i64 b5]] w fun e w' => e = .returned (.tuple #[.agg #[.int .i64 0, .int .i64 0, .int .i64 0, .int .i64 0, .int .i64 0, .int .i64 0], .bool false]) ∧ Below w.heap.size w w' := ispr_any a0 a1 a2 a3 a4 a5 b0 b1 b2 b3 b4 b5 0 0 0 0 0 0 false (Lib.hid fun w g _ => behind_no1 a0 a1 a2 a3 a4 a5 b0 b1 b2 b3 b4 b5 _ (sh_ai a0 a1 a2 a3 a4 a5 hv) (sh_ai b0 b1 b2 b3 b4 b5 hc) w) w
theorem ishrink_n0 (a0 a1 a2 a3 a4 a5 : Int) (b0 b1 b2 b3 b4 b5 : Int) (hv : (ok a0 && ok a1 && ok a2 && ok a3 && ok a4 && ok a5) = false) (w : World) : Calls Try.prog 78 #[.agg #[.int .i64 a0, .int .i64 a1, .int .i64 a2, .int .i64 a3, .int .i64 a4, .int .i64 a5], .agg #[.int .i64 b0, .int .i64 b1, .int .i64 b2, .int .i64 b3, .int .i64 b4, .int .i64 b5]] w fun e w' => e = .returned (.tuple #[.agg #[.int .i64 0, .int .i64 0, .int .i64 0, .int .i64 0, .int .i64 0, .int .i64 0], .bool false]) ∧ Below w.heap.size w w' := ishr_any a0 a1 a2 a3 a4 a5 b0 b1 b2 b3 b4 b5 0 0 0 0 0 0 false (Lib.hid fun w g _ => behind_no0 a0 a1 a2 a3 a4 a5 b0 b1 b2 b3 b4 b5 _ (sh_ai a0 a1 a2 a3 a4 a5 hv) w) w
theorem ishrink_n1 (a0 a1 a2 a3 a4 a5 : Int) (b0 b1 b2 b3 b4 b5 : Int) (hv : (ok a0 && ok a1 && ok a2 && ok a3 && ok a4 && ok a5) = true) (hc : (ok b0 && ok b1 && ok b2 && ok b3 && ok b4 && ok b5) = false) (w : World) : Calls Try.prog 78 #[.agg #[.int .i64 a0, .int .i64 a1, .int .i64 a2, .int .i64 a3, .int .i64 a4, .int .i64 a5], .agg #[.int .i64 b0, .int .i64 b1, .int .i64 b2, .int .i64 b3, .int .i64 b4, .int .i64 b5]] w fun e w' => e = .returned (.tuple #[.agg #[.int .i64 0, .int .i64 0, .int .i64 0, .int .i64 0, .int .i64 0, .int .i64 0], .bool false]) ∧ Below w.heap.size w w' := ishr_any a0 a1 a2 a3 a4 a5 b0 b1 b2 b3 b4 b5 0 0 0 0 0 0 false (Lib.hid fun w g _ => behind_no1 a0 a1 a2 a3 a4 a5 b0 b1 b2 b3 b4 b5 _ (sh_ai a0 a1 a2 a3 a4 a5 hv) (sh_ai b0 b1 b2 b3 b4 b5 hc) w) w
theorem iopen_n0 (a0 a1 a2 a3 a4 a5 : Int) (b0 b1 b2 b3 b4 b5 : Int) (hv : (ok a0 && ok a1 && ok a2 && ok a3 && ok a4 && ok a5) = false) (w : World) : Calls Try.prog 326 #[.agg #[.int .i64 a0, .int .i64 a1, .int .i64 a2, .int .i64 a3, .int .i64 a4, .int .i64 a5], .agg #[.int .i64 b0, .int .i64 b1, .int .i64 b2, .int .i64 b3, .int .i64 b4, .int .i64 b5]] w fun e w' => e = .returned (.tuple #[.agg #[.int .i64 0, .int .i64 0, .int .i64 0, .int .i64 0, .int .i64 0, .int .i64 0], .bool false]) ∧ Below w.heap.size w w' := iope_any a0 a1 a2 a3 a4 a5 b0 b1 b2 b3 b4 b5 0 0 0 0 0 0 false (Lib.hid fun w g _ => behind_no0 a0 a1 a2 a3 a4 a5 b0 b1 b2 b3 b4 b5 _ (sh_ai a0 a1 a2 a3 a4 a5 hv) w) w
theorem iopen_n1 (a0 a1 a2 a3 a4 a5 : Int) (b0 b1 b2 b3 b4 b5 : Int) (hv : (ok a0 && ok a1 && ok a2 && ok a3 && ok a4 && ok a5) = true) (hc : (ok b0 && ok b1 && ok b2 && ok b3 && ok b4 && ok b5) = false) (w : World) : Calls Try.prog 326 #[.agg #[.int .i64 a0, .int .i64 a1, .int .i64 a2, .int .i64 a3, .int .i64 a4, .int .i64 a5], .agg #[.int .i64 b0, .int .i64 b1, .int .i64 b2, .int .i64 b3, .int .i64 b4, .int .i64 b5]] w fun e w' => e = .returned (.tuple #[.agg #[.int .i64 0, .int .i64 0, .int .i64 0, .int .i64 0, .int .i64 0, .int .i64 0], .bool false]) ∧ Below w.heap.size w w' := iope_any a0 a1 a2 a3 a4 a5 b0 b1 b2 b3 b4 b5 0 0 0 0 0 0 false (Lib.hid fun w g _ => behind_no1 a0 a1 a2 a3 a4 a5 b0 b1 b2 b3 b4 b5 _ (sh_ai a0 a1 a2 a3 a4 a5 hv) (sh_ai b0 b1 b2 b3 b4 b5 hc) w) w
/- Cb6 -/
theorem row_as (f : Fn6) (w : World) : Calls Try.prog 181 #[.agg #[.int .i64 (rowv (f 0)), .int .i64 (rowv (f 1)), .int .i64 (rowv (f 2)), .int .i64 (rowv (f 3)), .int .i64 (rowv (f 4)), .int .i64 (rowv (f 5))]] w fun e w' => e = .returned (.bool true) ∧ Below w.heap.size w w' := (sh_as _ _ _ _ _ _ (show (ok (rowv (f 0)) && ok (rowv (f 1)) && ok (rowv (f 2)) && ok (rowv (f 3)) && ok (rowv (f 4)) && ok (rowv (f 5))) = true by simp only [rowv_ok, Bool.and_self])).out w
/-- Rows of the two boxes and what the walk leaves below. -/
theorem two_boxes (w : World) (o o2 : Obj) {W0 : World} (hB0 : Below w.heap.size w W0) (q0 : W0.heap[w.heap.size]? = some o) (q1 : W0.heap[w.heap.size + 1]? = some o2) (hs : w.heap.size + 2 ≤ W0.heap.size) : KR 2 [(w.heap.size, o), (w.heap.size + 1, o2)] w W0 := ⟨by simp [q0, q1], hs, hB0⟩
def os (a0 a1 a2 a3 a4 a5 : Int) : Obj := .cells #[.int .i64 a0, .int .i64 a1, .int .i64 a2, .int .i64 a3, .int .i64 a4, .int .i64 a5] 28 (0, 0)
set_option maxHeartbeats 1000000 in
theorem iopen6_yes (p s : Fn6) (w : World) : Calls Try.prog 142 #[.agg #[.int .i64 (rowv (p 0)), .int .i64 (rowv (p 1)), .int .i64 (rowv (p 2)), .int .i64 (rowv (p 3)), .int .i64 (rowv (p 4)), .int .i64 (rowv (p 5))], .agg #[.int .i64 (rowv (s 0)), .int .i64 (rowv (s 1)), .int .i64 (rowv (s 2)), .int .i64 (rowv (s 3)), .int .i64 (rowv (s 4)), .int .i64 (rowv (s 5))]] w (LPb (bl (shr s p) 36) true w) := by
  have HF := Lib.hid (ishrink_c s p)
  have HG := Lib.hid (icells_f (shr s p))
  go_enter Try.func142, Try.ntmps142
  go_wp2_with fail
  generalize hW : (World.alloc _ _ : World) = W0
  have K0 : KR 2 [(w.heap.size, o6 p), (w.heap.size + 1, o6 s)] w W0 := by
    rw [← hW]
    exact two_boxes w _ _ (by (repeat (first | exact Below.refl _ _ | assumption | refine Below.setCell ?_ (by first | (simp; done) | (simp; omega)) _ | refine Below.alloc ?_ (by first | (simp; done) | (simp; omega)) _ | refine Below.drew ?_))) (alloc_past (alloc_at rfl)) (alloc_at (by simp)) (by simp)
  clear hW
  have a_c := fun j => cell_of_row W0 _ j _ _ _ (K0.row (g := w.heap.size) (o := o6 p) (by simp))
  have b_c := fun j => cell_of_row W0 _ j _ _ _ (K0.row (g := w.heap.size + 1) (o := o6 s) (by simp))
  go_wp2_with fail
  refine (HF.out _).mono ?_
  rintro e W1 ⟨rfl, hb⟩
  have HB := Lib.hid (K0.far hb rfl).2.2
  clear hb K0 a_c b_c
  go_wp2_with fail
  have HB2 := Lib.hid (HB.out.alloc HB.out.size (.cells #[.int .i64 (rowv (shr s p 0)), .int .i64 (rowv (shr s p 1)), .int .i64 (rowv (shr s p 2)), .int .i64 (rowv (shr s p 3)), .int .i64 (rowv (shr s p 4)), .int .i64 (rowv (shr s p 5))] 28))
  refine (HG.out _).mono ?_
  rintro e W3 ⟨g, cap, rfl, ho, hb⟩
  have HO := Lib.hid (own_mono ho HB2.out.size)
  have HB3 := Lib.hid (below_of HB2.out hb HB2.out.size)
  clear hb ho HB HB2
  go_wp2_with fail
  go_ret2
  exact ⟨g, cap, rfl, HO.out, HB3.out⟩
set_option maxHeartbeats 1000000 in
theorem iopen6_no (a0 a1 a2 a3 a4 a5 : Int) (b0 b1 b2 b3 b4 b5 : Int) (HF : Hid (∀ w, Calls Try.prog 78 #[.agg #[.int .i64 b0, .int .i64 b1, .int .i64 b2, .int .i64 b3, .int .i64 b4, .int .i64 b5], .agg #[.int .i64 a0, .int .i64 a1, .int .i64 a2, .int .i64 a3, .int .i64 a4, .int .i64 a5]] w fun e w' => e = .returned (.tuple #[.agg #[.int .i64 0, .int .i64 0, .int .i64 0, .int .i64 0, .int .i64 0, .int .i64 0], .bool false]) ∧ Below w.heap.size w w')) (w : World) : Calls Try.prog 142 #[.agg #[.int .i64 a0, .int .i64 a1, .int .i64 a2, .int .i64 a3, .int .i64 a4, .int .i64 a5], .agg #[.int .i64 b0, .int .i64 b1, .int .i64 b2, .int .i64 b3, .int .i64 b4, .int .i64 b5]] w (LPb [] false w) := by
  go_enter Try.func142, Try.ntmps142
  go_wp2_with fail
  generalize hW : (World.alloc _ _ : World) = W0
  have K0 : KR 2 [(w.heap.size, os a0 a1 a2 a3 a4 a5), (w.heap.size + 1, os b0 b1 b2 b3 b4 b5)] w W0 := by
    rw [← hW]
    exact two_boxes w _ _ (by (repeat (first | exact Below.refl _ _ | assumption | refine Below.setCell ?_ (by first | (simp; done) | (simp; omega)) _ | refine Below.alloc ?_ (by first | (simp; done) | (simp; omega)) _ | refine Below.drew ?_))) (alloc_past (alloc_at rfl)) (alloc_at (by simp)) (by simp)
  clear hW
  have a_c := fun j => cell_of_row W0 _ j _ _ _ (K0.row (g := w.heap.size) (o := os a0 a1 a2 a3 a4 a5) (by simp))
  have b_c := fun j => cell_of_row W0 _ j _ _ _ (K0.row (g := w.heap.size + 1) (o := os b0 b1 b2 b3 b4 b5) (by simp))
  go_wp2_with fail
  refine (HF.out _).mono ?_
  rintro e W1 ⟨rfl, hb⟩
  have HB := Lib.hid (K0.far hb rfl).2.2
  clear hb K0 a_c b_c
  go_wp2_with fail
  have HB2 := HB.out.alloc HB.out.size (.cells #[.int .i64 0, .int .i64 0, .int .i64 0, .int .i64 0, .int .i64 0, .int .i64 0] 28)
  go_ret2
  have h := World.ownsRow_lit (base := w.heap.size) (e := 47) (size := 2) (W1.alloc (.cells #[.int .i64 0, .int .i64 0, .int .i64 0, .int .i64 0, .int .i64 0, .int .i64 0] 28)) #[] 0 HB2.size (by unfold maxLen; omega) rfl
  rw [show (W1.alloc (.cells #[.int .i64 0, .int .i64 0, .int .i64 0, .int .i64 0, .int .i64 0, .int .i64 0] 28)).heap.size = W1.heap.size + 1 by simp] at h
  exact ⟨W1.heap.size + 1, 0, rfl, h, HB2.alloc HB2.size _⟩
end Go.Proofs.Ytkjaaaefcmpokaa
