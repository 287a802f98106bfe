/- CONTRACTS: all black cells of a sheet, in the model and in the code. -/
import Derived.Test.YtnkjamdpafpcpaaTd
import Derived.Test.YtnkjamdpafpcpaaPb
import Derived.Maps.AppendAt
import Derived.OwnWalk
import Derived.WalkKit
import Derived.ProofKit
import Derived.OpenShut
import Derived.Lib.Hide
import Derived.WalkSpells
import Derived.Below
import Derived.BigQuiet
import Derived.LoopN
namespace Go.Proofs.Ytnkjamdpafpcpaa
open Go.ChangeShapes Go.WideShapes Go.ChangeAt Go.RowKit
set_option linter.unusedVariables false
/-- The black ones of the first p cells of f, in order: column and row. -/
def bl (f : Nat → Nat → Bool) : Nat → List (Nat × Nat)
  | 0 => []
  | p + 1 => bl f p ++ (if f (p / 6) (p % 6) then [(p % 6, p / 6)] else [])
def cv (l : List (Nat × Nat)) : List Value := l.flatMap fun c => [.int .i64 (c.1 : Int), .int .i64 (c.2 : Int)]
theorem bl_len (f : Nat → Nat → Bool) : ∀ p, (bl f p).length ≤ p
  | 0 => Nat.le_refl _
  | p + 1 => by
    have := bl_len f p
    rw [bl, List.length_append]
    split <;> simp <;> omega
theorem bl_no (f : Nat → Nat → Bool) {y x : Nat} (hx : x < 6) (h : f y x = false) : bl f (6 * y + x + 1) = bl f (6 * y + x) := by
  rw [bl, show (6 * y + x) / 6 = y by omega, show (6 * y + x) % 6 = x by omega, h]
  simp
theorem bl_yes (f : Nat → Nat → Bool) {y x : Nat} (hx : x < 6) (h : f y x = true) : bl f (6 * y + x + 1) = bl f (6 * y + x) ++ [(x, y)] := by
  rw [bl, show (6 * y + x) / 6 = y by omega, show (6 * y + x) % 6 = x by omega, h]
  simp
theorem cv_len (l : List (Nat × Nat)) : (cv l).length = l.length * 2 := by
  induction l with
  | nil => rfl
  | cons a l ih =>
    have e : cv (a :: l) = [.int .i64 (a.1 : Int), .int .i64 (a.2 : Int)] ++ cv l := rfl
    rw [e, List.length_append, ih]
    simp; omega
theorem cv_snoc (l : List (Nat × Nat)) (x y : Nat) : cv (l ++ [(x, y)]) = cv l ++ [.int .i64 (x : Int), .int .i64 (y : Int)] := by simp [cv]
theorem info44 : (Try.prog.info? 69).map (fun i => (i.zero, i.size, i.bytes)) = some (some (.agg #[.int .i64 0, .int .i64 0]), 2, 16) := by kernel_rfl
/-- Midway: the slice of the black ones of the first p cells, and the sheet f in the first block. -/
def Rc (w : World) (f : Nat → Nat → Bool) (p : Nat) (v : Value) (W : World) : Prop :=
  ∃ g cap, v = .slice (some ⟨g, 0, none⟩) (bl f p).length cap ∧ W.ownsRow (w.heap.size + 1) 69 2 v (bl f p).length (cv (bl f p)) ∧ W.heap[w.heap.size]? = some (.cells #[.int .i64 (rowv (f 0)), .int .i64 (rowv (f 1)), .int .i64 (rowv (f 2)), .int .i64 (rowv (f 3)), .int .i64 (rowv (f 4)), .int .i64 (rowv (f 5))] 28 (0, 0)) ∧ Below w.heap.size w W ∧ w.heap.size + 1 ≤ W.heap.size
theorem grown_below {N : Nat} {W W' : World} (hb : Below N W W') (hN : N = W.heap.size) : W.grownBy W' none := ⟨hb.os, hb.tape, hb.output, hb.size, fun k hk _ => hb.block k (by omega)⟩
theorem Rc.below {w W W' : World} {f : Nat → Nat → Bool} {p : Nat} {v : Value} {N : Nat} (h : Rc w f p v W) (hb : Below N W W') (hN : N = W.heap.size) : Rc w f p v W' := by
  obtain ⟨g, cap, h1, h2, h3, h4, h5⟩ := h
  refine ⟨g, cap, h1, h2.kept (grown_below hb hN) (.inr (by rw [h1]; simp [Value.ownBlock])), rowk h3 hb hN, below_of h4 hb (by omega), ?_⟩
  exact Nat.le_trans h5 hb.size
theorem Rc.alloc {w W : World} {f : Nat → Nat → Bool} {p : Nat} {v : Value} (h : Rc w f p v W) (o : Obj) : Rc w f p v (W.alloc o) := h.below (N := W.heap.size) ((Below.refl _ _).alloc (Nat.le_refl _) o) rfl
theorem Rc.no {w W : World} {f : Nat → Nat → Bool} {y x : Nat} {v : Value} (h : Rc w f (6 * y + x) v W) (hx : x < 6) (hf : f y x = false) : Rc w f (6 * y + x + 1) v W := by
  unfold Rc at h ⊢
  rw [bl_no f hx hf]
  exact h
theorem Rc.yes {w W w1 : World} {f : Nat → Nat → Bool} {y x : Nat} {v v' : Value} (h : Rc w f (6 * y + x) v W) (hx : x < 6) (hf : f y x = true) (hown : w1.ownsRow (w.heap.size + 1) 69 2 v' ((bl f (6 * y + x)).length + 1) (cv (bl f (6 * y + x)) ++ [.int .i64 (x : Int), .int .i64 (y : Int)])) (hg : W.grownBy w1 v.ownBlock) (hn : v' = .slice none 0 0 ↔ v = .slice none 0 0 ∧ 1 = 0) : Rc w f (6 * y + x + 1) v' w1 := by
  obtain ⟨g, cap, h1, h2, h3, h4, h5⟩ := h
  rcases hown.2 with ⟨e, _⟩ | ⟨g2, cap2, cur, e, hr⟩
  · exact absurd (hn.mp e).2 (by decide)
  · unfold Rc
    have el : (bl f (6 * y + x + 1)).length = (bl f (6 * y + x)).length + 1 := by rw [bl_yes f hx hf]; simp
    have ec : cv (bl f (6 * y + x + 1)) = cv (bl f (6 * y + x)) ++ [.int .i64 (x : Int), .int .i64 (y : Int)] := by rw [bl_yes f hx hf, cv_snoc]
    rw [el, ec]
    have hlt := h2.lt
    have hb : Below w.heap.size w w1 := h4.grown hg (by omega) (fun k hk => by have := (hlt k hk).1; omega)
    refine ⟨g2, cap2, e, hown, ?_, hb, Nat.le_trans h5 hg.size⟩
    rw [hg.block _ (by omega) (fun e2 => by have := (hlt _ e2.symm).1; omega)]
    exact h3
theorem two_new (W : World) (u0 u1 : Value) (t : TypeId) (j : Nat) (u : Value) (h : ([u0, u1] : List Value)[j]? = some u) : (W.alloc (.cells #[u0, u1] t)).cell? ((⟨W.heap.size, 0, none⟩ : Addr).add j) = some u := by
  rcases j with _ | _ | j
  · simp only [List.getElem?_cons_zero, Option.some.injEq] at h; subst h; go_simp
  · simp at h; subst h; go_simp
  · simp at h
theorem ints_one (a b : Int) : ∀ u ∈ ([.int .i64 a, .int .i64 b] : List Value), u.oneCell' = true := by intro u hu; simp at hu; rcases hu with rfl | rfl <;> rfl
theorem Rc.start (w : World) (f : Nat → Nat → Bool) : Rc w f 0 (.slice (some ⟨w.heap.size + 1, 0, none⟩) 0 0) ((w.alloc (.cells #[.int .i64 (rowv (f 0)), .int .i64 (rowv (f 1)), .int .i64 (rowv (f 2)), .int .i64 (rowv (f 3)), .int .i64 (rowv (f 4)), .int .i64 (rowv (f 5))] 28)).alloc (.cells #[] 69)) := by
  refine ⟨w.heap.size + 1, 0, rfl, ?_, alloc_past (alloc_at rfl), by (repeat (first | exact Below.refl _ _ | assumption | refine Below.setCell ?_ (by first | (simp; done) | (simp; omega)) _ | refine Below.alloc ?_ (by first | (simp; done) | (simp; omega)) _ | refine Below.drew ?_)), by simp⟩
  have h := World.ownsRow_lit (base := w.heap.size + 1) (e := 69) (size := 2) (w.alloc (.cells #[.int .i64 (rowv (f 0)), .int .i64 (rowv (f 1)), .int .i64 (rowv (f 2)), .int .i64 (rowv (f 3)), .int .i64 (rowv (f 4)), .int .i64 (rowv (f 5))] 28)) #[] 0 (by simp) (by unfold maxLen; omega) rfl
  rw [show (w.alloc (.cells #[.int .i64 (rowv (f 0)), .int .i64 (rowv (f 1)), .int .i64 (rowv (f 2)), .int .i64 (rowv (f 3)), .int .i64 (rowv (f 4)), .int .i64 (rowv (f 5))] 28)).heap.size = w.heap.size + 1 by simp] at h
  exact h
theorem Rc.post {w W : World} {f : Nat → Nat → Bool} {v : Value} (h : Rc w f 36 v W) : ∃ g cap, v = .slice (some ⟨g, 0, none⟩) (bl f 36).length cap ∧ W.ownsRow w.heap.size 69 2 (.slice (some ⟨g, 0, none⟩) (bl f 36).length cap) (bl f 36).length (cv (bl f 36)) ∧ Below w.heap.size w W := by
  obtain ⟨g, cap, h1, h2, h3, h4, h5⟩ := h
  subst h1
  refine ⟨g, cap, rfl, ⟨h2.1, ?_⟩, h4⟩
  rcases h2.2 with ⟨e, _⟩ | ⟨g2, cap2, cur, e, hb, hr⟩
  · exact absurd e (by simp)
  · exact .inr ⟨g2, cap2, cur, e, by omega, hr⟩
def CsPost (f : Nat → Nat → Bool) (w : World) (e : Ending) (w' : World) : Prop := ∃ g cap, e = .returned (.slice (some ⟨g, 0, none⟩) (bl f 36).length cap) ∧ w'.ownsRow w.heap.size 69 2 (.slice (some ⟨g, 0, none⟩) (bl f 36).length cap) (bl f 36).length (cv (bl f 36)) ∧ Below w.heap.size w w'
set_option maxHeartbeats 4000000 in
theorem lcells_f (f : Nat → Nat → Bool) (w : World) : Calls Try.prog 169 #[.agg #[.int .i64 (rowv (f 0)), .int .i64 (rowv (f 1)), .int .i64 (rowv (f 2)), .int .i64 (rowv (f 3)), .int .i64 (rowv (f 4)), .int .i64 (rowv (f 5))]] w (CsPost f w) := by
  obtain ⟨i0, hi, hz0, hz1, hz2⟩ := info_parts info44
  go_enter Try.func169, Try.ntmps169
  go_wp2_with fail
  have S0 := Lib.hid (Rc.start w f)
  generalize (World.alloc _ _ : World) = W0 at S0 ⊢
  generalize hv0 : (Value.slice (some ⟨w.heap.size + 1, 0, none⟩) 0 0) = v0 at S0 ⊢
  clear hv0
  go_loopw [3, 4] (fun v y wr => ∃ j : Nat, j ≤ 6 ∧ y = .int .i64 j ∧ Hid (Rc w f (6 * j) v wr)) (fun _ y _ => 6 - (intOf y).toNat)
  case atStart => exact ⟨0, by omega, rfl, S0⟩
  case round =>
    obtain ⟨j, hj, rfl, HS⟩ := hrel
    by_cases hlt : j < 6
    · have hlt' : (j : Int) < 6 := by omega
      have hlt2 : decide ((j : Int) < 6) = true := decide_eq_true hlt'
      go_wp2_with fail
      try rw [hlt2]
      clear hlt2
      go_loopw [3, 5] (fun v x wr2 => ∃ i : Nat, i ≤ 6 ∧ x = .int .i64 i ∧ Hid (Rc w f (6 * j + i) v wr2)) (fun _ x _ => 6 - (intOf x).toNat)
      case atStart => exact ⟨0, by omega, rfl, HS⟩
      case round =>
        obtain ⟨i, hi6, rfl, HI⟩ := hrel
        by_cases hli : i < 6
        · have hli' : (i : Int) < 6 := by omega
          have HX := HI.out
          obtain ⟨g, cap, rfl, ho, h3, h4, h5⟩ := HX
          have a_c := fun j => cell_of_row wr _ j _ _ _ h3
          have HG := Lib.hid (get_f f hlt hli)
          clear ho h3 h4 h5
          go_wp2_with fail
          refine (HG.out _).mono ?_
          rintro e W2 ⟨rfl, hb⟩
          have HJ := Lib.hid (HI.out.below hb rfl)
          clear hb HI HG a_c
          cases hf : f j i
          · go_wp2_with fail
            go_roundw
            case rel => exact ⟨i + 1, by omega, by go_num, Lib.hid (HJ.out.no hli hf)⟩
            case measure => simp [intOf]; omega
          · obtain ⟨_, _, _, ho, _, _, HS1⟩ := HJ.out
            have HO := ho.kept (grown_below ((Below.refl _ _).alloc (Nat.le_refl _) (.cells #[.int .i64 (i : Int), .int .i64 (j : Int)] 69)) rfl) (.inr (by simp [Value.ownBlock]))
            have HY := Lib.hid (HJ.out.alloc (.cells #[.int .i64 (i : Int), .int .i64 (j : Int)] 69))
            have HL := bl_len f (6 * j + i)
            clear ho HJ
            go_wp2_with (at_builtin; refine wpList_append_own _ rfl _ _ 86 rfl (w.heap.size + 1) 69 i0 (.agg #[.int .i64 0, .int .i64 0]) 2 16 Try.underlying86 hi hz0 hz1 hz2 rfl (by decide) _ _ _ rfl HO ⟨W2.heap.size, 0, none⟩ 1 1 [.int .i64 (i : Int), .int .i64 (j : Int)] rfl rfl (two_new _ _ _ _) (ints_one _ _) (by have := HL; unfold maxLen; omega) (by have := HL; omega) (by have := HS1; simp; omega) ?_; intro v' w1 hown' hgrow hnn; have R := Lib.hid (HY.out.yes hli hf hown' hgrow hnn); clear hown' hgrow hnn HY HO HL HS1)
            go_roundw
            case rel => exact ⟨i + 1, by omega, by go_num, R⟩
            case measure => simp [intOf]; omega
        · obtain rfl : i = 6 := by omega
          clear hi hz0 hz1 hz2
          go_wp2_with fail
          go_roundw
          case rel => exact ⟨j + 1, by omega, by go_num, Lib.hid HI.out⟩
          case measure => simp [intOf]; omega
    · obtain rfl : j = 6 := by omega
      obtain ⟨g, cap, rfl, h2, h3⟩ := HS.out.post
      have H2 := Lib.hid h2
      have H3 := Lib.hid h3
      clear h2 h3 HS
      go_wp2_with fail
      go_ret
      exact ⟨g, cap, rfl, H2.out, H3.out⟩
end Go.Proofs.Ytnkjamdpafpcpaa
