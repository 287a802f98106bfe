/- CONTRACTS: rows as texts; SheetText, the code's. -/
import Derived.Test.YtjhokdccgachcaaZj
import Derived.Test.YtjhokdccgachcaaPi
import Derived.Test.YtjhokdccgachcaaSc
import Derived.Test.YtjhokdccgachcaaKp
import Derived.Test.YtjhokdccgachcaaBt
import Derived.RegionTactic
import Derived.Laws.IdiomStrings
import Derived.WalkKit
import Derived.ProofKit
import Derived.OpenShut
import Derived.Lib.Hide
import Derived.WalkSpells
import Derived.Below
import Derived.BigQuiet
import Derived.LoopN
namespace Go.Proofs.Ytjhokdccgachcaa
open Go.ChangeShapes Go.WideShapes Go.ChangeAt Go.RowKit
set_option linter.unusedVariables false
/-- A sheet as a map of cells. -/
abbrev F6 : Type := Nat → Nat → Bool
/-- Six cells. -/
def c6 (v : Nat → Value) (t : TypeId) : Obj := .cells #[v 0, v 1, v 2, v 3, v 4, v 5] t (0, 0)
theorem c6_set {W : World} {v v' : Nat → Value} {t : TypeId} {g y : Nat} (hy : y < 6) (hne : ∀ j, j < 6 → j ≠ y → v' j = v j) (h : W.heap[g]? = some (c6 v t)) : (W.setCell ⟨g, y, none⟩ (v' y)).heap[g]? = some (c6 v' t) := by
  have e := heap_setCell_same W g y _ t (v' y) h
  rw [e]
  rcases six_n hy with rfl | rfl | rfl | rfl | rfl | rfl
  · unfold c6
    rw [hne 1 (by decide) (by decide), hne 2 (by decide) (by decide), hne 3 (by decide) (by decide), hne 4 (by decide) (by decide), hne 5 (by decide) (by decide)]
    rfl
  · unfold c6
    rw [hne 0 (by decide) (by decide), hne 2 (by decide) (by decide), hne 3 (by decide) (by decide), hne 4 (by decide) (by decide), hne 5 (by decide) (by decide)]
    rfl
  · unfold c6
    rw [hne 0 (by decide) (by decide), hne 1 (by decide) (by decide), hne 3 (by decide) (by decide), hne 4 (by decide) (by decide), hne 5 (by decide) (by decide)]
    rfl
  · unfold c6
    rw [hne 0 (by decide) (by decide), hne 1 (by decide) (by decide), hne 2 (by decide) (by decide), hne 4 (by decide) (by decide), hne 5 (by decide) (by decide)]
    rfl
  · unfold c6
    rw [hne 0 (by decide) (by decide), hne 1 (by decide) (by decide), hne 2 (by decide) (by decide), hne 3 (by decide) (by decide), hne 5 (by decide) (by decide)]
    rfl
  · unfold c6
    rw [hne 0 (by decide) (by decide), hne 1 (by decide) (by decide), hne 2 (by decide) (by decide), hne 3 (by decide) (by decide), hne 4 (by decide) (by decide)]
    rfl
theorem c6_at {W : World} {v : Nat → Value} {t : TypeId} {g y : Nat} (hy : y < 6) (h : W.heap[g]? = some (c6 v t)) : W.cell? ⟨g, y, none⟩ = some (v y) := by
  have e := cell_of_row W g y _ _ _ h
  rw [e]
  rcases six_n hy with rfl | rfl | rfl | rfl | rfl | rfl <;> rfl
/-- The sign of a cell; a row as a text. -/
def sgb (b : Bool) : UInt8 := if b then 35 else 46
def rtl (g : Nat → Bool) : List UInt8 := [sgb (g 0), sgb (g 1), sgb (g 2), sgb (g 3), sgb (g 4), sgb (g 5)]
def rtx (g : Nat → Bool) : ByteArray := ⟨(rtl g).toArray⟩
/-- The bytes when i of them are laid. -/
def bv (g : Nat → Bool) (i : Nat) : Nat → Value := fun x => .int .u8 (if x < i then (if g x then 35 else 46) else 0)
def bw (g : Nat → Bool) (i : Nat) : Nat → Value := fun x => if x = i then .int .u8 46 else bv g i x
theorem bw_no {g : Nat → Bool} {i : Nat} (h : g i = false) (j : Nat) : bw g i j = bv g (i + 1) j := by
  unfold bw bv
  by_cases e : j = i
  · subst e; simp [h]
  · have : (j < i + 1) ↔ (j < i) := by omega
    simp [e, this]
theorem made6 (z : Value) : madeCells #[z] 6 = #[z, z, z, z, z, z] := by
  apply Array.ext
  · rw [size_madeCells]; rfl
  · intro i h1 h2
    have hi : i < 6 := h2
    rcases six_n hi with rfl | rfl | rfl | rfl | rfl | rfl <;> simp [madeCells]
theorem infoB : (Try.prog.info? 5).map (fun i => (i.zero, i.size, i.bytes)) = some (some (.int .u8 0), 1, 1) := by kernel_rfl
theorem make_b (g : Nat → Bool) (w : World) : (Instr.makeSlice 43 (.int .i64 6) (.int .i64 6)).run Try.prog w = .ok (.slice (some ⟨w.heap.size, 0, none⟩) 6 6) (w.alloc (c6 (bv g 0) 5)) := by
  obtain ⟨i0, hi, hz⟩ : ∃ i0, Try.prog.info? 5 = some i0 ∧ (i0.zero, i0.size, i0.bytes) = (some (.int .u8 0), 1, 1) := by
    have h := infoB
    cases hh : Try.prog.info? 5 with
    | none => rw [hh] at h; simp at h
    | some i0 => rw [hh] at h; exact ⟨i0, rfl, by simpa using h⟩
  simp only [Prod.mk.injEq] at hz
  obtain ⟨hz0, hz1, hz2⟩ := hz
  have h := run_make w 43 5 i0 (.int .u8 0) Try.underlying43 hi hz0 .i64 .i64 6 6 (by decide) (by decide) (by rw [hz2]; decide) (by decide)
  rw [hz1] at h
  have hm : madeCells (Value.int .u8 0).cells (Int.toNat 6 * 1) = #[.int .u8 0, .int .u8 0, .int .u8 0, .int .u8 0, .int .u8 0, .int .u8 0] := by
    have hc : (Value.int .u8 0).cells = #[.int .u8 0] := by simp [Value.cells]
    rw [hc]; exact made6 _
  rw [hm] at h
  exact h
theorem infoT : (Try.prog.info? 9).map (fun i => (i.zero, i.size, i.bytes)) = some (some (.string ⟨#[]⟩), 1, 16) := by kernel_rfl
/-- The rows when i of them are laid. -/
def sv6 (s : F6) (i : Nat) : Nat → Value := fun y => .string (if y < i then rtx (s y) else ⟨#[]⟩)
theorem make_s (s : F6) (w : World) : (Instr.makeSlice 113 (.int .i64 6) (.int .i64 6)).run Try.prog w = .ok (.slice (some ⟨w.heap.size, 0, none⟩) 6 6) (w.alloc (c6 (sv6 s 0) 9)) := by
  obtain ⟨i0, hi, hz⟩ : ∃ i0, Try.prog.info? 9 = some i0 ∧ (i0.zero, i0.size, i0.bytes) = (some (.string ⟨#[]⟩), 1, 16) := by
    have h := infoT
    cases hh : Try.prog.info? 9 with
    | none => rw [hh] at h; simp at h
    | some i0 => rw [hh] at h; exact ⟨i0, rfl, by simpa using h⟩
  simp only [Prod.mk.injEq] at hz
  obtain ⟨hz0, hz1, hz2⟩ := hz
  have h := run_make w 113 9 i0 (.string ⟨#[]⟩) Try.underlying113 hi hz0 .i64 .i64 6 6 (by decide) (by decide) (by rw [hz2]; decide) (by decide)
  rw [hz1] at h
  have hm : madeCells (Value.string ⟨#[]⟩).cells (Int.toNat 6 * 1) = #[.string ⟨#[]⟩, .string ⟨#[]⟩, .string ⟨#[]⟩, .string ⟨#[]⟩, .string ⟨#[]⟩, .string ⟨#[]⟩] := by
    have hc : (Value.string ⟨#[]⟩).cells = #[.string ⟨#[]⟩] := by simp [Value.cells]
    rw [hc]; exact made6 _
  rw [hm] at h
  exact h
theorem conv_b (g : Nat → Bool) (gb : Nat) (W : World) (h : W.heap[gb]? = some (c6 (bv g 6) 5)) : (convert 43 9 (.slice (some ⟨gb, 0, none⟩) 6 6)).run Try.prog W = .ok (.string (rtx g)) W := by
  have hl : (rtl g).length = 6 := rfl
  have e := run_convert_bytes_back (P := Try.prog) W 43 9 5 ⟨gb, 0, none⟩ 6 (rtl g) Try.underlying43 Try.underlying5 Try.underlying9 (fun j hj => by
    have hj6 : j < 6 := hj
    have hc := c6_at hj6 h
    have hz : (⟨gb, 0, none⟩ : Addr).add j = ⟨gb, j, none⟩ := by
      unfold Addr.add
      by_cases h0 : j = 0
      · subst h0; rfl
      · simp [h0]
    rw [hz, hc]
    rcases six_n hj6 with rfl | rfl | rfl | rfl | rfl | rfl <;> (simp only [bv, rtl, sgb]; split <;> (try split) <;> first | rfl | omega | simp_all))
  exact e
set_option maxRecDepth 8000 in
set_option maxHeartbeats 1000000 in
theorem rtext_f (g : Nat → Bool) (w : World) : Calls Try.prog 126 #[.int .i64 (rowv g)] w fun e w' => e = .returned (.string (rtx g)) ∧ Below w.heap.size w w' := by
  have hmk := make_b g
  go_enter Try.func126, Try.ntmps126
  go_wp2_with fail
  have S0 : Hid ((w.alloc (c6 (bv g 0) 5)).heap[w.heap.size]? = some (c6 (bv g 0) 5) ∧ Below w.heap.size w (w.alloc (c6 (bv g 0) 5))) := Lib.hid ⟨alloc_at rfl, by (repeat (first | exact Below.refl _ _ | assumption | refine Below.setCell ?_ (by first | (simp; done) | (simp; omega)) _ | refine Below.alloc ?_ (by first | (simp; done) | (simp; omega)) _ | refine Below.drew ?_))⟩
  generalize (World.alloc _ _ : World) = W0 at S0 ⊢
  clear hmk
  go_loopw [8] (fun c wr => ∃ i : Nat, i ≤ 6 ∧ c = .int .i64 i ∧ Hid (wr.heap[w.heap.size]? = some (c6 (bv g i) 5) ∧ Below w.heap.size w wr)) (fun c _ => 6 - (intOf c).toNat)
  case atStart => exact ⟨0, by omega, rfl, S0⟩
  case round =>
    obtain ⟨i, hi, rfl, HS⟩ := hrel
    by_cases hlt : i < 6
    · have hlt' : (i : Int) < 6 := by omega
      have hi0 : (0 : Int) ≤ i := by omega
      have b_y := c6_at hlt HS.out.1
      have b_f := fun j => frozen_of_row wr _ j _ _ HS.out.1
      have hb := rowv_get g hlt
      have H1 := c6_set (v' := bw g i) hlt (fun j _ hj => by unfold bw; rw [if_neg hj]) HS.out.1
      have e1 : bw g i i = .int .u8 46 := by unfold bw; rw [if_pos rfl]
      rw [e1] at H1
      cases hg : g i
      · rw [hg] at hb
        have HD : Hid _ := Lib.hid (And.intro H1 (And.intro (c6_at hlt H1) (show Below w.heap.size w (wr.setCell ⟨w.heap.size, i, none⟩ (.int .u8 46)) by have := HS.out.2; (repeat (first | exact Below.refl _ _ | assumption | refine Below.setCell ?_ (by first | (simp; done) | (simp; omega)) _ | refine Below.alloc ?_ (by first | (simp; done) | (simp; omega)) _ | refine Below.drew ?_)))))
        clear H1
        go_wp2_with fail
        refine ⟨⟨i + 1, by omega, rfl, Lib.hid ⟨?_, HD.out.2.2⟩⟩, ?_⟩
        · have := HD.out.1
          rw [this]
          exact congrArg some (by unfold c6; rw [bw_no hg, bw_no hg, bw_no hg, bw_no hg, bw_no hg, bw_no hg])
        · show 6 - ((i : Int) + 1).toNat < 6 - (i : Int).toNat
          omega
      · rw [hg] at hb
        have H2 := c6_set (v' := bv g (i + 1)) hlt (fun j _ hj => by unfold bw bv; rw [if_neg hj]; have : (j < i + 1) ↔ (j < i) := by omega
                                                                     simp only [this]) H1
        have e2 : bv g (i + 1) i = .int .u8 35 := by unfold bv; rw [if_pos (by omega), if_pos hg]
        rw [e2] at H2
        have b_f2 := fun j => frozen_of_row _ _ j _ _ H1
        have b_y2 := c6_at hlt H1
        go_wp2_with fail
        refine ⟨⟨i + 1, by omega, rfl, Lib.hid ⟨H2, ?_⟩⟩, ?_⟩
        · have := HS.out.2; (repeat (first | exact Below.refl _ _ | assumption | refine Below.setCell ?_ (by first | (simp; done) | (simp; omega)) _ | refine Below.alloc ?_ (by first | (simp; done) | (simp; omega)) _ | refine Below.drew ?_))
        · show 6 - ((i : Int) + 1).toNat < 6 - (i : Int).toNat
          omega
    · have e6 : i = 6 := by omega
      subst e6
      have hC := conv_b g w.heap.size wr HS.out.1
      go_wp2_with fail
      (try rw [Exit.noGoto_ret])
      go_ret
      exact ⟨rfl, HS.out.2⟩
end Go.Proofs.Ytjhokdccgachcaa
