/- PLAIN LEMMAS: rows of a picture as texts; six strings under construction. -/
import Derived.Test.YtcjomhjgjdjigaaZj
import Derived.Test.YtcjomhjgjdjigaaPi
import Derived.Test.YtcjomhjgjdjigaaSc
import Derived.Test.YtcjomhjgjdjigaaKp
import Derived.Test.YtcjomhjgjdjigaaBt
import Derived.WalkKit
import Derived.ProofKit
import Derived.OpenShut
import Derived.Lib.Hide
import Derived.WalkSpells
import Derived.Below
import Derived.BigQuiet
import Derived.LoopN
namespace Go.Proofs.Ytcjomhjgjdjigaa
open Go.ChangeShapes Go.WideShapes Go.ChangeAt Go.RowKit
set_option linter.unusedVariables false
/-- Six cells. -/
def c6 (v : Nat → Value) (t : TypeId) : Obj := .cells #[v 0, v 1, v 2, v 3, v 4, v 5] t (0, 0)
theorem c6_set {W : World} {v v' : Nat → Value} {t : TypeId} {g y : Nat} (hy : y < 6) (hne : ∀ j, j < 6 → j ≠ y → v' j = v j) (h : W.heap[g]? = some (c6 v t)) : (W.setCell ⟨g, y, none⟩ (v' y)).heap[g]? = some (c6 v' t) := by
  have e := heap_setCell_same W g y _ t (v' y) h
  rw [e]
  rcases six_n hy with rfl | rfl | rfl | rfl | rfl | rfl
  · unfold c6
    rw [hne 1 (by decide) (by decide), hne 2 (by decide) (by decide), hne 3 (by decide) (by decide), hne 4 (by decide) (by decide), hne 5 (by decide) (by decide)]
    rfl
  · unfold c6
    rw [hne 0 (by decide) (by decide), hne 2 (by decide) (by decide), hne 3 (by decide) (by decide), hne 4 (by decide) (by decide), hne 5 (by decide) (by decide)]
    rfl
  · unfold c6
    rw [hne 0 (by decide) (by decide), hne 1 (by decide) (by decide), hne 3 (by decide) (by decide), hne 4 (by decide) (by decide), hne 5 (by decide) (by decide)]
    rfl
  · unfold c6
    rw [hne 0 (by decide) (by decide), hne 1 (by decide) (by decide), hne 2 (by decide) (by decide), hne 4 (by decide) (by decide), hne 5 (by decide) (by decide)]
    rfl
  · unfold c6
    rw [hne 0 (by decide) (by decide), hne 1 (by decide) (by decide), hne 2 (by decide) (by decide), hne 3 (by decide) (by decide), hne 5 (by decide) (by decide)]
    rfl
  · unfold c6
    rw [hne 0 (by decide) (by decide), hne 1 (by decide) (by decide), hne 2 (by decide) (by decide), hne 3 (by decide) (by decide), hne 4 (by decide) (by decide)]
    rfl
theorem c6_at {W : World} {v : Nat → Value} {t : TypeId} {g y : Nat} (hy : y < 6) (h : W.heap[g]? = some (c6 v t)) : W.cell? ⟨g, y, none⟩ = some (v y) := by
  have e := cell_of_row W g y _ _ _ h
  rw [e]
  rcases six_n hy with rfl | rfl | rfl | rfl | rfl | rfl <;> rfl
/-- The sign of an ink; a text with x signs of a row behind it. -/
def sg (v : Int) : UInt8 := if v = 1 then 49 else if v = 2 then 50 else if v = 3 then 51 else if v = 4 then 52 else 46
def qx (b : ByteArray) (g : Nat → Int) : Nat → ByteArray
  | 0 => b
  | x + 1 => qx b g x ++ ⟨#[sg (g x)]⟩
theorem qx_add (b : ByteArray) (g : Nat → Int) : ∀ x, qx b g x = b ++ qx ⟨#[]⟩ g x
  | 0 => by apply ByteArray.ext; simp [qx, ByteArray.data_append]
  | x + 1 => by
    rw [qx, qx, qx_add b g x]
    apply ByteArray.ext
    simp [ByteArray.data_append]
theorem qx_size (b : ByteArray) (g : Nat → Int) : ∀ x, (qx b g x).size = b.size + x
  | 0 => rfl
  | x + 1 => by
    rw [qx, ByteArray.size_append, qx_size b g x]
    show b.size + x + 1 = _
    omega
theorem sg_47 (v : Int) : sg v ≠ 47 := by
  unfold sg
  split
  · decide
  · split
    · decide
    · split
      · decide
      · split <;> decide
theorem qx_47 (g : Nat → Int) : ∀ x, (47 : UInt8) ∉ (qx ⟨#[]⟩ g x).data.toList
  | 0 => by simp [qx]
  | x + 1 => by
    rw [qx, ByteArray.data_append, Array.toList_append, List.mem_append]
    rintro (h | h)
    · exact qx_47 g x h
    · simp only [List.mem_cons, List.not_mem_nil, or_false] at h
      exact sg_47 _ h.symm
/-- A row of a picture; its text; the rows as texts; the text of a picture. -/
def rw8 (m : Nat → Int) (y : Nat) : Nat → Int := fun x => m (y * 6 + x)
def rtx (g : Nat → Int) : ByteArray := qx ⟨#[]⟩ g 6
theorem rtx_size (g : Nat → Int) : (rtx g).size = 6 := by unfold rtx; rw [qx_size]; rfl
theorem rtx_has (g : Nat → Int) : Zi.has 47 (rtx g) = false := by
  unfold Zi.has
  rw [decide_eq_false_iff_not]
  exact qx_47 g 6
def rx8 (m : Nat → Int) : List ByteArray := [rtx (rw8 m 0), rtx (rw8 m 1), rtx (rw8 m 2), rtx (rw8 m 3), rtx (rw8 m 4), rtx (rw8 m 5)]
theorem rx8_len (m : Nat → Int) : (rx8 m).length = 6 := rfl
theorem rx8_get (m : Nat → Int) {j : Nat} {x : ByteArray} (h : (rx8 m)[j]? = some x) : j < 6 ∧ x = rtx (rw8 m j) := by
  have hj : j < 6 := (List.getElem?_eq_some_iff.1 h).1
  refine ⟨hj, ?_⟩
  rcases six_n hj with rfl | rfl | rfl | rfl | rfl | rfl <;> (simp [rx8] at h; exact h.symm)
theorem rx8_at (m : Nat → Int) {y : Nat} (hy : y < 6) : (rx8 m)[y]? = some (rtx (rw8 m y)) := by
  rcases six_n hy with rfl | rfl | rfl | rfl | rfl | rfl <;> rfl
theorem can_of6 {c : UInt8} : ∀ (xs : List ByteArray) (L : Int), (∀ x ∈ xs, Zi.has c x = false) → L + (xs.map fun x => (x.size : Int) + 1).sum ≤ 4000 → Zi.canFrom c xs L = true
  | [], _, _, _ => rfl
  | x :: r, L, h, hl => by
    have hs : ∀ l : List ByteArray, 0 ≤ (l.map fun x => (x.size : Int) + 1).sum := by
      intro l
      induction l with
      | nil => simp
      | cons a r ih => simp only [List.map_cons, List.sum_cons]; omega
    have := hs r
    simp only [List.map_cons, List.sum_cons] at hl
    rw [Zi.canFrom, if_neg (by omega), if_neg (by rw [h x (by simp)]; simp)]
    exact can_of6 r _ (fun y hy => h y (by simp [hy])) (by omega)
theorem rx8_can (m : Nat → Int) : Zi.canFrom 47 (rx8 m) (-1) = true := by
  refine can_of6 _ _ (fun x hx => ?_) ?_
  · unfold rx8 at hx
    simp only [List.mem_cons, List.not_mem_nil, or_false] at hx
    rcases hx with rfl | rfl | rfl | rfl | rfl | rfl <;> exact rtx_has _
  · unfold rx8
    simp only [List.map_cons, List.map_nil, List.sum_cons, List.sum_nil, rtx_size]
    decide
def pgt (m : Nat → Int) : ByteArray := Zi.jn (rx8 m) 47 6
/-- The rows when p cells are laid. -/
def sv8 (m : Nat → Int) (p : Nat) : Nat → Value := fun y => .string (qx ⟨#[]⟩ (rw8 m y) (min 6 (p - 6 * y)))
theorem sv8_zero (m : Nat → Int) : c6 (sv8 m 0) 9 = .cells #[.string ⟨#[]⟩, .string ⟨#[]⟩, .string ⟨#[]⟩, .string ⟨#[]⟩, .string ⟨#[]⟩, .string ⟨#[]⟩] 9 (0, 0) := by
  have h : ∀ y, sv8 m 0 y = .string ⟨#[]⟩ := fun y => by
    unfold sv8
    have e : min 6 (0 - 6 * y) = 0 := by omega
    rw [e]; rfl
  unfold c6
  rw [h, h, h, h, h, h]
theorem sv8_to (m : Nat → Int) {x y j : Nat} (hx : x < 6) (h : j ≠ y) : sv8 m (6 * y + (x + 1)) j = sv8 m (6 * y + x) j := by
  unfold sv8
  have e : min 6 (6 * y + (x + 1) - 6 * j) = min 6 (6 * y + x - 6 * j) := by omega
  rw [e]
theorem sv8_is (m : Nat → Int) {x y : Nat} (hx : x ≤ 6) : sv8 m (6 * y + x) y = .string (qx ⟨#[]⟩ (rw8 m y) x) := by
  unfold sv8
  have e : min 6 (6 * y + x - 6 * y) = x := by omega
  rw [e]
theorem sv8_next (m : Nat → Int) {x y : Nat} (hx : x < 6) : sv8 m (6 * y + (x + 1)) y = .string (qx ⟨#[]⟩ (rw8 m y) x ++ ⟨#[sg (m (y * 6 + x))]⟩) := by
  rw [sv8_is m (by omega)]; rfl
theorem sv8_end (m : Nat → Int) {y : Nat} (hy : y < 6) : sv8 m (6 * 6) y = .string (rtx (rw8 m y)) := by
  unfold sv8 rtx
  have e : min 6 (6 * 6 - 6 * y) = 6 := by omega
  rw [e]
theorem rd_8 (m : Nat → Int) (gs : Nat) (W : World) (h : W.heap[gs]? = some (c6 (sv8 m (6 * 6)) 9)) : Zi.RdS W gs 0 (rx8 m) := fun j x hx => by
  obtain ⟨hj, rfl⟩ := rx8_get m hx
  rw [Nat.zero_add, c6_at hj h, sv8_end m hj]
theorem made6 (z : Value) : madeCells #[z] 6 = #[z, z, z, z, z, z] := by
  apply Array.ext
  · rw [size_madeCells]; rfl
  · intro i h1 h2
    have hi : i < 6 := h2
    rcases six_n hi with rfl | rfl | rfl | rfl | rfl | rfl <;> simp [madeCells]
theorem infoT : (Try.prog.info? 9).map (fun i => (i.zero, i.size, i.bytes)) = some (some (.string ⟨#[]⟩), 1, 16) := by kernel_rfl
theorem make_s8 (m : Nat → Int) (w : World) : (Instr.makeSlice 113 (.int .i64 6) (.int .i64 6)).run Try.prog w = .ok (.slice (some ⟨w.heap.size, 0, none⟩) 6 6) (w.alloc (c6 (sv8 m 0) 9)) := by
  obtain ⟨i0, hi, hz⟩ : ∃ i0, Try.prog.info? 9 = some i0 ∧ (i0.zero, i0.size, i0.bytes) = (some (.string ⟨#[]⟩), 1, 16) := by
    have h := infoT
    cases hh : Try.prog.info? 9 with
    | none => rw [hh] at h; simp at h
    | some i0 => rw [hh] at h; exact ⟨i0, rfl, by simpa using h⟩
  simp only [Prod.mk.injEq] at hz
  obtain ⟨hz0, hz1, hz2⟩ := hz
  have h := run_make w 113 9 i0 (.string ⟨#[]⟩) Try.underlying113 hi hz0 .i64 .i64 6 6 (by decide) (by decide) (by rw [hz2]; decide) (by decide)
  rw [hz1] at h
  have hm : madeCells (Value.string ⟨#[]⟩).cells (Int.toNat 6 * 1) = #[.string ⟨#[]⟩, .string ⟨#[]⟩, .string ⟨#[]⟩, .string ⟨#[]⟩, .string ⟨#[]⟩, .string ⟨#[]⟩] := by
    have hc : (Value.string ⟨#[]⟩).cells = #[.string ⟨#[]⟩] := by simp [Value.cells]
    rw [hc]; exact made6 _
  rw [hm] at h
  rw [sv8_zero]
  exact h
end Go.Proofs.Ytcjomhjgjdjigaa
