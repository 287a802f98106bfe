/- MERGED, for one claim's sake: Pw8, To8, Tp8, Lz8, Ly8, Lx8. -/
import Derived.Test.YtcjomhjgjdjigaaPv8
import Derived.Test.YtcjomhjgjdjigaaSc
import Derived.Test.YtcjomhjgjdjigaaOv9
import Derived.Test.YtcjomhjgjdjigaaIj8
import Derived.Test.YtcjomhjgjdjigaaNv8
import Derived.Test.YtcjomhjgjdjigaaMg9
import Derived.Test.YtcjomhjgjdjigaaEn8
import Derived.WalkKit
import Derived.ProofKit
import Derived.OpenShut
import Derived.Lib.Hide
import Derived.WalkSpells
import Derived.Below
import Derived.BigQuiet
import Derived.LoopN
namespace Go.Proofs.Ytcjomhjgjdjigaa
open Go.ChangeShapes Go.WideShapes Go.ChangeAt Go.RowKit
set_option linter.unusedVariables false
/- Pw8 -/
/-- Six numbers in a row, written. -/
theorem pb_row {W : World} {g k : Nat} {T : TypeId} {f : Nat → Int} (m : Nat → Int) (hk : k < 6) (h : W.heap[g]? = some (pb T f)) : ((((((W.setCell ⟨g, k * 6, none⟩ (.int .i64 (m (k * 6)))).setCell ⟨g, k * 6 + 1, none⟩ (.int .i64 (m (k * 6 + 1)))).setCell ⟨g, k * 6 + 2, none⟩ (.int .i64 (m (k * 6 + 2)))).setCell ⟨g, k * 6 + 3, none⟩ (.int .i64 (m (k * 6 + 3)))).setCell ⟨g, k * 6 + 4, none⟩ (.int .i64 (m (k * 6 + 4)))).setCell ⟨g, k * 6 + 5, none⟩ (.int .i64 (m (k * 6 + 5)))).heap[g]? = some (pb T fun j => if k * 6 ≤ j ∧ j < k * 6 + 6 then m j else f j) := by
  have h6 := pb_set (m (k * 6 + 5)) (show k * 6 + 5 < 36 by omega) (pb_set (m (k * 6 + 4)) (show k * 6 + 4 < 36 by omega) (pb_set (m (k * 6 + 3)) (show k * 6 + 3 < 36 by omega) (pb_set (m (k * 6 + 2)) (show k * 6 + 2 < 36 by omega) (pb_set (m (k * 6 + 1)) (show k * 6 + 1 < 36 by omega) (pb_set (m (k * 6)) (show k * 6 < 36 by omega) h)))))
  rw [h6]
  refine congrArg some (pb_congr fun j hj => ?_)
  unfold uq
  by_cases e5 : j = k * 6 + 5
  · subst e5; rw [if_pos rfl, if_pos (by omega)]
  rw [if_neg e5]
  by_cases e4 : j = k * 6 + 4
  · subst e4; rw [if_pos rfl, if_pos (by omega)]
  rw [if_neg e4]
  by_cases e3 : j = k * 6 + 3
  · subst e3; rw [if_pos rfl, if_pos (by omega)]
  rw [if_neg e3]
  by_cases e2 : j = k * 6 + 2
  · subst e2; rw [if_pos rfl, if_pos (by omega)]
  rw [if_neg e2]
  by_cases e1 : j = k * 6 + 1
  · subst e1; rw [if_pos rfl, if_pos (by omega)]
  rw [if_neg e1]
  by_cases e0 : j = k * 6
  · subst e0; rw [if_pos rfl, if_pos (by omega)]
  rw [if_neg e0, if_neg (by omega)]
/-- The first n numbers of m; the others are 0. -/
def up8 (m : Nat → Int) (n : Nat) : Nat → Int := fun j => if j < n then m j else 0
theorem pb_up {W : World} {g k : Nat} {T : TypeId} (m : Nat → Int) (hk : k < 6) (h : W.heap[g]? = some (pb T (up8 m (k * 6)))) : ((((((W.setCell ⟨g, k * 6, none⟩ (.int .i64 (m (k * 6)))).setCell ⟨g, k * 6 + 1, none⟩ (.int .i64 (m (k * 6 + 1)))).setCell ⟨g, k * 6 + 2, none⟩ (.int .i64 (m (k * 6 + 2)))).setCell ⟨g, k * 6 + 3, none⟩ (.int .i64 (m (k * 6 + 3)))).setCell ⟨g, k * 6 + 4, none⟩ (.int .i64 (m (k * 6 + 4)))).setCell ⟨g, k * 6 + 5, none⟩ (.int .i64 (m (k * 6 + 5)))).heap[g]? = some (pb T (up8 m ((k + 1) * 6))) := by
  rw [pb_row m hk h]
  refine congrArg some (pb_congr fun j hj => ?_)
  unfold up8
  by_cases h1 : k * 6 ≤ j ∧ j < k * 6 + 6
  · rw [if_pos h1, if_pos (by omega)]
  · rw [if_neg h1]
    by_cases h2 : j < k * 6
    · rw [if_pos h2, if_pos (by omega)]
    · rw [if_neg h2, if_neg (by omega)]
theorem pb_end {T : TypeId} (m : Nat → Int) : pb T (up8 m (6 * 6)) = pb T m := pb_congr fun j hj => by unfold up8; rw [if_pos (by omega)]
theorem pb_zero {T : TypeId} (m : Nat → Int) : pb T (up8 m (0 * 6)) = pb T fun _ => 0 := pb_congr fun j hj => by unfold up8; rw [if_neg (by omega)]
theorem pb_range6 {W : World} {g k : Nat} {T : TypeId} {m : Nat → Int} (hk : k < 6) (h : W.heap[g]? = some (pb T m)) : W.rangeAt g (k * 6) [.int .i64 (m (k * 6)), .int .i64 (m (k * 6 + 1)), .int .i64 (m (k * 6 + 2)), .int .i64 (m (k * 6 + 3)), .int .i64 (m (k * 6 + 4)), .int .i64 (m (k * 6 + 5))] := by
  intro j v hv
  rw [pb_cell h]
  have hj : j < 6 := by
    have := (List.getElem?_eq_some_iff.1 hv).1
    simpa using this
  rw [if_pos (by omega)]
  rcases (show j = 0 ∨ j = 1 ∨ j = 2 ∨ j = 3 ∨ j = 4 ∨ j = 5 by omega) with rfl | rfl | rfl | rfl | rfl | rfl <;> simpa using hv
theorem pb_there6 {W : World} {g k : Nat} {T : TypeId} {m : Nat → Int} (hk : k < 6) (h : W.heap[g]? = some (pb T m)) : W.there g (k * 6) 6 := by
  intro j hj
  refine ⟨?_, pb_frozen h _⟩
  rw [pb_cell h, if_pos (by omega)]
  rfl
/-- Midway in a copy: the one that came in, the answer's block, the one that is made. -/
def Rp8 (T : TypeId) (w : World) (m : Nat → Int) (n : Nat) (U : World) : Prop := U.heap[w.heap.size]? = some (pb T m) ∧ U.heap[w.heap.size + 1]? = some (pb 23 fun _ => 0) ∧ U.heap[w.heap.size + 1 + 1]? = some (pb 23 (up8 m n)) ∧ Below w.heap.size w U ∧ w.heap.size + 1 + 1 < U.heap.size
theorem Rp8.below {T : TypeId} {w U U' : World} {m : Nat → Int} {n M : Nat} (h : Rp8 T w m n U) (hb : Below M U U') (hM : M = U.heap.size) : Rp8 T w m n U' := ⟨rowk h.1 hb hM, rowk h.2.1 hb hM, rowk h.2.2.1 hb hM, below_of h.2.2.2.1 hb (by have := h.2.2.2.2; omega), Nat.lt_of_lt_of_le h.2.2.2.2 hb.size⟩
theorem Rp8.put {T : TypeId} {w U : World} {m : Nat → Int} {k : Nat} (hk : k < 6) (h : Rp8 T w m (k * 6) U) : Rp8 T w m ((k + 1) * 6) ((((((U.setCell ⟨w.heap.size + 1 + 1, k * 6, none⟩ (.int .i64 (m (k * 6)))).setCell ⟨w.heap.size + 1 + 1, k * 6 + 1, none⟩ (.int .i64 (m (k * 6 + 1)))).setCell ⟨w.heap.size + 1 + 1, k * 6 + 2, none⟩ (.int .i64 (m (k * 6 + 2)))).setCell ⟨w.heap.size + 1 + 1, k * 6 + 3, none⟩ (.int .i64 (m (k * 6 + 3)))).setCell ⟨w.heap.size + 1 + 1, k * 6 + 4, none⟩ (.int .i64 (m (k * 6 + 4)))).setCell ⟨w.heap.size + 1 + 1, k * 6 + 5, none⟩ (.int .i64 (m (k * 6 + 5)))) := by
  obtain ⟨h1, h2, h3, h4, h5⟩ := h
  have s : ∀ (g : Nat), g ≠ w.heap.size + 1 + 1 → ((((((U.setCell ⟨w.heap.size + 1 + 1, k * 6, none⟩ (.int .i64 (m (k * 6)))).setCell ⟨w.heap.size + 1 + 1, k * 6 + 1, none⟩ (.int .i64 (m (k * 6 + 1)))).setCell ⟨w.heap.size + 1 + 1, k * 6 + 2, none⟩ (.int .i64 (m (k * 6 + 2)))).setCell ⟨w.heap.size + 1 + 1, k * 6 + 3, none⟩ (.int .i64 (m (k * 6 + 3)))).setCell ⟨w.heap.size + 1 + 1, k * 6 + 4, none⟩ (.int .i64 (m (k * 6 + 4)))).setCell ⟨w.heap.size + 1 + 1, k * 6 + 5, none⟩ (.int .i64 (m (k * 6 + 5)))).heap[g]? = U.heap[g]? := by
    intro g hg
    rw [Below.heap_setCell _ _ _ _ hg, Below.heap_setCell _ _ _ _ hg, Below.heap_setCell _ _ _ _ hg, Below.heap_setCell _ _ _ _ hg, Below.heap_setCell _ _ _ _ hg, Below.heap_setCell _ _ _ _ hg]
  refine ⟨?_, ?_, pb_up m hk h3, ?_, ?_⟩
  · rw [s _ (by omega)]; exact h1
  · rw [s _ (by omega)]; exact h2
  · exact (((((h4.setCell (by simp; omega) _).setCell (by simp; omega) _).setCell (by simp; omega) _).setCell (by simp; omega) _).setCell (by simp; omega) _).setCell (by simp; omega) _
  · simpa using h5
theorem lt36 {k x : Nat} (hk : k < 6) (hx : x < 6) : k * 6 + x < 36 := by omega
/- To8 -/
set_option maxRecDepth 8000 in
set_option maxHeartbeats 400000 in
theorem to66_any (m : Nat → Int) (w : World) : Calls Try.prog 65 #[pv m] w fun e w' => e = .returned (pv m) ∧ Below w.heap.size w w' := by
  have HA := Lib.hid a6_any
  go_enter Try.func65, Try.ntmps65
  go_wp2_with (refine wpList_box36 rfl 23 _ rfl m rfl ?_)
  generalize hW : (World.alloc _ _ : World) = W1
  have S0 : Hid (Rp8 23 w m (0 * 6) W1) := by
    rw [← hW]
    exact Lib.hid ⟨alloc_past (alloc_past (alloc_at rfl)), alloc_past (alloc_at (by simp)), by rw [pb_zero]; exact alloc_at (by simp), by (repeat (first | exact Below.refl _ _ | assumption | refine Below.setCell ?_ (by first | (simp; done) | (simp; omega)) _ | refine Below.alloc ?_ (by first | (simp; done) | (simp; omega)) _ | refine Below.drew ?_)), by simp⟩
  clear hW
  go_loopw [4] (fun c wr => ∃ k : Nat, k ≤ 6 ∧ c = .int .i64 k ∧ Hid (Rp8 23 w m (k * 6) wr)) (fun c _ => 6 - (intOf c).toNat)
  case atStart => exact ⟨0, by omega, rfl, S0⟩
  case round =>
    obtain ⟨k, hk, rfl, HS⟩ := hrel
    by_cases hlt : k < 6
    · have hlt' : (k : Int) < 6 := by omega
      have hk0 : (0 : Int) ≤ k := by omega
      have c0 := pb_range6 hlt HS.out.1
      have HP := Lib.hid (fun (U : World) (h : Rp8 23 w m (k * 6) U) => h.put hlt)
      have HC := Lib.hid (fun (U : World) (h : Rp8 23 w m (k * 6) U) => pb_there6 hlt h.2.2.1)
      generalize m (k * 6) = v0 at c0 HP
      generalize m (k * 6 + 1) = v1 at c0 HP
      generalize m (k * 6 + 2) = v2 at c0 HP
      generalize m (k * 6 + 3) = v3 at c0 HP
      generalize m (k * 6 + 4) = v4 at c0 HP
      generalize m (k * 6 + 5) = v5 at c0 HP
      have C0 := Lib.hid c0
      clear c0
      go_wp2_with (refine wpList_load_mid rfl 22 _ rfl w.heap.size (k * 6) rfl [.int .i64 v0, .int .i64 v1, .int .i64 v2, .int .i64 v3, .int .i64 v4, .int .i64 v5] _ C0.out Try.underlying22 rfl (by kernel_rfl) ?_)
      refine (HA.out _ _ _ _ _ _ _).mono ?_
      rintro e W3 ⟨rfl, hb⟩
      have HE := Lib.hid (HS.out.below hb rfl)
      have HT := Lib.hid (HC.out _ HE.out)
      clear hb HS C0 HC
      go_wp2_with ((with_reducible change wpList _ _ _ (Oper.mk _ (Op.store _ _ _) _ _ _ _ :: _) _ _); refine wpList_store_mid ?_ 22 (.tmp 14) (.tmp 13) ?_ (w.heap.size + 1 + 1) (k * 6) #[.int .i64 v0, .int .i64 v1, .int .i64 v2, .int .i64 v3, .int .i64 v4, .int .i64 v5] ?_ ?_ HT.out ?_ ?_ ?_; rfl; rfl; rfl; rfl; kernel_rfl; kernel_rfl)
      have HI : Hid (Rp8 23 w m ((k + 1) * 6) (W3.setCells (w.heap.size + 1 + 1) (k * 6) [.int .i64 v0, .int .i64 v1, .int .i64 v2, .int .i64 v3, .int .i64 v4, .int .i64 v5])) := Lib.hid (HP.out _ HE.out)
      clear HT HE HP
      generalize (World.setCells _ _ _ _ : World) = X at HI ⊢
      go_roundw
      case rel => exact ⟨k + 1, by omega, by go_num, HI⟩
      case measure => simp [intOf]; omega
    · obtain rfl : k = 6 := by omega
      obtain ⟨h1, h2, h3, h4, h5⟩ := HS.out
      rw [pb_end] at h3
      clear HS S0
      have h2 := Lib.hid h2
      have h3 := Lib.hid h3
      have h4 := Lib.hid h4
      go_wp2_with (first | refine wpList_load36 rfl 23 _ rfl (w.heap.size + 1 + 1) rfl 23 m h3.out (.array 6 22) (by kernel_rfl) rfl (by kernel_rfl) ?_ | refine wpList_store36 rfl 23 _ _ rfl (w.heap.size + 1) rfl m rfl 23 _ h2.out (by kernel_rfl) ?_)
      have hr := pb_sets m h2.out
      have hB := setCells_below (b := w.heap.size + 1) (cs36 m) 0 h4.out (by omega)
      generalize (World.setCells _ _ _ _ : World) = X at hr hB ⊢
      exact bodyPost_ret (v := pv m) (res36 (a := 2) (t := 23) rfl rfl (run_load36 hr 23 (.array 6 22) (by kernel_rfl) rfl (by kernel_rfl))) rfl ⟨rfl, hB⟩
/- Tp8 -/
set_option maxRecDepth 8000 in
set_option maxHeartbeats 600000 in
theorem topic_any (m : Nat → Int) (w : World) : Calls Try.prog 19 #[pv m] w fun e w' => e = .returned (pv m) ∧ Below w.heap.size w w' := by
  have HA := Lib.hid to66_any
  go_enter Try.func19, Try.ntmps19
  have q1 : ∀ (A B : Obj), ((((w.alloc (pb 25 m)).alloc A).alloc B).heap[w.heap.size]? = some (pb 25 m)) := fun _ _ => alloc_past (alloc_past (alloc_at rfl))
  go_wp2_with (first | ((with_reducible refine wpB36 m ?_ ?_); rfl) | ((with_reducible refine wpL36 w.heap.size 25 m (q1 _ _) _ Try.underlying23 ?_ ?_ ?_ ?_); rfl; rfl; kernel_rfl))
  clear q1
  generalize hW : (World.alloc _ _ : World) = W1
  have K0 : KR 3 [(w.heap.size, pb 25 m), (w.heap.size + 1, pb 27 fun _ => 0), (w.heap.size + 1 + 1, pb 27 fun _ => 0)] w W1 := by
    rw [← hW]
    refine ⟨?_, by simp, by (repeat (first | exact Below.refl _ _ | assumption | refine Below.setCell ?_ (by first | (simp; done) | (simp; omega)) _ | refine Below.alloc ?_ (by first | (simp; done) | (simp; omega)) _ | refine Below.drew ?_))⟩
    intro p hp
    simp only [List.mem_cons, List.mem_nil_iff, or_false] at hp
    rcases hp with rfl | rfl | rfl
    · exact ⟨by simp, alloc_past (alloc_past (alloc_at rfl))⟩
    · exact ⟨by simp, alloc_past (alloc_at (by simp))⟩
    · exact ⟨by simp, alloc_at (by simp)⟩
  clear hW
  refine (HA.out m _).mono ?_
  rintro e W2 ⟨rfl, hb⟩
  have K1 := K0.far hb rfl
  clear hb K0
  have r1 := K1.row (g := w.heap.size + 1) (o := pb 27 fun _ => 0) (by simp)
  have r2 := K1.row (g := w.heap.size + 1 + 1) (o := pb 27 fun _ => 0) (by simp)
  have hB0 := K1.2.2
  clear K1
  have r3 := pb_sets m r2
  have r4 : (W2.setCells (w.heap.size + 1 + 1) 0 (cs36 m)).heap[w.heap.size + 1]? = some (pb 27 fun _ => 0) := by rw [setCells_other (by omega)]; exact r1
  have hB1 := setCells_below (b := w.heap.size + 1 + 1) (cs36 m) 0 hB0 (by omega)
  have r2 := Lib.hid r2
  have r3 := Lib.hid r3
  have r4 := Lib.hid r4
  have hB1 := Lib.hid hB1
  clear r1 hB0
  go_wp2_with (first | ((with_reducible refine wpS36 (w.heap.size + 1 + 1) m 27 _ r2.out ?_ ?_ ?_ ?_); rfl; rfl; kernel_rfl) | ((with_reducible refine wpL36 (w.heap.size + 1 + 1) 27 m r3.out _ Try.underlying27 ?_ ?_ ?_ ?_); rfl; rfl; kernel_rfl) | ((with_reducible refine wpS36 (w.heap.size + 1) m 27 _ r4.out ?_ ?_ ?_ ?_); rfl; rfl; kernel_rfl))
  have hr := pb_sets m r4.out
  have hB := setCells_below (b := w.heap.size + 1) (cs36 m) 0 hB1.out (by omega)
  generalize (World.setCells _ _ _ _ : World) = X at hr hB ⊢
  exact bodyPost_ret (v := pv m) (res36 (a := 2) (t := 27) rfl rfl (run_load36 hr 27 _ Try.underlying27 rfl (by kernel_rfl))) rfl ⟨rfl, hB⟩
/- Lz8 -/
/-- Whether a print's cells all have its ink. -/
def lst8 (m : Nat → Int) (p : Pn) : Bool := peq (md8 m p) m
theorem lst8_part (m : Nat → Int) (p : Pn) : lst8 m p = emp8 (dn8 (gsP p) (im8 m p.k 36)) := by
  have h : lst8 m p = true ↔ emp8 (dn8 (gsP p) (im8 m p.k 36)) = true := by
    unfold lst8
    rw [peq_iff, emp8_iff]
    unfold md8 mp8 dn8 im8
    constructor
    · intro h y x hy hx
      have := h (y * 6 + x) (by omega)
      rw [show (y * 6 + x) / 6 = y by omega, show (y * 6 + x) % 6 = x by omega] at this
      cases hg : gsP p y x
      · rfl
      · rw [if_pos ⟨by omega, hg⟩] at this
        rw [decide_eq_true (show 6 * y + x < 36 by omega), decide_eq_true this.symm]
        rfl
    · intro h j hj
      have := h (j / 6) (j % 6) (by omega) (Nat.mod_lt _ (by decide))
      by_cases hc : j < 36 ∧ gsP p (j / 6) (j % 6) = true
      · rw [if_pos hc]
        rw [hc.2, decide_eq_true (show 6 * (j / 6) + j % 6 < 36 by omega)] at this
        have e : j / 6 * 6 + j % 6 = j := by omega
        rw [e] at this
        by_cases hm : m j = p.k
        · exact hm.symm
        · rw [decide_eq_false hm] at this
          cases this
      · rw [if_neg hc]
  cases h1 : lst8 m p <;> cases h2 : emp8 (dn8 (gsP p) (im8 m p.k 36)) <;> simp_all
theorem getD9' {z : List Pn} {i : Nat} (h : i < z.length) : z.getD i pn0 = z[i] := by
  rw [List.getD_eq_getElem?_getD, List.getElem?_eq_getElem h]
  rfl
def lsl8 (m : Nat → Int) (z : List Pn) : List Nat := nl7 (fun i => lst8 m (z.getD i pn0)) z.length
/-- Midway: the picture, the numbers so far in a row of their own, the prints in theirs. -/
def Lq9 (w : World) (m : Nat → Int) (z : List Pn) (g c : Nat) (xs : List Nat) (v : Value) (U : World) : Prop := Ri 1 [(w.heap.size, pb 27 m)] w xs v U ∧ Op9 0 g c z U ∧ g < w.heap.size
theorem Lq9.below {w U V : World} {m : Nat → Int} {z : List Pn} {g c : Nat} {xs : List Nat} {v : Value} {M : Nat} (h : Lq9 w m z g c xs v U) (hb : Below M U V) (hM : M = U.heap.size) : Lq9 w m z g c xs v V := ⟨h.1.below hb hM, h.2.1.below hb hM, h.2.2⟩
theorem Lq9.drew {w U : World} {m : Nat → Int} {z : List Pn} {g c : Nat} {xs : List Nat} {v : Value} (h : Lq9 w m z g c xs v U) : Lq9 w m z g c xs v U.drew := h.below (M := U.heap.size) (Below.refl _ _).drew rfl
theorem Lq9.al {w U : World} {m : Nat → Int} {z : List Pn} {g c : Nat} {xs : List Nat} {v : Value} (h : Lq9 w m z g c xs v U) (o : Obj) : Lq9 w m z g c xs v (U.alloc o) := h.below (M := U.heap.size) ((Below.refl _ _).alloc (Nat.le_refl _) o) rfl
theorem Lq9.pic {w U : World} {m : Nat → Int} {z : List Pn} {g c : Nat} {xs : List Nat} {v : Value} (h : Lq9 w m z g c xs v U) : U.heap[w.heap.size]? = some (pb 27 m) := h.1.1.row (List.mem_cons_self ..)
theorem Lq9.snoc {w W w1 : World} {m : Nat → Int} {z : List Pn} {g c : Nat} {xs : List Nat} {x : Nat} {v v' : Value} (h : Lq9 w m z g c xs v W) (hown : w1.ownsRow (w.heap.size + 1) 3 1 v' (xs.length + 1) (nvs xs ++ [.int .i64 (x : Int)])) (hg : W.grownBy w1 v.ownBlock) (hn : v' = .slice none 0 0 ↔ v = .slice none 0 0 ∧ 1 = 0) : Lq9 w m z g c (xs ++ [x]) v' w1 := by
  refine ⟨h.1.snoc hown hg hn, ?_, h.2.2⟩
  obtain ⟨_, g2, cap2, rfl, ho⟩ := h.1
  have := (ho.lt g2 rfl).1
  exact h.2.1.kept hg (.inr (by simp only [Value.ownBlock, ne_eq, Option.some.injEq]; have := h.2.2; omega))
section
variable {a : Act} {w : World} {dst : Option Tmp} {type : TypeId} {pos : String} {after : Array Edge} {gd : Option (Nat × Bool)} {x y : Operand}
theorem exL {g : Nat} {m : Nat → Int} (hx : a.eval x = .pointer (some ⟨g, 0, none⟩)) (h : w.heap[g]? = some (pb 27 m)) : (execOp a.eval ⟨dst, .load 27 x, type, pos, after, gd⟩).run Try.prog w = .ok (.value (pv m)) w := by
  unfold execOp
  simp only [hx, Instr.loadAt, Instr.sureAddr, Sem.run_bind, Sem.run_pure, Result.andThen_ok, run_loadP h]
theorem ex9 {g o : Nat} {p : Pn} (hx : a.eval x = .pointer (some ⟨g, o, none⟩)) (h : w.rangeAt g o p.cells) : (execOp a.eval ⟨dst, .load 38 x, type, pos, after, gd⟩).run Try.prog w = .ok (.value (.agg (p.cells).toArray)) w := by
  unfold execOp
  simp only [hx, Instr.loadAt, Instr.sureAddr, Sem.run_bind, Sem.run_pure, Result.andThen_ok, run_load9 h]
theorem exQ {p q : Nat → Int} {t2 : TypeId} (hx : a.eval x = pv p) (hy : a.eval y = pv q) : (execOp a.eval ⟨dst, .binOp .eql 27 x y t2, type, pos, after, gd⟩).run Try.prog w = .ok (.value (.bool (peq p q))) w := by
  unfold execOp
  simp only [hx, hy, Sem.run_bind, Sem.run_pure, gP, eqP, Result.andThen_ok]
end
set_option maxRecDepth 8000 in
set_option maxHeartbeats 2000000 in
theorem slast_yes (m : Nat → Int) (z : List Pn) (hz : z.length ≤ 1048576) (hpic : okp m = true) (hok : lok z = true) (g c : Nat) (w : World) (h0 : Op9 0 g c z w) : Calls Try.prog 48 #[pv m, .slice (some ⟨g, 0, none⟩) z.length c] w (IPb (lsl8 m z) true w) := by
  obtain ⟨i0, hi, hz0, hz1, hz2⟩ := info_parts info3
  obtain ⟨hl6, hall⟩ := lok_get hok
  have HL := Lib.hid (slist_any z hz 0 g c)
  rw [hok] at HL
  have HPI := Lib.hid (spic_any m)
  rw [hpic] at HPI
  have HK := Lib.hid hall
  have hgw := (h0.lt g rfl).2
  have H0 := Lib.hid h0
  unfold lsl8
  obtain ⟨sg, hsg⟩ : ∃ sg : Nat → Bool, sg = fun i => lst8 m (z.getD i pn0) := ⟨_, rfl⟩
  have HSG : Hid (∀ i (hi : i < z.length), sg i = lst8 m z[i]) := Lib.hid fun i hi => by rw [hsg]; simp only [getD9' hi]
  rw [← hsg]
  clear h0 hok hall hpic hsg
  go_enter Try.func48, Try.ntmps48
  have q0 : ((w.alloc (pb 27 m)).alloc (.cells #[] 3)).heap[w.heap.size]? = some (pb 27 m) := alloc_past (alloc_at rfl)
  go_wp2_with (first | ((with_reducible refine wpB36 m ?_ ?_); rfl) | ((with_reducible refine wpL36 w.heap.size 27 m q0 _ Try.underlying27 ?_ ?_ ?_ ?_); rfl; rfl; kernel_rfl))
  clear q0
  have S0 : Hid (Lq9 w m z g c [] (.slice (some ⟨w.heap.size + 1, 0, none⟩) 0 0) ((w.alloc (pb 27 m)).alloc (.cells #[] 3))) := by
    have S := Ri.start (kr1_8 w (pb 27 m))
    have hs : (w.alloc (pb 27 m)).heap.size = w.heap.size + 1 := by simp
    rw [hs] at S
    exact Lib.hid ⟨S, H0.out.below (M := w.heap.size) (((Below.refl _ _).alloc (Nat.le_refl _) _).alloc (by simp) _) rfl, hgw⟩
  clear H0
  generalize (World.alloc _ _ : World) = W1 at S0 ⊢
  generalize hv0 : (Value.slice (some ⟨w.heap.size + 1, 0, none⟩) 0 0) = v0 at S0 ⊢
  clear hv0
  refine (HPI.out _).mono ?_
  rintro e W2 ⟨rfl, hb⟩
  have S1 := Lib.hid (S0.out.below hb rfl)
  clear hb S0 HPI
  go_wp2_with fail
  refine (HL.out _ S1.out.2.1).mono ?_
  rintro e W3 ⟨rfl, hb⟩
  have S2 := Lib.hid (S1.out.below hb rfl)
  clear hb S1 HL
  go_wp2_with fail
  go_loopw [6, 7] (fun v n wr => ∃ i : Nat, i ≤ z.length ∧ n = .int .i64 i ∧ Hid (Lq9 w m z g c (nl7 sg i) v wr)) (fun _ n _ => z.length - (intOf n).toNat)
  case atStart => exact ⟨0, by omega, rfl, S2⟩
  case round =>
    obtain ⟨i, hi', rfl, HS⟩ := hrel
    by_cases hlt : i < z.length
    · have hlt' : (i : Int) < z.length := by omega
      have hi0 : (0 : Int) ≤ i := by omega
      have E0 := Lib.hid (@nl7_no sg i)
      have E1 := Lib.hid (@nl7_yes sg i)
      have HL2 := nl7_len sg i
      have HL2 : (nl7 sg i).length ≤ 36 := by omega
      generalize nl7 sg i = xs at HS E0 E1 HL2
      have hb := HSG.out i hlt
      obtain ⟨⟨_, gv, cv2, rfl, _⟩, _⟩ := HS.out
      have HR := Lib.hid (fun (U : World) (h : Lq9 w m z g c xs (.slice (some ⟨gv, 0, none⟩) xs.length cv2) U) => h.2.1.range hlt)
      have HG := Lib.hid (fun (U : World) (h : Lq9 w m z g c xs (.slice (some ⟨gv, 0, none⟩) xs.length cv2) U) => h.pic)
      have HM := Lib.hid (smade_p m (HK.out i hlt))
      unfold lst8 md8 at hb
      generalize z[i] = p at HR HM hb
      generalize mp8 m p.k (gsP p) 36 = q at HM hb
      generalize sg i = b at hb E0 E1
      have HB := Lib.hid hb
      clear hb
      have HD := Lib.hid HS.out.drew
      clear HS
      go_wp2_with fail
      all_goals
        refine wp_region_held_drew (S := fun U => Lq9 w m z g c xs (.slice (some ⟨gv, 0, none⟩) xs.length cv2) U) (by kernel_rfl) ?_ (fun hHeld => ?_)
        · exact HD.out
        refine wpAnyH_take (i := 0) (oi := { dst := some 24, op := Go.Op.load 27 (Go.Operand.tmp 2), type := 27, pos := "l8_inks.go:206", after := #[], guard := none }) (v := ?_) rfl (by kernel_rfl) (by kernel_rfl) (by kernel_rfl) (fun _ _ _ h => h) (Or.inl ⟨by rfl, ?_⟩) (by assumption) ?_
        rotate_left
        · intro U hSw; refine exL (g := w.heap.size) ?_ (HG.out _ hSw); rfl
        simp only [Act.put, List.setIfInBounds_toArray, List.set_cons_zero, List.set_cons_succ]
        refine wpAnyH_take (i := 1) (oi := { dst := some 25, op := Go.Op.move (Go.Operand.tmp 1), type := 45, pos := "l8_inks.go:206", after := #[], guard := none }) (v := ?_) rfl (by kernel_rfl) (by kernel_rfl) (by kernel_rfl) (fun _ _ _ h => h) (Or.inl ⟨by rfl, ?_⟩) (by assumption) ?_
        rotate_left
        · intro U hSw; (try dsimp only at hSw); go_simp; (try with_reducible rfl)
        simp only [Act.put, List.setIfInBounds_toArray, List.set_cons_zero, List.set_cons_succ]
        refine wpAnyH_take (i := 2) (oi := { dst := some 26, op := Go.Op.move (Go.Operand.tmp 7), type := 3, pos := "l8_inks.go:206", after := #[], guard := none }) (v := ?_) rfl (by kernel_rfl) (by kernel_rfl) (by kernel_rfl) (fun _ _ _ h => h) (Or.inl ⟨by rfl, ?_⟩) (by assumption) ?_
        rotate_left
        · intro U hSw; (try dsimp only at hSw); go_simp; (try with_reducible rfl)
        simp only [Act.put, List.setIfInBounds_toArray, List.set_cons_zero, List.set_cons_succ]
        refine wpAnyH_take (i := 3) (oi := { dst := some 27, op := Go.Op.indexAddr 45 (Go.Operand.tmp 25) (Go.Operand.tmp 26), type := 0, pos := "l8_inks.go:206", after := #[{ on := 1, ground := Go.Ground.data }, { on := 2, ground := Go.Ground.data }], guard := none }) (v := ?_) rfl (by kernel_rfl) (by kernel_rfl) (by kernel_rfl) (fun _ _ _ h => h) (Or.inl ⟨by rfl, ?_⟩) (by assumption) ?_
        rotate_left
        · intro U hSw; (try dsimp only at hSw); go_simp; (try with_reducible rfl)
        simp only [Act.put, List.setIfInBounds_toArray, List.set_cons_zero, List.set_cons_succ]
        refine wpAnyH_take (i := 4) (oi := { dst := some 28, op := Go.Op.load 38 (Go.Operand.tmp 27), type := 38, pos := "l8_inks.go:206", after := #[{ on := 3, ground := Go.Ground.data }], guard := none }) (v := ?_) rfl (by kernel_rfl) (by kernel_rfl) (by kernel_rfl) (fun _ _ _ h => h) (Or.inl ⟨by rfl, ?_⟩) (by assumption) ?_
        rotate_left
        · intro U hSw; refine ex9 ?_ (HR.out _ hSw); rfl
        simp only [Act.put, List.setIfInBounds_toArray, List.set_cons_zero, List.set_cons_succ]
        refine wpAnyH_take (i := 6) (oi := { dst := some 30, op := Go.Op.load 27 (Go.Operand.tmp 2), type := 27, pos := "l8_inks.go:206", after := #[], guard := none }) (v := ?_) rfl (by kernel_rfl) (by kernel_rfl) (by kernel_rfl) (fun _ _ _ h => h) (Or.inl ⟨by rfl, ?_⟩) (by assumption) ?_
        rotate_left
        · intro U hSw; refine exL (g := w.heap.size) ?_ (HG.out _ hSw); rfl
        simp only [Act.put, List.setIfInBounds_toArray, List.set_cons_zero, List.set_cons_succ]
        refine wpAnyH_ready (rs := [5]) (by kernel_rfl) (by simp) ?_
        refine AllReadyH.cons (o := { dst := some 29, op := Go.Op.call { callee := Go.Callee.value (Go.Operand.func 93), args := #[Go.Operand.tmp 24, Go.Operand.tmp 28], argTypes := #[27, 38] }, type := 27, pos := "l8_inks.go:206", after := #[{ on := 0, ground := Go.Ground.data }, { on := 4, ground := Go.Ground.data }], guard := none }) rfl (fun K hK => ?_) AllReadyH.nil
        go_simp
        (go_at_call 93; with_reducible refine (HM.out _).mono ?_; rintro e w' ⟨rfl, hb'⟩; have hq := HD.out.below hb' rfl; go_wp2_with fail)
        refine hK.out _ _ ?_ (fun hHeld => ?_)
        · exact hq
        clear hK K
        (try simp only [Act.put, List.setIfInBounds_toArray, List.set_cons_zero, List.set_cons_succ])
        refine wpAnyH_take (i := 7) (oi := { dst := some 31, op := Go.Op.binOp Go.BinOp.eql 27 (Go.Operand.tmp 29) (Go.Operand.tmp 30) 27, type := 4, pos := "l8_inks.go:206", after := #[{ on := 5, ground := Go.Ground.data }, { on := 6, ground := Go.Ground.data }], guard := none }) (v := ?_) rfl (by kernel_rfl) (by kernel_rfl) (by kernel_rfl) (fun _ _ _ h => h) (Or.inl ⟨by rfl, ?_⟩) (by assumption) ?_
        rotate_left
        · intro U hSw; refine exQ (p := q) (q := m) ?_ ?_ <;> rfl
        simp only [Act.put, List.setIfInBounds_toArray, List.set_cons_zero, List.set_cons_succ]
        refine wpAnyH_done (by kernel_rfl) ?_ _
        rw [← HB.out]
        have HJ := Lib.hid hq
        clear hq hHeld HD HM HR HG HB
        cases b
        · go_wp2_with fail
          go_roundw
          case rel => exact ⟨i + 1, by omega, by go_num, by rw [E0.out (by first | rfl | trivial)]; exact HJ⟩
          case measure => simp [intOf]; omega
        · obtain ⟨⟨hK, _, _, _, ho⟩, _⟩ := HJ.out
          have HO := ho.kept (grown_below ((Below.refl _ _).alloc (Nat.le_refl _) (.cells #[.int .i64 (i : Int)] 3)) rfl) (.inr (by simp [Value.ownBlock]))
          have HY := Lib.hid (HJ.out.al (.cells #[.int .i64 (i : Int)] 3))
          have hks := hK.2.1
          clear ho HJ hK
          go_wp2_with (at_builtin; refine wpList_append_own _ rfl _ _ 54 rfl (w.heap.size + 1) 3 i0 (.int .i64 0) 1 8 Try.underlying54 hi hz0 hz1 hz2 rfl (by decide) _ _ _ rfl HO ⟨w'.heap.size, 0, none⟩ 1 1 [.int .i64 (i : Int)] rfl rfl (one_new _ _ _) (int_one _) (by have := HL2; unfold maxLen; omega) (by have := HL2; omega) (by have := hks; simp; omega) ?_; intro v' w1 hown' hgrow hnn; have R := Lib.hid (HY.out.snoc hown' hgrow hnn); clear hown' hgrow hnn HY HO HL2 hks)
          go_roundw
          case rel => exact ⟨i + 1, by omega, by go_num, by rw [E1.out (by first | rfl | trivial)]; exact R⟩
          case measure => simp [intOf]; omega
    · obtain rfl : i = z.length := by omega
      obtain ⟨g2, cap2, rfl, h2, h3⟩ := HS.out.1.post
      have H2 := Lib.hid h2
      have H3 := Lib.hid h3
      clear h2 h3 HS hi hz0 hz1 hz2
      go_wp2_with fail
      go_ret2
      exact ⟨g2, cap2, rfl, H2.out, H3.out⟩
/- Ly8 -/
theorem okR_ex8 {p : Pn} (h : okR p = true) : ∃ (k : Int) (f : Nat → Nat → Bool) (x y : Nat), p.cells = [.int .i64 k, .int .i64 (rowv (f 0)), .int .i64 (rowv (f 1)), .int .i64 (rowv (f 2)), .int .i64 (rowv (f 3)), .int .i64 (rowv (f 4)), .int .i64 (rowv (f 5)), .int .i64 (x : Int), .int .i64 (y : Int)] ∧ x < 6 ∧ y < 6 ∧ gsP p = sf x y f ∧ p.k = k := by
  obtain ⟨hc, hx, hy, _⟩ := okR_form h
  exact ⟨p.k, _, _, _, hc, hx, hy, rfl, rfl⟩
set_option maxRecDepth 8000 in
set_option maxHeartbeats 2000000 in
theorem ilast_yes (m : Nat → Int) (z : List Pn) (hz : z.length ≤ 1048576) (hwf : ∀ p ∈ z, (Lit.int .i64 p.x).wf = true ∧ (Lit.int .i64 p.y).wf = true) (hpic : okp m = true) (hok : lok z = true) (g c : Nat) (w : World) (h0 : Op9 0 g c z w) : Calls Try.prog 49 #[pv m, .slice (some ⟨g, 0, none⟩) z.length c] w (IPb (lsl8 m z) true w) := by
  obtain ⟨i0, hi, hz0, hz1, hz2⟩ := info_parts info3
  obtain ⟨hl6, hall⟩ := lok_get hok
  have HL := Lib.hid (ilist_any z hz hwf 0 g c)
  rw [hok] at HL
  have HPI := Lib.hid (impic_any m)
  rw [hpic] at HPI
  have HK := Lib.hid hall
  have hgw := (h0.lt g rfl).2
  have H0 := Lib.hid h0
  unfold lsl8
  obtain ⟨sg, hsg⟩ : ∃ sg : Nat → Bool, sg = fun i => lst8 m (z.getD i pn0) := ⟨_, rfl⟩
  have HSG : Hid (∀ i (hi : i < z.length), sg i = lst8 m z[i]) := Lib.hid fun i hi => by rw [hsg]; simp only [getD9' hi]
  rw [← hsg]
  clear h0 hok hall hpic hsg hwf
  go_enter Try.func49, Try.ntmps49
  have q0 : ((w.alloc (pb 27 m)).alloc (.cells #[] 3)).heap[w.heap.size]? = some (pb 27 m) := alloc_past (alloc_at rfl)
  go_wp2_with (first | ((with_reducible refine wpB36 m ?_ ?_); rfl) | ((with_reducible refine wpL36 w.heap.size 27 m q0 _ Try.underlying27 ?_ ?_ ?_ ?_); rfl; rfl; kernel_rfl))
  clear q0
  have S0 : Hid (Lq9 w m z g c [] (.slice (some ⟨w.heap.size + 1, 0, none⟩) 0 0) ((w.alloc (pb 27 m)).alloc (.cells #[] 3))) := by
    have S := Ri.start (kr1_8 w (pb 27 m))
    have hs : (w.alloc (pb 27 m)).heap.size = w.heap.size + 1 := by simp
    rw [hs] at S
    exact Lib.hid ⟨S, H0.out.below (M := w.heap.size) (((Below.refl _ _).alloc (Nat.le_refl _) _).alloc (by simp) _) rfl, hgw⟩
  clear H0
  generalize (World.alloc _ _ : World) = W1 at S0 ⊢
  generalize hv0 : (Value.slice (some ⟨w.heap.size + 1, 0, none⟩) 0 0) = v0 at S0 ⊢
  clear hv0
  have HPI2 := Lib.hid HPI.out
  refine (HPI.out _).mono ?_
  rintro e W2 ⟨rfl, hb⟩
  have S1 := Lib.hid (S0.out.below hb rfl)
  clear hb S0 HPI
  go_wp2_with fail
  refine (HL.out _ S1.out.2.1).mono ?_
  rintro e W3 ⟨rfl, hb⟩
  have S2 := Lib.hid (S1.out.below hb rfl)
  clear hb S1 HL
  go_wp2_with fail
  go_loopw [6, 23] (fun v n wr => ∃ i : Nat, i ≤ z.length ∧ n = .int .i64 i ∧ Hid (Lq9 w m z g c (nl7 sg i) v wr)) (fun _ n _ => z.length - (intOf n).toNat)
  case atStart => exact ⟨0, by omega, rfl, S2⟩
  case round =>
    obtain ⟨i, hi', rfl, HS⟩ := hrel
    by_cases hlt : i < z.length
    · have hlt' : (i : Int) < z.length := by omega
      have hi0 : (0 : Int) ≤ i := by omega
      have E0 := Lib.hid (@nl7_no sg i)
      have E1 := Lib.hid (@nl7_yes sg i)
      have HL2 := nl7_len sg i
      have HL2 : (nl7 sg i).length ≤ 36 := by omega
      generalize nl7 sg i = xs at HS E0 E1 HL2
      have hb := HSG.out i hlt
      rw [lst8_part] at hb
      obtain ⟨⟨_, gv, cv2, rfl, _⟩, _⟩ := HS.out
      have hkk := (okR_form (HK.out i hlt)).2.2.2
      obtain ⟨k1, f1, x1, y1, hc1, hx1, hy1, hg1, hk1⟩ := okR_ex8 (HK.out i hlt)
      rw [hk1] at hkk hb
      rw [hg1] at hb
      have hr := HS.out.2.1.range hlt
      rw [hc1] at hr
      have HR := Lib.hid hr
      have HIK : Hid (∀ w, Calls Try.prog 66 #[.int .i64 k1] w fun e w' => e = .returned (.bool true) ∧ w' = w) := Lib.hid fun w => by
        have h := ink_any k1 w
        rw [decide_eq_true (show (0 : Int) ≤ k1 by omega), decide_eq_true hkk.2] at h
        exact h
      have HIN := Lib.hid (iinks_yes m k1 HPI2 HIK)
      have HPA := Lib.hid (ipart_f k1 f1 (im8 m k1 36) hx1 hy1)
      generalize emp8 (dn8 (sf x1 y1 f1) (im8 m k1 36)) = b2 at hb HPA
      generalize im8 m k1 36 = G at HIN HPA
      generalize sg i = b at hb E0 E1
      subst hb
      clear hr hc1 hg1 hk1 hkk HIK
      have HX := Lib.hid (HS.out.al (pr9 k1 f1 x1 y1))
      have hgb : (wr.alloc (pr9 k1 f1 x1 y1)).heap[wr.heap.size]? = some (pr9 k1 f1 x1 y1) := alloc_at rfl
      have hA := Lib.hid HX.out.pic
      clear HS
      unfold pr9 at HX hgb hA
      go_wp2_with (first | ((with_reducible refine wpLm g (i * 9) [.int .i64 k1, .int .i64 (rowv (f1 0)), .int .i64 (rowv (f1 1)), .int .i64 (rowv (f1 2)), .int .i64 (rowv (f1 3)), .int .i64 (rowv (f1 4)), .int .i64 (rowv (f1 5)), .int .i64 (x1 : Int), .int .i64 (y1 : Int)] HR.out _ Try.underlying38 ?_ ?_ ?_ ?_); rfl; rfl; kernel_rfl) | ((with_reducible refine wpL36 w.heap.size 27 m hA.out _ Try.underlying27 ?_ ?_ ?_ ?_); rfl; rfl; kernel_rfl))
      clear hA HR
      generalize (World.alloc _ _ : World) = X0 at HX hgb ⊢
      generalize wr.heap.size = gb at hgb ⊢
      refine (HIN.out _).mono ?_
      rintro e X1 ⟨rfl, hb'⟩
      have HX1 := Lib.hid (HX.out.below hb' rfl)
      have hgb1 := rowk hgb hb' rfl
      clear hb' HX hgb HIN
      have HX2 := Lib.hid (HX1.out.al (o6 G))
      have hgl := row_lt hgb1
      have a_c := fun j => cell_of_row X1 _ j _ _ _ hgb1
      clear HX1
      unfold o6 at HX2
      go_wp2_with fail
      generalize (World.alloc _ _ : World) = X2 at HX2 ⊢
      clear a_c hgl hgb1
      refine (HPA.out _).mono ?_
      rintro e w' ⟨rfl, hb'⟩
      have HJ := Lib.hid (HX2.out.below hb' rfl)
      clear hb' HX2 HPA
      cases b
      · go_wp2_with fail
        go_roundw
        case rel => exact ⟨i + 1, by omega, by go_num, by rw [E0.out (by first | rfl | trivial)]; exact HJ⟩
        case measure => simp [intOf]; omega
      · obtain ⟨⟨hK, _, _, _, ho⟩, _⟩ := HJ.out
        have HO := ho.kept (grown_below ((Below.refl _ _).alloc (Nat.le_refl _) (.cells #[.int .i64 (i : Int)] 3)) rfl) (.inr (by simp [Value.ownBlock]))
        have HY := Lib.hid (HJ.out.al (.cells #[.int .i64 (i : Int)] 3))
        have hks := hK.2.1
        clear ho HJ hK
        go_wp2_with (at_builtin; refine wpList_append_own _ rfl _ _ 54 rfl (w.heap.size + 1) 3 i0 (.int .i64 0) 1 8 Try.underlying54 hi hz0 hz1 hz2 rfl (by decide) _ _ _ rfl HO ⟨w'.heap.size, 0, none⟩ 1 1 [.int .i64 (i : Int)] rfl rfl (one_new _ _ _) (int_one _) (by have := HL2; unfold maxLen; omega) (by have := HL2; omega) (by have := hks; simp; omega) ?_; intro v' w1 hown' hgrow hnn; have R := Lib.hid (HY.out.snoc hown' hgrow hnn); clear hown' hgrow hnn HY HO HL2 hks)
        go_roundw
        case rel => exact ⟨i + 1, by omega, by go_num, by rw [E1.out (by first | rfl | trivial)]; exact R⟩
        case measure => simp [intOf]; omega
    · obtain rfl : i = z.length := by omega
      obtain ⟨g2, cap2, rfl, h2, h3⟩ := HS.out.1.post
      have H2 := Lib.hid h2
      have H3 := Lib.hid h3
      clear h2 h3 HS hi hz0 hz1 hz2
      go_wp2_with fail
      go_ret2
      exact ⟨g2, cap2, rfl, H2.out, H3.out⟩
set_option maxRecDepth 8000 in
set_option maxHeartbeats 1000000 in
theorem slast_no0 (m : Nat → Int) (z : List Pn) (hz : z.length ≤ 1048576) (hwf : ∀ p ∈ z, (Lit.int .i64 p.x).wf = true ∧ (Lit.int .i64 p.y).wf = true) (hpic : okp m = false) (g c : Nat) (w : World) (h0 : Op9 0 g c z w) : Calls Try.prog 48 #[pv m, .slice (some ⟨g, 0, none⟩) z.length c] w (IPb [] false w) := by
  have HPI := Lib.hid (spic_any m)
  rw [hpic] at HPI
  have HL := Lib.hid (slist_any z hz 0 g c)
  clear HL
  have hgw := (h0.lt g rfl).2
  have H0 := Lib.hid h0
  clear h0 hpic hwf
  go_enter Try.func48, Try.ntmps48
  have q0 : ((w.alloc (pb 27 m)).alloc (.cells #[] 3)).heap[w.heap.size]? = some (pb 27 m) := alloc_past (alloc_at rfl)
  go_wp2_with (first | ((with_reducible refine wpB36 m ?_ ?_); rfl) | ((with_reducible refine wpL36 w.heap.size 27 m q0 _ Try.underlying27 ?_ ?_ ?_ ?_); rfl; rfl; kernel_rfl))
  clear q0
  have S0 : Hid (Lq9 w m z g c [] (.slice (some ⟨w.heap.size + 1, 0, none⟩) 0 0) ((w.alloc (pb 27 m)).alloc (.cells #[] 3))) := by
    have S := Ri.start (kr1_8 w (pb 27 m))
    have hs : (w.alloc (pb 27 m)).heap.size = w.heap.size + 1 := by simp
    rw [hs] at S
    exact Lib.hid ⟨S, H0.out.below (M := w.heap.size) (((Below.refl _ _).alloc (Nat.le_refl _) _).alloc (by simp) _) rfl, hgw⟩
  clear H0
  generalize (World.alloc _ _ : World) = W1 at S0 ⊢
  generalize hv0 : (Value.slice (some ⟨w.heap.size + 1, 0, none⟩) 0 0) = v0 at S0 ⊢
  clear hv0
  refine (HPI.out _).mono ?_
  rintro e W2 ⟨rfl, hb⟩
  have S1 := Lib.hid (S0.out.below hb rfl)
  clear hb S0 HPI
  obtain ⟨g2, cap2, rfl, h2, h3⟩ := S1.out.1.post
  have H2 := Lib.hid h2
  have H3 := Lib.hid h3
  clear h2 h3 S1
  go_wp2_with fail
  go_ret2
  exact ⟨g2, cap2, rfl, H2.out, H3.out⟩
set_option maxRecDepth 8000 in
set_option maxHeartbeats 1000000 in
theorem slast_no1 (m : Nat → Int) (z : List Pn) (hz : z.length ≤ 1048576) (hwf : ∀ p ∈ z, (Lit.int .i64 p.x).wf = true ∧ (Lit.int .i64 p.y).wf = true) (hpic : okp m = true) (hok : lok z = false) (g c : Nat) (w : World) (h0 : Op9 0 g c z w) : Calls Try.prog 48 #[pv m, .slice (some ⟨g, 0, none⟩) z.length c] w (IPb [] false w) := by
  have HPI := Lib.hid (spic_any m)
  rw [hpic] at HPI
  have HL := Lib.hid (slist_any z hz 0 g c)
  rw [hok] at HL
  have hgw := (h0.lt g rfl).2
  have H0 := Lib.hid h0
  clear h0 hpic hwf
  go_enter Try.func48, Try.ntmps48
  have q0 : ((w.alloc (pb 27 m)).alloc (.cells #[] 3)).heap[w.heap.size]? = some (pb 27 m) := alloc_past (alloc_at rfl)
  go_wp2_with (first | ((with_reducible refine wpB36 m ?_ ?_); rfl) | ((with_reducible refine wpL36 w.heap.size 27 m q0 _ Try.underlying27 ?_ ?_ ?_ ?_); rfl; rfl; kernel_rfl))
  clear q0
  have S0 : Hid (Lq9 w m z g c [] (.slice (some ⟨w.heap.size + 1, 0, none⟩) 0 0) ((w.alloc (pb 27 m)).alloc (.cells #[] 3))) := by
    have S := Ri.start (kr1_8 w (pb 27 m))
    have hs : (w.alloc (pb 27 m)).heap.size = w.heap.size + 1 := by simp
    rw [hs] at S
    exact Lib.hid ⟨S, H0.out.below (M := w.heap.size) (((Below.refl _ _).alloc (Nat.le_refl _) _).alloc (by simp) _) rfl, hgw⟩
  clear H0
  generalize (World.alloc _ _ : World) = W1 at S0 ⊢
  generalize hv0 : (Value.slice (some ⟨w.heap.size + 1, 0, none⟩) 0 0) = v0 at S0 ⊢
  clear hv0
  refine (HPI.out _).mono ?_
  rintro e W2 ⟨rfl, hb⟩
  have S1 := Lib.hid (S0.out.below hb rfl)
  clear hb S0 HPI
  go_wp2_with fail
  refine (HL.out _ S1.out.2.1).mono ?_
  rintro e W3 ⟨rfl, hb⟩
  have S1 := Lib.hid (S1.out.below hb rfl)
  clear hb HL
  obtain ⟨g2, cap2, rfl, h2, h3⟩ := S1.out.1.post
  have H2 := Lib.hid h2
  have H3 := Lib.hid h3
  clear h2 h3 S1
  go_wp2_with fail
  go_ret2
  exact ⟨g2, cap2, rfl, H2.out, H3.out⟩
set_option maxRecDepth 8000 in
set_option maxHeartbeats 1000000 in
theorem ilast_no0 (m : Nat → Int) (z : List Pn) (hz : z.length ≤ 1048576) (hwf : ∀ p ∈ z, (Lit.int .i64 p.x).wf = true ∧ (Lit.int .i64 p.y).wf = true) (hpic : okp m = false) (g c : Nat) (w : World) (h0 : Op9 0 g c z w) : Calls Try.prog 49 #[pv m, .slice (some ⟨g, 0, none⟩) z.length c] w (IPb [] false w) := by
  have HPI := Lib.hid (impic_any m)
  rw [hpic] at HPI
  have HL := Lib.hid (ilist_any z hz hwf 0 g c)
  clear HL
  have hgw := (h0.lt g rfl).2
  have H0 := Lib.hid h0
  clear h0 hpic hwf
  go_enter Try.func49, Try.ntmps49
  have q0 : ((w.alloc (pb 27 m)).alloc (.cells #[] 3)).heap[w.heap.size]? = some (pb 27 m) := alloc_past (alloc_at rfl)
  go_wp2_with (first | ((with_reducible refine wpB36 m ?_ ?_); rfl) | ((with_reducible refine wpL36 w.heap.size 27 m q0 _ Try.underlying27 ?_ ?_ ?_ ?_); rfl; rfl; kernel_rfl))
  clear q0
  have S0 : Hid (Lq9 w m z g c [] (.slice (some ⟨w.heap.size + 1, 0, none⟩) 0 0) ((w.alloc (pb 27 m)).alloc (.cells #[] 3))) := by
    have S := Ri.start (kr1_8 w (pb 27 m))
    have hs : (w.alloc (pb 27 m)).heap.size = w.heap.size + 1 := by simp
    rw [hs] at S
    exact Lib.hid ⟨S, H0.out.below (M := w.heap.size) (((Below.refl _ _).alloc (Nat.le_refl _) _).alloc (by simp) _) rfl, hgw⟩
  clear H0
  generalize (World.alloc _ _ : World) = W1 at S0 ⊢
  generalize hv0 : (Value.slice (some ⟨w.heap.size + 1, 0, none⟩) 0 0) = v0 at S0 ⊢
  clear hv0
  refine (HPI.out _).mono ?_
  rintro e W2 ⟨rfl, hb⟩
  have S1 := Lib.hid (S0.out.below hb rfl)
  clear hb S0 HPI
  obtain ⟨g2, cap2, rfl, h2, h3⟩ := S1.out.1.post
  have H2 := Lib.hid h2
  have H3 := Lib.hid h3
  clear h2 h3 S1
  go_wp2_with fail
  go_ret2
  exact ⟨g2, cap2, rfl, H2.out, H3.out⟩
set_option maxRecDepth 8000 in
set_option maxHeartbeats 1000000 in
theorem ilast_no1 (m : Nat → Int) (z : List Pn) (hz : z.length ≤ 1048576) (hwf : ∀ p ∈ z, (Lit.int .i64 p.x).wf = true ∧ (Lit.int .i64 p.y).wf = true) (hpic : okp m = true) (hok : lok z = false) (g c : Nat) (w : World) (h0 : Op9 0 g c z w) : Calls Try.prog 49 #[pv m, .slice (some ⟨g, 0, none⟩) z.length c] w (IPb [] false w) := by
  have HPI := Lib.hid (impic_any m)
  rw [hpic] at HPI
  have HL := Lib.hid (ilist_any z hz hwf 0 g c)
  rw [hok] at HL
  have hgw := (h0.lt g rfl).2
  have H0 := Lib.hid h0
  clear h0 hpic hwf
  go_enter Try.func49, Try.ntmps49
  have q0 : ((w.alloc (pb 27 m)).alloc (.cells #[] 3)).heap[w.heap.size]? = some (pb 27 m) := alloc_past (alloc_at rfl)
  go_wp2_with (first | ((with_reducible refine wpB36 m ?_ ?_); rfl) | ((with_reducible refine wpL36 w.heap.size 27 m q0 _ Try.underlying27 ?_ ?_ ?_ ?_); rfl; rfl; kernel_rfl))
  clear q0
  have S0 : Hid (Lq9 w m z g c [] (.slice (some ⟨w.heap.size + 1, 0, none⟩) 0 0) ((w.alloc (pb 27 m)).alloc (.cells #[] 3))) := by
    have S := Ri.start (kr1_8 w (pb 27 m))
    have hs : (w.alloc (pb 27 m)).heap.size = w.heap.size + 1 := by simp
    rw [hs] at S
    exact Lib.hid ⟨S, H0.out.below (M := w.heap.size) (((Below.refl _ _).alloc (Nat.le_refl _) _).alloc (by simp) _) rfl, hgw⟩
  clear H0
  generalize (World.alloc _ _ : World) = W1 at S0 ⊢
  generalize hv0 : (Value.slice (some ⟨w.heap.size + 1, 0, none⟩) 0 0) = v0 at S0 ⊢
  clear hv0
  refine (HPI.out _).mono ?_
  rintro e W2 ⟨rfl, hb⟩
  have S1 := Lib.hid (S0.out.below hb rfl)
  clear hb S0 HPI
  go_wp2_with fail
  refine (HL.out _ S1.out.2.1).mono ?_
  rintro e W3 ⟨rfl, hb⟩
  have S1 := Lib.hid (S1.out.below hb rfl)
  clear hb HL
  obtain ⟨g2, cap2, rfl, h2, h3⟩ := S1.out.1.post
  have H2 := Lib.hid h2
  have H3 := Lib.hid h3
  clear h2 h3 S1
  go_wp2_with fail
  go_ret2
  exact ⟨g2, cap2, rfl, H2.out, H3.out⟩
theorem last_pair (m : Nat → Int) (z : List Pn) (hz : z.length ≤ 1048576) (hwf : ∀ p ∈ z, (Lit.int .i64 p.x).wf = true ∧ (Lit.int .i64 p.y).wf = true) : ∃ (l : List Nat) (t : Bool), l.length ≤ 36 ∧ (∀ (w : World) (g c : Nat), Op9 0 g c z w → Calls Try.prog 48 #[pv m, .slice (some ⟨g, 0, none⟩) z.length c] w (IPb l t w)) ∧ (∀ (w : World) (g c : Nat), Op9 0 g c z w → Calls Try.prog 49 #[pv m, .slice (some ⟨g, 0, none⟩) z.length c] w (IPb l t w)) := by
  cases hpic : okp m
  · exact ⟨[], false, by simp, fun w g c h => slast_no0 m z hz hwf hpic g c w h, fun w g c h => ilast_no0 m z hz hwf hpic g c w h⟩
  · cases hok : lok z
    · exact ⟨[], false, by simp, fun w g c h => slast_no1 m z hz hwf hpic hok g c w h, fun w g c h => ilast_no1 m z hz hwf hpic hok g c w h⟩
    · have h6 := (lok_get hok).1
      have hl := nl7_len (fun i => lst8 m (z.getD i pn0)) z.length
      exact ⟨lsl8 m z, true, by unfold lsl8; omega, fun w g c h => slast_yes m z hz hpic hok g c w h, fun w g c h => ilast_yes m z hz hwf hpic hok g c w h⟩
/- Lx8 -/
theorem Oy.grown9 {n : Nat} {R : List (Nat × Obj)} {w U U' : World} {ows : List OwT} {g : Nat} (h : Oy n R w ows U) (hg : U.grownBy U' (some g)) (hw : w.heap.size + n ≤ g) (hne : ∀ o ∈ ows, o.1 ≠ g) : Oy n R w ows U' :=
  ⟨h.1.grown hg (fun k hk => by cases hk; exact hw), fun o ho => ⟨(h.2.1 o ho).1, (h.2.1 o ho).2.grown hg (hne o ho)⟩, h.2.2⟩
set_option maxRecDepth 8000 in
set_option maxHeartbeats 4000000 in
theorem last_core (m : Nat → Int) (z : List Pn) (a : Option Addr) (cap : Nat) (hm : z.length ≤ maxLen) (l : List Nat) (hl : l.length ≤ 100) (t : Bool) (HS : Hid (z.length ≤ 1048576 → ∀ (w : World) (g c : Nat), Op9 0 g c z w → Calls Try.prog 48 #[pv m, .slice (some ⟨g, 0, none⟩) z.length c] w (IPb l t w))) (HI : Hid (z.length ≤ 1048576 → ∀ (w : World) (g c : Nat), Op9 0 g c z w → Calls Try.prog 49 #[pv m, .slice (some ⟨g, 0, none⟩) z.length c] w (IPb l t w))) (w : World) (hP : IsPrints w a z) : Calls Try.prog 12 #[pv m, .slice a z.length cap] w fun e w' => e = .returned (.bool true) ∧ Below w.heap.size w w' := by
  have HZ := Lib.hid (size_prints a z.length cap hm)
  have HP := Lib.hid hP
  clear hP
  by_cases hbig : 1048576 < z.length
  · simp only [hbig, if_true] at HZ
    clear HS HI
    go_enter Try.func12, Try.ntmps12
    go_wp2_with ((with_reducible refine wpB36 m ?_ ?_); rfl)
    have K0 := kr1_8 w (pb 25 m)
    generalize (World.alloc _ _ : World) = W0 at K0 ⊢
    refine (HZ.out _).mono ?_
    rintro e w' ⟨rfl, hw⟩
    obtain rfl := hw.symm
    go_wp2_with fail
    go_ret
    exact ⟨rfl, K0.2.2⟩
  · have hz : z.length ≤ 1048576 := by omega
    have hge : ¬ ((1048576 : Int) - (z.length : Int) < 0) := by omega
    simp only [hbig, if_false] at HZ
    have HT := Lib.hid (fun (W : World) (hW : Below w.heap.size w W) => toprints_any z hz a cap W (HP.out.below hW))
    have HS := Lib.hid (HS.out hz)
    have HI := Lib.hid (HI.out hz)
    have HQ := Lib.hid (eqprints_same z hz 0 0)
    have HMP := Lib.hid (fun (g c : Nat) (W : World) (h : Op9 0 g c z W) => mark_prints g c z.length hz W h.mk)
    have hcv := nvs_len l
    obtain ⟨M, hM⟩ : ∃ M : Int, M = (l.length : Int) + 1 := ⟨_, rfl⟩
    have hM1 : 0 ≤ M := by omega
    have HM := Lib.hid hM
    obtain ⟨N, hN⟩ : ∃ N : Int, N = (z.length : Int) * 9 + 1 := ⟨_, rfl⟩
    have hN1 : ¬ (N < 0) := by omega
    rw [← hN] at HMP
    have HC := Lib.hid hcv
    have HL := Lib.hid hl
    clear hM hcv hl hN
    have HTP := Lib.hid (topic_any m)
    go_enter Try.func12, Try.ntmps12
    go_wp2_with ((with_reducible refine wpB36 m ?_ ?_); rfl)
    have K0 := kr1_8 w (pb 25 m)
    generalize (World.alloc _ _ : World) = W0 at K0 ⊢
    have D0 : Hid (Oy 1 [(w.heap.size, pb 25 m)] w [] W0) := Lib.hid ⟨K0, by simp, List.Pairwise.nil⟩
    clear K0
    refine (HZ.out _).mono ?_
    rintro e w' ⟨rfl, hw⟩
    obtain rfl := hw.symm
    have q1 := Lib.hid (D0.out.1.row (g := w.heap.size) (o := pb 25 m) (by simp))
    go_wp2_with ((with_reducible refine wpL36 w.heap.size 25 m q1.out _ Try.underlying25 ?_ ?_ ?_ ?_); rfl; rfl; kernel_rfl)
    refine (HTP.out _).mono ?_
    rintro e V ⟨rfl, hb⟩
    have D0 := Lib.hid (D0.out.below hb rfl)
    clear hb q1
    go_wp2_with fail
    refine (HT.out _ D0.out.below0).mono ?_
    intro e W1 hp
    obtain ⟨ga, rfl, ho, hb⟩ := hp.get
    have oa : Hid (Op9 0 ga z.length z W1) := Lib.hid (ho.mono (Nat.zero_le _))
    have D1 := Lib.hid (D0.out.below hb rfl)
    clear ho hb hp D0
    go_wp2_with fail
    refine (HS.out _ _ _ oa.out).mono ?_
    intro e W2 hp
    obtain ⟨g1, c1, rfl, ho, hb⟩ := IPb.out hp
    have D2 : Hid (Oy 1 [(w.heap.size, pb 25 m)] w [(g1, c1, l.length, nvs l)] W2) := Lib.hid (D1.out.call ho hb rfl)
    have hg1 := (ho.lt g1 rfl).2
    clear ho hb hp D1 oa
    go_wp2_with fail
    refine (HT.out _ D2.out.below0).mono ?_
    intro e W3 hp
    obtain ⟨gx, rfl, ho, hb⟩ := hp.get
    have hgx := (ho.lt gx rfl).1
    have hne1 : g1 ≠ gx := by omega
    have hgxw : w.heap.size + 1 ≤ gx := by have := D2.out.1.2.1; omega
    have hgx3 := (ho.lt gx rfl).2
    have ox : Hid (Op9 0 gx z.length z W3) := Lib.hid (ho.mono (Nat.zero_le _))
    have D3 := Lib.hid (D2.out.below hb rfl)
    clear ho hb hp D2 hg1 hgx
    have q1 := Lib.hid (D3.out.1.row (g := w.heap.size) (o := pb 25 m) (by simp))
    go_wp2_with ((with_reducible refine wpL36 w.heap.size 25 m q1.out _ Try.underlying25 ?_ ?_ ?_ ?_); rfl; rfl; kernel_rfl)
    refine (HTP.out _).mono ?_
    rintro e V ⟨rfl, hb⟩
    have D3 := Lib.hid (D3.out.below hb rfl)
    have hgx3 := Nat.lt_of_lt_of_le hgx3 hb.size
    have ox := Lib.hid (ox.out.below hb rfl)
    clear hb q1
    go_wp2_with fail
    refine (HI.out _ _ _ ox.out).mono ?_
    intro e W4 hp
    obtain ⟨g2, c2, rfl, ho, hb⟩ := IPb.out hp
    have hne2 : g2 ≠ gx := by have := (ho.lt g2 rfl).1; omega
    have D4 : Hid (Oy 1 [(w.heap.size, pb 25 m)] w [(g2, c2, l.length, nvs l), (g1, c1, l.length, nvs l)] W4) := Lib.hid (D3.out.call ho hb rfl)
    have ox := Lib.hid (ox.out.below hb rfl)
    clear ho hb hp D3 hgx3
    go_wp2_with fail
    refine (eqints_same l HL.out 0 0 g2 c2 g1 c1 W4 D4.out.hd D4.out.hd2).mono ?_
    rintro e W5 ⟨rfl, hb⟩
    have D5 := Lib.hid (D4.out.below hb rfl)
    have ox := Lib.hid (ox.out.below hb rfl)
    clear hb D4
    go_wp2_with fail
    refine (HT.out _ D5.out.below0).mono ?_
    intro e W6 hp
    obtain ⟨gc, rfl, ho, hb⟩ := hp.get
    have oc : Hid (Op9 0 gc z.length z W6) := Lib.hid (ho.mono (Nat.zero_le _))
    have D6 := Lib.hid (D5.out.below hb rfl)
    have ox := Lib.hid (ox.out.below hb rfl)
    clear ho hb hp D5
    go_wp2_with fail
    refine (HQ.out _ _ _ _ _ ox.out oc.out).mono ?_
    rintro e W7 ⟨rfl, hb⟩
    have D7 := Lib.hid (D6.out.below hb rfl)
    have ox := Lib.hid (ox.out.below hb rfl)
    clear hb D6 oc
    go_wp2_with fail
    refine (HMP.out _ _ _ ox.out).mono ?_
    rintro e W8 ⟨rfl, hg⟩
    have D8 : Hid (Oy 1 [(w.heap.size, pb 25 m)] w [(g2, c2, l.length, nvs l), (g1, c1, l.length, nvs l)] W8) := Lib.hid (D7.out.grown9 hg hgxw (by
      intro o hm
      simp only [List.mem_cons, List.mem_nil_iff, or_false] at hm
      rcases hm with rfl | rfl
      · exact hne2
      · exact hne1))
    clear hg D7 ox
    go_wp2_with fail
    refine (eqints_same l HL.out 0 0 g2 c2 g1 c1 W8 D8.out.hd D8.out.hd2).mono ?_
    rintro e W9 ⟨rfl, hb⟩
    have D9 := Lib.hid (D8.out.below hb rfl)
    clear hb D8
    go_wp2_with fail
    refine (mark_ints g2 c2 0 l.length (nvs l) HL.out W9 D9.out.hd).mono ?_
    rintro e W10 ⟨rfl, o, hg⟩
    have D10 := Lib.hid (D9.out.mark o hg)
    clear hg o D9
    rw [← HM.out]
    go_wp2_with fail
    have HH := held_ints g2 c2 0 l.length (nvs l) HL.out W10 HC.out D10.out.hd
    rw [← HM.out] at HH
    refine HH.mono ?_
    rintro e W11 ⟨rfl, hw7⟩
    obtain rfl := hw7.symm
    clear HH
    have q1 := Lib.hid (D10.out.1.row (g := w.heap.size) (o := pb 25 m) (by simp))
    go_wp2_with ((with_reducible refine wpL36 w.heap.size 25 m q1.out _ Try.underlying25 ?_ ?_ ?_ ?_); rfl; rfl; kernel_rfl)
    refine (HTP.out _).mono ?_
    rintro e V ⟨rfl, hb⟩
    have D10 := Lib.hid (D10.out.below hb rfl)
    clear hb q1
    go_wp2_with fail
    refine (HT.out _ D10.out.below0).mono ?_
    intro e W12 hp
    obtain ⟨gd, rfl, ho, hb⟩ := hp.get
    have od : Hid (Op9 0 gd z.length z W12) := Lib.hid (ho.mono (Nat.zero_le _))
    have D12 := Lib.hid (D10.out.below hb rfl)
    clear ho hb hp D10
    go_wp2_with fail
    refine (HI.out _ _ _ od.out).mono ?_
    intro e W13 hp
    obtain ⟨g5, c5, rfl, ho, hb⟩ := IPb.out hp
    have D13 : Hid (Oy 1 [(w.heap.size, pb 25 m)] w [(g5, c5, l.length, nvs l), (g2, c2, l.length, mks (nvs l) l.length), (g1, c1, l.length, nvs l)] W13) := Lib.hid (D12.out.call ho hb rfl)
    clear ho hb hp D12 od
    go_wp2_with fail
    refine (eqints_same l HL.out 0 0 g5 c5 g1 c1 W13 D13.out.hd D13.out.hd3).mono ?_
    rintro e W14 ⟨rfl, hb⟩
    have D14 := Lib.hid (D13.out.below hb rfl)
    clear hb D13
    go_wp2_with fail
    have HH := held_ints g2 c2 0 l.length (nvs l) HL.out W14 HC.out D14.out.hd2
    rw [← HM.out] at HH
    refine HH.mono ?_
    rintro e W15 ⟨rfl, hw11⟩
    obtain rfl := hw11.symm
    clear HH
    go_wp2_with fail
    go_ret
    exact ⟨rfl, D14.out.below0⟩
theorem last_law (m : Nat → Int) (z : List Pn) (a : Option Addr) (cap : Nat) (hm : z.length ≤ maxLen) (hwf : ∀ p ∈ z, (Lit.int .i64 p.x).wf = true ∧ (Lit.int .i64 p.y).wf = true) (w : World) (hP : IsPrints w a z) : Calls Try.prog 12 #[pv m, .slice a z.length cap] w fun e w' => e = .returned (.bool true) ∧ Below w.heap.size w w' := by
  by_cases hz : z.length ≤ 1048576
  · obtain ⟨l, t, hl, h1, h2⟩ := last_pair m z hz hwf
    exact last_core m z a cap hm l (by omega) t (Lib.hid fun _ => h1) (Lib.hid fun _ => h2) w hP
  · exact last_core m z a cap hm [] (by simp) false (Lib.hid fun h => absurd h hz) (Lib.hid fun h => absurd h hz) w hP
end Go.Proofs.Ytcjomhjgjdjigaa
