/- CONTRACTS: the code's iterator over the parts of a text, for every loop body that keeps its two boxes. -/
import Derived.RangeFuncBox
import Derived.RangeFuncNested
import Derived.RangeFuncCalls
import Derived.RangeFuncLeaves
import Derived.Shelf.Abstract
import Derived.WalkKit
import Derived.OwnWalkIn
import Derived.TacticsInMore
import Derived.LoopNIn
import Derived.LoopIn
import Derived.Maps.AppendAt
import Derived.RegionIn
import Derived.Test.YtgogacgmphpaoaaSpw
namespace Go.Proofs.Ytgogacgmphpaoaa
open Go.RowKit Go.Shelf
attribute [local go_sem] Oper.semAt_some
set_option linter.unusedVariables false
/-- What a round keeps: the two boxes of the iterator. -/
def KpB (Bs Bc : Nat) (W W' : World) : Prop := (∀ v, W.cell? ⟨Bs, 0, none⟩ = some v → W'.cell? ⟨Bs, 0, none⟩ = some v) ∧ (∀ v, W.cell? ⟨Bc, 0, none⟩ = some v → W'.cell? ⟨Bc, 0, none⟩ = some v)
theorem KpB_t {Bs Bc : Nat} {A B C : World} (h : KpB Bs Bc A B) (k : KpB Bs Bc B C) : KpB Bs Bc A C := ⟨fun v hv => k.1 v (h.1 v hv), fun v hv => k.2 v (h.2 v hv)⟩
theorem KpB_b {Bs Bc : Nat} (W : World) (l : Nat) (o o' : Obj) (h : W.heap[l]? = some o) (hc : o.isCells = false) : KpB Bs Bc W (W.putObj l o') :=
  ⟨fun v hv => cell_kept hv (grownBy_putObj' W l o') (fun r e => by cases e; exact ⟨_, h, hc⟩), fun v hv => cell_kept hv (grownBy_putObj' W l o') (fun r e => by cases e; exact ⟨_, h, hc⟩)⟩
theorem stp_mono (s : ByteArray) (c : UInt8) (k : Nat) : ∀ d, (stp s c k).2.length ≤ (stp s c (k + d)).2.length
  | 0 => Nat.le_refl _
  | d + 1 => by
    have := stp_mono s c k d
    rw [Nat.add_succ, stp]; split
    · rw [List.length_append]; simp; omega
    · exact this
theorem stp_lt (s : ByteArray) (c : UInt8) {k : Nat} (hk : k ≤ s.size) {f : Nat} {xs : List ByteArray} (h : stp s c k = (f, xs)) : xs.length < (parts s c).length := by
  have := stp_mono s c k (s.size - k)
  rw [h, show k + (s.size - k) = s.size by omega] at this
  unfold parts; rw [List.length_append]; simp; simp at this; omega
theorem drew_grown (W : World) : W.grownBy W.drew none := ⟨rfl, rfl, rfl, Nat.le_refl _, fun _ _ _ => rfl⟩
theorem abide_drew {β : Type} {B : Nat} {J : β → World → Prop} (h : AbidesFrom B J) {x : β} {W : World} (hj : J x W) : J x W.drew := h x W W.drew none hj (drew_grown W) (fun r e => by cases e)
theorem bne_ne {a c : UInt8} (h : a ≠ c) : ((a.toNat : Int) != (c.toNat : Int)) = true := by rw [bne, at_ne h]; rfl
theorem bne_eq {a c : UInt8} (h : a = c) : ((a.toNat : Int) != (c.toNat : Int)) = false := by rw [bne, at_eq h]; rfl
set_option maxRecDepth 100000 in
set_option maxHeartbeats 2000000 in
theorem parts1_in (F : Fence) (n : Nat) (h36 : F.fn 36) (hro : F.round = none) (hn : 1 ≤ n) (l Bs Bc B : Nat) (s : ByteArray) (c : UInt8) (hs : s.size ≤ 4000) (J Jx : List ByteArray → World → Prop) (hJ0 : AbidesFrom B J)
    (hY0 : ∀ pre x W, J pre W → pre.length < (parts s c).length → YieldAt F (n - 1) Try.prog l #[.string x] W fun e W' =>
      (e = .returned (.bool true) ∧ J (pre ++ [x]) W' ∧ KpB Bs Bc W W') ∨ (e = .returned (.bool false) ∧ Jx (pre ++ [x]) W'))
    (W : World) (hBs0 : W.cell? ⟨Bs, 0, none⟩ = some (.string s)) (hBc0 : W.cell? ⟨Bc, 0, none⟩ = some (.int .u8 (c.toNat : Int))) (h0 : J [] W) :
    CallsIn F n Try.prog 36 #[.func (.yield l) #[] #[], .pointer (some ⟨Bs, 0, none⟩), .pointer (some ⟨Bc, 0, none⟩)] W fun e W' => (∃ v, e = .returned v) ∧
      ((∃ ys, ys = parts s c ∧ J ys W') ∨ (∃ pre, True ∧ Jx pre W')) := by
  have hY := Lib.hid hY0
  have hJ := Lib.hid hJ0
  clear hY0 hJ0
  refine callsIn_of_wp Try.func36 rfl h36 ?_ hro
  simp only [Try.ntmps36, List.size_toArray, List.length_cons, List.length_nil, Nat.reduceAdd, Nat.reduceSub, Array.replicate_succ, Array.replicate_zero, List.push_toArray, List.append_toArray, List.nil_append, List.cons_append]
  gi_wp2
  gi_loopw [4, 8] (fun st i wr => ∃ (k f : Nat) (xs : List ByteArray), k ≤ s.size ∧ i = .int .i64 k ∧ st = .int .i64 f ∧ f ≤ k ∧ Hid (stp s c k = (f, xs)) ∧ J xs wr ∧ wr.cell? ⟨Bs, 0, none⟩ = some (.string s) ∧ wr.cell? ⟨Bc, 0, none⟩ = some (.int .u8 (c.toNat : Int)))
    (fun _ i _ => s.size - (intOf i).toNat)
  case atStart => exact ⟨0, 0, [], Nat.zero_le _, rfl, rfl, Nat.le_refl _, rfl, h0, hBs0, hBc0⟩
  case round =>
    obtain ⟨k, f, xs, hk, rfl, rfl, hf, HS, hJs, hBs, hBc⟩ := hrel
    have hxl := stp_lt s c hk HS.out
    by_cases hlt : k < s.size
    · by_cases he : s[k] = c
      · have HE := Lib.hid (stp_yes hlt he)
        have hbq := at_eq he
        have hbn := bne_eq he
        have hJd : J xs wr.drew := abide_drew hJ.out hJs
        obtain ⟨fn, tmps, assign, body, hy, hR⟩ := hY.out xs (s.extract f k) wr.drew hJd hxl
        clear he
        gi_wp2
        gi_region
        all_goals gi_wp2
        all_goals
          refine hR.mono ?_
          rintro e W3 (⟨rfl, hJ3, hk3⟩ | ⟨rfl, hJx3⟩)
          · have hBs3 : W3.cell? ⟨Bs, 0, none⟩ = some (.string s) := hk3.1 _ hBs
            have hBc3 : W3.cell? ⟨Bc, 0, none⟩ = some (.int .u8 (c.toNat : Int)) := hk3.2 _ hBc
            gi_wp2
            go_roundw
            case rel => exact ⟨k + 1, k + 1, xs ++ [s.extract f k], by omega, by go_num, by go_num, Nat.le_refl _, by show stp s c (k + 1) = _; rw [HE.out, HS.out], hJ3, hBs3, hBc3⟩
            case measure => simp [intOf]; omega
          · gi_wp2
            refine bodyPost_ret (results_none rfl _ _ _) rfl ?_
            exact ⟨⟨_, rfl⟩, .inr ⟨_, trivial, hJx3⟩⟩
      · have HE := Lib.hid (stp_no hlt he)
        have hbq := at_ne he
        have hbn := bne_ne he
        have HJD := Lib.hid (abide_drew hJ.out hJs)
        clear he hJs
        gi_wp2
        gi_region
        all_goals gi_wp2
        all_goals
          go_roundw
          case rel => exact ⟨k + 1, f, xs, by omega, by go_num, rfl, by omega, by show stp s c (k + 1) = _; rw [HE.out, HS.out], HJD.out, hBs, hBc⟩
          case measure => simp [intOf]; omega
    · obtain rfl : k = s.size := by omega
      have HP := Lib.hid (show parts s c = xs ++ [s.extract f s.size] by unfold parts; rw [HS.out])
      obtain ⟨fn, tmps, assign, body, hy, hR⟩ := hY.out xs (s.extract f s.size) wr hJs hxl
      gi_wp2
      refine hR.mono ?_
      rintro e W3 (⟨rfl, hJ3, hk3⟩ | ⟨rfl, hJx3⟩)
      · gi_wp2
        go_end0
        exact ⟨⟨_, rfl⟩, .inl ⟨_, HP.out.symm, hJ3⟩⟩
      · gi_wp2
        go_end0
        exact ⟨⟨_, rfl⟩, .inr ⟨_, trivial, hJx3⟩⟩
set_option maxHeartbeats 1000000 in
/-- partsOf: the text and the byte are boxed; the function value captures the boxes. -/
theorem partsOf_in (F : Fence) (n : Nat) (h27 : F.fn 27) (hro : F.round = none) (s : ByteArray) (v : Int) (w : World) :
    CallsIn F n Try.prog 27 #[.string s, .int .u8 v] w fun e w' => e = .returned (.func (.func 36) #[] #[.pointer (some ⟨w.heap.size, 0, none⟩), .pointer (some ⟨w.heap.size + 1, 0, none⟩)]) ∧ w' = (w.alloc (.cells #[.string s] 9)).alloc (.cells #[.int .u8 v] 5) := by
  refine callsIn_of_wp Try.func27 rfl h27 ?_ hro
  simp only [Try.ntmps27, List.size_toArray, List.length_cons, List.length_nil, Nat.reduceAdd, Nat.reduceSub, Array.replicate_succ, Array.replicate_zero, List.push_toArray, List.append_toArray, List.nil_append, List.cons_append]
  gi_wp2
  go_ret
  exact ⟨rfl, rfl⟩
theorem parts_stops (F : Fence) (n : Nat) (h36 : F.fn 36) (hro : F.round = none) (hn : 1 ≤ n) (Bs Bc : Nat) (s : ByteArray) (c : UInt8) (hs : s.size ≤ 4000) (w : World) (hBs : Bs < w.heap.size) (hBc : Bc < w.heap.size)
    (hc1 : w.cell? ⟨Bs, 0, none⟩ = some (.string s)) (hc2 : w.cell? ⟨Bc, 0, none⟩ = some (.int .u8 (c.toNat : Int))) :
    SeqStopsK F n Try.prog 36 #[.pointer (some ⟨Bs, 0, none⟩), .pointer (some ⟨Bc, 0, none⟩)] (fun x : ByteArray => #[Value.string x]) (KpB Bs Bc) (fun ys => ys = parts s c) (fun _ => True) (parts s c).length w := fun l J Jx W hW hJ _ hY h0 =>
  parts1_in F n h36 hro hn l Bs Bc _ s c hs J Jx hJ hY W ((hW.cell (p := ⟨Bs, 0, none⟩) hBs).trans hc1) ((hW.cell (p := ⟨Bc, 0, none⟩) hBc).trans hc2) h0
end Go.Proofs.Ytgogacgmphpaoaa
