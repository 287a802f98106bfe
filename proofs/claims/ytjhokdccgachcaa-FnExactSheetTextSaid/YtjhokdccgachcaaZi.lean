/- CONTRACTS: the code's SplitString: the parts of a text between the places of a byte (as in the seat of stage 1). -/
import Derived.Test.YtjhokdccgachcaaRows
import Derived.Lib.Join
import Derived.WalkKit
import Derived.ProofKit
import Derived.OpenShut
import Derived.Lib.Hide
import Derived.WalkSpells
import Derived.Below
import Derived.Laws.OwnMore
import Derived.BigQuiet
import Derived.OwnWalk
import Derived.RangeFuncBox
import Derived.RangeFuncNested
import Derived.RangeFuncCalls
import Derived.RangeFuncLeaves
import Derived.Shelf.Abstract
import Derived.OwnWalkIn
import Derived.TacticsInMore
import Derived.LoopNIn
import Derived.LoopIn
import Derived.Maps.AppendAt
import Derived.RegionIn
namespace Go.Proofs.Ytjhokdccgachcaa.Zi
def has (c : UInt8) (x : ByteArray) : Bool := decide (c ∈ x.data.toList)
def noBefore (x : ByteArray) (c : UInt8) (k : Nat) : Prop := ∀ j (h : j < x.size), j < k → x[j] ≠ c
theorem noBefore_zero (x : ByteArray) (c : UInt8) : noBefore x c 0 := fun _ _ h => absurd h (by omega)
theorem noBefore_succ {x : ByteArray} {c : UInt8} {k : Nat} (h : noBefore x c k) (hk : k < x.size) (hne : x[k] ≠ c) : noBefore x c (k + 1) := fun j hj hlt => by
  by_cases e : j = k
  · subst e; exact hne
  · exact h j hj (by omega)
theorem has_none {x : ByteArray} {c : UInt8} (h : noBefore x c x.size) : has c x = false := by
  unfold has
  rw [decide_eq_false_iff_not]
  intro hm
  obtain ⟨i, hi, he⟩ := List.mem_iff_getElem.1 hm
  exact h i (by simpa using hi) (by simpa using hi) he
theorem has_at {x : ByteArray} {c : UInt8} {k : Nat} (hk : k < x.size) (he : x[k] = c) : has c x = true := by
  unfold has
  rw [decide_eq_true_iff]
  exact List.mem_iff_getElem.2 ⟨k, by simpa using hk, he⟩
theorem at_ne {a c : UInt8} (h : a ≠ c) : ((a.toNat : Int) == (c.toNat : Int)) = false := by
  rw [beq_eq_false_iff_ne]; intro e; exact h (UInt8.toNat_inj.1 (by omega))
theorem at_eq {a c : UInt8} (h : a = c) : ((a.toNat : Int) == (c.toNat : Int)) = true := by rw [h]; simp

def canFrom (c : UInt8) : List ByteArray → Int → Bool
  | [], _ => true
  | x :: r, L => if 4000 < L + ((x.size : Int) + 1) then false else if has c x = true then false else canFrom c r (L + ((x.size : Int) + 1))
def LL (xs : List ByteArray) (k : Nat) : Int := ((xs.take k).map fun x => (x.size : Int) + 1).sum - 1
theorem LL_zero (xs : List ByteArray) : LL xs 0 = -1 := rfl
theorem LL_succ {xs : List ByteArray} {k : Nat} {x : ByteArray} (h : xs[k]? = some x) : LL xs (k + 1) = LL xs k + ((x.size : Int) + 1) := by
  unfold LL; rw [List.take_add_one, h]; simp [List.sum_append]; omega
theorem LL_lo (xs : List ByteArray) (k : Nat) : -1 ≤ LL xs k := by
  unfold LL
  have : ∀ l : List ByteArray, 0 ≤ (l.map fun x => (x.size : Int) + 1).sum := by
    intro l
    induction l with
    | nil => simp
    | cons a r ih => simp only [List.map_cons, List.sum_cons]; omega
  have := this (xs.take k)
  omega
theorem drop_at {α : Type} {xs : List α} {k : Nat} {x : α} (h : xs[k]? = some x) : xs.drop k = x :: xs.drop (k + 1) := by
  obtain ⟨hk, rfl⟩ := List.getElem?_eq_some_iff.1 h
  exact List.drop_eq_getElem_cons hk
/-- What stands after k parts: the rest decides. -/
def Cf (xs : List ByteArray) (c : UInt8) (k : Nat) : Prop := canFrom c (xs.drop k) (LL xs k) = canFrom c xs (-1)
theorem Cf_zero (xs : List ByteArray) (c : UInt8) : Cf xs c 0 := rfl
theorem Cf_big {xs : List ByteArray} {c : UInt8} {k : Nat} {x : ByteArray} (h : Cf xs c k) (hx : xs[k]? = some x) (hb : 4000 < LL xs k + ((x.size : Int) + 1)) : canFrom c xs (-1) = false := by
  rw [← h, drop_at hx, canFrom, if_pos hb]
theorem Cf_has {xs : List ByteArray} {c : UInt8} {k : Nat} {x : ByteArray} (h : Cf xs c k) (hx : xs[k]? = some x) (hb : has c x = true) : canFrom c xs (-1) = false := by
  rw [← h, drop_at hx, canFrom, if_pos hb]; split <;> rfl
theorem Cf_step {xs : List ByteArray} {c : UInt8} {k : Nat} {x : ByteArray} (h : Cf xs c k) (hx : xs[k]? = some x) (hb : ¬ 4000 < LL xs k + ((x.size : Int) + 1)) (hn : has c x = false) : Cf xs c (k + 1) := by
  unfold Cf
  rw [← h, drop_at hx, canFrom, if_neg hb, if_neg (by rw [hn]; exact Bool.false_ne_true), LL_succ hx]
theorem Cf_end {xs : List ByteArray} {c : UInt8} {k : Nat} (h : Cf xs c k) (hk : xs.length ≤ k) : canFrom c xs (-1) = true := by
  rw [← h, List.drop_eq_nil_of_le hk]; rfl
def jn (xs : List ByteArray) (c : UInt8) (k : Nat) : ByteArray := ⟨(Lib.join ((xs.take k).map (·.data.toList)) [c]).toArray⟩
theorem jn_zero (xs : List ByteArray) (c : UInt8) : jn xs c 0 = ⟨#[]⟩ := rfl
theorem jn_one {xs : List ByteArray} {c : UInt8} {x : ByteArray} (h : xs[0]? = some x) : jn xs c 1 = x := by
  unfold jn
  have : xs.take 1 = [x] := by rw [show (1 : Nat) = 0 + 1 from rfl, List.take_add_one, h]; rfl
  rw [this, List.map_singleton, Lib.join_one]
theorem ba_app (a b : List UInt8) : (⟨a.toArray⟩ : ByteArray) ++ ⟨b.toArray⟩ = ⟨(a ++ b).toArray⟩ := by
  apply ByteArray.ext; simp [ByteArray.data_append]
theorem ba_self (x : ByteArray) : (⟨x.data.toList.toArray⟩ : ByteArray) = x := rfl
theorem jn_succ {xs : List ByteArray} {c : UInt8} {k : Nat} {x : ByteArray} (hk : 1 ≤ k) (h : xs[k]? = some x) : jn xs c (k + 1) = (jn xs c k ++ ⟨#[c]⟩) ++ x := by
  have hlt := (List.getElem?_eq_some_iff.1 h).1
  obtain ⟨y, r, rfl⟩ : ∃ y r, xs = y :: r := by
    cases xs with
    | nil => simp at hlt
    | cons y r => exact ⟨y, r, rfl⟩
  obtain ⟨m, rfl⟩ : ∃ m, k = m + 1 := ⟨k - 1, by omega⟩
  rw [List.getElem?_cons_succ] at h
  unfold jn
  rw [List.take_succ_cons, List.take_succ_cons, List.map_cons, List.map_cons, Lib.join_cons, Lib.join_cons, List.map_take, List.map_take, Lib.joinTail_take_succ [c] (r.map (·.data.toList)) m x.data.toList (by rw [List.getElem?_map, h]; rfl)]
  conv => rhs; rw [← ba_self x]
  rw [show (⟨#[c]⟩ : ByteArray) = ⟨[c].toArray⟩ from rfl, ba_app, ba_app]
  simp [List.append_assoc]
theorem jn_size {xs : List ByteArray} {c : UInt8} : ∀ {k : Nat}, 1 ≤ k → k ≤ xs.length → ((jn xs c k).size : Int) = LL xs k
  | 0, h, _ => absurd h (by omega)
  | 1, _, h2 => by
    have hx : xs[0]? = some (xs[0]'(by omega)) := List.getElem?_eq_getElem _
    rw [jn_one hx, show (1 : Nat) = 0 + 1 from rfl, LL_succ hx, LL_zero]; omega
  | k + 2, _, h2 => by
    have hx : xs[k + 1]? = some (xs[k + 1]'(by omega)) := List.getElem?_eq_getElem _
    have ih := jn_size (xs := xs) (c := c) (k := k + 1) (by omega) (by omega)
    rw [jn_succ (by omega) hx, LL_succ hx, ← ih]
    simp [ByteArray.size_append]
    have : (⟨#[c]⟩ : ByteArray).size = 1 := rfl
    omega
theorem jn_all (xs : List ByteArray) (c : UInt8) : jn xs c xs.length = ⟨(Lib.join (xs.map (·.data.toList)) [c]).toArray⟩ := by
  unfold jn; rw [List.take_length]
/-- After k bytes: where the part under way begins, and the parts that are done. -/
def stp (s : ByteArray) (c : UInt8) : Nat → Nat × List ByteArray
  | 0 => (0, [])
  | k + 1 => if s.data.toList[k]? = some c then (k + 1, (stp s c k).2 ++ [s.extract (stp s c k).1 k]) else stp s c k
def parts (s : ByteArray) (c : UInt8) : List ByteArray := (stp s c s.size).2 ++ [s.extract (stp s c s.size).1 s.size]
theorem get_at (s : ByteArray) (k : Nat) (h : k < s.size) : s.data.toList[k]? = some s[k] := by
  rw [List.getElem?_eq_getElem (by simpa using h)]; rfl
theorem stp_yes {s : ByteArray} {c : UInt8} {k : Nat} (h : k < s.size) (he : s[k] = c) : stp s c (k + 1) = (k + 1, (stp s c k).2 ++ [s.extract (stp s c k).1 k]) := by
  rw [stp, if_pos (by rw [get_at s k h, he])]
theorem stp_no {s : ByteArray} {c : UInt8} {k : Nat} (h : k < s.size) (he : s[k] ≠ c) : stp s c (k + 1) = stp s c k := by
  rw [stp, if_neg (by rw [get_at s k h]; simpa using he)]
theorem stp_le (s : ByteArray) (c : UInt8) : ∀ k, (stp s c k).1 ≤ k
  | 0 => Nat.le_refl _
  | k + 1 => by
    rw [stp]; split
    · exact Nat.le_refl _
    · exact Nat.le_trans (stp_le s c k) (Nat.le_succ _)
theorem stp_len (s : ByteArray) (c : UInt8) : ∀ k, (stp s c k).2.length ≤ k
  | 0 => Nat.le_refl _
  | k + 1 => by
    have := stp_len s c k
    rw [stp]; split
    · rw [List.length_append]; simp; omega
    · omega
theorem parts_len (s : ByteArray) (c : UInt8) : (parts s c).length ≤ s.size + 1 := by
  unfold parts; have := stp_len s c s.size; rw [List.length_append]; simp; omega
theorem parts_pos (s : ByteArray) (c : UInt8) : 0 < (parts s c).length := by unfold parts; simp
section
open Go.ChangeShapes Go.WideShapes Go.ChangeAt Go.RowKit
theorem blk_lt {w : World} {a : Addr} {v : Value} (h : w.cell? a = some v) : a.block < w.heap.size := by
  rcases Nat.lt_or_ge a.block w.heap.size with hlt | hge
  · exact hlt
  · simp [World.cell?, Array.getElem?_eq_none hge] at h
theorem infoS : (Try.prog.info? 9).map (fun i => (i.zero, i.size, i.bytes)) = some (some (.string ByteArray.empty), 1, 16) := by kernel_rfl
theorem own_shape {W : World} {base e size k : Nat} {v : Value} {xs : List Value} (h : W.ownsRow base e size v (k + 1) xs) : ∃ g cap, v = .slice (some ⟨g, 0, none⟩) (k + 1) cap ∧ base ≤ g := by
  rcases h.2 with ⟨_, h0⟩ | ⟨g, cap, _, rfl, hb, _⟩
  · omega
  · exact ⟨g, cap, rfl, hb⟩
end
open Go.RowKit Go.Shelf
attribute [local go_sem] Oper.semAt_some
set_option linter.unusedVariables false
/-- What a round keeps: the two boxes of the iterator. -/
def KpB (Bs Bc : Nat) (W W' : World) : Prop := (∀ v, W.cell? ⟨Bs, 0, none⟩ = some v → W'.cell? ⟨Bs, 0, none⟩ = some v) ∧ (∀ v, W.cell? ⟨Bc, 0, none⟩ = some v → W'.cell? ⟨Bc, 0, none⟩ = some v)
theorem KpB_t {Bs Bc : Nat} {A B C : World} (h : KpB Bs Bc A B) (k : KpB Bs Bc B C) : KpB Bs Bc A C := ⟨fun v hv => k.1 v (h.1 v hv), fun v hv => k.2 v (h.2 v hv)⟩
theorem KpB_b {Bs Bc : Nat} (W : World) (l : Nat) (o o' : Obj) (h : W.heap[l]? = some o) (hc : o.isCells = false) : KpB Bs Bc W (W.putObj l o') :=
  ⟨fun v hv => cell_kept hv (grownBy_putObj' W l o') (fun r e => by cases e; exact ⟨_, h, hc⟩), fun v hv => cell_kept hv (grownBy_putObj' W l o') (fun r e => by cases e; exact ⟨_, h, hc⟩)⟩
theorem stp_mono (s : ByteArray) (c : UInt8) (k : Nat) : ∀ d, (stp s c k).2.length ≤ (stp s c (k + d)).2.length
  | 0 => Nat.le_refl _
  | d + 1 => by
    have := stp_mono s c k d
    rw [Nat.add_succ, stp]; split
    · rw [List.length_append]; simp; omega
    · exact this
theorem stp_lt (s : ByteArray) (c : UInt8) {k : Nat} (hk : k ≤ s.size) {f : Nat} {xs : List ByteArray} (h : stp s c k = (f, xs)) : xs.length < (parts s c).length := by
  have := stp_mono s c k (s.size - k)
  rw [h, show k + (s.size - k) = s.size by omega] at this
  unfold parts; rw [List.length_append]; simp; simp at this; omega
theorem drew_grown (W : World) : W.grownBy W.drew none := ⟨rfl, rfl, rfl, Nat.le_refl _, fun _ _ _ => rfl⟩
theorem abide_drew {β : Type} {B : Nat} {J : β → World → Prop} (h : AbidesFrom B J) {x : β} {W : World} (hj : J x W) : J x W.drew := h x W W.drew none hj (drew_grown W) (fun r e => by cases e)
theorem bne_ne {a c : UInt8} (h : a ≠ c) : ((a.toNat : Int) != (c.toNat : Int)) = true := by rw [bne, at_ne h]; rfl
theorem bne_eq {a c : UInt8} (h : a = c) : ((a.toNat : Int) != (c.toNat : Int)) = false := by rw [bne, at_eq h]; rfl
set_option maxRecDepth 100000 in
set_option maxHeartbeats 2000000 in
theorem parts1_in (F : Fence) (n : Nat) (h36 : F.fn 180) (hro : F.round = none) (hn : 1 ≤ n) (l Bs Bc B : Nat) (s : ByteArray) (c : UInt8) (hs : s.size ≤ 4000) (J Jx : List ByteArray → World → Prop) (hJ0 : AbidesFrom B J)
    (hY0 : ∀ pre x W, J pre W → pre.length < (parts s c).length → YieldAt F (n - 1) Try.prog l #[.string x] W fun e W' =>
      (e = .returned (.bool true) ∧ J (pre ++ [x]) W' ∧ KpB Bs Bc W W') ∨ (e = .returned (.bool false) ∧ Jx (pre ++ [x]) W'))
    (W : World) (hBs0 : W.cell? ⟨Bs, 0, none⟩ = some (.string s)) (hBc0 : W.cell? ⟨Bc, 0, none⟩ = some (.int .u8 (c.toNat : Int))) (h0 : J [] W) :
    CallsIn F n Try.prog 180 #[.func (.yield l) #[] #[], .pointer (some ⟨Bs, 0, none⟩), .pointer (some ⟨Bc, 0, none⟩)] W fun e W' => (∃ v, e = .returned v) ∧
      ((∃ ys, ys = parts s c ∧ J ys W') ∨ (∃ pre, True ∧ Jx pre W')) := by
  have hY := Lib.hid hY0
  have hJ := Lib.hid hJ0
  clear hY0 hJ0
  refine callsIn_of_wp Try.func180 rfl h36 ?_ hro
  simp only [Try.ntmps180, List.size_toArray, List.length_cons, List.length_nil, Nat.reduceAdd, Nat.reduceSub, Array.replicate_succ, Array.replicate_zero, List.push_toArray, List.append_toArray, List.nil_append, List.cons_append]
  gi_wp2
  gi_loopw [4, 8] (fun st i wr => ∃ (k f : Nat) (xs : List ByteArray), k ≤ s.size ∧ i = .int .i64 k ∧ st = .int .i64 f ∧ f ≤ k ∧ Hid (stp s c k = (f, xs)) ∧ J xs wr ∧ wr.cell? ⟨Bs, 0, none⟩ = some (.string s) ∧ wr.cell? ⟨Bc, 0, none⟩ = some (.int .u8 (c.toNat : Int)))
    (fun _ i _ => s.size - (intOf i).toNat)
  case atStart => exact ⟨0, 0, [], Nat.zero_le _, rfl, rfl, Nat.le_refl _, rfl, h0, hBs0, hBc0⟩
  case round =>
    obtain ⟨k, f, xs, hk, rfl, rfl, hf, HS, hJs, hBs, hBc⟩ := hrel
    have hxl := stp_lt s c hk HS.out
    by_cases hlt : k < s.size
    · by_cases he : s[k] = c
      · have HE := Lib.hid (stp_yes hlt he)
        have hbq := at_eq he
        have hbn := bne_eq he
        have hJd : J xs wr.drew := abide_drew hJ.out hJs
        obtain ⟨fn, tmps, assign, body, hy, hR⟩ := hY.out xs (s.extract f k) wr.drew hJd hxl
        clear he
        gi_wp2
        gi_region
        all_goals gi_wp2
        all_goals
          refine hR.mono ?_
          rintro e W3 (⟨rfl, hJ3, hk3⟩ | ⟨rfl, hJx3⟩)
          · have hBs3 : W3.cell? ⟨Bs, 0, none⟩ = some (.string s) := hk3.1 _ hBs
            have hBc3 : W3.cell? ⟨Bc, 0, none⟩ = some (.int .u8 (c.toNat : Int)) := hk3.2 _ hBc
            gi_wp2
            go_roundw
            case rel => exact ⟨k + 1, k + 1, xs ++ [s.extract f k], by omega, by go_num, by go_num, Nat.le_refl _, by show stp s c (k + 1) = _; rw [HE.out, HS.out], hJ3, hBs3, hBc3⟩
            case measure => simp [intOf]; omega
          · gi_wp2
            refine bodyPost_ret (results_none rfl _ _ _) rfl ?_
            exact ⟨⟨_, rfl⟩, .inr ⟨_, trivial, hJx3⟩⟩
      · have HE := Lib.hid (stp_no hlt he)
        have hbq := at_ne he
        have hbn := bne_ne he
        have HJD := Lib.hid (abide_drew hJ.out hJs)
        clear he hJs
        gi_wp2
        gi_region
        all_goals gi_wp2
        all_goals
          go_roundw
          case rel => exact ⟨k + 1, f, xs, by omega, by go_num, rfl, by omega, by show stp s c (k + 1) = _; rw [HE.out, HS.out], HJD.out, hBs, hBc⟩
          case measure => simp [intOf]; omega
    · obtain rfl : k = s.size := by omega
      have HP := Lib.hid (show parts s c = xs ++ [s.extract f s.size] by unfold parts; rw [HS.out])
      obtain ⟨fn, tmps, assign, body, hy, hR⟩ := hY.out xs (s.extract f s.size) wr hJs hxl
      gi_wp2
      refine hR.mono ?_
      rintro e W3 (⟨rfl, hJ3, hk3⟩ | ⟨rfl, hJx3⟩)
      · gi_wp2
        go_end0
        exact ⟨⟨_, rfl⟩, .inl ⟨_, HP.out.symm, hJ3⟩⟩
      · gi_wp2
        go_end0
        exact ⟨⟨_, rfl⟩, .inr ⟨_, trivial, hJx3⟩⟩
set_option maxHeartbeats 1000000 in
/-- partsOf: the text and the byte are boxed; the function value captures the boxes. -/
theorem partsOf_in (F : Fence) (n : Nat) (h27 : F.fn 168) (hro : F.round = none) (s : ByteArray) (v : Int) (w : World) :
    CallsIn F n Try.prog 168 #[.string s, .int .u8 v] w fun e w' => e = .returned (.func (.func 180) #[] #[.pointer (some ⟨w.heap.size, 0, none⟩), .pointer (some ⟨w.heap.size + 1, 0, none⟩)]) ∧ w' = (w.alloc (.cells #[.string s] 9)).alloc (.cells #[.int .u8 v] 5) := by
  refine callsIn_of_wp Try.func168 rfl h27 ?_ hro
  simp only [Try.ntmps168, List.size_toArray, List.length_cons, List.length_nil, Nat.reduceAdd, Nat.reduceSub, Array.replicate_succ, Array.replicate_zero, List.push_toArray, List.append_toArray, List.nil_append, List.cons_append]
  gi_wp2
  go_ret
  exact ⟨rfl, rfl⟩
theorem parts_stops (F : Fence) (n : Nat) (h36 : F.fn 180) (hro : F.round = none) (hn : 1 ≤ n) (Bs Bc : Nat) (s : ByteArray) (c : UInt8) (hs : s.size ≤ 4000) (w : World) (hBs : Bs < w.heap.size) (hBc : Bc < w.heap.size)
    (hc1 : w.cell? ⟨Bs, 0, none⟩ = some (.string s)) (hc2 : w.cell? ⟨Bc, 0, none⟩ = some (.int .u8 (c.toNat : Int))) :
    SeqStopsK F n Try.prog 180 #[.pointer (some ⟨Bs, 0, none⟩), .pointer (some ⟨Bc, 0, none⟩)] (fun x : ByteArray => #[Value.string x]) (KpB Bs Bc) (fun ys => ys = parts s c) (fun _ => True) (parts s c).length w := fun l J Jx W hW hJ _ hY h0 =>
  parts1_in F n h36 hro hn l Bs Bc _ s c hs J Jx hJ hY W ((hW.cell (p := ⟨Bs, 0, none⟩) hBs).trans hc1) ((hW.cell (p := ⟨Bc, 0, none⟩) hBc).trans hc2) h0
theorem wpListIn_append_own_at {F : Fence} {n : Nat} {P : Program} (w : World) {ops : Array Oper} {rest : List Oper} {o : Oper} {a : Act} {Q : Exit → Act → World → Prop}
    (hg : o.guard = none) (s x : Operand) (t : TypeId) (hop : o.op = Op.call { callee := Callee.builtin Builtin.append, args := #[s, x], argTypes := #[t, t] })
    (base : Nat) (e : TypeId) (i : TypeInfo) (z : Value) (size bytes : Nat) (h1 : P.underlying t = some (.slice e)) (h2 : P.info? e = some i) (h3 : i.zero = some z) (h4 : i.size = size) (h5 : i.bytes = bytes) (h6 : z.cells.size = size) (h7 : 0 < size)
    (v : Value) (k : Nat) (xs : List Value) (hs : a.eval s = v) (hown : w.ownsRow base e size v k xs) (ad : Addr) (m c : Nat) (news : List Value) (hx : a.eval x = .slice (some ad) m c) (hn : news.length = m * size)
    (hc : ∀ j u, news[j]? = some u → w.cell? (ad.add j) = some u) (h1c : ∀ u ∈ news, u.oneCell' = true) (b1 : k + m ≤ maxLen) (b2 : (k + m) * bytes ≤ 140737488355328) (b3 : base ≤ w.heap.size)
    (hK : ∀ v' w', w'.ownsRow base e size v' (k + m) (xs ++ news) → w.grownBy w' v.ownBlock → (v'.ownBlock = v.ownBlock ∨ v'.ownBlock = some w.heap.size) → wpListIn F n P ops Q rest (a.put o.dst v') w') :
    wpListIn F n P ops Q (o :: rest) a w := by
  refine wpListIn_plain hg fun K hK' => ?_
  obtain ⟨v', w', hrun, r1, r2, _, r4⟩ := run_append_own_at (P := P) w base t o.type e i z size bytes h1 h2 h3 h4 h5 h6 h7 v k xs hown ad m c news hn hc h1c b1 b2 b3
  unfold Oper.wpIn
  refine ⟨?_, ?_⟩
  · simp [Oper.about, hop, resolve, Target.leads, Sem.run_pure]
  · rw [Oper.semAt_plain F _ _ (by rw [hop]; intro c hc'; cases hc')]
    simp [execOp, hop, resolve, invoke, builtin, hs, hx, hrun, Result.andThen]
    exact hK' _ _ (hK v' w' r1 r2 r4)
theorem kp_one {W w1 : World} {Bp Bs : Nat} {v v' : Value} {tmp : Obj} (hg : (W.alloc tmp).grownBy w1 v.ownBlock) (h1 : v.ownBlock ≠ some Bs) (hp : Bs ≠ Bp) (u : Value) (hu : W.cell? ⟨Bs, 0, none⟩ = some u) : (w1.setCell ⟨Bp, 0, none⟩ v').cell? ⟨Bs, 0, none⟩ = some u := by
  have hlt := blk_lt hu
  rw [World.cell?_setCell_other _ _ _ _ (by intro e; cases e; exact hp rfl)]
  rw [World.cell?_of_block (w := W.alloc tmp) (hg.block Bs (by simp; simp at hlt; omega) (fun e => h1 e.symm))]
  rw [World.cell?_alloc_lt _ _ _ hlt]; exact hu
theorem kp_step {W w1 : World} {Bp Bs Bc : Nat} {v v' : Value} {tmp : Obj} (hg : (W.alloc tmp).grownBy w1 v.ownBlock) (h1 : v.ownBlock ≠ some Bs) (h2 : v.ownBlock ≠ some Bc) (hp1 : Bs ≠ Bp) (hp2 : Bc ≠ Bp) : KpB Bs Bc W (w1.setCell ⟨Bp, 0, none⟩ v') :=
  ⟨fun u hu => kp_one hg h1 hp1 u hu, fun u hu => kp_one hg h2 hp2 u hu⟩
theorem own_ne {b sz : Nat} {v v' : Value} (h : v.ownBlock ≠ some b) (hat : v'.ownBlock = v.ownBlock ∨ v'.ownBlock = some sz) (hk : b < sz) : v'.ownBlock ≠ some b := by
  rcases hat with e | e
  · rw [e]; exact h
  · rw [e]; intro e'; cases e'; omega
set_option maxRecDepth 100000 in
set_option maxHeartbeats 2000000 in
theorem implS_in (F : Fence) (n : Nat) (h10 : F.fn 129) (h27 : F.fn 168) (h36 : F.fn 180) (hro : F.round = none) (hn : 3 ≤ n) (s sp : ByteArray) (c : UInt8) (hs : s.size ≤ 4000) (hsp : sp.size = 1) (hc0 : c = sp[0]'(by omega)) (w : World) :
    CallsIn F n Try.prog 129 #[.string s, .string sp] w fun e W' => ∃ g cap, e = .returned (.tuple #[.slice (some ⟨g, 0, none⟩) (parts s c).length cap, .bool true]) ∧ W'.ownsRow w.heap.size 9 1 (.slice (some ⟨g, 0, none⟩) (parts s c).length cap) (parts s c).length ((parts s c).map Value.string) ∧ w.heap.size ≤ g ∧ Below w.heap.size w W' := by
  have h1 : 1 ≤ n := by omega
  have hd : decide (4000 < (s.size : Int)) = false := by simp; omega
  have hc := Lib.hid hc0
  clear hc0
  obtain ⟨i0, hi, hz0, hz1, hz2⟩ := info_parts infoS
  refine callsIn_of_wp_marks Try.func129 rfl h10 ?_ hro
  simp only [Try.ntmps129, List.size_toArray, List.length_cons, List.length_nil, Nat.reduceAdd, Nat.reduceSub, Array.replicate_succ, Array.replicate_zero, List.push_toArray, List.append_toArray, List.nil_append, List.cons_append]
  gi_wp2_with (gi_at_call 168; refine (partsOf_in F (n - 1) h27 hro _ _ _).mono ?_; rintro e w' ⟨rfl, rfl⟩)
  rw [← hc.out]
  obtain ⟨W0, hW0⟩ : ∃ W0, (((w.alloc (.cells #[] 9)).alloc (.cells #[.slice (some ⟨w.heap.size, 0, none⟩) 0 0] 113)).alloc (.cells #[.string s] 9)).alloc (.cells #[.int .u8 (c.toNat : Int)] 5) = W0 := ⟨_, rfl⟩
  rw [hW0]
  have hsz0 : W0.heap.size = w.heap.size + 4 := by rw [← hW0]; simp
  have hB0 : Below w.heap.size w W0 := by
    rw [← hW0]
    exact ((((Below.refl _ w).alloc (Nat.le_refl _) _).alloc (by simp) _).alloc (by simp; omega) _).alloc (by simp; omega) _
  have bP : Boxed W0 (w.heap.size + 1) 113 (.slice (some ⟨w.heap.size, 0, none⟩) 0 0) := by
    rw [← hW0]
    have := Boxed.new (w.alloc (.cells #[] 9)) 113 (.slice (some ⟨w.heap.size, 0, none⟩) 0 0)
    rw [World.size_alloc] at this
    exact (this.alloc _).alloc _
  have bS : Boxed W0 (w.heap.size + 1 + 1) 9 (.string s) := by
    rw [← hW0]
    have := Boxed.new ((w.alloc (.cells #[] 9)).alloc (.cells #[.slice (some ⟨w.heap.size, 0, none⟩) 0 0] 113)) 9 (.string s)
    rw [World.size_alloc, World.size_alloc] at this
    exact this.alloc _
  have bC : Boxed W0 (w.heap.size + 1 + 1 + 1) 5 (.int .u8 (c.toNat : Int)) := by
    rw [← hW0]
    have := Boxed.new (((w.alloc (.cells #[] 9)).alloc (.cells #[.slice (some ⟨w.heap.size, 0, none⟩) 0 0] 113)).alloc (.cells #[.string s] 9)) 5 (.int .u8 (c.toNat : Int))
    rw [World.size_alloc, World.size_alloc, World.size_alloc] at this
    exact this
  have hrow0 : W0.ownsRow w.heap.size 9 1 (.slice (some ⟨w.heap.size, 0, none⟩) 0 0) 0 [] := by
    rw [← hW0]
    exact (((World.ownsRow_lit w #[] 0 (Nat.le_refl _) (by unfold maxLen; omega) rfl).alloc _).alloc _).alloc _
  have HL := Lib.hid (parts_len s c)
  have HP := Lib.hid (parts_pos s c)
  clear hW0
  refine wpIn_rangeFunc_ownG hro h1 (gf := 180) (lb := #[.pointer (some ⟨w.heap.size + 1 + 1, 0, none⟩), .pointer (some ⟨w.heap.size + 1 + 1 + 1, 0, none⟩)]) rfl h36 (enters_of Try.func180 (by kernel_rfl) rfl)
    (parts_stops F (n - 1) h36 hro (by omega) (w.heap.size + 1 + 1) (w.heap.size + 1 + 1 + 1) s c hs W0 (by omega) (by omega) bS.cell bC.cell) KpB_t (fun W l o o' _ h hcl _ => KpB_b W l o o' h hcl) (Below.refl _ _) (fun _ => rfl)
    (fun pre W => (∃ v, Boxed W (w.heap.size + 1) 113 v ∧ W.ownsRow w.heap.size 9 1 v pre.length (pre.map Value.string) ∧ (v.ownBlock ≠ some (w.heap.size + 1 + 1) ∧ v.ownBlock ≠ some (w.heap.size + 1 + 1 + 1))) ∧ Below w.heap.size w W ∧ w.heap.size + 4 ≤ W.heap.size)
    (fun _ _ _ => False)
    (OwnFrom.and (Own.from (holdsRow_own w.heap.size (w.heap.size + 1) 113 9 1 (fun pre : List ByteArray => pre.length) (fun pre => pre.map Value.string) (fun pre v => v.ownBlock ≠ some (w.heap.size + 1 + 1) ∧ v.ownBlock ≠ some (w.heap.size + 1 + 1 + 1))) _) (OwnFrom.and (ownFrom_below (Nat.le_refl _) (by omega)) (fun _ _ _ _ hs hg _ => Nat.le_trans hs hg.size)))
    (fun _ _ _ _ _ hs _ _ => hs)
    ⟨⟨_, bP, hrow0, by simp [Value.ownBlock]; omega, by simp [Value.ownBlock]; omega⟩, hB0, by omega⟩
    (fun x => { tmps := #[.string s, .string sp, undef, undef, .slice none 0 0, .bool false, .pointer (some ⟨w.heap.size + 1, 0, none⟩), .string x, .slice (some ⟨w.heap.size, 0, none⟩) 0 0, .string s, .int .i64 s.size, .bool false, .bool false, .string sp, .int .i64 1, .bool false, .bool false, undef, .string s, .string sp, .int .u8 (c.toNat : Int), .func (.func 180) #[] #[.pointer (some ⟨w.heap.size + 1 + 1, 0, none⟩), .pointer (some ⟨w.heap.size + 1 + 1 + 1, 0, none⟩)], .string x, undef, undef, undef, undef, undef], defers := [] }) ?assign ?body ?done ?stop
  case assign =>
    intro l x W K hK
    gi_wp2
    exact hK
  case body =>
    rintro l pre x W ⟨⟨v, hv, hrow, hne1, hne2⟩, hB, hszW⟩ hlt
    have hvc := hv.cell
    have hlt' : pre.length ≤ 4000 := by have := HL.out; omega
    have HNE := Lib.hid (And.intro hne1 hne2)
    clear hne1 hne2
    gi_wp2_with (gi_at_builtin; refine wpListIn_append_own_at _ rfl _ _ 113 rfl w.heap.size 9 i0 (.string ByteArray.empty) 1 16 Try.underlying113 hi hz0 hz1 hz2 rfl (by decide) _ _ _ rfl (hrow.alloc _) ⟨W.heap.size, 0, none⟩ 1 1 [.string x] rfl rfl (cell_one_new _ _ _) (by simp [Value.oneCell']) (by unfold maxLen; omega) (by omega) (by have := hB.size; simp; omega) ?_; intro v' w1 hown' hgrow hat; obtain ⟨g', cap', rfl⟩ := ownsRow_succ hown'; obtain ⟨hv1, hv2, hr2, hk2, hb2⟩ := hv.appended (by decide) hrow hB.size (by omega) hown' hgrow; have hc1 := hv1.cell; have hf1 := hv1.frozen)
    have hs2 : W.heap.size ≤ (w1.setCell ⟨w.heap.size + 1, 0, none⟩ (.slice (some ⟨g', 0, none⟩) (pre.length + 1) cap')).heap.size := hk2.size
    have hat2 := hat
    simp only [World.size_alloc] at hat2
    exact ⟨hk2.from _, kp_step hgrow HNE.out.1 HNE.out.2 (by omega) (by omega), ⟨_, hv2, by simpa using hr2, own_ne HNE.out.1 hat2 (by omega), own_ne HNE.out.2 hat2 (by omega)⟩, hB.trans hb2, by omega⟩
  case done =>
    rintro D ys W hD rfl ⟨⟨v, hv, hrow, hne⟩, hB, hszW⟩ hK
    have hvc := hv.cell
    gi_wp2
    refine ⟨by simp, .inl ⟨_, _, rfl, run_takeDeferred hK, ?_⟩⟩
    obtain ⟨m, hm⟩ : ∃ m, (parts s c).length = m + 1 := ⟨(parts s c).length - 1, by have := HP.out; omega⟩
    rw [hm] at hrow
    obtain ⟨g, cap, rfl, hbg⟩ := own_shape hrow
    exact ⟨_, results_tmp2 rfl _ _ _, g, cap, by rw [hm]; rfl, by rw [hm]; exact ownsRow_putObj hrow _ hK rfl, hbg, hB.trans (belowK_b (w := w) (Nat.le_refl _) W D _ _ (by omega) hK rfl rfl)⟩
  case stop =>
    rintro D cc pre W _ _ h _
    exact h.elim
/-- What SplitString returns where it says yes. -/
def SplPost (xs : List ByteArray) (w : World) (e : Ending) (w' : World) : Prop :=
  ∃ g cap, e = .returned (.tuple #[.slice (some ⟨g, 0, none⟩) xs.length cap, .bool true]) ∧ w'.ownsRow w.heap.size 9 1 (.slice (some ⟨g, 0, none⟩) xs.length cap) xs.length (xs.map Value.string) ∧ w.heap.size ≤ g ∧ Below w.heap.size w w'
theorem implS_yes (s sp : ByteArray) (c : UInt8) (hs : s.size ≤ 4000) (hsp : sp.size = 1) (hc : c = sp[0]'(by omega)) (w : World) :
    Calls Try.prog 129 #[.string s, .string sp] w (SplPost (parts s c) w) :=
  (callsIn_wide (n := 3)).1 (implS_in Fence.wide 3 trivial trivial trivial rfl (Nat.le_refl _) s sp c hs hsp hc w)
/-- What SplitString returns where it says no: an empty slice in new memory. -/
def SpnPost (w : World) (e : Ending) (w' : World) : Prop :=
  ∃ g cap, e = .returned (.tuple #[.slice (some ⟨g, 0, none⟩) 0 cap, .bool false]) ∧ w'.ownsRow w.heap.size 9 1 (.slice (some ⟨g, 0, none⟩) 0 cap) 0 [] ∧ w.heap.size ≤ g ∧ Below w.heap.size w w'
theorem implS_no (s sp : ByteArray) (h : 4000 < s.size ∨ sp.size ≠ 1) (h1 : s.size ≤ 1048576) (h2 : sp.size ≤ 1048576) (w : World) : Calls Try.prog 129 #[.string s, .string sp] w (SpnPost w) := by
  by_cases hs : 4000 < s.size
  · clear h
    go_enter Try.func129, Try.ntmps129
    go_wp2_with fail
    go_ret2
    exact ⟨_, _, rfl, (World.ownsRow_lit w #[] 0 (Nat.le_refl _) (by unfold maxLen; omega) rfl).alloc _, Nat.le_refl _, ((Below.refl _ _).alloc (Nat.le_refl _) _).alloc (by simp) _⟩
  · have h4 : sp.size ≠ 1 := by omega
    have h5 : ((sp.size : Int) == 1) = false := by rw [beq_eq_false_iff_ne]; omega
    have h6 : ((sp.size : Int) != 1) = true := by rw [bne, h5]; rfl
    clear h h4
    go_enter Try.func129, Try.ntmps129
    go_wp2_with fail
    go_ret2
    exact ⟨_, _, rfl, (World.ownsRow_lit w #[] 0 (Nat.le_refl _) (by unfold maxLen; omega) rfl).alloc _, Nat.le_refl _, ((Below.refl _ _).alloc (Nat.le_refl _) _).alloc (by simp) _⟩
end Go.Proofs.Ytjhokdccgachcaa.Zi
