/- CONTRACTS: the code's SplitString: the parts of a text between the places of a byte (as in the seat of stage 1). -/
import Derived.Test.YtcjomhjgjdjigaaRows
import Derived.Lib.Join
import Derived.WalkKit
import Derived.ProofKit
import Derived.OpenShut
import Derived.Lib.Hide
import Derived.WalkSpells
import Derived.Below
import Derived.Laws.OwnMore
import Derived.BigQuiet
import Derived.OwnWalk
import Derived.RangeFuncBox
import Derived.RangeFuncNested
import Derived.RangeFuncCalls
import Derived.RangeFuncLeaves
import Derived.Shelf.Abstract
import Derived.OwnWalkIn
import Derived.TacticsInMore
import Derived.LoopNIn
import Derived.LoopIn
import Derived.Maps.AppendAt
import Derived.RegionIn
namespace Go.Proofs.Ytcjomhjgjdjigaa.Zi
def has (c : UInt8) (x : ByteArray) : Bool := decide (c ∈ x.data.toList)
def noBefore (x : ByteArray) (c : UInt8) (k : Nat) : Prop := ∀ j (h : j < x.size), j < k → x[j] ≠ c
theorem noBefore_zero (x : ByteArray) (c : UInt8) : noBefore x c 0 := fun _ _ h => absurd h (by omega)
theorem noBefore_succ {x : ByteArray} {c : UInt8} {k : Nat} (h : noBefore x c k) (hk : k < x.size) (hne : x[k] ≠ c) : noBefore x c (k + 1) := fun j hj hlt => by
  by_cases e : j = k
  · subst e; exact hne
  · exact h j hj (by omega)
theorem has_none {x : ByteArray} {c : UInt8} (h : noBefore x c x.size) : has c x = false := by
  unfold has
  rw [decide_eq_false_iff_not]
  intro hm
  obtain ⟨i, hi, he⟩ := List.mem_iff_getElem.1 hm
  exact h i (by simpa using hi) (by simpa using hi) he
theorem has_at {x : ByteArray} {c : UInt8} {k : Nat} (hk : k < x.size) (he : x[k] = c) : has c x = true := by
  unfold has
  rw [decide_eq_true_iff]
  exact List.mem_iff_getElem.2 ⟨k, by simpa using hk, he⟩
theorem at_ne {a c : UInt8} (h : a ≠ c) : ((a.toNat : Int) == (c.toNat : Int)) = false := by
  rw [beq_eq_false_iff_ne]; intro e; exact h (UInt8.toNat_inj.1 (by omega))
theorem at_eq {a c : UInt8} (h : a = c) : ((a.toNat : Int) == (c.toNat : Int)) = true := by rw [h]; simp

def canFrom (c : UInt8) : List ByteArray → Int → Bool
  | [], _ => true
  | x :: r, L => if 4000 < L + ((x.size : Int) + 1) then false else if has c x = true then false else canFrom c r (L + ((x.size : Int) + 1))
def LL (xs : List ByteArray) (k : Nat) : Int := ((xs.take k).map fun x => (x.size : Int) + 1).sum - 1
theorem LL_zero (xs : List ByteArray) : LL xs 0 = -1 := rfl
theorem LL_succ {xs : List ByteArray} {k : Nat} {x : ByteArray} (h : xs[k]? = some x) : LL xs (k + 1) = LL xs k + ((x.size : Int) + 1) := by
  unfold LL; rw [List.take_add_one, h]; simp [List.sum_append]; omega
theorem LL_lo (xs : List ByteArray) (k : Nat) : -1 ≤ LL xs k := by
  unfold LL
  have : ∀ l : List ByteArray, 0 ≤ (l.map fun x => (x.size : Int) + 1).sum := by
    intro l
    induction l with
    | nil => simp
    | cons a r ih => simp only [List.map_cons, List.sum_cons]; omega
  have := this (xs.take k)
  omega
theorem drop_at {α : Type} {xs : List α} {k : Nat} {x : α} (h : xs[k]? = some x) : xs.drop k = x :: xs.drop (k + 1) := by
  obtain ⟨hk, rfl⟩ := List.getElem?_eq_some_iff.1 h
  exact List.drop_eq_getElem_cons hk
/-- What stands after k parts: the rest decides. -/
def Cf (xs : List ByteArray) (c : UInt8) (k : Nat) : Prop := canFrom c (xs.drop k) (LL xs k) = canFrom c xs (-1)
theorem Cf_zero (xs : List ByteArray) (c : UInt8) : Cf xs c 0 := rfl
theorem Cf_big {xs : List ByteArray} {c : UInt8} {k : Nat} {x : ByteArray} (h : Cf xs c k) (hx : xs[k]? = some x) (hb : 4000 < LL xs k + ((x.size : Int) + 1)) : canFrom c xs (-1) = false := by
  rw [← h, drop_at hx, canFrom, if_pos hb]
theorem Cf_has {xs : List ByteArray} {c : UInt8} {k : Nat} {x : ByteArray} (h : Cf xs c k) (hx : xs[k]? = some x) (hb : has c x = true) : canFrom c xs (-1) = false := by
  rw [← h, drop_at hx, canFrom, if_pos hb]; split <;> rfl
theorem Cf_step {xs : List ByteArray} {c : UInt8} {k : Nat} {x : ByteArray} (h : Cf xs c k) (hx : xs[k]? = some x) (hb : ¬ 4000 < LL xs k + ((x.size : Int) + 1)) (hn : has c x = false) : Cf xs c (k + 1) := by
  unfold Cf
  rw [← h, drop_at hx, canFrom, if_neg hb, if_neg (by rw [hn]; exact Bool.false_ne_true), LL_succ hx]
theorem Cf_end {xs : List ByteArray} {c : UInt8} {k : Nat} (h : Cf xs c k) (hk : xs.length ≤ k) : canFrom c xs (-1) = true := by
  rw [← h, List.drop_eq_nil_of_le hk]; rfl
def jn (xs : List ByteArray) (c : UInt8) (k : Nat) : ByteArray := ⟨(Lib.join ((xs.take k).map (·.data.toList)) [c]).toArray⟩
theorem jn_zero (xs : List ByteArray) (c : UInt8) : jn xs c 0 = ⟨#[]⟩ := rfl
theorem jn_one {xs : List ByteArray} {c : UInt8} {x : ByteArray} (h : xs[0]? = some x) : jn xs c 1 = x := by
  unfold jn
  have : xs.take 1 = [x] := by rw [show (1 : Nat) = 0 + 1 from rfl, List.take_add_one, h]; rfl
  rw [this, List.map_singleton, Lib.join_one]
theorem ba_app (a b : List UInt8) : (⟨a.toArray⟩ : ByteArray) ++ ⟨b.toArray⟩ = ⟨(a ++ b).toArray⟩ := by
  apply ByteArray.ext; simp [ByteArray.data_append]
theorem ba_self (x : ByteArray) : (⟨x.data.toList.toArray⟩ : ByteArray) = x := rfl
theorem jn_succ {xs : List ByteArray} {c : UInt8} {k : Nat} {x : ByteArray} (hk : 1 ≤ k) (h : xs[k]? = some x) : jn xs c (k + 1) = (jn xs c k ++ ⟨#[c]⟩) ++ x := by
  have hlt := (List.getElem?_eq_some_iff.1 h).1
  obtain ⟨y, r, rfl⟩ : ∃ y r, xs = y :: r := by
    cases xs with
    | nil => simp at hlt
    | cons y r => exact ⟨y, r, rfl⟩
  obtain ⟨m, rfl⟩ : ∃ m, k = m + 1 := ⟨k - 1, by omega⟩
  rw [List.getElem?_cons_succ] at h
  unfold jn
  rw [List.take_succ_cons, List.take_succ_cons, List.map_cons, List.map_cons, Lib.join_cons, Lib.join_cons, List.map_take, List.map_take, Lib.joinTail_take_succ [c] (r.map (·.data.toList)) m x.data.toList (by rw [List.getElem?_map, h]; rfl)]
  conv => rhs; rw [← ba_self x]
  rw [show (⟨#[c]⟩ : ByteArray) = ⟨[c].toArray⟩ from rfl, ba_app, ba_app]
  simp [List.append_assoc]
theorem jn_size {xs : List ByteArray} {c : UInt8} : ∀ {k : Nat}, 1 ≤ k → k ≤ xs.length → ((jn xs c k).size : Int) = LL xs k
  | 0, h, _ => absurd h (by omega)
  | 1, _, h2 => by
    have hx : xs[0]? = some (xs[0]'(by omega)) := List.getElem?_eq_getElem _
    rw [jn_one hx, show (1 : Nat) = 0 + 1 from rfl, LL_succ hx, LL_zero]; omega
  | k + 2, _, h2 => by
    have hx : xs[k + 1]? = some (xs[k + 1]'(by omega)) := List.getElem?_eq_getElem _
    have ih := jn_size (xs := xs) (c := c) (k := k + 1) (by omega) (by omega)
    rw [jn_succ (by omega) hx, LL_succ hx, ← ih]
    simp [ByteArray.size_append]
    have : (⟨#[c]⟩ : ByteArray).size = 1 := rfl
    omega
theorem jn_all (xs : List ByteArray) (c : UInt8) : jn xs c xs.length = ⟨(Lib.join (xs.map (·.data.toList)) [c]).toArray⟩ := by
  unfold jn; rw [List.take_length]
/-- After k bytes: where the part under way begins, and the parts that are done. -/
def stp (s : ByteArray) (c : UInt8) : Nat → Nat × List ByteArray
  | 0 => (0, [])
  | k + 1 => if s.data.toList[k]? = some c then (k + 1, (stp s c k).2 ++ [s.extract (stp s c k).1 k]) else stp s c k
def parts (s : ByteArray) (c : UInt8) : List ByteArray := (stp s c s.size).2 ++ [s.extract (stp s c s.size).1 s.size]
theorem get_at (s : ByteArray) (k : Nat) (h : k < s.size) : s.data.toList[k]? = some s[k] := by
  rw [List.getElem?_eq_getElem (by simpa using h)]; rfl
theorem stp_yes {s : ByteArray} {c : UInt8} {k : Nat} (h : k < s.size) (he : s[k] = c) : stp s c (k + 1) = (k + 1, (stp s c k).2 ++ [s.extract (stp s c k).1 k]) := by
  rw [stp, if_pos (by rw [get_at s k h, he])]
theorem stp_no {s : ByteArray} {c : UInt8} {k : Nat} (h : k < s.size) (he : s[k] ≠ c) : stp s c (k + 1) = stp s c k := by
  rw [stp, if_neg (by rw [get_at s k h]; simpa using he)]
theorem stp_le (s : ByteArray) (c : UInt8) : ∀ k, (stp s c k).1 ≤ k
  | 0 => Nat.le_refl _
  | k + 1 => by
    rw [stp]; split
    · exact Nat.le_refl _
    · exact Nat.le_trans (stp_le s c k) (Nat.le_succ _)
theorem stp_len (s : ByteArray) (c : UInt8) : ∀ k, (stp s c k).2.length ≤ k
  | 0 => Nat.le_refl _
  | k + 1 => by
    have := stp_len s c k
    rw [stp]; split
    · rw [List.length_append]; simp; omega
    · omega
theorem parts_len (s : ByteArray) (c : UInt8) : (parts s c).length ≤ s.size + 1 := by
  unfold parts; have := stp_len s c s.size; rw [List.length_append]; simp; omega
theorem parts_pos (s : ByteArray) (c : UInt8) : 0 < (parts s c).length := by unfold parts; simp
section
open Go.ChangeShapes Go.WideShapes Go.ChangeAt Go.RowKit
theorem blk_lt {w : World} {a : Addr} {v : Value} (h : w.cell? a = some v) : a.block < w.heap.size := by
  rcases Nat.lt_or_ge a.block w.heap.size with hlt | hge
  · exact hlt
  · simp [World.cell?, Array.getElem?_eq_none hge] at h
theorem infoS : (Try.prog.info? 9).map (fun i => (i.zero, i.size, i.bytes)) = some (some (.string ByteArray.empty), 1, 16) := by kernel_rfl
theorem own_shape {W : World} {base e size k : Nat} {v : Value} {xs : List Value} (h : W.ownsRow base e size v (k + 1) xs) : ∃ g cap, v = .slice (some ⟨g, 0, none⟩) (k + 1) cap ∧ base ≤ g := by
  rcases h.2 with ⟨_, h0⟩ | ⟨g, cap, _, rfl, hb, _⟩
  · omega
  · exact ⟨g, cap, rfl, hb⟩
end
open Go.RowKit Go.Shelf
attribute [local go_sem] Oper.semAt_some
set_option linter.unusedVariables false
/-- What a round keeps: the two boxes of the iterator. -/
def KpB (Bs Bc : Nat) (W W' : World) : Prop := (∀ v, W.cell? ⟨Bs, 0, none⟩ = some v → W'.cell? ⟨Bs, 0, none⟩ = some v) ∧ (∀ v, W.cell? ⟨Bc, 0, none⟩ = some v → W'.cell? ⟨Bc, 0, none⟩ = some v)
theorem KpB_t {Bs Bc : Nat} {A B C : World} (h : KpB Bs Bc A B) (k : KpB Bs Bc B C) : KpB Bs Bc A C := ⟨fun v hv => k.1 v (h.1 v hv), fun v hv => k.2 v (h.2 v hv)⟩
theorem KpB_b {Bs Bc : Nat} (W : World) (l : Nat) (o o' : Obj) (h : W.heap[l]? = some o) (hc : o.isCells = false) : KpB Bs Bc W (W.putObj l o') :=
  ⟨fun v hv => cell_kept hv (grownBy_putObj' W l o') (fun r e => by cases e; exact ⟨_, h, hc⟩), fun v hv => cell_kept hv (grownBy_putObj' W l o') (fun r e => by cases e; exact ⟨_, h, hc⟩)⟩
theorem stp_mono (s : ByteArray) (c : UInt8) (k : Nat) : ∀ d, (stp s c k).2.length ≤ (stp s c (k + d)).2.length
  | 0 => Nat.le_refl _
  | d + 1 => by
    have := stp_mono s c k d
    rw [Nat.add_succ, stp]; split
    · rw [List.length_append]; simp; omega
    · exact this
theorem stp_lt (s : ByteArray) (c : UInt8) {k : Nat} (hk : k ≤ s.size) {f : Nat} {xs : List ByteArray} (h : stp s c k = (f, xs)) : xs.length < (parts s c).length := by
  have := stp_mono s c k (s.size - k)
  rw [h, show k + (s.size - k) = s.size by omega] at this
  unfold parts; rw [List.length_append]; simp; simp at this; omega
theorem drew_grown (W : World) : W.grownBy W.drew none := ⟨rfl, rfl, rfl, Nat.le_refl _, fun _ _ _ => rfl⟩
theorem abide_drew {β : Type} {B : Nat} {J : β → World → Prop} (h : AbidesFrom B J) {x : β} {W : World} (hj : J x W) : J x W.drew := h x W W.drew none hj (drew_grown W) (fun r e => by cases e)
theorem bne_ne {a c : UInt8} (h : a ≠ c) : ((a.toNat : Int) != (c.toNat : Int)) = true := by rw [bne, at_ne h]; rfl
theorem bne_eq {a c : UInt8} (h : a = c) : ((a.toNat : Int) != (c.toNat : Int)) = false := by rw [bne, at_eq h]; rfl
theorem wpListIn_append_own_at {F : Fence} {n : Nat} {P : Program} (w : World) {ops : Array Oper} {rest : List Oper} {o : Oper} {a : Act} {Q : Exit → Act → World → Prop}
    (hg : o.guard = none) (s x : Operand) (t : TypeId) (hop : o.op = Op.call { callee := Callee.builtin Builtin.append, args := #[s, x], argTypes := #[t, t] })
    (base : Nat) (e : TypeId) (i : TypeInfo) (z : Value) (size bytes : Nat) (h1 : P.underlying t = some (.slice e)) (h2 : P.info? e = some i) (h3 : i.zero = some z) (h4 : i.size = size) (h5 : i.bytes = bytes) (h6 : z.cells.size = size) (h7 : 0 < size)
    (v : Value) (k : Nat) (xs : List Value) (hs : a.eval s = v) (hown : w.ownsRow base e size v k xs) (ad : Addr) (m c : Nat) (news : List Value) (hx : a.eval x = .slice (some ad) m c) (hn : news.length = m * size)
    (hc : ∀ j u, news[j]? = some u → w.cell? (ad.add j) = some u) (h1c : ∀ u ∈ news, u.oneCell' = true) (b1 : k + m ≤ maxLen) (b2 : (k + m) * bytes ≤ 140737488355328) (b3 : base ≤ w.heap.size)
    (hK : ∀ v' w', w'.ownsRow base e size v' (k + m) (xs ++ news) → w.grownBy w' v.ownBlock → (v'.ownBlock = v.ownBlock ∨ v'.ownBlock = some w.heap.size) → wpListIn F n P ops Q rest (a.put o.dst v') w') :
    wpListIn F n P ops Q (o :: rest) a w := by
  refine wpListIn_plain hg fun K hK' => ?_
  obtain ⟨v', w', hrun, r1, r2, _, r4⟩ := run_append_own_at (P := P) w base t o.type e i z size bytes h1 h2 h3 h4 h5 h6 h7 v k xs hown ad m c news hn hc h1c b1 b2 b3
  unfold Oper.wpIn
  refine ⟨?_, ?_⟩
  · simp [Oper.about, hop, resolve, Target.leads, Sem.run_pure]
  · rw [Oper.semAt_plain F _ _ (by rw [hop]; intro c hc'; cases hc')]
    simp [execOp, hop, resolve, invoke, builtin, hs, hx, hrun, Result.andThen]
    exact hK' _ _ (hK v' w' r1 r2 r4)
theorem kp_one {W w1 : World} {Bp Bs : Nat} {v v' : Value} {tmp : Obj} (hg : (W.alloc tmp).grownBy w1 v.ownBlock) (h1 : v.ownBlock ≠ some Bs) (hp : Bs ≠ Bp) (u : Value) (hu : W.cell? ⟨Bs, 0, none⟩ = some u) : (w1.setCell ⟨Bp, 0, none⟩ v').cell? ⟨Bs, 0, none⟩ = some u := by
  have hlt := blk_lt hu
  rw [World.cell?_setCell_other _ _ _ _ (by intro e; cases e; exact hp rfl)]
  rw [World.cell?_of_block (w := W.alloc tmp) (hg.block Bs (by simp; simp at hlt; omega) (fun e => h1 e.symm))]
  rw [World.cell?_alloc_lt _ _ _ hlt]; exact hu
theorem kp_step {W w1 : World} {Bp Bs Bc : Nat} {v v' : Value} {tmp : Obj} (hg : (W.alloc tmp).grownBy w1 v.ownBlock) (h1 : v.ownBlock ≠ some Bs) (h2 : v.ownBlock ≠ some Bc) (hp1 : Bs ≠ Bp) (hp2 : Bc ≠ Bp) : KpB Bs Bc W (w1.setCell ⟨Bp, 0, none⟩ v') :=
  ⟨fun u hu => kp_one hg h1 hp1 u hu, fun u hu => kp_one hg h2 hp2 u hu⟩
theorem own_ne {b sz : Nat} {v v' : Value} (h : v.ownBlock ≠ some b) (hat : v'.ownBlock = v.ownBlock ∨ v'.ownBlock = some sz) (hk : b < sz) : v'.ownBlock ≠ some b := by
  rcases hat with e | e
  · rw [e]; exact h
  · rw [e]; intro e'; cases e'; omega
/-- What SplitString returns where it says yes. -/
def SplPost (xs : List ByteArray) (w : World) (e : Ending) (w' : World) : Prop :=
  ∃ g cap, e = .returned (.tuple #[.slice (some ⟨g, 0, none⟩) xs.length cap, .bool true]) ∧ w'.ownsRow w.heap.size 9 1 (.slice (some ⟨g, 0, none⟩) xs.length cap) xs.length (xs.map Value.string) ∧ w.heap.size ≤ g ∧ Below w.heap.size w w'
/-- What SplitString returns where it says no: an empty slice in new memory. -/
def SpnPost (w : World) (e : Ending) (w' : World) : Prop :=
  ∃ g cap, e = .returned (.tuple #[.slice (some ⟨g, 0, none⟩) 0 cap, .bool false]) ∧ w'.ownsRow w.heap.size 9 1 (.slice (some ⟨g, 0, none⟩) 0 cap) 0 [] ∧ w.heap.size ≤ g ∧ Below w.heap.size w w'
end Go.Proofs.Ytcjomhjgjdjigaa.Zi
