/- PLAIN LEMMAS (no program): whether a byte stands in a text; when texts can be joined within 4000 bytes; what joining gives, part by part. -/
import Derived.Lib.Join
namespace Go.Proofs.Ytgogacgmphpaoaa
def has (c : UInt8) (x : ByteArray) : Bool := decide (c ∈ x.data.toList)
def noBefore (x : ByteArray) (c : UInt8) (k : Nat) : Prop := ∀ j (h : j < x.size), j < k → x[j] ≠ c
theorem noBefore_zero (x : ByteArray) (c : UInt8) : noBefore x c 0 := fun _ _ h => absurd h (by omega)
theorem noBefore_succ {x : ByteArray} {c : UInt8} {k : Nat} (h : noBefore x c k) (hk : k < x.size) (hne : x[k] ≠ c) : noBefore x c (k + 1) := fun j hj hlt => by
  by_cases e : j = k
  · subst e; exact hne
  · exact h j hj (by omega)
theorem has_none {x : ByteArray} {c : UInt8} (h : noBefore x c x.size) : has c x = false := by
  unfold has
  rw [decide_eq_false_iff_not]
  intro hm
  obtain ⟨i, hi, he⟩ := List.mem_iff_getElem.1 hm
  exact h i (by simpa using hi) (by simpa using hi) he
theorem has_at {x : ByteArray} {c : UInt8} {k : Nat} (hk : k < x.size) (he : x[k] = c) : has c x = true := by
  unfold has
  rw [decide_eq_true_iff]
  exact List.mem_iff_getElem.2 ⟨k, by simpa using hk, he⟩
theorem at_ne {a c : UInt8} (h : a ≠ c) : ((a.toNat : Int) == (c.toNat : Int)) = false := by
  rw [beq_eq_false_iff_ne]; intro e; exact h (UInt8.toNat_inj.1 (by omega))
theorem at_eq {a c : UInt8} (h : a = c) : ((a.toNat : Int) == (c.toNat : Int)) = true := by rw [h]; simp

def canFrom (c : UInt8) : List ByteArray → Int → Bool
  | [], _ => true
  | x :: r, L => if 4000 < L + ((x.size : Int) + 1) then false else if has c x = true then false else canFrom c r (L + ((x.size : Int) + 1))
def LL (xs : List ByteArray) (k : Nat) : Int := ((xs.take k).map fun x => (x.size : Int) + 1).sum - 1
theorem LL_zero (xs : List ByteArray) : LL xs 0 = -1 := rfl
theorem LL_succ {xs : List ByteArray} {k : Nat} {x : ByteArray} (h : xs[k]? = some x) : LL xs (k + 1) = LL xs k + ((x.size : Int) + 1) := by
  unfold LL; rw [List.take_add_one, h]; simp [List.sum_append]; omega
theorem LL_lo (xs : List ByteArray) (k : Nat) : -1 ≤ LL xs k := by
  unfold LL
  have : ∀ l : List ByteArray, 0 ≤ (l.map fun x => (x.size : Int) + 1).sum := by
    intro l
    induction l with
    | nil => simp
    | cons a r ih => simp only [List.map_cons, List.sum_cons]; omega
  have := this (xs.take k)
  omega
theorem drop_at {α : Type} {xs : List α} {k : Nat} {x : α} (h : xs[k]? = some x) : xs.drop k = x :: xs.drop (k + 1) := by
  obtain ⟨hk, rfl⟩ := List.getElem?_eq_some_iff.1 h
  exact List.drop_eq_getElem_cons hk
/-- What stands after k parts: the rest decides. -/
def Cf (xs : List ByteArray) (c : UInt8) (k : Nat) : Prop := canFrom c (xs.drop k) (LL xs k) = canFrom c xs (-1)
theorem Cf_zero (xs : List ByteArray) (c : UInt8) : Cf xs c 0 := rfl
theorem Cf_big {xs : List ByteArray} {c : UInt8} {k : Nat} {x : ByteArray} (h : Cf xs c k) (hx : xs[k]? = some x) (hb : 4000 < LL xs k + ((x.size : Int) + 1)) : canFrom c xs (-1) = false := by
  rw [← h, drop_at hx, canFrom, if_pos hb]
theorem Cf_has {xs : List ByteArray} {c : UInt8} {k : Nat} {x : ByteArray} (h : Cf xs c k) (hx : xs[k]? = some x) (hb : has c x = true) : canFrom c xs (-1) = false := by
  rw [← h, drop_at hx, canFrom, if_pos hb]; split <;> rfl
theorem Cf_step {xs : List ByteArray} {c : UInt8} {k : Nat} {x : ByteArray} (h : Cf xs c k) (hx : xs[k]? = some x) (hb : ¬ 4000 < LL xs k + ((x.size : Int) + 1)) (hn : has c x = false) : Cf xs c (k + 1) := by
  unfold Cf
  rw [← h, drop_at hx, canFrom, if_neg hb, if_neg (by rw [hn]; exact Bool.false_ne_true), LL_succ hx]
theorem Cf_end {xs : List ByteArray} {c : UInt8} {k : Nat} (h : Cf xs c k) (hk : xs.length ≤ k) : canFrom c xs (-1) = true := by
  rw [← h, List.drop_eq_nil_of_le hk]; rfl
def jn (xs : List ByteArray) (c : UInt8) (k : Nat) : ByteArray := ⟨(Lib.join ((xs.take k).map (·.data.toList)) [c]).toArray⟩
theorem jn_zero (xs : List ByteArray) (c : UInt8) : jn xs c 0 = ⟨#[]⟩ := rfl
theorem jn_one {xs : List ByteArray} {c : UInt8} {x : ByteArray} (h : xs[0]? = some x) : jn xs c 1 = x := by
  unfold jn
  have : xs.take 1 = [x] := by rw [show (1 : Nat) = 0 + 1 from rfl, List.take_add_one, h]; rfl
  rw [this, List.map_singleton, Lib.join_one]
theorem ba_app (a b : List UInt8) : (⟨a.toArray⟩ : ByteArray) ++ ⟨b.toArray⟩ = ⟨(a ++ b).toArray⟩ := by
  apply ByteArray.ext; simp [ByteArray.data_append]
theorem ba_self (x : ByteArray) : (⟨x.data.toList.toArray⟩ : ByteArray) = x := rfl
theorem jn_succ {xs : List ByteArray} {c : UInt8} {k : Nat} {x : ByteArray} (hk : 1 ≤ k) (h : xs[k]? = some x) : jn xs c (k + 1) = (jn xs c k ++ ⟨#[c]⟩) ++ x := by
  have hlt := (List.getElem?_eq_some_iff.1 h).1
  obtain ⟨y, r, rfl⟩ : ∃ y r, xs = y :: r := by
    cases xs with
    | nil => simp at hlt
    | cons y r => exact ⟨y, r, rfl⟩
  obtain ⟨m, rfl⟩ : ∃ m, k = m + 1 := ⟨k - 1, by omega⟩
  rw [List.getElem?_cons_succ] at h
  unfold jn
  rw [List.take_succ_cons, List.take_succ_cons, List.map_cons, List.map_cons, Lib.join_cons, Lib.join_cons, List.map_take, List.map_take, Lib.joinTail_take_succ [c] (r.map (·.data.toList)) m x.data.toList (by rw [List.getElem?_map, h]; rfl)]
  conv => rhs; rw [← ba_self x]
  rw [show (⟨#[c]⟩ : ByteArray) = ⟨[c].toArray⟩ from rfl, ba_app, ba_app]
  simp [List.append_assoc]
theorem jn_size {xs : List ByteArray} {c : UInt8} : ∀ {k : Nat}, 1 ≤ k → k ≤ xs.length → ((jn xs c k).size : Int) = LL xs k
  | 0, h, _ => absurd h (by omega)
  | 1, _, h2 => by
    have hx : xs[0]? = some (xs[0]'(by omega)) := List.getElem?_eq_getElem _
    rw [jn_one hx, show (1 : Nat) = 0 + 1 from rfl, LL_succ hx, LL_zero]; omega
  | k + 2, _, h2 => by
    have hx : xs[k + 1]? = some (xs[k + 1]'(by omega)) := List.getElem?_eq_getElem _
    have ih := jn_size (xs := xs) (c := c) (k := k + 1) (by omega) (by omega)
    rw [jn_succ (by omega) hx, LL_succ hx, ← ih]
    simp [ByteArray.size_append]
    have : (⟨#[c]⟩ : ByteArray).size = 1 := rfl
    omega
theorem jn_all (xs : List ByteArray) (c : UInt8) : jn xs c xs.length = ⟨(Lib.join (xs.map (·.data.toList)) [c]).toArray⟩ := by
  unfold jn; rw [List.take_length]
end Go.Proofs.Ytgogacgmphpaoaa
