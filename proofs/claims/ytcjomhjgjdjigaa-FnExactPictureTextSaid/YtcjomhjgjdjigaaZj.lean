/- CONTRACTS: the code's JoinStrings (as in the seat of stage 1). -/
import Derived.Test.YtcjomhjgjdjigaaZi
import Derived.Test.YtcjomhjgjdjigaaZh
import Derived.Deep.LoopGhost
namespace Go.Proofs.Ytcjomhjgjdjigaa.Zi
open Go.ChangeShapes Go.WideShapes Go.ChangeAt Go.RowKit
set_option linter.unusedVariables false
set_option linter.unusedVariables false
/-- The cells from (b, o) on hold these strings. -/
def RdS (w : World) (b o : Nat) (xs : List ByteArray) : Prop := ∀ j x, xs[j]? = some x → w.cell? ⟨b, o + j, none⟩ = some (.string x)
theorem RdS.below {w w' : World} {b o : Nat} {xs : List ByteArray} (h : RdS w b o xs) (hb : Below w.heap.size w w') : RdS w' b o xs := fun j x hx => by
  have hlt := blk_lt (h j x hx)
  exact (hb.cell (p := ⟨b, o + j, none⟩) hlt).trans (h j x hx)
theorem RdS.of_own {w : World} {base g n cap : Nat} {xs : List ByteArray} (h : w.ownsRow base 9 1 (.slice (some ⟨g, 0, none⟩) n cap) n (xs.map Value.string)) (hn : n = xs.length) : RdS w g 0 xs := fun j x hx => by
  have hj : j < xs.length := (List.getElem?_eq_some_iff.1 hx).1
  rw [Nat.zero_add, h.cellAt j (by omega)]; simp [hx]
set_option linter.unusedVariables false
theorem ret_bool {a b : Bool} (h : a = b) : Ending.returned (.bool a) = .returned (.bool b) := by rw [h]
set_option maxHeartbeats 1000000 in
theorem canJoin_any (b o cp : Nat) (xs : List ByteArray) (c : UInt8) (w : World) (hc0 : RdS w b o xs) (hs0 : ∀ x ∈ xs, x.size ≤ 1048576) (hlen : xs.length ≤ maxLen) :
    Calls Try.prog 131 #[.slice (some ⟨b, o, none⟩) xs.length cp, .int .u8 (c.toNat : Int)] w fun e w' => e = .returned (.bool (canFrom c xs (-1))) ∧ w = w' := by
  have hc := Lib.hid hc0
  have hs := Lib.hid hs0
  clear hc0 hs0
  unfold maxLen at hlen
  obtain ⟨n, hn⟩ : ∃ n, n = xs.length := ⟨_, rfl⟩
  have HN := Lib.hid hn
  rw [← hn] at hlen ⊢
  clear hn
  go_enter Try.func131, Try.ntmps131
  go_wp2
  go_step3
  go_wp2
  go_step3
  go_wp2
  go_loopg [5, 6, 12] n (fun g s5 s6 s12 wx => w = wx ∧ ∃ (k : Nat) (v : Int), k + g = n ∧ s5 = .bool true ∧ s6 = .int .i64 v ∧ s12 = .int .i64 k ∧ -1 ≤ v ∧ v ≤ 4000 ∧ Hid (v = LL xs k ∧ Cf xs c k))
  case atStart => exact ⟨rfl, 0, -1, by omega, rfl, rfl, rfl, by omega, by omega, rfl, Cf_zero xs c⟩
  case round =>
    obtain ⟨rfl, k, v, hkg, rfl, rfl, rfl, hv0, hv1, HV⟩ := hrel
    cases gk with
    | zero =>
      have hkz : ¬ ((k : Int) < (n : Int)) := by omega
      have HE := Lib.hid (Cf_end HV.out.2 (by rw [← HN.out]; omega))
      go_wp2
      (try rw [Exit.noGoto_ret])
      go_ret
      exact ⟨ret_bool HE.out.symm, rfl⟩
    | succ g =>
      have hkz : (k : Int) < (n : Int) := by omega
      obtain ⟨x, hx⟩ : ∃ x, xs[k]? = some x := ⟨xs[k]'(by rw [← HN.out]; omega), List.getElem?_eq_getElem _⟩
      have hcell := hc.out k x hx
      have hsz := hs.out x (List.mem_of_getElem? hx)
      have HX := Lib.hid hx
      clear hx
      by_cases hbig : 4000 < v + ((x.size : Int) + 1)
      · have HE := Lib.hid (Cf_big HV.out.2 HX.out (by rw [← HV.out.1]; exact hbig))
        go_wp2
        (try rw [Exit.noGoto_ret])
        go_ret
        exact ⟨ret_bool HE.out.symm, rfl⟩
      · have HBIG := Lib.hid hbig
        go_wp2
        go_loopg [5, 25] x.size (fun g5 t5 t25 wx => w = wx ∧ ∃ j : Nat, j + g5 = x.size ∧ t5 = .bool true ∧ t25 = .int .i64 j ∧ Hid (noBefore x c j))
        case atStart => exact ⟨rfl, 0, by omega, rfl, rfl, noBefore_zero x c⟩
        case round =>
          obtain ⟨rfl, j, hjg, rfl, rfl, HB⟩ := hrel
          cases gk with
          | zero =>
            have hjz : ¬ ((j : Int) < (x.size : Int)) := by omega
            have hjx : j = x.size := by omega
            have HE := Lib.hid (Cf_step HV.out.2 HX.out (by rw [← HV.out.1]; have := HBIG.out; omega) (has_none (by rw [← hjx]; exact HB.out)))
            have HL := Lib.hid (LL_succ HX.out)
            clear hjx
            go_wp2
            go_roundg g
            case measure => omega
            case rel => exact ⟨rfl, k + 1, _, by omega, rfl, rfl, by go_num, by omega, by omega, by rw [HL.out, ← HV.out.1], HE.out⟩
          | succ g' =>
            have hjz : (j : Int) < (x.size : Int) := by omega
            have hjn : j < x.size := by omega
            by_cases he : x[j] = c
            · have HE := Lib.hid (Cf_has HV.out.2 HX.out (has_at hjn he))
              have hb := at_eq he
              clear he
              go_wp2
              (try rw [Exit.noGoto_ret])
              go_ret
              exact ⟨ret_bool HE.out.symm, rfl⟩
            · have HE := Lib.hid (noBefore_succ HB.out hjn he)
              have hb := at_ne he
              clear he
              go_wp2
              go_roundg g'
              case measure => omega
              case rel => exact ⟨rfl, j + 1, by omega, rfl, by go_num, HE.out⟩
/-- What JoinStrings returns: the join where it can be, else the empty text. -/
def JRes (xs : List ByteArray) (c : UInt8) : Value := .tuple #[.string (if canFrom c xs (-1) = true then jn xs c xs.length else ⟨#[]⟩), .bool (canFrom c xs (-1))]
theorem JRes_no {xs : List ByteArray} {c : UInt8} (h : canFrom c xs (-1) = false) : JRes xs c = .tuple #[.string ⟨#[]⟩, .bool false] := by unfold JRes; rw [h]; rfl
theorem JRes_yes {xs : List ByteArray} {c : UInt8} (h : canFrom c xs (-1) = true) : JRes xs c = .tuple #[.string (jn xs c xs.length), .bool true] := by unfold JRes; rw [h]; rfl
theorem fin_no {xs : List ByteArray} {c : UInt8} (h : canFrom c xs (-1) = false) : Ending.returned (.tuple #[.string ⟨#[]⟩, .bool false]) = .returned (JRes xs c) := by rw [JRes_no h]
theorem fin_yes {xs : List ByteArray} {c : UInt8} {t : ByteArray} (h : canFrom c xs (-1) = true) (ht : t = jn xs c xs.length) : Ending.returned (.tuple #[.string t, .bool true]) = .returned (JRes xs c) := by rw [JRes_yes h, ht]
theorem sp_eq {sp : ByteArray} {c : UInt8} (h1 : sp.size = 1) (hc : c = sp[0]'(by omega)) : sp = ⟨#[c]⟩ := by
  subst hc
  obtain ⟨⟨l⟩⟩ := sp
  match l, h1 with
  | [a], _ => rfl
theorem canFrom_le {c : UInt8} : ∀ (xs : List ByteArray) (L : Int), canFrom c xs L = true → xs ≠ [] → L + (xs.map fun x => (x.size : Int) + 1).sum ≤ 4000
  | [], _, _, h => absurd rfl h
  | x :: r, L, h, _ => by
    rw [canFrom] at h
    split at h
    · cases h
    · split at h
      · cases h
      · cases r with
        | nil => simp only [List.map_cons, List.sum_cons, List.map_nil, List.sum_nil]; omega
        | cons y r' =>
          have := canFrom_le (y :: r') _ h (by simp)
          simp only [List.map_cons, List.sum_cons] at this ⊢
          omega
theorem jn_le {xs : List ByteArray} {c : UInt8} (h : canFrom c xs (-1) = true) (hne : 0 < xs.length) : (jn xs c xs.length).size ≤ 4000 := by
  have h1 := canFrom_le xs (-1) h (by intro e; rw [e] at hne; simp at hne)
  have h2 := jn_size (xs := xs) (c := c) (k := xs.length) (by omega) (Nat.le_refl _)
  unfold LL at h2
  rw [List.take_length] at h2
  omega
theorem canJoin_s (b o cp : Nat) (xs : List ByteArray) (c : UInt8) (r : Bool) (w : World) (hc0 : RdS w b o xs) (hs0 : ∀ x ∈ xs, x.size ≤ 1048576) (hlen : xs.length ≤ maxLen) (sp : ByteArray) (hsp : sp.size = 1) (hcs : c = sp[0]'(by omega)) (hr : canFrom c xs (-1) = r) :
    Calls Try.prog 131 #[.slice (some ⟨b, o, none⟩) xs.length cp, .int .u8 ((sp[0]'(by omega)).toNat : Int)] w fun e w' => e = .returned (.bool r) ∧ w = w' := by
  subst hcs
  rw [← hr]
  exact canJoin_any b o cp xs _ w hc0 hs0 hlen
set_option maxHeartbeats 1000000 in
theorem implJ_any (b o cp : Nat) (xs : List ByteArray) (c : UInt8) (w : World) (hc0 : RdS w b o xs) (hb0 : b < w.heap.size) (hs0 : ∀ x ∈ xs, x.size ≤ 1048576) (hlen : xs.length ≤ 1048576) (hcp : xs.length ≤ cp) (hne : 0 < xs.length) (sp : ByteArray) (hsp : sp.size = 1) (hcs : c = sp[0]'(by omega)) :
    Calls Try.prog 101 #[.slice (some ⟨b, o, none⟩) xs.length cp, .string sp] w fun e w' => e = .returned (JRes xs c) ∧ Below w.heap.size w w' := by
  have hn0 : ((xs.length : Int) == 0) = false := by rw [beq_eq_false_iff_ne]; omega
  cases hr : canFrom c xs (-1) with
  | false =>
    have HJ := Lib.hid (canJoin_s b o cp xs c false w hc0 hs0 (by unfold maxLen; omega) sp hsp hcs hr)
    rw [JRes_no hr]
    clear hc0 hs0 hcs hr hb0 hcp
    obtain ⟨n, hn⟩ : ∃ n, n = xs.length := ⟨_, rfl⟩
    rw [← hn] at HJ hn0 hne hlen ⊢
    clear hn
    go_enter Try.func101, Try.ntmps101
    go_wp2_with (go_at_call 131; refine HJ.out.mono ?_; rintro e w' ⟨rfl, rfl⟩)
    go_ret2
    exact ⟨rfl, Below.refl _ _⟩
  | true =>
    have HJ := Lib.hid (canJoin_s b o cp xs c true w hc0 hs0 (by unfold maxLen; omega) sp hsp hcs hr)
    have hsz := jn_le hr hne
    rw [jn_all] at hsz
    have hsz' : (Lib.join (xs.map (·.data.toList)) [c]).length ≤ 4000 := by simpa [ByteArray.size] using hsz
    have hsd : sp.data.toList = [c] := by rw [sp_eq hsp hcs]
    have HS := Lib.hid (Try.strings_Join b o cp xs sp w hc0 hb0 (by omega) hcp (by rw [hsd]; omega))
    rw [JRes_yes hr, jn_all]
    rw [hsd] at HS
    clear hc0 hs0 hcs hr hb0 hcp hsd hsz hsz'
    obtain ⟨t, ht⟩ : ∃ t : ByteArray, t = ⟨(Lib.join (xs.map (·.data.toList)) [c]).toArray⟩ := ⟨_, rfl⟩
    rw [← ht] at HS ⊢
    clear ht
    obtain ⟨n, hn⟩ : ∃ n, n = xs.length := ⟨_, rfl⟩
    rw [← hn] at HJ HS hn0 hne hlen ⊢
    clear hn
    go_enter Try.func101, Try.ntmps101
    go_wp2_with (first | (go_at_call 131; refine HJ.out.mono ?_; rintro e w' ⟨rfl, rfl⟩) | (go_at_call 132; refine HS.out.mono ?_; rintro e w' ⟨rfl, hb⟩))
    go_ret2
    exact ⟨rfl, hb⟩
end Go.Proofs.Ytcjomhjgjdjigaa.Zi
