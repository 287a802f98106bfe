/- CONTRACTS: the model's cursor over drawn bytes: the next byte, a pick, one in n, one of some numbers. -/
import Derived.Test.YtpmhnikilianoaaSc
import Derived.Test.YtpmhnikilianoaaKp
import Derived.RegionTactic
import Derived.WalkSmall
import Derived.WalkKit
import Derived.ProofKit
import Derived.OpenShut
import Derived.Lib.Hide
import Derived.WalkSpells
import Derived.Below
import Derived.BigQuiet
import Derived.LoopN
namespace Go.Proofs.Ytpmhnikilianoaa
open Go.ChangeShapes Go.WideShapes Go.ChangeAt Go.RowKit
set_option linter.unusedVariables false
/-- The code that came in: its bytes, at an address that may be nil. -/
def CodeAt (W : World) (A : Option Addr) (len : Nat) (zs : List Int) : Prop := ∀ k, k < len → ∃ b o, A = some ⟨b, o, none⟩ ∧ W.cell? ⟨b, o + k, none⟩ = some (.int .u8 (zs.getD k 0)) ∧ 0 ≤ zs.getD k 0 ∧ zs.getD k 0 ≤ 255
/-- The cursor's block. -/
def CurB (W : World) (g : Nat) (A : Option Addr) (len cap : Nat) (at_ sd : Int) : Prop := W.heap[g]? = some (.cells #[.slice A len cap, .int .i64 at_, .int .u64 sd] 134 (0, 0))
theorem CurB.c0 {W : World} {g : Nat} {A : Option Addr} {len cap : Nat} {at_ sd : Int} (h : CurB W g A len cap at_ sd) : W.cell? ⟨g, 0, none⟩ = some (.slice A len cap) := by rw [cell_of_row _ _ _ _ _ _ h]; rfl
theorem CurB.c1 {W : World} {g : Nat} {A : Option Addr} {len cap : Nat} {at_ sd : Int} (h : CurB W g A len cap at_ sd) : W.cell? ⟨g, 1, none⟩ = some (.int .i64 at_) := by rw [cell_of_row _ _ _ _ _ _ h]; rfl
theorem CurB.c2 {W : World} {g : Nat} {A : Option Addr} {len cap : Nat} {at_ sd : Int} (h : CurB W g A len cap at_ sd) : W.cell? ⟨g, 2, none⟩ = some (.int .u64 sd) := by rw [cell_of_row _ _ _ _ _ _ h]; rfl
theorem CurB.fz {W : World} {g : Nat} {A : Option Addr} {len cap : Nat} {at_ sd : Int} (h : CurB W g A len cap at_ sd) (i : Nat) : W.frozen? ⟨g, i, none⟩ = false := frozen_of_row _ _ _ _ _ h
theorem cur_set {W : World} {g : Nat} {A : Option Addr} {len cap : Nat} {at_ sd : Int} (h : CurB W g A len cap at_ sd) (a' s' : Int) :
    CurB ((W.setCell ⟨g, 1, none⟩ (.int .i64 a')).setCell ⟨g, 2, none⟩ (.int .u64 s')) g A len cap a' s' ∧ W.grownBy ((W.setCell ⟨g, 1, none⟩ (.int .i64 a')).setCell ⟨g, 2, none⟩ (.int .u64 s')) (some g) := by
  have h1 := heap_setCell_same W g 1 _ 134 (.int .i64 a') h
  have h2 := heap_setCell_same _ g 2 _ 134 (.int .u64 s') h1
  refine ⟨h2, ⟨rfl, rfl, rfl, by simp [World.setCell], fun k hk hne => ?_⟩⟩
  have hkg : k ≠ g := fun e => hne (by rw [e])
  rw [Below.heap_setCell _ _ _ k hkg, Below.heap_setCell _ _ _ k hkg]
/-- What a call of next leaves: a byte; the cursor one further; nothing else has turned. -/
def NxPost (g : Nat) (A : Option Addr) (len cap : Nat) (at_ : Int) (w : World) (e : Ending) (w' : World) : Prop :=
  ∃ b sd', e = .returned (.int .i64 b) ∧ 0 ≤ b ∧ b ≤ 255 ∧ 0 ≤ sd' ∧ CurB w' g A len cap (at_ + 1) sd' ∧ w.grownBy w' (some g)
theorem nx_fin {g : Nat} {A : Option Addr} {len cap : Nat} {at_ sd : Int} {w : World} (hc : CurB w g A len cap at_ sd) {n1 n2 : Nat} {x : Int} {b : Int} {e : Ending} (he : e = .returned (.int .i64 b)) (h0 : 0 ≤ b) (h1 : b ≤ 255) :
    NxPost g A len cap at_ w e ((((w.drewN n1).setCell ⟨g, 1, none⟩ (.int .i64 (at_ + 1))).setCell ⟨g, 2, none⟩ (.int .u64 (IntKind.u64.wrap x))).drewN n2) := by
  obtain ⟨a1, a2⟩ := cur_set (W := w.drewN n1) hc (at_ + 1) (IntKind.u64.wrap x)
  exact ⟨b, IntKind.u64.wrap x, he, h0, h1, by rw [IntKind.wrap_u64]; omega, a1, ⟨a2.os, a2.tape, a2.output, a2.size, a2.block⟩⟩
theorem and255 (x : Int) (h0 : 0 ≤ x) (h1 : x ≤ 18446744073709551615) : 0 ≤ wrap64 (bits BinOp.and IntKind.u64 x 255) ∧ wrap64 (bits BinOp.and IntKind.u64 x 255) ≤ 255 := by
  have h := bits_and_u64_nat x.toNat 255 (by omega) (by omega)
  rw [Int.toNat_of_nonneg h0] at h
  have h3 : bits BinOp.and IntKind.u64 x 255 = ((x.toNat &&& 255 : Nat) : Int) := h
  have h4 : x.toNat &&& 255 ≤ 255 := Nat.and_le_right
  have h5 : wrap64 ((x.toNat &&& 255 : Nat) : Int) = ((x.toNat &&& 255 : Nat) : Int) := by unfold wrap64; omega
  rw [h3, h5]
  omega
theorem shr40 (y : Int) : 0 ≤ IntKind.u64.wrap y / 1099511627776 ∧ IntKind.u64.wrap y / 1099511627776 ≤ 18446744073709551615 := by
  rw [IntKind.wrap_u64]; omega
set_option maxHeartbeats 2000000 in
theorem next_any (g : Nat) (A : Option Addr) (len cap : Nat) (at_ sd : Int) (zs : List Int) (w : World) (hc : CurB w g A len cap at_ sd) (hcode : CodeAt w A len zs) (ha0 : 0 ≤ at_) (ha1 : at_ ≤ 1000000) (hs0 : 0 ≤ sd) (hlen : len ≤ 65536) :
    Calls Try.prog 209 #[.pointer (some ⟨g, 0, none⟩)] w (NxPost g A len cap at_ w) := by
  have c0 := hc.c0
  have c1 := hc.c1
  have c2 := hc.c2
  have f0 := hc.fz 0
  have f1 := hc.fz 1
  have f2 := hc.fz 2
  by_cases hlt : at_ < (len : Int)
  · obtain ⟨k, rfl⟩ : ∃ k : Nat, at_ = k := ⟨at_.toNat, by omega⟩
    obtain ⟨b, o, rfl, hcell, hz0, hz1⟩ := hcode k (by omega)
    obtain ⟨z, hz⟩ : ∃ z, z = zs.getD k 0 := ⟨_, rfl⟩
    rw [← hz] at hcell hz0 hz1
    have HC := Lib.hid hc
    clear hz hc hcode
    go_enter Try.func209, Try.ntmps209
    go_wp2_with fail
    go_quiet (fail)
    go_wp2_with fail
    go_quiet (fail)
    go_wp2_with fail
    go_quiet (fail)
    go_wp2_with fail
    go_ret
    exact nx_fin HC.out rfl hz0 hz1
  · have hge : (len : Int) ≤ at_ := by omega
    have HC := Lib.hid hc
    clear hc hcode
    go_enter Try.func209, Try.ntmps209
    go_wp2_with fail
    go_quiet (fail)
    go_wp2_with fail
    go_quiet (fail)
    go_wp2_with fail
    go_ret
    exact nx_fin (sd := sd) (n1 := _) HC.out rfl (and255 _ (shr40 _).1 (shr40 _).2).1 (and255 _ (shr40 _).1 (shr40 _).2).2
/-- The cursor over a code that lies below B, at most m bytes on. -/
def Cu (W : World) (B g : Nat) (A : Option Addr) (len cap : Nat) (zs : List Int) (m : Int) : Prop :=
  (∀ k, k < len → ∃ b o, A = some ⟨b, o, none⟩ ∧ b < B ∧ W.cell? ⟨b, o + k, none⟩ = some (.int .u8 (zs.getD k 0)) ∧ 0 ≤ zs.getD k 0 ∧ zs.getD k 0 ≤ 255) ∧ B ≤ g ∧ len ≤ 65536 ∧ ∃ at_ sd, 0 ≤ at_ ∧ at_ ≤ m ∧ 0 ≤ sd ∧ CurB W g A len cap at_ sd
theorem Cu.code {W : World} {B g : Nat} {A : Option Addr} {len cap : Nat} {zs : List Int} {m : Int} (h : Cu W B g A len cap zs m) : CodeAt W A len zs := fun k hk => by
  obtain ⟨b, o, h1, _, h2, h3, h4⟩ := h.1 k hk
  exact ⟨b, o, h1, h2, h3, h4⟩
theorem code_keep {W W' : World} {B g : Nat} {A : Option Addr} {len : Nat} {zs : List Int} (h : ∀ k, k < len → ∃ b o, A = some ⟨b, o, none⟩ ∧ b < B ∧ W.cell? ⟨b, o + k, none⟩ = some (.int .u8 (zs.getD k 0)) ∧ 0 ≤ zs.getD k 0 ∧ zs.getD k 0 ≤ 255) (hB : B ≤ g) (hg : W.grownBy W' (some g)) :
    ∀ k, k < len → ∃ b o, A = some ⟨b, o, none⟩ ∧ b < B ∧ W'.cell? ⟨b, o + k, none⟩ = some (.int .u8 (zs.getD k 0)) ∧ 0 ≤ zs.getD k 0 ∧ zs.getD k 0 ≤ 255 := fun k hk => by
  obtain ⟨b, o, h1, hb, h2, h3, h4⟩ := h k hk
  have hlt := blk_lt h2
  refine ⟨b, o, h1, hb, ?_, h3, h4⟩
  rw [World.cell?_of_block (w := W) (hg.block b hlt (fun e => by cases e; omega))]
  exact h2
theorem g_trans {W W' W'' : World} {g : Nat} (h : W.grownBy W' (some g)) (h' : W'.grownBy W'' (some g)) : W.grownBy W'' (some g) :=
  ⟨h'.os.trans h.os, h'.tape.trans h.tape, h'.output.trans h.output, Nat.le_trans h.size h'.size, fun k hk hne => (h'.block k (Nat.lt_of_lt_of_le hk h.size) hne).trans (h.block k hk hne)⟩
/-- What a call on the cursor leaves beside its result. -/
def CuTo (B g : Nat) (A : Option Addr) (len cap : Nat) (zs : List Int) (m : Int) (w w' : World) : Prop := Cu w' B g A len cap zs m ∧ w.grownBy w' (some g)
def PkPost (n : Int) (B g : Nat) (A : Option Addr) (len cap : Nat) (zs : List Int) (m : Int) (w : World) (e : Ending) (w' : World) : Prop :=
  ∃ r : Int, e = .returned (.int .i64 r) ∧ 0 ≤ r ∧ (r < n ∨ r = 0) ∧ CuTo B g A len cap zs m w w'
theorem Cu.mono {W : World} {B g : Nat} {A : Option Addr} {len cap : Nat} {zs : List Int} {m m' : Int} (h : Cu W B g A len cap zs m) (hm : m ≤ m') : Cu W B g A len cap zs m' := by
  obtain ⟨h1, h2, h3, a, s, h4, h5, h6, h7⟩ := h
  exact ⟨h1, h2, h3, a, s, h4, by omega, h6, h7⟩
theorem g_refl (w : World) (g : Nat) : w.grownBy w (some g) := ⟨rfl, rfl, rfl, Nat.le_refl _, fun _ _ _ => rfl⟩
theorem next_cu (B g : Nat) (A : Option Addr) (len cap : Nat) (zs : List Int) (m : Int) (w : World) (h : Cu w B g A len cap zs m) (hm : m ≤ 1000000) :
    Calls Try.prog 209 #[.pointer (some ⟨g, 0, none⟩)] w (PkPost 256 B g A len cap zs (m + 1) w) := by
  have hcode := h.code
  obtain ⟨h1, h2, h3, a, s, h4, h5, h6, h7⟩ := h
  exact (next_any g A len cap a s zs w h7 hcode h4 (by omega) h6 h3).mono fun e w' ⟨b, sd', he, hb0, hb1, hs', hc, hg⟩ =>
    ⟨b, he, hb0, .inl (by omega), ⟨code_keep h1 h2 hg, h2, h3, a + 1, sd', by omega, by omega, hs', hc⟩, hg⟩
theorem pk_fin {n v : Int} {B g : Nat} {A : Option Addr} {len cap : Nat} {zs : List Int} {m : Int} {w w' : World} {e : Ending} (he : e = .returned (.int .i64 v)) (h0 : 0 ≤ v) (h1 : v < n ∨ v = 0) (h : CuTo B g A len cap zs m w w') : PkPost n B g A len cap zs m w e w' := ⟨v, he, h0, h1, h⟩
set_option maxHeartbeats 1000000 in
theorem pick_any (n : Int) (B g : Nat) (A : Option Addr) (len cap : Nat) (zs : List Int) (m : Int) (w : World) (h : Cu w B g A len cap zs m) (hm : m ≤ 900000) (hn0 : 0 ≤ n) (hn1 : n ≤ 60000) :
    Calls Try.prog 147 #[.pointer (some ⟨g, 0, none⟩), .int .i64 n] w (PkPost n B g A len cap zs (m + 2) w) := by
  have H := Lib.hid h
  clear h
  by_cases hle : n ≤ 1
  · go_enter Try.func147, Try.ntmps147
    go_wp2_with fail
    go_ret
    exact pk_fin rfl (by omega) (.inr rfl) ⟨H.out.mono (by omega), g_refl _ _⟩
  · by_cases h200 : n ≤ 200
    · go_enter Try.func147, Try.ntmps147
      go_wp2_with fail
      refine (next_cu B g A len cap zs m w H.out (by omega)).mono ?_
      rintro e w1 ⟨r, rfl, hr0, hr1, hc⟩
      have HC := Lib.hid hc
      have hr2 : r ≤ 255 := by omega
      clear hc hr1
      have e1 : r.tmod n = r % n := Int.tmod_eq_emod_of_nonneg hr0
      have HE := Lib.hid (And.intro (Int.emod_nonneg r (show n ≠ 0 by omega)) (Int.emod_lt_of_pos r (show 0 < n by omega)))
      clear e1
      go_wp2_with fail
      go_ret
      exact pk_fin rfl HE.out.1 (.inl HE.out.2) ⟨HC.out.1.mono (by omega), HC.out.2⟩
    · go_enter Try.func147, Try.ntmps147
      go_wp2_with fail
      refine (next_cu B g A len cap zs m w H.out (by omega)).mono ?_
      rintro e w1 ⟨r, rfl, hr0, hr1, hc⟩
      have HC := Lib.hid hc
      have hr2 : r ≤ 255 := by omega
      clear hc hr1
      go_wp2_with fail
      refine (next_cu B g A len cap zs (m + 1) w1 HC.out.1 (by omega)).mono ?_
      rintro e w2 ⟨q, rfl, hq0, hq1, hc2⟩
      have HC2 := Lib.hid hc2
      have hq2 : q ≤ 255 := by omega
      clear hc2 hq1
      have HE := Lib.hid (And.intro (Int.emod_nonneg (r * 256 + q) (show n ≠ 0 by omega)) (Int.emod_lt_of_pos (r * 256 + q) (show 0 < n by omega)))
      go_wp2_with fail
      go_ret
      exact pk_fin rfl HE.out.1 (.inl HE.out.2) ⟨HC2.out.1.mono (by omega), g_trans HC.out.2 HC2.out.2⟩
/-- 'one' says yes or no. -/
def OnePost (B g : Nat) (A : Option Addr) (len cap : Nat) (zs : List Int) (m : Int) (w : World) (e : Ending) (w' : World) : Prop := ∃ b : Bool, e = .returned (.bool b) ∧ CuTo B g A len cap zs m w w'
set_option maxHeartbeats 400000 in
theorem one_any (n : Int) (B g : Nat) (A : Option Addr) (len cap : Nat) (zs : List Int) (m : Int) (w : World) (h : Cu w B g A len cap zs m) (hm : m ≤ 900000) (hn0 : 0 ≤ n) (hn1 : n ≤ 60000) :
    Calls Try.prog 146 #[.pointer (some ⟨g, 0, none⟩), .int .i64 n] w (OnePost B g A len cap zs (m + 2) w) := by
  have H := Lib.hid (pick_any n B g A len cap zs m w h hm hn0 hn1)
  clear h
  go_enter Try.func146, Try.ntmps146
  go_wp2_with fail
  refine H.out.mono ?_
  rintro e w1 ⟨r, rfl, hr0, hr1, hc⟩
  have HC := Lib.hid hc
  clear hc hr1
  go_wp2_with fail
  go_ret
  exact ⟨_, rfl, HC.out⟩
/-- 'among' returns one of the list's numbers. -/
def AmPost (xs : List Int) (B g : Nat) (A : Option Addr) (len cap : Nat) (zs : List Int) (m : Int) (w : World) (e : Ending) (w' : World) : Prop := ∃ x, x ∈ xs ∧ e = .returned (.int .i64 x) ∧ CuTo B g A len cap zs m w w'
set_option maxHeartbeats 400000 in
theorem among_any (bl c2 : Nat) (xs : List Int) (B g : Nat) (A : Option Addr) (len cap : Nat) (zs : List Int) (m : Int) (w : World) (h : Cu w B g A len cap zs m) (hm : m ≤ 900000) (hl0 : ∀ k x, xs[k]? = some x → w.cell? ⟨bl, k, none⟩ = some (.int .i64 x)) (hne : bl ≠ g) (hx0 : 0 < xs.length) (hx1 : xs.length ≤ 100) :
    Calls Try.prog 148 #[.pointer (some ⟨g, 0, none⟩), .slice (some ⟨bl, 0, none⟩) xs.length c2] w (AmPost xs B g A len cap zs (m + 2) w) := by
  have H := Lib.hid (pick_any (xs.length : Int) B g A len cap zs m w h hm (by omega) (by omega))
  have HL := Lib.hid hl0
  clear h hl0
  obtain ⟨n, hn⟩ : ∃ n, n = xs.length := ⟨_, rfl⟩
  have HN := Lib.hid hn
  rw [← hn] at H hx0 hx1 ⊢
  clear hn
  go_enter Try.func148, Try.ntmps148
  go_wp2_with fail
  refine H.out.mono ?_
  rintro e w1 ⟨r, rfl, hr0, hr1, hc⟩
  obtain ⟨k, rfl⟩ : ∃ k : Nat, r = k := ⟨r.toNat, by omega⟩
  have hk : k < n := by omega
  obtain ⟨x, hx⟩ : ∃ x, xs[k]? = some x := ⟨xs[k]'(by rw [← HN.out]; exact hk), List.getElem?_eq_getElem _⟩
  have hcell : w1.cell? ⟨bl, k, none⟩ = some (.int .i64 x) := by
    have h1 := HL.out k x hx
    rw [World.cell?_of_block (w := w) (hc.2.block bl (blk_lt h1) (fun e => by cases e; exact hne rfl))]
    exact h1
  have HX := Lib.hid (List.mem_of_getElem? hx)
  have HC := Lib.hid hc
  have hk1 : (k : Int) < n := by omega
  clear hc hx hr1
  go_wp2_with fail
  go_ret
  exact ⟨x, HX.out, rfl, HC.out⟩
end Go.Proofs.Ytpmhnikilianoaa
