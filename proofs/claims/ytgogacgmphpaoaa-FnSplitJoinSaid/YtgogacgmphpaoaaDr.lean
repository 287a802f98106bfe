/- CONTRACTS: what the model draws for the strings' laws: texts and lists of texts of small sizes. -/
import Derived.Test.YtgogacgmphpaoaaCu
import Derived.Test.YtgogacgmphpaoaaSpw
import Derived.Laws.IdiomStrings
namespace Go.Proofs.Ytgogacgmphpaoaa
open Go.ChangeShapes Go.WideShapes Go.ChangeAt Go.RowKit
set_option linter.unusedVariables false
theorem rd_new (w : World) (xs : List ByteArray) : RdS (w.alloc (.cells (xs.map Value.string).toArray 9)) w.heap.size 0 xs := fun j x hx => by
  rw [Nat.zero_add, World.cell?_alloc_at _ _ _ _ rfl]
  simp [hx]
theorem CurB.alloc {W : World} {g : Nat} {A : Option Addr} {len cap : Nat} {a s : Int} (h : CurB W g A len cap a s) (o : Obj) : CurB (W.alloc o) g A len cap a s :=
  (Below.heap_alloc W o g (Array.getElem?_eq_some_iff.1 h).1).trans h
theorem Cu.alloc {W : World} {B g : Nat} {A : Option Addr} {len cap : Nat} {zs : List Int} {m : Int} (h : Cu W B g A len cap zs m) (o : Obj) : Cu (W.alloc o) B g A len cap zs m := by
  obtain ⟨h1, h2, h3, a, s, h4, h5, h6, h7⟩ := h
  exact ⟨code_keep h1 h2 (World.grownBy_alloc W o (some g)), h2, h3, a, s, h4, h5, h6, h7.alloc o⟩
theorem Cu.glt {W : World} {B g : Nat} {A : Option Addr} {len cap : Nat} {zs : List Int} {m : Int} (h : Cu W B g A len cap zs m) : g < W.heap.size := by
  obtain ⟨_, _, _, a, s, _, _, _, h7⟩ := h
  exact (Array.getElem?_eq_some_iff.1 h7).1
/-- A text of a small size, and the cursor behind it. -/
def StPost (S : Nat) (B g : Nat) (A : Option Addr) (len cap : Nat) (zs : List Int) (m : Int) (w : World) (e : Ending) (w' : World) : Prop := ∃ x : ByteArray, x.size ≤ S ∧ e = .returned (.string x) ∧ CuTo B g A len cap zs m w w'
def anyL : List ByteArray := [⟨#[]⟩, ⟨#[97]⟩, ⟨#[97, 44, 98]⟩, ⟨#[115, 111, 109, 101, 32, 119, 111, 114, 100, 115]⟩, ⟨#[120, 35, 121]⟩, ⟨#[45, 49, 50]⟩, ⟨#[0, 255]⟩, ⟨#[44, 44]⟩, ⟨#[48]⟩]
theorem anyL_size : ∀ x ∈ anyL, x.size ≤ 10 := by decide
theorem of_new {xs : List ByteArray} {S : Nat} (hS : ∀ x ∈ xs, x.size ≤ S) (hx0 : 0 < xs.length) (hx1 : xs.length ≤ 100) {cs : Array Value} (hcs : cs = (xs.map Value.string).toArray) {n c2 : Nat} (hn : n = xs.length) {B g : Nat} {A : Option Addr} {len cap : Nat} {zs : List Int} {m : Int} {w : World} (h : Cu w B g A len cap zs m) (hm : m ≤ 900000) :
    Calls Try.prog 26 #[.pointer (some ⟨g, 0, none⟩), .slice (some ⟨w.heap.size, 0, none⟩) n c2] (w.alloc (.cells cs 9)) fun e w' => StPost S B g A len cap zs (m + 2) w e w' := by
  subst hcs
  subst hn
  have hg := h.glt
  exact (of_any w.heap.size c2 xs B g A len cap zs m _ (h.alloc _) hm (rd_new w xs) (by omega) hx0 hx1).mono fun e w' ⟨x, hx, he, h1, h2⟩ => ⟨x, hS x hx, he, h1, g_trans (World.grownBy_alloc w _ (some g)) h2⟩
set_option maxHeartbeats 400000 in
theorem any1_any (B g : Nat) (A : Option Addr) (len cap : Nat) (zs : List Int) (m : Int) (w : World) (h : Cu w B g A len cap zs m) (hm : m ≤ 900000) :
    Calls Try.prog 25 #[.pointer (some ⟨g, 0, none⟩)] w (StPost 10 B g A len cap zs (m + 2) w) := by
  have H := Lib.hid h
  clear h
  go_enter Try.func25, Try.ntmps25
  go_wp2_with fail
  refine (of_new (xs := anyL) anyL_size (by decide) (by decide) rfl rfl H.out hm).mono ?_
  rintro e w1 ⟨x, hx, rfl, hc⟩
  have HC := Lib.hid hc
  clear hc
  go_wp2_with fail
  go_ret
  exact ⟨x, hx, rfl, HC.out⟩
/-- The code that came in, in blocks below B. -/
def CodeIn (W : World) (B : Nat) (A : Option Addr) (len : Nat) (zs : List Int) : Prop := ∀ k, k < len → ∃ b o, A = some ⟨b, o, none⟩ ∧ b < B ∧ W.cell? ⟨b, o + k, none⟩ = some (.int .u8 (zs.getD k 0)) ∧ 0 ≤ zs.getD k 0 ∧ zs.getD k 0 ≤ 255
theorem CodeIn.below {W W' : World} {B : Nat} {A : Option Addr} {len : Nat} {zs : List Int} (h : CodeIn W B A len zs) (hb : Below B W W') : CodeIn W' B A len zs := fun k hk => by
  obtain ⟨b, o, h1, h2, h3, h4, h5⟩ := h k hk
  exact ⟨b, o, h1, h2, (hb.cell (p := ⟨b, o + k, none⟩) h2).trans h3, h4, h5⟩
theorem cu_new {W : World} {B : Nat} {A : Option Addr} {len cap : Nat} {zs : List Int} (h : CodeIn W B A len zs) (hB : B ≤ W.heap.size) (hl : len ≤ 65536) : Cu (W.alloc (.cells #[.slice A len cap, .int .i64 0, .int .u64 0] 44)) B W.heap.size A len cap zs 0 := by
  refine ⟨fun k hk => ?_, hB, hl, 0, 0, by omega, by omega, by omega, heap_alloc_new W _⟩
  obtain ⟨b, o, h1, h2, h3, h4, h5⟩ := h k hk
  exact ⟨b, o, h1, h2, by rw [World.cell?_alloc_lt _ _ _ (blk_lt h3)]; exact h3, h4, h5⟩
theorem below_g {W W2 : World} {o : Obj} (h : (W.alloc o).grownBy W2 (some W.heap.size)) : Below W.heap.size W W2 :=
  ((Below.refl _ W).alloc (Nat.le_refl _) o).grown h (by simp) (fun k e => by cases e; exact Nat.le_refl _)
/-- Two texts of small sizes. -/
def Dr2Post (S T : Nat) (w : World) (e : Ending) (w' : World) : Prop := ∃ x y : ByteArray, x.size ≤ S ∧ y.size ≤ T ∧ e = .returned (.tuple #[.string x, .string y]) ∧ Below w.heap.size w w'
def sepL : List ByteArray := [⟨#[44]⟩, ⟨#[44]⟩, ⟨#[32]⟩, ⟨#[]⟩, ⟨#[44, 44]⟩]
theorem sepL_size : ∀ x ∈ sepL, x.size ≤ 2 := by decide
set_option maxHeartbeats 400000 in
theorem drawSplit (B : Nat) (A : Option Addr) (len cap : Nat) (zs : List Int) (w : World) (h : CodeIn w B A len zs) (hB : B ≤ w.heap.size) (hl : len ≤ 65536) :
    Calls Try.prog 9 #[.slice A len cap] w (Dr2Post 10 2 w) := by
  have H := Lib.hid (cu_new (cap := cap) h hB hl)
  clear h hB
  go_enter Try.func9, Try.ntmps9
  go_wp2_with fail
  refine (any1_any B w.heap.size A len cap zs 0 _ H.out (by omega)).mono ?_
  rintro e w1 ⟨x, hx, rfl, hc⟩
  have HC := Lib.hid hc
  clear hc
  go_wp2_with fail
  refine (of_new (xs := sepL) sepL_size (by decide) (by decide) rfl rfl HC.out.1 (by omega)).mono ?_
  rintro e w2 ⟨y, hy, rfl, hc2⟩
  have HC2 := Lib.hid hc2
  clear hc2
  go_wp2_with fail
  go_ret2
  exact ⟨x, y, hx, hy, rfl, below_g (g_trans HC.out.2 HC2.out.2)⟩
set_option maxHeartbeats 400000 in
theorem drawLess (B : Nat) (A : Option Addr) (len cap : Nat) (zs : List Int) (w : World) (h : CodeIn w B A len zs) (hB : B ≤ w.heap.size) (hl : len ≤ 65536) :
    Calls Try.prog 14 #[.slice A len cap] w (Dr2Post 10 10 w) := by
  have H := Lib.hid (cu_new (cap := cap) h hB hl)
  clear h hB
  go_enter Try.func14, Try.ntmps14
  go_wp2_with fail
  refine (any1_any B w.heap.size A len cap zs 0 _ H.out (by omega)).mono ?_
  rintro e w1 ⟨x, hx, rfl, hc⟩
  have HC := Lib.hid hc
  clear hc
  go_wp2_with fail
  refine (any1_any B w.heap.size A len cap zs (0 + 2) w1 HC.out.1 (by omega)).mono ?_
  rintro e w2 ⟨y, hy, rfl, hc2⟩
  have HC2 := Lib.hid hc2
  clear hc2
  go_wp2_with fail
  go_ret2
  exact ⟨x, y, hx, hy, rfl, below_g (g_trans HC.out.2 HC2.out.2)⟩
/-- A list of texts of small sizes in new memory, and a text. -/
def DjPost (w : World) (e : Ending) (w' : World) : Prop := ∃ (g2 cap2 : Nat) (xs : List ByteArray) (y : ByteArray), e = .returned (.tuple #[.slice (some ⟨g2, 0, none⟩) xs.length cap2, .string y]) ∧
  w'.ownsRow w.heap.size 9 1 (.slice (some ⟨g2, 0, none⟩) xs.length cap2) xs.length (xs.map Value.string) ∧ xs.length ≤ 5 ∧ (∀ x ∈ xs, x.size ≤ 5000) ∧ y.size ≤ 2 ∧ Below w.heap.size w w'
def markL : List ByteArray := [⟨#[44]⟩, ⟨#[59]⟩, ⟨#[59]⟩, ⟨#[]⟩, ⟨#[97, 98]⟩]
theorem markL_size : ∀ x ∈ markL, x.size ≤ 2 := by decide
/-- A row of texts is none of the cursor's block. -/
theorem row_ne_cur {W : World} {base g n len cap : Nat} {v : Value} {xs : List Value} {A : Option Addr} {a s : Int} (h : W.ownsRow base 9 1 v n xs) (hc : CurB W g A len cap a s) : v.ownBlock ≠ some g := by
  rcases h.2 with ⟨rfl, _⟩ | ⟨g', cap', cur, rfl, _, hg, _⟩
  · simp [Value.ownBlock]
  · intro e
    have : g' = g := by simpa [Value.ownBlock] using e
    subst this
    unfold CurB at hc
    rw [hg] at hc
    injection hc with hc
    injection hc with _ ht
    exact absurd ht (by decide)
theorem own_cur {W W' : World} {B base g n len cap : Nat} {v : Value} {xs : List Value} {A : Option Addr} {zs : List Int} {m : Int} (h : W.ownsRow base 9 1 v n xs) (hc : Cu W B g A len cap zs m) (hg : W.grownBy W' (some g)) : W'.ownsRow base 9 1 v n xs := by
  obtain ⟨_, _, _, a, s, _, _, _, h7⟩ := hc
  exact h.kept hg (.inr (row_ne_cur h h7))
/-- The cursor stands behind an append onto a row of texts. -/
theorem cu_app {W w1 : World} {B base g n len cap : Nat} {v : Value} {xs : List Value} {A : Option Addr} {zs : List Int} {m : Int} {o : Obj} (h : W.ownsRow base 9 1 v n xs) (hc : Cu W B g A len cap zs m) (hBb : B ≤ base) (hg : (W.alloc o).grownBy w1 v.ownBlock) : Cu w1 B g A len cap zs m := by
  have hal := hc.alloc o
  have hr := h.alloc o
  obtain ⟨h1, h2, h3, a, s, h4, h5, h6, h7⟩ := hal
  refine ⟨fun k hk => ?_, h2, h3, a, s, h4, h5, h6, (hg.block g (Array.getElem?_eq_some_iff.1 h7).1 (fun e => row_ne_cur hr h7 e.symm)).trans h7⟩
  obtain ⟨b, off, e1, e2, e3, e4, e5⟩ := h1 k hk
  refine ⟨b, off, e1, e2, ?_, e4, e5⟩
  rw [World.cell?_of_block (w := W.alloc o) (hg.block b (blk_lt e3) (fun e => by have := (hr.lt b e.symm).1; omega))]
  exact e3
theorem own_grown0 {W W' : World} {base e size n : Nat} {v : Value} {xs : List Value} (h : W.ownsRow base e size v n xs) (hg : W.grownBy W' none) : W'.ownsRow base e size v n xs := by
  refine h.kept hg ?_
  rcases h.2 with ⟨h0, _⟩ | ⟨g', cap', cur, h0, _⟩
  · exact .inl (by rw [h0]; rfl)
  · right; rw [h0]; simp [Value.ownBlock]
theorem g_of0 {W W' : World} {g : Nat} (hg : W.grownBy W' none) : W.grownBy W' (some g) := ⟨hg.os, hg.tape, hg.output, hg.size, fun k hk _ => hg.block k hk (by simp)⟩
theorem cu_grown0 {W W' : World} {B g len cap : Nat} {A : Option Addr} {zs : List Int} {m : Int} (h : Cu W B g A len cap zs m) (hg : W.grownBy W' none) : Cu W' B g A len cap zs m := by
  obtain ⟨h1, h2, h3, a, s, h4, h5, h6, h7⟩ := h
  exact ⟨code_keep h1 h2 (g_of0 hg), h2, h3, a, s, h4, h5, h6, (hg.block g (Array.getElem?_eq_some_iff.1 h7).1 (by simp)).trans h7⟩
/-- How things stand between two rounds of the drawing of a list. -/
def Mid (w wr : World) (B : Nat) (A : Option Addr) (len cap : Nat) (zs : List Int) (v : Value) (xs : List ByteArray) (m : Int) : Prop :=
  wr.ownsRow w.heap.size 9 1 v xs.length (xs.map Value.string) ∧ (∀ x ∈ xs, x.size ≤ 5000) ∧ Cu wr B w.heap.size A len cap zs m ∧ Below w.heap.size w wr
theorem Mid.cur {w wr w2 : World} {B : Nat} {A : Option Addr} {len cap : Nat} {zs : List Int} {v : Value} {xs : List ByteArray} {m m' : Int} (h : Mid w wr B A len cap zs v xs m) (hc : CuTo B w.heap.size A len cap zs m' wr w2) : Mid w w2 B A len cap zs v xs m' :=
  ⟨own_cur h.1 h.2.2.1 hc.2, h.2.1, hc.1, h.2.2.2.grown hc.2 h.2.2.2.size (fun k e => by cases e; exact Nat.le_refl _)⟩
theorem Mid.app {w wr w3 : World} {B : Nat} {A : Option Addr} {len cap : Nat} {zs : List Int} {v v' : Value} {xs : List ByteArray} {x : ByteArray} {m : Int} (h : Mid w wr B A len cap zs v xs m) (hx : x.size ≤ 5000) (hB : B ≤ w.heap.size)
    (hown' : w3.ownsRow w.heap.size 9 1 v' (xs.length + 1) (xs.map Value.string ++ [.string x])) (hg : (wr.alloc (.cells #[.string x] 9)).grownBy w3 v.ownBlock) : Mid w w3 B A len cap zs v' (xs ++ [x]) m := by
  obtain ⟨h1, h2, h3, h4⟩ := h
  have R := app_step h1 h4 h4.size hown' hg
  refine ⟨R.1, fun y hy => ?_, cu_app h1 h3 hB hg, R.2⟩
  rw [List.mem_append, List.mem_singleton] at hy
  rcases hy with hy | hy
  · exact h2 y hy
  · subst hy; exact hx
theorem Mid.made {w wr w2 : World} {B : Nat} {A : Option Addr} {len cap : Nat} {zs : List Int} {v : Value} {xs : List ByteArray} {m : Int} (h : Mid w wr B A len cap zs v xs m) (hg : wr.grownBy w2 none) : Mid w w2 B A len cap zs v xs m :=
  ⟨own_grown0 h.1 hg, h.2.1, cu_grown0 h.2.2.1 hg, h.2.2.2.grown hg h.2.2.2.size (fun k e => by cases e)⟩
theorem Try.info5 : (Try.prog.info? 5).map (fun i => (i.zero, i.size, i.bytes)) = some (some (.int .u8 0), 1, 1) := by kernel_rfl
theorem zeros_text {W : World} {base g n cap : Nat} (h : W.ownsRow base 5 1 (.slice (some ⟨g, 0, none⟩) n cap) n (madeCells (Value.int .u8 0).cells (n * 1)).toList) :
    (convert 22 9 (.slice (some ⟨g, 0, none⟩) n cap)).run Try.prog W = .ok (.string ⟨(List.replicate n (0 : UInt8)).toArray⟩) W := by
  have := run_convert_bytes_back (P := Try.prog) W 22 9 5 ⟨g, 0, none⟩ cap (List.replicate n (0 : UInt8)) Try.underlying22 Try.underlying5 Try.underlying9 (fun j hj => by
    have hj' : j < n := by simpa using hj
    rw [Go.WideShapes.add_plain, Nat.zero_add, h.cellAt j (by omega), Nat.mul_one]
    rw [show (madeCells (Value.int IntKind.u8 0).cells n).toList = List.replicate n (Value.int .u8 0) from toList_madeCells_one _ _]
    simp [hj'])
  rwa [List.length_replicate] at this
theorem mid_shape {w wr : World} {B : Nat} {A : Option Addr} {len cap : Nat} {zs : List Int} {v : Value} {xs : List ByteArray} {m : Int} (h : Mid w wr B A len cap zs v xs m) (hv : v ≠ .slice none 0 0) : ∃ g c, v = .slice (some ⟨g, 0, none⟩) xs.length c := by
  rcases h.1.2 with ⟨h0, _⟩ | ⟨g', cap', cur, h0, _⟩
  · exact absurd h0 hv
  · exact ⟨g', cap', h0⟩
theorem dj_fin {w wr : World} {B : Nat} {A : Option Addr} {len cap : Nat} {zs : List Int} {xs : List ByteArray} {m : Int} {g c : Nat} {y : ByteArray} {e : Ending} (h : Mid w wr B A len cap zs (.slice (some ⟨g, 0, none⟩) xs.length c) xs m) (hl : xs.length ≤ 5) (hy : y.size ≤ 2) (he : e = .returned (.tuple #[.slice (some ⟨g, 0, none⟩) xs.length c, .string y])) : DjPost w e wr :=
  ⟨g, c, xs, y, he, h.1, hl, h.2.1, hy, h.2.2.2⟩
theorem zeros_size {q2 : Nat} (h : q2 ≤ 19) : (⟨(List.replicate (3990 + q2) (0 : UInt8)).toArray⟩ : ByteArray).size ≤ 5000 := by
  show (List.replicate (3990 + q2) (0 : UInt8)).toArray.size ≤ 5000
  simp; omega
theorem dj_fin' {w wr : World} {B : Nat} {A : Option Addr} {len cap : Nat} {zs : List Int} {xs : List ByteArray} {m : Int} {g c n : Nat} {y : ByteArray} {e : Ending} (h : Mid w wr B A len cap zs (.slice (some ⟨g, 0, none⟩) n c) xs m) (hn : xs.length = n) (hl : n ≤ 5) (hy : y.size ≤ 2) (he : e = .returned (.tuple #[.slice (some ⟨g, 0, none⟩) n c, .string y])) : DjPost w e wr := by
  subst hn; exact dj_fin h hl hy he
set_option maxHeartbeats 4000000 in
theorem drawJoin (B : Nat) (A : Option Addr) (len cap : Nat) (zs : List Int) (w : World) (h : CodeIn w B A len zs) (hB : B ≤ w.heap.size) (hl : len ≤ 65536) :
    Calls Try.prog 11 #[.slice A len cap] w (DjPost w) := by
  obtain ⟨i0, hi, hz0, hz1, hz2⟩ := info_parts Try.info9
  obtain ⟨i5, hi5, hy0, hy1, hy2⟩ := info_parts Try.info5
  have H := Lib.hid (cu_new (cap := cap) h hB hl)
  clear h
  go_enter Try.func11, Try.ntmps11
  go_wp2_with fail
  refine (pick_any 4 B w.heap.size A len cap zs 0 _ (H.out.alloc _) (by omega) (by omega) (by omega)).mono ?_
  rintro e w1 ⟨r, rfl, hr0, hr1, hc⟩
  obtain ⟨q, rfl⟩ : ∃ q : Nat, r = q := ⟨r.toNat, by omega⟩
  have hq : q ≤ 3 := by omega
  have M1 := Lib.hid (show Mid w w1 B A len cap zs (.slice (some ⟨w.heap.size + 1, 0, none⟩) 0 0) [] (0 + 2) from by
    have h0 : Mid w ((w.alloc (.cells #[.slice A len cap, .int .i64 0, .int .u64 0] 44)).alloc (.cells #[] 9)) B A len cap zs (.slice (some ⟨w.heap.size + 1, 0, none⟩) 0 0) [] 0 := by
      refine ⟨?_, by simp, H.out.alloc _, ((Below.refl _ w).alloc (Nat.le_refl _) _).alloc (by simp) _⟩
      have := World.ownsRow_lit (base := w.heap.size) (e := 9) (size := 1) (w.alloc (.cells #[.slice A len cap, .int .i64 0, .int .u64 0] 44)) #[] 0 (by simp) (by unfold maxLen; omega) rfl
      rw [World.size_alloc] at this
      exact this
    exact h0.cur hc)
  clear hc hr1 hr0
  go_wp2_with fail
  go_loopw [5, 7] (fun v b wr => ∃ xs : List ByteArray, xs.length ≤ q ∧ b = .int .i64 xs.length ∧ v ≠ .slice none 0 0 ∧ Hid (Mid w wr B A len cap zs v xs (2 + 2 * xs.length))) (fun _ b _ => q - (intOf b).toNat)
  case atStart => exact ⟨[], Nat.zero_le _, rfl, by simp, M1.out⟩
  case round =>
    obtain ⟨xs, hxl, rfl, hvn, HM⟩ := hrel
    by_cases hlt : xs.length < q
    · clear M1
      go_wp2_with fail
      refine (any1_any B w.heap.size A len cap zs _ _ HM.out.2.2.1 (by omega)).mono ?_
      rintro e w2 ⟨x, hx, rfl, hc⟩
      have M2 := Lib.hid (HM.out.cur hc)
      have hown2 := M2.out.1
      have hs2 : w.heap.size ≤ w2.heap.size := M2.out.2.2.2.size
      clear hc
      obtain ⟨n, hn⟩ : ∃ n, n = xs.length := ⟨_, rfl⟩
      go_wp2_with (at_builtin; refine wpList_append_own _ rfl _ _ 26 rfl w.heap.size 9 i0 (.string ByteArray.empty) 1 16 Try.underlying26 hi hz0 hz1 hz2 rfl (by decide) _ _ _ rfl (hown2.alloc _) ⟨w2.heap.size, 0, none⟩ 1 1 [.string x] rfl rfl (cell_one_new _ _ _) (by intro u hu; simp at hu; subst hu; rfl) (by unfold maxLen; omega) (by omega) (by simp; omega) ?_; intro v' w3 hown' hgrow _; have M3 := Lib.hid (M2.out.app (by omega) hB hown' hgrow); have hvn' : v' ≠ .slice none 0 0 := (by obtain ⟨g', c', rfl, _⟩ := own_shape hown'; simp); clear hown' hgrow hown2)
      go_roundw
      case rel => exact ⟨xs ++ [x], by simp; omega, by simp, hvn', by
        have := M3.out
        rw [show (2 + 2 * (xs.length : Int) + 2) = 2 + 2 * ((xs ++ [x]).length : Int) by simp; omega] at this
        exact this⟩
      case measure => simp [intOf]; omega
    · obtain ⟨gv, cv, rfl⟩ := mid_shape HM.out hvn
      have hxl5 : xs.length ≤ 3 := by omega
      clear hvn M1
      go_wp2_with fail
      refine (one_any 20 B w.heap.size A len cap zs _ _ HM.out.2.2.1 (by omega) (by omega) (by omega)).mono ?_
      rintro e w2 ⟨b, rfl, hc⟩
      have M2 := Lib.hid (HM.out.cur hc)
      clear hc
      cases b with
      | false =>
        go_wp2_with fail
        refine (of_new (xs := markL) markL_size (by decide) (by decide) rfl rfl M2.out.2.2.1 (by omega)).mono ?_
        rintro e w3 ⟨y, hy, rfl, hc⟩
        have M3 := Lib.hid (M2.out.cur hc)
        clear hc
        go_wp2_with fail
        go_ret2
        exact dj_fin M3.out (by omega) hy rfl
      | true =>
        go_wp2_with fail
        refine (pick_any 20 B w.heap.size A len cap zs _ _ M2.out.2.2.1 (by omega) (by omega) (by omega)).mono ?_
        rintro e w3 ⟨r2, rfl, hr0, hr1, hc⟩
        obtain ⟨q2, rfl⟩ : ∃ q : Nat, r2 = q := ⟨r2.toNat, by omega⟩
        have hq2 : q2 ≤ 19 := by omega
        have M3 := Lib.hid (M2.out.cur hc)
        have hs3 : w.heap.size ≤ w3.heap.size := M3.out.2.2.2.size
        clear hc hr0 hr1
        go_wp2_with (first | (at_make; refine wpList_make_full _ rfl _ _ 22 rfl w3.heap.size 5 i5 (.int .u8 0) 1 Try.underlying22 hi5 hy0 hy1 .i64 .i64 _ _ (3990 + q2) rfl rfl (by omega) (by omega) (by rw [hy2]; omega) (by unfold maxLen; omega) (by omega) ?_; intro w5 hown5 hgrow5; have hcv := zeros_text hown5; have M5 := Lib.hid (M3.out.made hgrow5); have hs5 : w.heap.size ≤ w5.heap.size := M5.out.2.2.2.size; clear hown5 hgrow5) | (at_builtin; refine wpList_append_own _ rfl _ _ 26 rfl w.heap.size 9 i0 (.string ByteArray.empty) 1 16 Try.underlying26 hi hz0 hz1 hz2 rfl (by decide) _ _ _ rfl (M5.out.1.alloc _) ⟨w5.heap.size, 0, none⟩ 1 1 [.string ⟨(List.replicate (3990 + q2) (0 : UInt8)).toArray⟩] rfl rfl (cell_one_new _ _ _) (by intro u hu; simp at hu; subst hu; rfl) (by unfold maxLen; omega) (by omega) (by simp; omega) ?_; intro v' w6 hown' hgrow _; obtain ⟨g6, c6, rfl, _⟩ := own_shape hown'; have M6 := Lib.hid (M5.out.app (zeros_size hq2) hB hown' hgrow); clear hown' hgrow))
        refine (of_new (xs := markL) markL_size (by decide) (by decide) rfl rfl M6.out.2.2.1 (by omega)).mono ?_
        rintro e w7 ⟨y, hy, rfl, hc⟩
        have M7 := Lib.hid (M6.out.cur hc)
        clear hc
        have hl7 : (xs ++ [(⟨(List.replicate (3990 + q2) (0 : UInt8)).toArray⟩ : ByteArray)]).length = xs.length + 1 := by simp
        go_wp2_with fail
        go_ret2
        exact dj_fin' M7.out hl7 (by omega) hy rfl
end Go.Proofs.Ytgogacgmphpaoaa
