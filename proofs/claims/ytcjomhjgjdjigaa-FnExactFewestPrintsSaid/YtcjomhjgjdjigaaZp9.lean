/- PLAIN LEMMAS: a list of prints as a parameter, and in a row of its own; CONTRACT: its copy. -/
import Derived.Test.YtcjomhjgjdjigaaOp8
import Derived.Test.YtcjomhjgjdjigaaPq8
import Derived.Test.YtcjomhjgjdjigaaPi
import Derived.Deep.Slices
import Derived.OwnWalk
import Derived.WalkKit
import Derived.ProofKit
import Derived.OpenShut
import Derived.Lib.Hide
import Derived.WalkSpells
import Derived.Below
import Derived.BigQuiet
import Derived.LoopN
namespace Go.Proofs.Ytcjomhjgjdjigaa
open Go.ChangeShapes Go.WideShapes Go.ChangeAt Go.RowKit
set_option linter.unusedVariables false
/-- The cells of a slice of prints. -/
def cw9 (z : List Pn) : List Value := z.flatMap Pn.cells
theorem cw9_len (z : List Pn) : (cw9 z).length = z.length * 9 := by
  induction z with
  | nil => rfl
  | cons a z ih =>
    have e : cw9 (a :: z) = a.cells ++ cw9 z := rfl
    rw [e, List.length_append, ih]
    have : a.cells.length = 9 := rfl
    simp
    omega
theorem cw9_at (z : List Pn) : ∀ (k : Nat) (h : k < z.length) (c : Nat), c < 9 → (cw9 z)[k * 9 + c]? = (z[k].cells)[c]? := by
  induction z with
  | nil => intro k h; simp at h
  | cons a z ih =>
    intro k h c hc
    have e : cw9 (a :: z) = a.cells ++ cw9 z := rfl
    have hl : a.cells.length = 9 := rfl
    rcases k with _ | k
    · rw [e, Nat.zero_mul, Nat.zero_add, List.getElem?_append_left (by omega)]
      rfl
    · rw [e, List.getElem?_append_right (by omega), hl, show (k + 1) * 9 + c - 9 = k * 9 + c by omega]
      exact ih k (by simpa using h) c hc
theorem cw9_set (p : Pn) : ∀ (L : List Pn) (i : Nat), i < L.length → (((((((((cw9 L).set (i * 9) (.int .i64 p.k)).set (i * 9 + 1) (.int .i64 p.a)).set (i * 9 + 2) (.int .i64 p.b)).set (i * 9 + 3) (.int .i64 p.c)).set (i * 9 + 4) (.int .i64 p.d)).set (i * 9 + 5) (.int .i64 p.e)).set (i * 9 + 6) (.int .i64 p.f)).set (i * 9 + 7) (.int .i64 p.x)).set (i * 9 + 8) (.int .i64 p.y) = cw9 (L.set i p)
  | [], _, h => by simp at h
  | a :: L, 0, _ => rfl
  | a :: L, i + 1, h => by
    have ih := cw9_set p L i (by simpa using h)
    rw [show (i + 1) * 9 + 8 = (i * 9 + 8) + 9 by omega, show (i + 1) * 9 + 7 = (i * 9 + 7) + 9 by omega, show (i + 1) * 9 + 6 = (i * 9 + 6) + 9 by omega, show (i + 1) * 9 + 5 = (i * 9 + 5) + 9 by omega, show (i + 1) * 9 + 4 = (i * 9 + 4) + 9 by omega, show (i + 1) * 9 + 3 = (i * 9 + 3) + 9 by omega, show (i + 1) * 9 + 2 = (i * 9 + 2) + 9 by omega, show (i + 1) * 9 + 1 = (i * 9 + 1) + 9 by omega, show (i + 1) * 9 = i * 9 + 9 by omega]
    show Value.int .i64 a.k :: Value.int .i64 a.a :: Value.int .i64 a.b :: Value.int .i64 a.c :: Value.int .i64 a.d :: Value.int .i64 a.e :: Value.int .i64 a.f :: Value.int .i64 a.x :: Value.int .i64 a.y :: _ = Value.int .i64 a.k :: Value.int .i64 a.a :: Value.int .i64 a.b :: Value.int .i64 a.c :: Value.int .i64 a.d :: Value.int .i64 a.e :: Value.int .i64 a.f :: Value.int .i64 a.x :: Value.int .i64 a.y :: cw9 (L.set i p)
    rw [← ih]
    rfl
def pn0 : Pn := ⟨0, 0, 0, 0, 0, 0, 0, 0, 0⟩
/-- The first i prints copied; the others are 0 yet. -/
def zc9 (z : List Pn) (i : Nat) : List Pn := z.take i ++ List.replicate (z.length - i) pn0
theorem zc9_len (z : List Pn) {i : Nat} (h : i ≤ z.length) : (zc9 z i).length = z.length := by simp [zc9]; omega
theorem zc9_end (z : List Pn) : zc9 z z.length = z := by simp [zc9]
theorem zc9_set (z : List Pn) {i : Nat} (h : i < z.length) : (zc9 z i).set i z[i] = zc9 z (i + 1) := by
  unfold zc9
  have e1 : (z.take i).length = i := by simp; omega
  have e2 : z.length - i = (z.length - (i + 1)) + 1 := by omega
  rw [List.set_append_right _ _ (by omega), e1, Nat.sub_self, e2, List.replicate_succ, List.set_cons_zero, List.take_add_one, List.getElem?_eq_getElem h, List.append_assoc]
  rfl
theorem cw9_white : ∀ n : Nat, cw9 (List.replicate n pn0) = List.replicate (n * 9) (Value.int .i64 0)
  | 0 => rfl
  | n + 1 => by
    have ih := cw9_white n
    rw [List.replicate_succ, show (n + 1) * 9 = n * 9 + 1 + 1 + 1 + 1 + 1 + 1 + 1 + 1 + 1 by omega]
    simp only [List.replicate_succ]
    rw [← ih]
    rfl
theorem add_more (x : Addr) (j k : Nat) : (x.add j).add k = x.add (j + k) := by
  unfold Addr.add
  by_cases h : j = 0
  · subst h; simp
  · by_cases hk : k = 0
    · subst hk; simp [h]
    · simp [h, hk]; omega
theorem add_block (x : Addr) (j : Nat) : (x.add j).block = x.block := by unfold Addr.add; split <;> rfl
/-- What a parameter that is a slice of prints holds. -/
def IsPrints (w : World) (a : Option Addr) (z : List Pn) : Prop := (a = none ∧ z = []) ∨ ∃ x : Addr, a = some x ∧ ∀ i (h : i < z.length), x.block < w.heap.size ∧ ∀ c v, (z[i].cells)[c]? = some v → w.cell? (x.add (i * 9 + c)) = some v
theorem IsPrints.below {w W : World} {a : Option Addr} {z : List Pn} (h : IsPrints w a z) (hb : Below w.heap.size w W) : IsPrints W a z := by
  rcases h with h | ⟨x, h1, h3⟩
  · exact .inl h
  · exact .inr ⟨x, h1, fun i hi => ⟨Nat.lt_of_lt_of_le (h3 i hi).1 hb.size, fun c v hv => (hb.cell (p := x.add (i * 9 + c)) (by rw [add_block]; exact (h3 i hi).1)).trans ((h3 i hi).2 c v hv)⟩⟩
theorem made_zero9 (v : Value) (m : Nat) : (madeCells #[v, v, v, v, v, v, v, v, v] m).toList = List.replicate m v := by
  rw [List.eq_replicate_iff]
  refine ⟨by simp [madeCells], fun b hb => ?_⟩
  simp only [madeCells, Array.toList_map, List.mem_map] at hb
  obtain ⟨a, _, rfl⟩ := hb
  have h2 : a % 9 < 9 := Nat.mod_lt _ (by decide)
  show (#[v, v, v, v, v, v, v, v, v] : Array Value)[a % 9]! = v
  have : a % 9 = 0 ∨ a % 9 = 1 ∨ a % 9 = 2 ∨ a % 9 = 3 ∨ a % 9 = 4 ∨ a % 9 = 5 ∨ a % 9 = 6 ∨ a % 9 = 7 ∨ a % 9 = 8 := by omega
  rcases this with h | h | h | h | h | h | h | h | h <;> (rw [h]; rfl)
theorem info38 : (Try.prog.info? 38).map (fun i => (i.zero, i.size, i.bytes)) = some (some (.agg #[.int .i64 0, .int .i64 0, .int .i64 0, .int .i64 0, .int .i64 0, .int .i64 0, .int .i64 0, .int .i64 0, .int .i64 0]), 9, 72) := by kernel_rfl
/-- A slice of prints in a row of its own. -/
def Op9 (B g c : Nat) (z : List Pn) (W : World) : Prop := W.ownsRow B 38 9 (.slice (some ⟨g, 0, none⟩) z.length c) z.length (cw9 z)
theorem Op9.below {B g c M : Nat} {z : List Pn} {W W' : World} (h : Op9 B g c z W) (hb : Below M W W') (hM : M = W.heap.size) : Op9 B g c z W' := h.kept (grown_below hb hM) (.inr (by simp [Value.ownBlock]))
theorem Op9.range {B g c : Nat} {z : List Pn} {W : World} (h : Op9 B g c z W) {i : Nat} (hi : i < z.length) : W.rangeAt g (i * 9) (z[i].cells) := by
  intro j v hv
  have hj : j < 9 := by
    have := (List.getElem?_eq_some_iff.1 hv).1
    exact this
  exact own_at h (by rw [cw9_at z i hi j hj]; exact hv)
theorem Op9.there {B g c : Nat} {z : List Pn} {W : World} (h : Op9 B g c z W) {i : Nat} (hi : i < z.length) : W.there g (i * 9) 9 := by
  intro j hj
  refine ⟨?_, h.frozenAt _⟩
  have := h.range hi j
  rcases hq : (z[i].cells)[j]? with _ | v
  · have := List.getElem?_eq_none_iff.1 hq
    have h9 : (z[i].cells).length = 9 := rfl
    omega
  · rw [this v hq]; rfl
theorem Op9.mono {B B2 g c : Nat} {z : List Pn} {W : World} (h : Op9 B g c z W) (hb : B2 ≤ B) : Op9 B2 g c z W := own_mono h hb
/-- Midway: i prints are copied. -/
def Rz9 (w : World) (z : List Pn) (gs i : Nat) (W : World) : Prop := W.ownsRow w.heap.size 38 9 (.slice (some ⟨gs, 0, none⟩) z.length z.length) z.length (cw9 (zc9 z i)) ∧ Below w.heap.size w W ∧ w.heap.size ≤ gs ∧ i ≤ z.length
theorem Rz9.below {w W W' : World} {z : List Pn} {gs i M : Nat} (h : Rz9 w z gs i W) (hb : Below M W W') (hM : M = W.heap.size) : Rz9 w z gs i W' :=
  ⟨h.1.kept (grown_below hb hM) (.inr (by simp [Value.ownBlock])), below_of h.2.1 hb (by have := h.2.1.size; omega), h.2.2.1, h.2.2.2⟩
theorem Rz9.put {w W : World} {z : List Pn} {gs i : Nat} (h : Rz9 w z gs i W) (hi : i < z.length) : Rz9 w z gs (i + 1) (W.setCells gs (i * 9) z[i].cells) := by
  obtain ⟨h1, h2, h3, h4⟩ := h
  have e := cw9_set z[i] (zc9 z i) i (by rw [zc9_len z h4]; exact hi)
  rw [zc9_set z hi] at e
  refine ⟨?_, setCells_below _ _ h2 h3, h3, hi⟩
  rw [← e]
  exact (((((((((h1.stored _ _).1.stored _ _).1.stored _ _).1.stored _ _).1.stored _ _).1.stored _ _).1.stored _ _).1.stored _ _).1.stored _ _).1
theorem Rz9.there {w W : World} {z : List Pn} {gs i : Nat} (h : Rz9 w z gs i W) (hi : i < z.length) : W.there gs (i * 9) 9 := by
  obtain ⟨h1, h2, h3, h4⟩ := h
  have hl : i < (zc9 z i).length := by rw [zc9_len z h4]; exact hi
  intro j hj
  refine ⟨?_, h1.frozenAt _⟩
  have h9 : ((zc9 z i)[i].cells).length = 9 := rfl
  rw [own_at h1 ((cw9_at (zc9 z i) i hl j hj).trans (List.getElem?_eq_getElem (by omega)))]
  rfl
/-- What is answered: the prints in a row of their own. -/
def ZPost9 (z : List Pn) (w : World) (e : Ending) (w' : World) : Prop := ∃ g, e = .returned (.slice (some ⟨g, 0, none⟩) z.length z.length) ∧ Op9 w.heap.size g z.length z w' ∧ Below w.heap.size w w'
section
variable {P : Program} {ops : Array Oper} {rest : List Oper} {a : Act} {w : World} {Q : Exit → Act → World → Prop} {dst : Option Tmp} {type : TypeId} {pos : String} {after : Array Edge} {x y : Operand} {ty : TypeId}
/-- A few cells behind any address are read. -/
theorem wpLa (A : Addr) (cs : List Value) (hc : ∀ j v, cs[j]? = some v → w.cell? (A.add j) = some v) (d : TypeDesc) (hu : P.underlying ty = some d) (hx : a.eval x = .pointer (some A)) (hd : d.isRow = true) (hi : (P.info? ty).map (·.size) = some cs.length) (h : wpList P ops Q rest (a.put dst (.agg cs.toArray)) w) : wpList P ops Q (⟨dst, .load ty x, type, pos, after, none⟩ :: rest) a w := by
  have hrun : (loadVar ty A).run P w = .ok (.agg cs.toArray) w := by
    have hl : (loadCells A cs.length).run P w = .ok cs.toArray w := run_loadCells_list (P := P) w A cs hc
    cases hq : P.info? ty with
    | none => simp [hq] at hi
    | some i =>
      have hs : i.size = cs.length := by simpa [hq] using hi
      have hagg : (isAgg ty).run P w = .ok true w := by
        unfold isAgg
        rw [Sem.run_bind, run_underlying hu w]
        cases d <;> simp_all
      simp [loadVar, Sem.run_bind, hagg, sizeOf, typeInfo, hq, hs, hl]
  refine wpList_plain rfl fun K hK => ?_
  unfold Oper.wp execOp
  simp only [hx, Instr.loadAt, Instr.sureAddr, Sem.run_bind, Sem.run_pure, Result.andThen_ok, hrun]
  exact hK _ _ h
end
set_option maxRecDepth 8000 in
set_option maxHeartbeats 1000000 in
theorem toprints_f (z : List Pn) (hz : z.length ≤ 1048576) (x : Addr) (cap : Nat) (w : World) (hP : IsPrints w (some x) z) : Calls Try.prog 26 #[.slice (some x) z.length cap] w (ZPost9 z w) := by
  have HP := Lib.hid hP
  clear hP
  obtain ⟨i0, hi, hz'⟩ : ∃ i0, Try.prog.info? 38 = some i0 ∧ (i0.zero, i0.size, i0.bytes) = (some (.agg #[.int .i64 0, .int .i64 0, .int .i64 0, .int .i64 0, .int .i64 0, .int .i64 0, .int .i64 0, .int .i64 0, .int .i64 0]), 9, 72) := by
    have h := info38
    cases hh : Try.prog.info? 38 with
    | none => rw [hh] at h; simp at h
    | some i0 => rw [hh] at h; exact ⟨i0, rfl, by simpa using h⟩
  simp only [Prod.mk.injEq] at hz'
  obtain ⟨hz0, hz1, hz2⟩ := hz'
  go_enter Try.func26, Try.ntmps26
  go_wp2_with (refine wpList_make_full _ rfl _ _ 45 rfl w.heap.size 38 i0 (.agg #[.int .i64 0, .int .i64 0, .int .i64 0, .int .i64 0, .int .i64 0, .int .i64 0, .int .i64 0, .int .i64 0, .int .i64 0]) 9 Try.underlying45 hi hz0 hz1 .i64 .i64 _ _ z.length rfl rfl rfl rfl (by rw [hz2]; omega) (by unfold maxLen; omega) (by omega) ?_)
  intro W2 hown hgr
  have S0 : Hid (Rz9 w z w.heap.size 0 W2) := Lib.hid ⟨by
    have e : (madeCells #[.int .i64 0, .int .i64 0, .int .i64 0, .int .i64 0, .int .i64 0, .int .i64 0, .int .i64 0, .int .i64 0, .int .i64 0] (z.length * 9)).toList = cw9 (zc9 z 0) := by
      rw [made_zero9]
      exact (cw9_white z.length).symm
    rw [← e]
    exact hown, (Below.refl w.heap.size w).grown hgr (Nat.le_refl _) (by simp), Nat.le_refl _, Nat.zero_le _⟩
  clear hown hgr hi hz0 hz1 hz2
  go_wp2_with fail
  go_loopw [4] (fun c wr => ∃ i : Nat, i ≤ z.length ∧ c = .int .i64 i ∧ Hid (Rz9 w z w.heap.size i wr)) (fun c _ => z.length - (intOf c).toNat)
  case atStart => exact ⟨0, by omega, rfl, S0⟩
  case round =>
    obtain ⟨i, hi, rfl, HS⟩ := hrel
    by_cases hlt : i < z.length
    · have hlt' : (i : Int) < z.length := by omega
      have hi0 : (0 : Int) ≤ i := by omega
      have hi2 : i ≤ 1048576 := by omega
      have hPw := HP.out.below HS.out.2.1
      rcases hPw with ⟨h, _⟩ | ⟨x', hx', hc'⟩
      · cases h
      · obtain rfl : x = x' := by injection hx'
        obtain ⟨_, c1⟩ := hc' i hlt
        have HQ := Lib.hid (fun (W : World) (h : Rz9 w z w.heap.size i W) => h.put hlt)
        have HC := Lib.hid (fun (W : World) (h : Rz9 w z w.heap.size i W) => h.there hlt)
        have C1 : Hid (∀ j v, (z[i].cells)[j]? = some v → wr.cell? ((x.add (i * 9)).add j) = some v) := Lib.hid fun j v hv => by rw [add_more]; exact c1 j v hv
        clear hc' hx' c1
        generalize z[i] = p at C1 HQ
        obtain ⟨pk, pa, pb, pc, pd, pe, pf, px, py⟩ := p
        dsimp only [Pn.cells] at C1 HQ
        have HF := Lib.hid (to_print pk pa pb pc pd pe pf px py)
        go_wp2_with ((with_reducible refine wpLa (x.add (i * 9)) [.int .i64 pk, .int .i64 pa, .int .i64 pb, .int .i64 pc, .int .i64 pd, .int .i64 pe, .int .i64 pf, .int .i64 px, .int .i64 py] C1.out _ Try.underlying34 ?_ ?_ ?_ ?_); rfl; rfl; kernel_rfl)
        refine (HF.out _).mono ?_
        rintro e W3 ⟨rfl, hb⟩
        have HE := Lib.hid (HS.out.below hb rfl)
        have HT : Hid (W3.there w.heap.size (i * 9) (#[.int .i64 pk, .int .i64 pa, .int .i64 pb, .int .i64 pc, .int .i64 pd, .int .i64 pe, .int .i64 pf, .int .i64 px, .int .i64 py] : Array Value).size) := Lib.hid (HC.out _ HE.out)
        clear hb C1 HS HC
        go_wp2_with ((with_reducible refine wpSm w.heap.size (i * 9) #[.int .i64 pk, .int .i64 pa, .int .i64 pb, .int .i64 pc, .int .i64 pd, .int .i64 pe, .int .i64 pf, .int .i64 px, .int .i64 py] HT.out ?_ ?_ ?_ ?_ ?_); rfl; rfl; kernel_rfl; kernel_rfl)
        have HI2 := Lib.hid (HQ.out _ HE.out)
        clear HT HE HQ
        generalize (World.setCells _ _ _ _ : World) = X at HI2 ⊢
        go_roundw
        case rel => exact ⟨i + 1, by omega, by go_num, HI2⟩
        case measure => simp [intOf]; omega
    · obtain rfl : i = z.length := by omega
      obtain ⟨h1, h2, h3, h4⟩ := HS.out
      rw [zc9_end] at h1
      have HO := Lib.hid h1
      have HB := Lib.hid h2
      clear h1 h2 h3 h4 HS
      go_wp2_with fail
      go_ret
      exact ⟨_, rfl, HO.out, HB.out⟩
set_option maxRecDepth 8000 in
theorem toprints_none (cap : Nat) (w : World) : Calls Try.prog 26 #[.slice none 0 cap] w (ZPost9 [] w) := by
  obtain ⟨i0, hi, hz'⟩ : ∃ i0, Try.prog.info? 38 = some i0 ∧ (i0.zero, i0.size, i0.bytes) = (some (.agg #[.int .i64 0, .int .i64 0, .int .i64 0, .int .i64 0, .int .i64 0, .int .i64 0, .int .i64 0, .int .i64 0, .int .i64 0]), 9, 72) := by
    have h := info38
    cases hh : Try.prog.info? 38 with
    | none => rw [hh] at h; simp at h
    | some i0 => rw [hh] at h; exact ⟨i0, rfl, by simpa using h⟩
  simp only [Prod.mk.injEq] at hz'
  obtain ⟨hz0, hz1, hz2⟩ := hz'
  go_enter Try.func26, Try.ntmps26
  go_wp2_with (refine wpList_make_full _ rfl _ _ 45 rfl w.heap.size 38 i0 (.agg #[.int .i64 0, .int .i64 0, .int .i64 0, .int .i64 0, .int .i64 0, .int .i64 0, .int .i64 0, .int .i64 0, .int .i64 0]) 9 Try.underlying45 hi hz0 hz1 .i64 .i64 _ _ 0 rfl rfl rfl rfl (by rw [hz2]; omega) (by unfold maxLen; omega) (by omega) ?_)
  intro W2 hown hgr
  have HO : Hid (W2.ownsRow w.heap.size 38 9 (.slice (some ⟨w.heap.size, 0, none⟩) 0 0) 0 (cw9 [])) := Lib.hid (by
    have e : (madeCells #[.int .i64 0, .int .i64 0, .int .i64 0, .int .i64 0, .int .i64 0, .int .i64 0, .int .i64 0, .int .i64 0, .int .i64 0] (0 * 9)).toList = cw9 [] := by
      rw [made_zero9]
      rfl
    rw [← e]
    exact hown)
  have HB : Hid (Below w.heap.size w W2) := Lib.hid ((Below.refl w.heap.size w).grown hgr (Nat.le_refl _) (by simp))
  clear hown hgr hi hz0 hz1 hz2
  go_wp2_with fail
  refine wp_loop_rounds 1 ?_
  rw [rounds_succ]
  go_wp2_with fail
  go_ret
  exact ⟨_, rfl, HO.out, HB.out⟩
theorem toprints_any (z : List Pn) (hz : z.length ≤ 1048576) (a : Option Addr) (cap : Nat) (w : World) (hP : IsPrints w a z) : Calls Try.prog 26 #[.slice a z.length cap] w (ZPost9 z w) := by
  rcases a with _ | x
  · rcases hP with ⟨_, rfl⟩ | ⟨x, h, _⟩
    · exact toprints_none cap w
    · cases h
  · exact toprints_f z hz x cap w hP
end Go.Proofs.Ytcjomhjgjdjigaa
