/- CONTRACTS: the laws' copies of rows of sheets, of steps and of plans. -/
import Derived.Test.YtnkjamdpafpcpaaPl11
import Derived.Test.YtnkjamdpafpcpaaPv8
import Derived.Test.YtnkjamdpafpcpaaSc
import Derived.Test.YtnkjamdpafpcpaaCm
import Derived.Test.YtnkjamdpafpcpaaCn
import Derived.Deep.Slices
import Derived.OwnWalk
import Derived.WalkKit
import Derived.ProofKit
import Derived.OpenShut
import Derived.Lib.Hide
import Derived.WalkSpells
import Derived.Below
import Derived.BigQuiet
import Derived.LoopN
namespace Go.Proofs.Ytnkjamdpafpcpaa
open Go.ChangeShapes Go.WideShapes Go.ChangeAt Go.RowKit
set_option linter.unusedVariables false
theorem addm11 (x : Addr) (j k : Nat) : (x.add j).add k = x.add (j + k) := by
  unfold Addr.add
  by_cases h : j = 0
  · subst h; simp
  · by_cases hk : k = 0
    · subst hk; simp [h]
    · simp [h, hk]; omega
theorem addb11 (x : Addr) (j : Nat) : (x.add j).block = x.block := by unfold Addr.add; split <;> rfl
/-- What a parameter that is a slice holds. -/
def Is11 {α : Type} (e : α → List Value) (k : Nat) (w : World) (a : Option Addr) (z : List α) : Prop := (a = none ∧ z = []) ∨ ∃ x : Addr, a = some x ∧ ∀ i (h : i < z.length), x.block < w.heap.size ∧ ∀ c v, (e z[i])[c]? = some v → w.cell? (x.add (i * k + c)) = some v
theorem Is11.below {α : Type} {e : α → List Value} {k : Nat} {w W : World} {a : Option Addr} {z : List α} (h : Is11 e k w a z) (hb : Below w.heap.size w W) : Is11 e k W a z := by
  rcases h with h | ⟨x, h1, h3⟩
  · exact .inl h
  · exact .inr ⟨x, h1, fun i hi => ⟨Nat.lt_of_lt_of_le (h3 i hi).1 hb.size, fun c v hv => (hb.cell (p := x.add (i * k + c)) (by rw [addb11]; exact (h3 i hi).1)).trans ((h3 i hi).2 c v hv)⟩⟩
/-- The first i elements copied; the others are 0 yet. -/
def zc11 {α : Type} (z0 : α) (z : List α) (i : Nat) : List α := z.take i ++ List.replicate (z.length - i) z0
theorem zc11_len {α : Type} (z0 : α) (z : List α) {i : Nat} (h : i ≤ z.length) : (zc11 z0 z i).length = z.length := by simp [zc11]; omega
theorem zc11_end {α : Type} (z0 : α) (z : List α) : zc11 z0 z z.length = z := by simp [zc11]
theorem zc11_zero {α : Type} (z0 : α) (z : List α) : zc11 z0 z 0 = List.replicate z.length z0 := by simp [zc11]
theorem zc11_set {α : Type} (z0 : α) (z : List α) {i : Nat} (h : i < z.length) : (zc11 z0 z i).set i z[i] = zc11 z0 z (i + 1) := by
  unfold zc11
  have e1 : (z.take i).length = i := by simp; omega
  have e2 : z.length - i = (z.length - (i + 1)) + 1 := by omega
  rw [List.set_append_right _ _ (by omega), e1, Nat.sub_self, e2, List.replicate_succ, List.set_cons_zero, List.take_add_one, List.getElem?_eq_getElem h, List.append_assoc]
  rfl
/-- Midway: i elements are copied. -/
def Rz11 {α : Type} (e : α → List Value) (k : Nat) (T : TypeId) (z0 : α) (w : World) (z : List α) (gs i : Nat) (W : World) : Prop := W.ownsRow w.heap.size T k (.slice (some ⟨gs, 0, none⟩) z.length z.length) z.length ((zc11 z0 z i).flatMap e) ∧ Below w.heap.size w W ∧ w.heap.size ≤ gs ∧ i ≤ z.length
section
variable {α : Type} {e : α → List Value} {k : Nat} {T : TypeId} {z0 : α}
theorem Rz11.below {w W W' : World} {z : List α} {gs i M : Nat} (h : Rz11 e k T z0 w z gs i W) (hb : Below M W W') (hM : M = W.heap.size) : Rz11 e k T z0 w z gs i W' :=
  ⟨h.1.kept (grown_below hb hM) (.inr (by simp [Value.ownBlock])), below_of h.2.1 hb (by have := h.2.1.size; omega), h.2.2.1, h.2.2.2⟩
theorem Rz11.put (he : ∀ a, (e a).length = k) {w W : World} {z : List α} {gs i : Nat} (h : Rz11 e k T z0 w z gs i W) (hi : i < z.length) : Rz11 e k T z0 w z gs (i + 1) (W.setCells gs (i * k) (e z[i])) := by
  obtain ⟨h1, h2, h3, h4⟩ := h
  refine ⟨?_, setCells_bel h3 _ _ _ _ h2, h3, hi⟩
  have h5 := own_setCells (e z[i]) (i * k) _ _ h1
  rw [fm_setMany he _ (by rw [zc11_len z0 z h4]; exact hi), zc11_set z0 z hi] at h5
  exact h5
theorem Rz11.there (he : ∀ a, (e a).length = k) {w W : World} {z : List α} {gs i : Nat} (h : Rz11 e k T z0 w z gs i W) (hi : i < z.length) : W.there gs (i * k) k := by
  obtain ⟨h1, h2, h3, h4⟩ := h
  have hl : i < (zc11 z0 z i).length := by rw [zc11_len z0 z h4]; exact hi
  intro j hj
  refine ⟨?_, h1.frozenAt _⟩
  have h9 : (e (zc11 z0 z i)[i]).length = k := he _
  rw [own_at h1 ((fm_at he (zc11 z0 z i) i hl j hj).trans (List.getElem?_eq_getElem (by omega)))]
  rfl
end
/-- What is answered: the elements in a row of their own. -/
def ZP11 {α : Type} (e : α → List Value) (k : Nat) (T : TypeId) (z : List α) (w : World) (E : Ending) (w' : World) : Prop := ∃ g, E = .returned (.slice (some ⟨g, 0, none⟩) z.length z.length) ∧ w'.ownsRow w.heap.size T k (.slice (some ⟨g, 0, none⟩) z.length z.length) z.length (z.flatMap e) ∧ Below w.heap.size w w'
section
variable {P : Program} {ops : Array Oper} {rest : List Oper} {a : Act} {w : World} {Q : Exit → Act → World → Prop} {dst : Option Tmp} {type : TypeId} {pos : String} {after : Array Edge} {x y : Operand} {ty : TypeId}
/-- A few cells behind any address are read. -/
theorem wpLa11 (A : Addr) (cs : List Value) (hc : ∀ j v, cs[j]? = some v → w.cell? (A.add j) = some v) (d : TypeDesc) (hu : P.underlying ty = some d) (hx : a.eval x = .pointer (some A)) (hd : d.isRow = true) (hi : (P.info? ty).map (·.size) = some cs.length) (h : wpList P ops Q rest (a.put dst (.agg cs.toArray)) w) : wpList P ops Q (⟨dst, .load ty x, type, pos, after, none⟩ :: rest) a w := by
  have hrun : (loadVar ty A).run P w = .ok (.agg cs.toArray) w := by
    have hl : (loadCells A cs.length).run P w = .ok cs.toArray w := run_loadCells_list (P := P) w A cs hc
    cases hq : P.info? ty with
    | none => simp [hq] at hi
    | some i =>
      have hs : i.size = cs.length := by simpa [hq] using hi
      have hagg : (isAgg ty).run P w = .ok true w := by
        unfold isAgg
        rw [Sem.run_bind, run_underlying hu w]
        cases d <;> simp_all
      simp [loadVar, Sem.run_bind, hagg, sizeOf, typeInfo, hq, hs, hl]
  refine wpList_plain rfl fun K hK => ?_
  unfold Oper.wp execOp
  simp only [hx, Instr.loadAt, Instr.sureAddr, Sem.run_bind, Sem.run_pure, Result.andThen_ok, hrun]
  exact hK _ _ h
end
set_option maxHeartbeats 1000000 in
theorem to_step11 (q0 q1 q2 q3 : Int) (w : World) : Calls Try.prog 44 #[.agg #[.int .i64 q0, .int .i64 q1, .int .i64 q2, .int .i64 q3]] w fun e w' => e = .returned (.agg #[.int .i64 q0, .int .i64 q1, .int .i64 q2, .int .i64 q3]) ∧ Below w.heap.size w w' := by
  have HA := Lib.hid (a2_any q2 q3)
  go_enter Try.func44, Try.ntmps44
  go_wp2_with fail
  generalize hW : (World.alloc _ _ : World) = W1
  have r1 : W1.heap[w.heap.size + 1]? = some (.cells #[.int .i64 0, .int .i64 0, .int .i64 0, .int .i64 0] 73 (0, 0)) := by rw [← hW]; exact alloc_past (alloc_at (by simp))
  have r2 : W1.heap[w.heap.size + 1 + 1]? = some (.cells #[.int .i64 q0, .int .i64 q1, .int .i64 0, .int .i64 0] 73 (0, 0)) := by rw [← hW]; exact alloc_at (by simp)
  have hB : Below w.heap.size w W1 := by rw [← hW]; (repeat (first | exact Below.refl _ _ | assumption | refine Below.setCell ?_ (by first | (simp; done) | (simp; omega)) _ | refine Below.alloc ?_ (by first | (simp; done) | (simp; omega)) _ | refine Below.drew ?_))
  clear hW
  refine (HA.out _).mono ?_
  rintro e W3 ⟨rfl, hb⟩
  have r1 := rowk r1 hb rfl
  have r2 := rowk r2 hb rfl
  have hB := below_of hB hb (by have := hB.size; omega)
  clear hb
  rename_i r1' r2' hB'
  clear r1' r2' hB'
  have b_c := fun j => cell_of_row W3 _ j _ _ _ r2
  have b_f := fun j => frozen_of_row W3 _ j _ _ r2
  have a_c := fun j => cell_of_row W3 _ j _ _ _ r1
  have a_f := fun j => frozen_of_row W3 _ j _ _ r1
  have HB := Lib.hid hB
  clear r1 r2 hB
  go_wp2_with fail
  refine bodyPost_ret (v := .agg #[.int .i64 q0, .int .i64 q1, .int .i64 q2, .int .i64 q3]) (by simp [results, Try.results44, go_sem, a_c]) rfl ⟨rfl, ?_⟩
  exact (((((HB.out.setCell (by first | (simp; done) | (simp; omega)) _).setCell (by first | (simp; done) | (simp; omega)) _).setCell (by first | (simp; done) | (simp; omega)) _).setCell (by first | (simp; done) | (simp; omega)) _).setCell (by first | (simp; done) | (simp; omega)) _).setCell (by first | (simp; done) | (simp; omega)) _
theorem made_sheets11 (v : Value) (m : Nat) : (madeCells #[v, v, v, v, v, v] m).toList = List.replicate m v := by
  rw [List.eq_replicate_iff]
  refine ⟨by simp [madeCells], fun b hb => ?_⟩
  simp only [madeCells, Array.toList_map, List.mem_map] at hb
  obtain ⟨a, _, rfl⟩ := hb
  have h2 : a % 6 < 6 := Nat.mod_lt _ (by decide)
  show (#[v, v, v, v, v, v] : Array Value)[a % 6]! = v
  have : a % 6 = 0 ∨ a % 6 = 1 ∨ a % 6 = 2 ∨ a % 6 = 3 ∨ a % 6 = 4 ∨ a % 6 = 5 := by omega
  rcases this with h | h | h | h | h | h <;> (rw [h]; rfl)
theorem white_sheets11 : ∀ n : Nat, (List.replicate n h0_11).flatMap ch11 = List.replicate (n * 6) (Value.int .i64 0)
  | 0 => rfl
  | n + 1 => by
    have ih := white_sheets11 n
    rw [List.replicate_succ, List.flatMap_cons, ih, Nat.succ_mul]
    simp only [List.replicate_succ]
    rfl
theorem info_sheets11 : (Try.prog.info? 28).map (fun i => (i.zero, i.size, i.bytes)) = some (some (.agg #[.int .i64 0, .int .i64 0, .int .i64 0, .int .i64 0, .int .i64 0, .int .i64 0]), 6, 48) := by kernel_rfl
theorem infos_sheets11 : ∃ i0, Try.prog.info? 28 = some i0 ∧ i0.zero = some (.agg #[.int .i64 0, .int .i64 0, .int .i64 0, .int .i64 0, .int .i64 0, .int .i64 0]) ∧ i0.size = 6 ∧ i0.bytes = 48 := by
  have h := info_sheets11
  cases hh : Try.prog.info? 28 with
  | none => rw [hh] at h; simp at h
  | some i0 =>
    rw [hh] at h
    simp only [Option.map_some, Option.some.injEq, Prod.mk.injEq] at h
    exact ⟨i0, rfl, h.1, h.2.1, h.2.2⟩
set_option maxRecDepth 8000 in
set_option maxHeartbeats 1000000 in
theorem to_sheets11_f (z : List H11) (hz : z.length ≤ 1048576) (x : Addr) (cap : Nat) (w : World) (hP : Is11 ch11 6 w (some x) z) : Calls Try.prog 121 #[.slice (some x) z.length cap] w (ZP11 ch11 6 28 z w) := by
  have HP := Lib.hid hP
  clear hP
  obtain ⟨i0, hi, hz0, hz1, hz2⟩ := infos_sheets11
  go_enter Try.func121, Try.ntmps121
  go_wp2_with (refine wpList_make_full _ rfl _ _ 59 rfl w.heap.size 28 i0 (.agg #[.int .i64 0, .int .i64 0, .int .i64 0, .int .i64 0, .int .i64 0, .int .i64 0]) 6 Try.underlying59 hi hz0 hz1 .i64 .i64 _ _ z.length rfl rfl rfl rfl (by rw [hz2]; omega) (by unfold maxLen; omega) (by omega) ?_)
  intro W2 hown hgr
  have S0 : Hid (Rz11 ch11 6 28 h0_11 w z w.heap.size 0 W2) := Lib.hid ⟨by
    have e : (madeCells #[.int .i64 0, .int .i64 0, .int .i64 0, .int .i64 0, .int .i64 0, .int .i64 0] (z.length * 6)).toList = (zc11 h0_11 z 0).flatMap ch11 := by
      rw [made_sheets11, zc11_zero]
      exact (white_sheets11 z.length).symm
    rw [← e]
    exact hown, (Below.refl w.heap.size w).grown hgr (Nat.le_refl _) (by simp), Nat.le_refl _, Nat.zero_le _⟩
  clear hown hgr hi hz0 hz1 hz2
  go_wp2_with fail
  go_loopw [4] (fun c wr => ∃ i : Nat, i ≤ z.length ∧ c = .int .i64 i ∧ Hid (Rz11 ch11 6 28 h0_11 w z w.heap.size i wr)) (fun c _ => z.length - (intOf c).toNat)
  case atStart => exact ⟨0, by omega, rfl, S0⟩
  case round =>
    obtain ⟨i, hi, rfl, HS⟩ := hrel
    by_cases hlt : i < z.length
    · have hlt' : (i : Int) < z.length := by omega
      have hi0 : (0 : Int) ≤ i := by omega
      have hi2 : i ≤ 1048576 := by omega
      have hPw := HP.out.below HS.out.2.1
      rcases hPw with ⟨h, _⟩ | ⟨x', hx', hc'⟩
      · cases h
      · obtain rfl : x = x' := by injection hx'
        obtain ⟨_, c1⟩ := hc' i hlt
        have HQ := Lib.hid (fun (W : World) (h : Rz11 ch11 6 28 h0_11 w z w.heap.size i W) => h.put ch11_len hlt)
        have HC := Lib.hid (fun (W : World) (h : Rz11 ch11 6 28 h0_11 w z w.heap.size i W) => h.there ch11_len hlt)
        have C1 : Hid (∀ j v, (ch11 z[i])[j]? = some v → wr.cell? ((x.add (i * 6)).add j) = some v) := Lib.hid fun j v hv => by rw [addm11]; exact c1 j v hv
        clear hc' hx' c1
        generalize z[i] = p at C1 HQ
        obtain ⟨q0, q1, q2, q3, q4, q5⟩ := p
        dsimp only [ch11] at C1 HQ
        have HF := Lib.hid (to_sheet q0 q1 q2 q3 q4 q5)
        go_wp2_with ((with_reducible refine wpLa11 (x.add (i * 6)) [.int .i64 q0, .int .i64 q1, .int .i64 q2, .int .i64 q3, .int .i64 q4, .int .i64 q5] C1.out _ Try.underlying24 ?_ ?_ ?_ ?_); rfl; rfl; kernel_rfl)
        refine (HF.out _).mono ?_
        rintro e W3 ⟨rfl, hb⟩
        have HE := Lib.hid (HS.out.below hb rfl)
        have HT : Hid (W3.there w.heap.size (i * 6) (#[.int .i64 q0, .int .i64 q1, .int .i64 q2, .int .i64 q3, .int .i64 q4, .int .i64 q5] : Array Value).size) := Lib.hid (HC.out _ HE.out)
        clear hb C1 HS HC
        go_wp2_with ((with_reducible refine wpSm w.heap.size (i * 6) #[.int .i64 q0, .int .i64 q1, .int .i64 q2, .int .i64 q3, .int .i64 q4, .int .i64 q5] HT.out ?_ ?_ ?_ ?_ ?_); rfl; rfl; kernel_rfl; kernel_rfl)
        have HI2 := Lib.hid (HQ.out _ HE.out)
        clear HT HE HQ
        generalize (World.setCells _ _ _ _ : World) = X at HI2 ⊢
        go_roundw
        case rel => exact ⟨i + 1, by omega, by go_num, HI2⟩
        case measure => simp [intOf]; omega
    · obtain rfl : i = z.length := by omega
      obtain ⟨h1, h2, h3, h4⟩ := HS.out
      rw [zc11_end] at h1
      have HO := Lib.hid h1
      have HB := Lib.hid h2
      clear h1 h2 h3 h4 HS
      go_wp2_with fail
      go_ret
      exact ⟨_, rfl, HO.out, HB.out⟩
set_option maxRecDepth 8000 in
theorem to_sheets11_none (cap : Nat) (w : World) : Calls Try.prog 121 #[.slice none 0 cap] w (ZP11 ch11 6 28 [] w) := by
  obtain ⟨i0, hi, hz0, hz1, hz2⟩ := infos_sheets11
  go_enter Try.func121, Try.ntmps121
  go_wp2_with (refine wpList_make_full _ rfl _ _ 59 rfl w.heap.size 28 i0 (.agg #[.int .i64 0, .int .i64 0, .int .i64 0, .int .i64 0, .int .i64 0, .int .i64 0]) 6 Try.underlying59 hi hz0 hz1 .i64 .i64 _ _ 0 rfl rfl rfl rfl (by rw [hz2]; omega) (by unfold maxLen; omega) (by omega) ?_)
  intro W2 hown hgr
  have HO : Hid (W2.ownsRow w.heap.size 28 6 (.slice (some ⟨w.heap.size, 0, none⟩) 0 0) 0 (([] : List H11).flatMap ch11)) := Lib.hid (by
    have e : (madeCells #[.int .i64 0, .int .i64 0, .int .i64 0, .int .i64 0, .int .i64 0, .int .i64 0] (0 * 6)).toList = ([] : List H11).flatMap ch11 := by
      rw [made_sheets11]
      rfl
    rw [← e]
    exact hown)
  have HB : Hid (Below w.heap.size w W2) := Lib.hid ((Below.refl w.heap.size w).grown hgr (Nat.le_refl _) (by simp))
  clear hown hgr hi hz0 hz1 hz2
  go_wp2_with fail
  refine wp_loop_rounds 1 ?_
  rw [rounds_succ]
  go_wp2_with fail
  go_ret
  exact ⟨_, rfl, HO.out, HB.out⟩
theorem to_sheets11 (z : List H11) (hz : z.length ≤ 1048576) (a : Option Addr) (cap : Nat) (w : World) (hP : Is11 ch11 6 w a z) : Calls Try.prog 121 #[.slice a z.length cap] w (ZP11 ch11 6 28 z w) := by
  rcases a with _ | x
  · rcases hP with ⟨_, rfl⟩ | ⟨x, h, _⟩
    · exact to_sheets11_none cap w
    · cases h
  · exact to_sheets11_f z hz x cap w hP
theorem size_sheets11 (a : Option Addr) (n cap : Nat) (hn : n ≤ maxLen) (L : Int) (h0 : 0 ≤ L) (h1 : L ≤ 1048576) (w : World) : Calls Try.prog 115 #[.slice a n cap, .int .i64 L] w fun e w' => e = .returned (.int .i64 (if L < n then -1 else L - (n : Int))) ∧ w' = w := by
  have hm : n ≤ 9223372036854775807 := by unfold maxLen at hn; omega
  have c1 : IntKind.i64.wrap (L - (n : Int)) = L - (n : Int) := by rw [IntKind.wrap_i64]; omega
  by_cases h : L < (n : Int)
  · have h1 : L - (n : Int) < 0 := by omega
    go_enter Try.func115, Try.ntmps115
    go_wp2_with fail
    go_ret
    exact ⟨by simp, rfl⟩
  · have h1 : ¬ (L - (n : Int) < 0) := by omega
    go_enter Try.func115, Try.ntmps115
    go_wp2_with fail
    go_ret
    exact ⟨by simp, rfl⟩
theorem made_steps11 (v : Value) (m : Nat) : (madeCells #[v, v, v, v] m).toList = List.replicate m v := by
  rw [List.eq_replicate_iff]
  refine ⟨by simp [madeCells], fun b hb => ?_⟩
  simp only [madeCells, Array.toList_map, List.mem_map] at hb
  obtain ⟨a, _, rfl⟩ := hb
  have h2 : a % 4 < 4 := Nat.mod_lt _ (by decide)
  show (#[v, v, v, v] : Array Value)[a % 4]! = v
  have : a % 4 = 0 ∨ a % 4 = 1 ∨ a % 4 = 2 ∨ a % 4 = 3 := by omega
  rcases this with h | h | h | h <;> (rw [h]; rfl)
theorem white_steps11 : ∀ n : Nat, (List.replicate n s0_11).flatMap cs11 = List.replicate (n * 4) (Value.int .i64 0)
  | 0 => rfl
  | n + 1 => by
    have ih := white_steps11 n
    rw [List.replicate_succ, List.flatMap_cons, ih, Nat.succ_mul]
    simp only [List.replicate_succ]
    rfl
theorem info_steps11 : (Try.prog.info? 73).map (fun i => (i.zero, i.size, i.bytes)) = some (some (.agg #[.int .i64 0, .int .i64 0, .int .i64 0, .int .i64 0]), 4, 32) := by kernel_rfl
theorem infos_steps11 : ∃ i0, Try.prog.info? 73 = some i0 ∧ i0.zero = some (.agg #[.int .i64 0, .int .i64 0, .int .i64 0, .int .i64 0]) ∧ i0.size = 4 ∧ i0.bytes = 32 := by
  have h := info_steps11
  cases hh : Try.prog.info? 73 with
  | none => rw [hh] at h; simp at h
  | some i0 =>
    rw [hh] at h
    simp only [Option.map_some, Option.some.injEq, Prod.mk.injEq] at h
    exact ⟨i0, rfl, h.1, h.2.1, h.2.2⟩
set_option maxRecDepth 8000 in
set_option maxHeartbeats 1000000 in
theorem to_steps11_f (z : List S11) (hz : z.length ≤ 1048576) (x : Addr) (cap : Nat) (w : World) (hP : Is11 cs11 4 w (some x) z) : Calls Try.prog 122 #[.slice (some x) z.length cap] w (ZP11 cs11 4 73 z w) := by
  have HP := Lib.hid hP
  clear hP
  obtain ⟨i0, hi, hz0, hz1, hz2⟩ := infos_steps11
  go_enter Try.func122, Try.ntmps122
  go_wp2_with (refine wpList_make_full _ rfl _ _ 60 rfl w.heap.size 73 i0 (.agg #[.int .i64 0, .int .i64 0, .int .i64 0, .int .i64 0]) 4 Try.underlying60 hi hz0 hz1 .i64 .i64 _ _ z.length rfl rfl rfl rfl (by rw [hz2]; omega) (by unfold maxLen; omega) (by omega) ?_)
  intro W2 hown hgr
  have S0 : Hid (Rz11 cs11 4 73 s0_11 w z w.heap.size 0 W2) := Lib.hid ⟨by
    have e : (madeCells #[.int .i64 0, .int .i64 0, .int .i64 0, .int .i64 0] (z.length * 4)).toList = (zc11 s0_11 z 0).flatMap cs11 := by
      rw [made_steps11, zc11_zero]
      exact (white_steps11 z.length).symm
    rw [← e]
    exact hown, (Below.refl w.heap.size w).grown hgr (Nat.le_refl _) (by simp), Nat.le_refl _, Nat.zero_le _⟩
  clear hown hgr hi hz0 hz1 hz2
  go_wp2_with fail
  go_loopw [4] (fun c wr => ∃ i : Nat, i ≤ z.length ∧ c = .int .i64 i ∧ Hid (Rz11 cs11 4 73 s0_11 w z w.heap.size i wr)) (fun c _ => z.length - (intOf c).toNat)
  case atStart => exact ⟨0, by omega, rfl, S0⟩
  case round =>
    obtain ⟨i, hi, rfl, HS⟩ := hrel
    by_cases hlt : i < z.length
    · have hlt' : (i : Int) < z.length := by omega
      have hi0 : (0 : Int) ≤ i := by omega
      have hi2 : i ≤ 1048576 := by omega
      have hPw := HP.out.below HS.out.2.1
      rcases hPw with ⟨h, _⟩ | ⟨x', hx', hc'⟩
      · cases h
      · obtain rfl : x = x' := by injection hx'
        obtain ⟨_, c1⟩ := hc' i hlt
        have HQ := Lib.hid (fun (W : World) (h : Rz11 cs11 4 73 s0_11 w z w.heap.size i W) => h.put cs11_len hlt)
        have HC := Lib.hid (fun (W : World) (h : Rz11 cs11 4 73 s0_11 w z w.heap.size i W) => h.there cs11_len hlt)
        have C1 : Hid (∀ j v, (cs11 z[i])[j]? = some v → wr.cell? ((x.add (i * 4)).add j) = some v) := Lib.hid fun j v hv => by rw [addm11]; exact c1 j v hv
        clear hc' hx' c1
        generalize z[i] = p at C1 HQ
        obtain ⟨q0, q1, q2, q3⟩ := p
        dsimp only [cs11] at C1 HQ
        have HF := Lib.hid (to_step11 q0 q1 q2 q3)
        go_wp2_with ((with_reducible refine wpLa11 (x.add (i * 4)) [.int .i64 q0, .int .i64 q1, .int .i64 q2, .int .i64 q3] C1.out _ Try.underlying71 ?_ ?_ ?_ ?_); rfl; rfl; kernel_rfl)
        refine (HF.out _).mono ?_
        rintro e W3 ⟨rfl, hb⟩
        have HE := Lib.hid (HS.out.below hb rfl)
        have HT : Hid (W3.there w.heap.size (i * 4) (#[.int .i64 q0, .int .i64 q1, .int .i64 q2, .int .i64 q3] : Array Value).size) := Lib.hid (HC.out _ HE.out)
        clear hb C1 HS HC
        go_wp2_with ((with_reducible refine wpSm w.heap.size (i * 4) #[.int .i64 q0, .int .i64 q1, .int .i64 q2, .int .i64 q3] HT.out ?_ ?_ ?_ ?_ ?_); rfl; rfl; kernel_rfl; kernel_rfl)
        have HI2 := Lib.hid (HQ.out _ HE.out)
        clear HT HE HQ
        generalize (World.setCells _ _ _ _ : World) = X at HI2 ⊢
        go_roundw
        case rel => exact ⟨i + 1, by omega, by go_num, HI2⟩
        case measure => simp [intOf]; omega
    · obtain rfl : i = z.length := by omega
      obtain ⟨h1, h2, h3, h4⟩ := HS.out
      rw [zc11_end] at h1
      have HO := Lib.hid h1
      have HB := Lib.hid h2
      clear h1 h2 h3 h4 HS
      go_wp2_with fail
      go_ret
      exact ⟨_, rfl, HO.out, HB.out⟩
set_option maxRecDepth 8000 in
theorem to_steps11_none (cap : Nat) (w : World) : Calls Try.prog 122 #[.slice none 0 cap] w (ZP11 cs11 4 73 [] w) := by
  obtain ⟨i0, hi, hz0, hz1, hz2⟩ := infos_steps11
  go_enter Try.func122, Try.ntmps122
  go_wp2_with (refine wpList_make_full _ rfl _ _ 60 rfl w.heap.size 73 i0 (.agg #[.int .i64 0, .int .i64 0, .int .i64 0, .int .i64 0]) 4 Try.underlying60 hi hz0 hz1 .i64 .i64 _ _ 0 rfl rfl rfl rfl (by rw [hz2]; omega) (by unfold maxLen; omega) (by omega) ?_)
  intro W2 hown hgr
  have HO : Hid (W2.ownsRow w.heap.size 73 4 (.slice (some ⟨w.heap.size, 0, none⟩) 0 0) 0 (([] : List S11).flatMap cs11)) := Lib.hid (by
    have e : (madeCells #[.int .i64 0, .int .i64 0, .int .i64 0, .int .i64 0] (0 * 4)).toList = ([] : List S11).flatMap cs11 := by
      rw [made_steps11]
      rfl
    rw [← e]
    exact hown)
  have HB : Hid (Below w.heap.size w W2) := Lib.hid ((Below.refl w.heap.size w).grown hgr (Nat.le_refl _) (by simp))
  clear hown hgr hi hz0 hz1 hz2
  go_wp2_with fail
  refine wp_loop_rounds 1 ?_
  rw [rounds_succ]
  go_wp2_with fail
  go_ret
  exact ⟨_, rfl, HO.out, HB.out⟩
theorem to_steps11 (z : List S11) (hz : z.length ≤ 1048576) (a : Option Addr) (cap : Nat) (w : World) (hP : Is11 cs11 4 w a z) : Calls Try.prog 122 #[.slice a z.length cap] w (ZP11 cs11 4 73 z w) := by
  rcases a with _ | x
  · rcases hP with ⟨_, rfl⟩ | ⟨x, h, _⟩
    · exact to_steps11_none cap w
    · cases h
  · exact to_steps11_f z hz x cap w hP
theorem size_steps11 (a : Option Addr) (n cap : Nat) (hn : n ≤ maxLen) (L : Int) (h0 : 0 ≤ L) (h1 : L ≤ 1048576) (w : World) : Calls Try.prog 116 #[.slice a n cap, .int .i64 L] w fun e w' => e = .returned (.int .i64 (if L < n then -1 else L - (n : Int))) ∧ w' = w := by
  have hm : n ≤ 9223372036854775807 := by unfold maxLen at hn; omega
  have c1 : IntKind.i64.wrap (L - (n : Int)) = L - (n : Int) := by rw [IntKind.wrap_i64]; omega
  by_cases h : L < (n : Int)
  · have h1 : L - (n : Int) < 0 := by omega
    go_enter Try.func116, Try.ntmps116
    go_wp2_with fail
    go_ret
    exact ⟨by simp, rfl⟩
  · have h1 : ¬ (L - (n : Int) < 0) := by omega
    go_enter Try.func116, Try.ntmps116
    go_wp2_with fail
    go_ret
    exact ⟨by simp, rfl⟩
end Go.Proofs.Ytnkjamdpafpcpaa
