/- CONTRACTS: numberOf: a number of a sheet by those of its nexts, and a map of those that are found. -/
import Derived.Test.YtkjaaaefcmpokaaKm10
import Derived.Test.YtkjaaaefcmpokaaGn2
import Derived.Maps.AppendAt
import Derived.WalkKit
import Derived.ProofKit
import Derived.OpenShut
import Derived.Lib.Hide
import Derived.WalkSpells
import Derived.Below
import Derived.BigQuiet
import Derived.LoopN
namespace Go.Proofs.Ytkjaaaefcmpokaa
open Go.ChangeShapes Go.WideShapes Go.ChangeAt Go.RowKit
set_option linter.unusedVariables false
theorem info3i : ∃ i0, Try.prog.info? 3 = some i0 ∧ i0.zero = some (.int .i64 0) ∧ i0.size = 1 ∧ i0.bytes = 8 := by
  have h : (Try.prog.info? 3).map (fun i => (i.zero, i.size, i.bytes)) = some (some (.int .i64 0), 1, 8) := by kernel_rfl
  cases hh : Try.prog.info? 3 with
  | none => rw [hh] at h; simp at h
  | some i0 =>
    rw [hh] at h
    have hz : (i0.zero, i0.size, i0.bytes) = (some (.int .i64 0), 1, 8) := by simpa using h
    simp only [Prod.mk.injEq] at hz
    exact ⟨i0, rfl, hz.1, hz.2.1, hz.2.2⟩
theorem gr_trans {w U U' : World} {b : Nat} (h : w.grownBy U (some b)) (h' : U.grownBy U' (some b)) : w.grownBy U' (some b) := gtr h h'
theorem gr_none {w U U' : World} {b : Nat} (h : w.grownBy U (some b)) (h' : U.grownBy U' none) : w.grownBy U' (some b) := ⟨h'.os.trans h.os, h'.tape.trans h.tape, h'.output.trans h.output, Nat.le_trans h.size h'.size, fun k hk hne => (h'.block k (Nat.lt_of_lt_of_le hk h.size) (by simp)).trans (h.block k hk hne)⟩
theorem gr_new {w U U' : World} {b c : Nat} (h : w.grownBy U (some b)) (h' : U.grownBy U' (some c)) (hc : w.heap.size ≤ c) : w.grownBy U' (some b) := ⟨h'.os.trans h.os, h'.tape.trans h.tape, h'.output.trans h.output, Nat.le_trans h.size h'.size, fun k hk hne => (h'.block k (Nat.lt_of_lt_of_le hk h.size) (by simp; omega)).trans (h.block k hk hne)⟩
/-- Midway: the boxes, the nexts, the numbers of the first i of them, and the map. -/
def Nb10 (w : World) (f p : Fn6) (V : T6 → Int) (b g cap : Nat) (nx : List T6) (v : Value) (i : Nat) (U : World) : Prop :=
  U.heap[w.heap.size]? = some (o6 f) ∧ U.heap[w.heap.size + 1]? = some (o6 p) ∧ w.grownBy U (some b) ∧ w.heap.size + 2 ≤ U.heap.size ∧ b < w.heap.size ∧ U.ownsRow (w.heap.size + 2) 28 6 (.slice (some ⟨g, 0, none⟩) nx.length cap) nx.length (tv6 nx) ∧ Ir (w.heap.size + 2) v ((nx.take i).map V) U ∧ v.ownBlock ≠ some g ∧ Mo10 V b U
theorem Nb10.grow0 {w U U' : World} {f p : Fn6} {V : T6 → Int} {b g cap i : Nat} {nx : List T6} {v : Value} (h : Nb10 w f p V b g cap nx v i U) (hg : U.grownBy U' none) : Nb10 w f p V b g cap nx v i U' := by
  obtain ⟨h1, h2, h3, h4, h5, h6, h7, h8, h9⟩ := h
  exact ⟨by rw [hg.block _ (row_lt h1) (by simp)]; exact h1, by rw [hg.block _ (row_lt h2) (by simp)]; exact h2, gr_none h3 hg, Nat.le_trans h4 hg.size, h5, h6.kept hg (.inr (by simp [Value.ownBlock])), h7.kept hg (by cases v.ownBlock <;> simp), h8, h9.kept hg (by simp)⟩
theorem Nb10.al {w U : World} {f p : Fn6} {V : T6 → Int} {b g cap i : Nat} {nx : List T6} {v : Value} (h : Nb10 w f p V b g cap nx v i U) (o : Obj) : Nb10 w f p V b g cap nx v i (U.alloc o) := h.grow0 (World.grownBy_alloc U o none)
theorem Ir.ge {B : Nat} {v : Value} {l : List Int} {U : World} (h : Ir B v l U) : ∀ k, v.ownBlock = some k → B ≤ k ∧ k < U.heap.size := h.lt
/-- Behind a call that turns the map's block alone. -/
theorem Nb10.map {w U U' : World} {f p : Fn6} {V : T6 → Int} {b g cap i : Nat} {nx : List T6} {v : Value} (h : Nb10 w f p V b g cap nx v i U) (hg : U.grownBy U' (some b)) (hm : Mo10 V b U') : Nb10 w f p V b g cap nx v i U' := by
  obtain ⟨h1, h2, h3, h4, h5, h6, h7, h8, h9⟩ := h
  have g1 := (h6.lt g rfl).1
  refine ⟨by rw [hg.block _ (row_lt h1) (by simp; omega)]; exact h1, by rw [hg.block _ (row_lt h2) (by simp; omega)]; exact h2, gtr h3 hg, Nat.le_trans h4 hg.size, h5, h6.kept hg (.inr (by simp [Value.ownBlock]; omega)), h7.kept hg ?_, h8, hm⟩
  cases hv : v.ownBlock with
  | none => exact .inl rfl
  | some k =>
    have := (h7.ge k hv).1
    exact .inr (by simp; omega)
/-- One number more. -/
theorem Nb10.snoc {w U U' : World} {f p : Fn6} {V : T6 → Int} {b g cap i : Nat} {nx : List T6} {v v' : Value} (h : Nb10 w f p V b g cap nx v i U) (hi : i < nx.length) (ho : U'.ownsRow (w.heap.size + 2) 3 1 v' (((nx.take i).map V).length + 1) (nv ((nx.take i).map V) ++ [.int .i64 (V nx[i])])) (hg : U.grownBy U' v.ownBlock) (hat : v'.ownBlock = v.ownBlock ∨ v'.ownBlock = some U.heap.size) : Nb10 w f p V b g cap nx v' (i + 1) U' := by
  obtain ⟨h1, h2, h3, h4, h5, h6, h7, h8, h9⟩ := h
  have g1 := h6.lt g rfl
  have e : (nx.take (i + 1)).map V = (nx.take i).map V ++ [V nx[i]] := by
    rw [List.take_add_one, List.getElem?_eq_getElem hi, List.map_append]; rfl
  have ek : ∀ k, k < w.heap.size + 2 → some k ≠ v.ownBlock := fun k hk q => by have := (h7.ge k q.symm).1; omega
  refine ⟨by rw [hg.block _ (row_lt h1) (ek _ (by omega))]; exact h1, by rw [hg.block _ (row_lt h2) (ek _ (by omega))]; exact h2, ?_, Nat.le_trans h4 hg.size, h5, h6.kept hg (.inr (fun q => h8 q.symm)), ?_, ?_, h9.kept hg (ek b (by omega))⟩
  · cases hv : v.ownBlock with
    | none => rw [hv] at hg; exact gr_none h3 hg
    | some k => rw [hv] at hg; exact gr_new h3 hg (by have := (h7.ge k hv).1; omega)
  · unfold Ir
    rw [e]
    have : nv ((nx.take i).map V ++ [V nx[i]]) = nv ((nx.take i).map V) ++ [.int .i64 (V nx[i])] := by simp [nv]
    rw [this, List.length_append]
    exact ho
  · rcases hat with q | q
    · rw [q]; exact h8
    · rw [q]; simp; omega
theorem wpList_lookup_run {P : Program} {ops : Array Oper} {rest : List Oper} {o : Oper} {a : Act} {Q : Exit → Act → World → Prop} {w : World} (hg : o.guard = none) (m x : Operand) (t : TypeId) (c : Bool) (hop : o.op = Op.lookup t m x c) {v mv xv : Value} (hm : a.eval m = mv) (hx : a.eval x = xv) (hrun : (Instr.lookup t mv xv c).run P w = .ok v w) (hK : wpList P ops Q rest (a.put o.dst v) w) : wpList P ops Q (o :: rest) a w := by
  refine wpList_plain hg fun K' hK' => ?_
  unfold Oper.wp
  simp [execOp, hop, hm, hx, hrun, Result.andThen]
  exact hK' _ _ hK
theorem wpList_mapUpdate_run {P : Program} {ops : Array Oper} {rest : List Oper} {o : Oper} {a : Act} {Q : Exit → Act → World → Prop} {w w' : World} (hg : o.guard = none) (m x y : Operand) (t : TypeId) (hop : o.op = Op.mapUpdate t m x y) {mv xv yv : Value} (hm : a.eval m = mv) (hx : a.eval x = xv) (hy : a.eval y = yv) (hrun : (Instr.mapUpdate t mv xv yv).run P w = .ok () w') (hK : wpList P ops Q rest (a.put o.dst undef) w') : wpList P ops Q (o :: rest) a w := by
  refine wpList_plain hg fun K' hK' => ?_
  unfold Oper.wp
  simp [execOp, hop, hm, hx, hy, hrun, Result.andThen]
  exact hK' _ _ hK
theorem one_nw (W : World) (u0 : Value) (t : TypeId) (j : Nat) (u : Value) (h : ([u0] : List Value)[j]? = some u) : (W.alloc (.cells #[u0] t)).cell? ((⟨W.heap.size, 0, none⟩ : Addr).add j) = some u := by
  rcases j with _ | j
  · simp only [List.getElem?_cons_zero, Option.some.injEq] at h; subst h; go_simp
  · simp at h
theorem int_1 (a : Int) : ∀ u ∈ ([.int .i64 a] : List Value), u.oneCell' = true := by intro u hu; simp at hu; subst hu; rfl
def Tell10 (fn : Nat) (T : List Int → Int) : Prop := (∀ (v : Value) (w : World), (callFunc fn #[v]).run Try.prog w = .ok (.enter fn #[v]) w) ∧ ∀ (l : List Int), l.length ≤ 100 → (∀ x ∈ l, 0 ≤ x ∧ x ≤ 1000) → ∀ (B : Nat) (v : Value) (w : World), Ir B v l w → Calls Try.prog fn #[v] w fun e w' => e = .returned (.int .i64 (T l)) ∧ w' = w
def v6 (t : T6) : Value := .agg #[.int .i64 t.1, .int .i64 t.2.1, .int .i64 t.2.2.1, .int .i64 t.2.2.2.1, .int .i64 t.2.2.2.2.1, .int .i64 t.2.2.2.2.2]
set_option maxRecDepth 8000 in
set_option maxHeartbeats 4000000 in
theorem num_step (fn : Nat) (V : T6 → Int) (T : List Int → Int) (HT : Hid (Tell10 fn T)) (f p : Fn6) (nx : List T6) (hl : nx.length ≤ 36) (HN : Hid (∀ w, Calls Try.prog 145 #[.agg #[.int .i64 (rowv (f 0)), .int .i64 (rowv (f 1)), .int .i64 (rowv (f 2)), .int .i64 (rowv (f 3)), .int .i64 (rowv (f 4)), .int .i64 (rowv (f 5))], .agg #[.int .i64 (rowv (p 0)), .int .i64 (rowv (p 1)), .int .i64 (rowv (p 2)), .int .i64 (rowv (p 3)), .int .i64 (rowv (p 4)), .int .i64 (rowv (p 5))]] w (LT nx w))) (hV : V (t6 f) = T (nx.map V)) (hb : ∀ u ∈ nx, 0 ≤ V u ∧ V u ≤ 1000) (b : Nat) (HI : Hid (∀ u ∈ nx, ∀ w, Mo10 V b w → Calls Try.prog 155 #[.map (some b), v6 u, .agg #[.int .i64 (rowv (p 0)), .int .i64 (rowv (p 1)), .int .i64 (rowv (p 2)), .int .i64 (rowv (p 3)), .int .i64 (rowv (p 4)), .int .i64 (rowv (p 5))], .func (.func fn) #[] #[]] w fun e w' => e = .returned (.int .i64 (V u)) ∧ Mo10 V b w' ∧ w.grownBy w' (some b))) (w : World) (hM : Mo10 V b w) : Calls Try.prog 155 #[.map (some b), .agg #[.int .i64 (rowv (f 0)), .int .i64 (rowv (f 1)), .int .i64 (rowv (f 2)), .int .i64 (rowv (f 3)), .int .i64 (rowv (f 4)), .int .i64 (rowv (f 5))], .agg #[.int .i64 (rowv (p 0)), .int .i64 (rowv (p 1)), .int .i64 (rowv (p 2)), .int .i64 (rowv (p 3)), .int .i64 (rowv (p 4)), .int .i64 (rowv (p 5))], .func (.func fn) #[] #[]] w fun e w' => e = .returned (.int .i64 (V (t6 f))) ∧ Mo10 V b w' ∧ w.grownBy w' (some b) := by
  obtain ⟨i0, hi0, hz0, hz1, hz2⟩ := info3i
  have hbw := hM.lt
  have HV := Lib.hid hV
  have HB := Lib.hid hb
  have hg0 : w.grownBy ((w.alloc (o6 f)).alloc (o6 p)) none := (World.grownBy_alloc w _ none).trans (World.grownBy_alloc _ _ none)
  have HG0 := Lib.hid hg0
  have hM0 := hM.kept hg0 (by simp)
  have HM0 := Lib.hid hM0
  clear hV hb hM hg0
  go_enter Try.func155, Try.ntmps155
  rcases hM0.look f with hl0 | ⟨v0, hl0⟩
  · clear hM0
    go_wp2_with (at_lookup; refine wpList_lookup_run rfl _ _ _ _ rfl rfl rfl hl0 ?_)
    go_ret
    exact ⟨rfl, HM0.out, ⟨HG0.out.os, HG0.out.tape, HG0.out.output, HG0.out.size, fun k hk _ => HG0.out.block k hk (by simp)⟩⟩
  · clear hM0
    go_wp2_with (at_lookup; refine wpList_lookup_run rfl _ _ _ _ rfl rfl rfl hl0 ?_)
    have q0 : ((w.alloc (o6 f)).alloc (o6 p)).heap[w.heap.size]? = some (o6 f) := alloc_past (alloc_at rfl)
    have q1 : ((w.alloc (o6 f)).alloc (o6 p)).heap[w.heap.size + 1]? = some (o6 p) := alloc_at (by simp)
    have hs0 : w.heap.size + 2 ≤ ((w.alloc (o6 f)).alloc (o6 p)).heap.size := by simp
    unfold o6 at q0 q1 hs0 HG0 HM0
    generalize hW : (World.alloc _ _ : World) = W0 at q0 q1 hs0 HG0 HM0 ⊢
    clear hW hl0
    refine (HN.out _).mono ?_
    rintro e W1 ⟨g, cap, rfl, ho, hb⟩
    have hg1 := grown_below hb rfl
    have S0 : Hid (Nb10 w f p V b g cap nx (.slice none 0 0) 0 W1) := by
      refine Lib.hid ⟨by rw [hg1.block _ (row_lt q0) (by simp)]; exact q0, by rw [hg1.block _ (row_lt q1) (by simp)]; exact q1, ?_, Nat.le_trans hs0 hb.size, hbw, own_mono ho hs0, ?_, by simp [Value.ownBlock], HM0.out.kept hg1 (by simp)⟩
      · exact gr_none ⟨HG0.out.os, HG0.out.tape, HG0.out.output, HG0.out.size, fun k hk _ => HG0.out.block k hk (by simp)⟩ hg1
      · exact World.ownsRow_nil _ _ _ _
    clear hg1 ho hb HM0 HG0 q0 q1 hs0 HN
    go_wp2_with fail
    go_loopw [11, 27] (fun v c wr => ∃ i : Nat, i ≤ nx.length ∧ c = .int .i64 i ∧ Hid (Nb10 w f p V b g cap nx v i wr)) (fun _ c _ => nx.length - (intOf c).toNat)
    case atStart => exact ⟨0, by omega, rfl, S0⟩
    case round =>
      obtain ⟨i, hi, rfl, HS⟩ := hrel
      clear S0
      by_cases hlt : i < nx.length
      · have hlt' : (i : Int) < nx.length := by omega
        have hi0' : (0 : Int) ≤ i := by omega
        have hi2 : i ≤ 36 := by omega
        obtain ⟨p0, p1, p2, p3, p4, p5⟩ := tv6_at nx i hlt
        have c0 := own_at HS.out.2.2.2.2.2.1 p0
        have c1 := own_at HS.out.2.2.2.2.2.1 p1
        have c2 := own_at HS.out.2.2.2.2.2.1 p2
        have c3 := own_at HS.out.2.2.2.2.2.1 p3
        have c4 := own_at HS.out.2.2.2.2.2.1 p4
        have c5 := own_at HS.out.2.2.2.2.2.1 p5
        clear p0 p1 p2 p3 p4 p5
        have HIu := Lib.hid (HI.out nx[i] (List.getElem_mem hlt))
        have HSn := Lib.hid (fun (U U' : World) (v v' : Value) (h : Nb10 w f p V b g cap nx v i U) ho hg hat => h.snoc (U' := U') (v' := v') hlt ho hg hat)
        generalize nx[i] = u at c0 c1 c2 c3 c4 c5 HIu HSn
        obtain ⟨a0, a1, a2, a3, a4, a5⟩ := u
        dsimp only at c0 c1 c2 c3 c4 c5
        have b_c := fun (o : Obj) j => cell_of_row (wr.alloc o) _ j _ _ _ (alloc_past HS.out.2.1)
        have n_c := fun j => cell_of_row (wr.alloc (.cells #[.int .i64 a0, .int .i64 a1, .int .i64 a2, .int .i64 a3, .int .i64 a4, .int .i64 a5] 28)) _ j _ _ _ (alloc_at (g := wr.heap.size) rfl)
        have HS1 := Lib.hid (HS.out.al (.cells #[.int .i64 a0, .int .i64 a1, .int .i64 a2, .int .i64 a3, .int .i64 a4, .int .i64 a5] 28))
        go_wp2_with fail
        generalize hX : (World.alloc _ _ : World) = W2 at b_c n_c HS1 ⊢
        have HIw := Lib.hid (HIu.out W2 HS1.out.2.2.2.2.2.2.2.2)
        unfold v6 at HIw
        refine HIw.out.mono ?_
        rintro e W3 ⟨rfl, hm, hg⟩
        have HS3 := Lib.hid (HS1.out.map hg hm)
        clear hm hg HS1 HIw HIu b_c n_c c0 c1 c2 c3 c4 c5 HS hX
        have HSn2 := Lib.hid (HSn.out (W3.alloc (.cells #[.int .i64 (V (a0, a1, a2, a3, a4, a5))] 3)))
        have HY := Lib.hid (HS3.out.al (.cells #[.int .i64 (V (a0, a1, a2, a3, a4, a5))] 3))
        clear HS3 HSn
        generalize V (a0, a1, a2, a3, a4, a5) = z at HSn2 HY ⊢
        have HO := HY.out.2.2.2.2.2.2.1
        have hks := HY.out.2.2.2.1
        have hml : ((nx.take i).map V).length ≤ 36 := by rw [List.length_map, List.length_take]; omega
        have HL := Lib.hid hml
        clear hml
        go_wp2_with (at_builtin; refine wpList_append_own_at _ rfl _ _ 93 rfl (w.heap.size + 2) 3 i0 (.int .i64 0) 1 8 Try.underlying93 hi0 hz0 hz1 hz2 rfl (by decide) _ _ _ rfl HO ⟨W3.heap.size, 0, none⟩ 1 1 [.int .i64 z] rfl rfl (one_nw _ _ _) (int_1 _) (by have := HL.out; unfold maxLen; omega) (by have := HL.out; omega) (by have := hks; omega) ?_; intro v' w1 hown' hgrow hnn hat; have R := Lib.hid (HSn2.out w1 _ v' HY.out hown' hgrow hat); clear hown' hgrow hnn hat HY HO HL hks HSn2)
        go_roundw
        case rel => exact ⟨i + 1, by omega, by go_num, R⟩
        case measure => simp [intOf]; omega
      · obtain rfl : i = nx.length := by omega
        have hIr := HS.out.2.2.2.2.2.2.1
        rw [List.take_length] at hIr
        have HIr := Lib.hid hIr
        have HMr := Lib.hid HS.out.2.2.2.2.2.2.2.2
        have HGr := Lib.hid HS.out.2.2.1
        have a_c := fun j => cell_of_row wr _ j _ _ _ HS.out.1
        clear hIr HS HI
        go_wp2_with fail
        rw [HT.out.1, Oper.upon_enter]
        refine (HT.out.2 (nx.map V) (by rw [List.length_map]; omega) (fun x hx => by obtain ⟨u, hu, rfl⟩ := List.mem_map.mp hx; exact HB.out u hu) _ _ _ HIr.out).mono ?_
        rintro e W5 ⟨rfl, rfl⟩
        rw [← HV.out]
        obtain ⟨W6, hst, hm6, hg6⟩ := HMr.out.store f
        go_wp2_with (at_mapUpdate; refine wpList_mapUpdate_run rfl _ _ _ _ rfl rfl rfl rfl hst ?_)
        go_ret
        exact ⟨rfl, hm6, gtr HGr.out hg6⟩
end Go.Proofs.Ytkjaaaefcmpokaa
