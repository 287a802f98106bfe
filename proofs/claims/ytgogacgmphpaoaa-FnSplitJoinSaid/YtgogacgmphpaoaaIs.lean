/- CONTRACTS: the code's SplitString: the parts of a text between the places of a byte, in new memory; or no. -/
import Derived.Test.YtgogacgmphpaoaaIt
namespace Go.Proofs.Ytgogacgmphpaoaa
open Go.RowKit Go.Shelf
attribute [local go_sem] Oper.semAt_some
set_option linter.unusedVariables false
theorem wpListIn_append_own_at {F : Fence} {n : Nat} {P : Program} (w : World) {ops : Array Oper} {rest : List Oper} {o : Oper} {a : Act} {Q : Exit → Act → World → Prop}
    (hg : o.guard = none) (s x : Operand) (t : TypeId) (hop : o.op = Op.call { callee := Callee.builtin Builtin.append, args := #[s, x], argTypes := #[t, t] })
    (base : Nat) (e : TypeId) (i : TypeInfo) (z : Value) (size bytes : Nat) (h1 : P.underlying t = some (.slice e)) (h2 : P.info? e = some i) (h3 : i.zero = some z) (h4 : i.size = size) (h5 : i.bytes = bytes) (h6 : z.cells.size = size) (h7 : 0 < size)
    (v : Value) (k : Nat) (xs : List Value) (hs : a.eval s = v) (hown : w.ownsRow base e size v k xs) (ad : Addr) (m c : Nat) (news : List Value) (hx : a.eval x = .slice (some ad) m c) (hn : news.length = m * size)
    (hc : ∀ j u, news[j]? = some u → w.cell? (ad.add j) = some u) (h1c : ∀ u ∈ news, u.oneCell' = true) (b1 : k + m ≤ maxLen) (b2 : (k + m) * bytes ≤ 140737488355328) (b3 : base ≤ w.heap.size)
    (hK : ∀ v' w', w'.ownsRow base e size v' (k + m) (xs ++ news) → w.grownBy w' v.ownBlock → (v'.ownBlock = v.ownBlock ∨ v'.ownBlock = some w.heap.size) → wpListIn F n P ops Q rest (a.put o.dst v') w') :
    wpListIn F n P ops Q (o :: rest) a w := by
  refine wpListIn_plain hg fun K hK' => ?_
  obtain ⟨v', w', hrun, r1, r2, _, r4⟩ := run_append_own_at (P := P) w base t o.type e i z size bytes h1 h2 h3 h4 h5 h6 h7 v k xs hown ad m c news hn hc h1c b1 b2 b3
  unfold Oper.wpIn
  refine ⟨?_, ?_⟩
  · simp [Oper.about, hop, resolve, Target.leads, Sem.run_pure]
  · rw [Oper.semAt_plain F _ _ (by rw [hop]; intro c hc'; cases hc')]
    simp [execOp, hop, resolve, invoke, builtin, hs, hx, hrun, Result.andThen]
    exact hK' _ _ (hK v' w' r1 r2 r4)
theorem kp_one {W w1 : World} {Bp Bs : Nat} {v v' : Value} {tmp : Obj} (hg : (W.alloc tmp).grownBy w1 v.ownBlock) (h1 : v.ownBlock ≠ some Bs) (hp : Bs ≠ Bp) (u : Value) (hu : W.cell? ⟨Bs, 0, none⟩ = some u) : (w1.setCell ⟨Bp, 0, none⟩ v').cell? ⟨Bs, 0, none⟩ = some u := by
  have hlt := blk_lt hu
  rw [World.cell?_setCell_other _ _ _ _ (by intro e; cases e; exact hp rfl)]
  rw [World.cell?_of_block (w := W.alloc tmp) (hg.block Bs (by simp; simp at hlt; omega) (fun e => h1 e.symm))]
  rw [World.cell?_alloc_lt _ _ _ hlt]; exact hu
theorem kp_step {W w1 : World} {Bp Bs Bc : Nat} {v v' : Value} {tmp : Obj} (hg : (W.alloc tmp).grownBy w1 v.ownBlock) (h1 : v.ownBlock ≠ some Bs) (h2 : v.ownBlock ≠ some Bc) (hp1 : Bs ≠ Bp) (hp2 : Bc ≠ Bp) : KpB Bs Bc W (w1.setCell ⟨Bp, 0, none⟩ v') :=
  ⟨fun u hu => kp_one hg h1 hp1 u hu, fun u hu => kp_one hg h2 hp2 u hu⟩
theorem own_ne {b sz : Nat} {v v' : Value} (h : v.ownBlock ≠ some b) (hat : v'.ownBlock = v.ownBlock ∨ v'.ownBlock = some sz) (hk : b < sz) : v'.ownBlock ≠ some b := by
  rcases hat with e | e
  · rw [e]; exact h
  · rw [e]; intro e'; cases e'; omega
set_option maxRecDepth 100000 in
set_option maxHeartbeats 2000000 in
theorem implS_in (F : Fence) (n : Nat) (h10 : F.fn 10) (h27 : F.fn 27) (h36 : F.fn 36) (hro : F.round = none) (hn : 3 ≤ n) (s sp : ByteArray) (c : UInt8) (hs : s.size ≤ 4000) (hsp : sp.size = 1) (hc0 : c = sp[0]'(by omega)) (w : World) :
    CallsIn F n Try.prog 10 #[.string s, .string sp] w fun e W' => ∃ g cap, e = .returned (.tuple #[.slice (some ⟨g, 0, none⟩) (parts s c).length cap, .bool true]) ∧ W'.ownsRow w.heap.size 9 1 (.slice (some ⟨g, 0, none⟩) (parts s c).length cap) (parts s c).length ((parts s c).map Value.string) ∧ w.heap.size ≤ g ∧ Below w.heap.size w W' := by
  have h1 : 1 ≤ n := by omega
  have hd : decide (4000 < (s.size : Int)) = false := by simp; omega
  have hc := Lib.hid hc0
  clear hc0
  obtain ⟨i0, hi, hz0, hz1, hz2⟩ := info_parts Try.info9
  refine callsIn_of_wp_marks Try.func10 rfl h10 ?_ hro
  simp only [Try.ntmps10, List.size_toArray, List.length_cons, List.length_nil, Nat.reduceAdd, Nat.reduceSub, Array.replicate_succ, Array.replicate_zero, List.push_toArray, List.append_toArray, List.nil_append, List.cons_append]
  gi_wp2_with (gi_at_call 27; refine (partsOf_in F (n - 1) h27 hro _ _ _).mono ?_; rintro e w' ⟨rfl, rfl⟩)
  rw [← hc.out]
  obtain ⟨W0, hW0⟩ : ∃ W0, (((w.alloc (.cells #[] 9)).alloc (.cells #[.slice (some ⟨w.heap.size, 0, none⟩) 0 0] 26)).alloc (.cells #[.string s] 9)).alloc (.cells #[.int .u8 (c.toNat : Int)] 5) = W0 := ⟨_, rfl⟩
  rw [hW0]
  have hsz0 : W0.heap.size = w.heap.size + 4 := by rw [← hW0]; simp
  have hB0 : Below w.heap.size w W0 := by
    rw [← hW0]
    exact ((((Below.refl _ w).alloc (Nat.le_refl _) _).alloc (by simp) _).alloc (by simp; omega) _).alloc (by simp; omega) _
  have bP : Boxed W0 (w.heap.size + 1) 26 (.slice (some ⟨w.heap.size, 0, none⟩) 0 0) := by
    rw [← hW0]
    have := Boxed.new (w.alloc (.cells #[] 9)) 26 (.slice (some ⟨w.heap.size, 0, none⟩) 0 0)
    rw [World.size_alloc] at this
    exact (this.alloc _).alloc _
  have bS : Boxed W0 (w.heap.size + 1 + 1) 9 (.string s) := by
    rw [← hW0]
    have := Boxed.new ((w.alloc (.cells #[] 9)).alloc (.cells #[.slice (some ⟨w.heap.size, 0, none⟩) 0 0] 26)) 9 (.string s)
    rw [World.size_alloc, World.size_alloc] at this
    exact this.alloc _
  have bC : Boxed W0 (w.heap.size + 1 + 1 + 1) 5 (.int .u8 (c.toNat : Int)) := by
    rw [← hW0]
    have := Boxed.new (((w.alloc (.cells #[] 9)).alloc (.cells #[.slice (some ⟨w.heap.size, 0, none⟩) 0 0] 26)).alloc (.cells #[.string s] 9)) 5 (.int .u8 (c.toNat : Int))
    rw [World.size_alloc, World.size_alloc, World.size_alloc] at this
    exact this
  have hrow0 : W0.ownsRow w.heap.size 9 1 (.slice (some ⟨w.heap.size, 0, none⟩) 0 0) 0 [] := by
    rw [← hW0]
    exact (((World.ownsRow_lit w #[] 0 (Nat.le_refl _) (by unfold maxLen; omega) rfl).alloc _).alloc _).alloc _
  have HL := Lib.hid (parts_len s c)
  have HP := Lib.hid (parts_pos s c)
  clear hW0
  refine wpIn_rangeFunc_ownG hro h1 (gf := 36) (lb := #[.pointer (some ⟨w.heap.size + 1 + 1, 0, none⟩), .pointer (some ⟨w.heap.size + 1 + 1 + 1, 0, none⟩)]) rfl h36 (enters_of Try.func36 (by kernel_rfl) rfl)
    (parts_stops F (n - 1) h36 hro (by omega) (w.heap.size + 1 + 1) (w.heap.size + 1 + 1 + 1) s c hs W0 (by omega) (by omega) bS.cell bC.cell) KpB_t (fun W l o o' _ h hcl _ => KpB_b W l o o' h hcl) (Below.refl _ _) (fun _ => rfl)
    (fun pre W => (∃ v, Boxed W (w.heap.size + 1) 26 v ∧ W.ownsRow w.heap.size 9 1 v pre.length (pre.map Value.string) ∧ (v.ownBlock ≠ some (w.heap.size + 1 + 1) ∧ v.ownBlock ≠ some (w.heap.size + 1 + 1 + 1))) ∧ Below w.heap.size w W ∧ w.heap.size + 4 ≤ W.heap.size)
    (fun _ _ _ => False)
    (OwnFrom.and (Own.from (holdsRow_own w.heap.size (w.heap.size + 1) 26 9 1 (fun pre : List ByteArray => pre.length) (fun pre => pre.map Value.string) (fun pre v => v.ownBlock ≠ some (w.heap.size + 1 + 1) ∧ v.ownBlock ≠ some (w.heap.size + 1 + 1 + 1))) _) (OwnFrom.and (ownFrom_below (Nat.le_refl _) (by omega)) (fun _ _ _ _ hs hg _ => Nat.le_trans hs hg.size)))
    (fun _ _ _ _ _ hs _ _ => hs)
    ⟨⟨_, bP, hrow0, by simp [Value.ownBlock]; omega, by simp [Value.ownBlock]; omega⟩, hB0, by omega⟩
    (fun x => { tmps := #[.string s, .string sp, undef, undef, .slice none 0 0, .bool false, .pointer (some ⟨w.heap.size + 1, 0, none⟩), .string x, .slice (some ⟨w.heap.size, 0, none⟩) 0 0, .string s, .int .i64 s.size, .bool false, .bool false, .string sp, .int .i64 1, .bool false, .bool false, undef, .string s, .string sp, .int .u8 (c.toNat : Int), .func (.func 36) #[] #[.pointer (some ⟨w.heap.size + 1 + 1, 0, none⟩), .pointer (some ⟨w.heap.size + 1 + 1 + 1, 0, none⟩)], .string x, undef, undef, undef, undef, undef], defers := [] }) ?assign ?body ?done ?stop
  case assign =>
    intro l x W K hK
    gi_wp2
    exact hK
  case body =>
    rintro l pre x W ⟨⟨v, hv, hrow, hne1, hne2⟩, hB, hszW⟩ hlt
    have hvc := hv.cell
    have hlt' : pre.length ≤ 4000 := by have := HL.out; omega
    have HNE := Lib.hid (And.intro hne1 hne2)
    clear hne1 hne2
    gi_wp2_with (gi_at_builtin; refine wpListIn_append_own_at _ rfl _ _ 26 rfl w.heap.size 9 i0 (.string ByteArray.empty) 1 16 Try.underlying26 hi hz0 hz1 hz2 rfl (by decide) _ _ _ rfl (hrow.alloc _) ⟨W.heap.size, 0, none⟩ 1 1 [.string x] rfl rfl (cell_one_new _ _ _) (by simp [Value.oneCell']) (by unfold maxLen; omega) (by omega) (by have := hB.size; simp; omega) ?_; intro v' w1 hown' hgrow hat; obtain ⟨g', cap', rfl⟩ := ownsRow_succ hown'; obtain ⟨hv1, hv2, hr2, hk2, hb2⟩ := hv.appended (by decide) hrow hB.size (by omega) hown' hgrow; have hc1 := hv1.cell; have hf1 := hv1.frozen)
    have hs2 : W.heap.size ≤ (w1.setCell ⟨w.heap.size + 1, 0, none⟩ (.slice (some ⟨g', 0, none⟩) (pre.length + 1) cap')).heap.size := hk2.size
    have hat2 := hat
    simp only [World.size_alloc] at hat2
    exact ⟨hk2.from _, kp_step hgrow HNE.out.1 HNE.out.2 (by omega) (by omega), ⟨_, hv2, by simpa using hr2, own_ne HNE.out.1 hat2 (by omega), own_ne HNE.out.2 hat2 (by omega)⟩, hB.trans hb2, by omega⟩
  case done =>
    rintro D ys W hD rfl ⟨⟨v, hv, hrow, hne⟩, hB, hszW⟩ hK
    have hvc := hv.cell
    gi_wp2
    refine ⟨by simp, .inl ⟨_, _, rfl, run_takeDeferred hK, ?_⟩⟩
    obtain ⟨m, hm⟩ : ∃ m, (parts s c).length = m + 1 := ⟨(parts s c).length - 1, by have := HP.out; omega⟩
    rw [hm] at hrow
    obtain ⟨g, cap, rfl, hbg⟩ := own_shape hrow
    exact ⟨_, results_tmp2 rfl _ _ _, g, cap, by rw [hm]; rfl, by rw [hm]; exact ownsRow_putObj hrow _ hK rfl, hbg, hB.trans (belowK_b (w := w) (Nat.le_refl _) W D _ _ (by omega) hK rfl rfl)⟩
  case stop =>
    rintro D cc pre W _ _ h _
    exact h.elim
/-- What SplitString returns where it says yes. -/
def SplPost (xs : List ByteArray) (w : World) (e : Ending) (w' : World) : Prop :=
  ∃ g cap, e = .returned (.tuple #[.slice (some ⟨g, 0, none⟩) xs.length cap, .bool true]) ∧ w'.ownsRow w.heap.size 9 1 (.slice (some ⟨g, 0, none⟩) xs.length cap) xs.length (xs.map Value.string) ∧ w.heap.size ≤ g ∧ Below w.heap.size w w'
theorem implS_yes (s sp : ByteArray) (c : UInt8) (hs : s.size ≤ 4000) (hsp : sp.size = 1) (hc : c = sp[0]'(by omega)) (w : World) :
    Calls Try.prog 10 #[.string s, .string sp] w (SplPost (parts s c) w) :=
  (callsIn_wide (n := 3)).1 (implS_in Fence.wide 3 trivial trivial trivial rfl (Nat.le_refl _) s sp c hs hsp hc w)
theorem split_call {s sp : ByteArray} {c : UInt8} (hs : s.size ≤ 4000) (hsp : sp.size = 1) (hc : c = sp[0]'(by omega)) (w : World) :
    Calls Try.prog 33 #[.string s, .int .u8 ((sp[0]'(by omega)).toNat : Int)] w (SplitPost (parts s c) w) := by
  subst hc; exact split_any s _ w hs
set_option maxHeartbeats 400000 in
theorem specS_yes (s sp : ByteArray) (c : UInt8) (hs : s.size ≤ 4000) (hsp : sp.size = 1) (hc : c = sp[0]'(by omega)) (w : World) :
    Calls Try.prog 17 #[.string s, .string sp] w (SplPost (parts s c) w) := by
  have H := Lib.hid (split_call hs hsp hc w)
  obtain ⟨xs, hx⟩ : ∃ xs, xs = parts s c := ⟨_, rfl⟩
  rw [← hx] at H ⊢
  clear hc hx
  go_enter Try.func17, Try.ntmps17
  go_wp2_with fail
  refine H.out.mono ?_
  rintro e w1 ⟨g, cap, rfl, hown, hg, hb⟩
  have HO := Lib.hid hown
  have HB := Lib.hid hb
  clear hown hb
  go_wp2_with fail
  go_ret2
  exact ⟨g, cap, rfl, HO.out, hg, HB.out⟩
/-- What SplitString returns where it says no: an empty slice in new memory. -/
def SpnPost (w : World) (e : Ending) (w' : World) : Prop :=
  ∃ g cap, e = .returned (.tuple #[.slice (some ⟨g, 0, none⟩) 0 cap, .bool false]) ∧ w'.ownsRow w.heap.size 9 1 (.slice (some ⟨g, 0, none⟩) 0 cap) 0 [] ∧ w.heap.size ≤ g ∧ Below w.heap.size w w'
theorem implS_no (s sp : ByteArray) (h : 4000 < s.size ∨ sp.size ≠ 1) (h1 : s.size ≤ 1048576) (h2 : sp.size ≤ 1048576) (w : World) : Calls Try.prog 10 #[.string s, .string sp] w (SpnPost w) := by
  by_cases hs : 4000 < s.size
  · clear h
    go_enter Try.func10, Try.ntmps10
    go_wp2_with fail
    go_ret2
    exact ⟨_, _, rfl, (World.ownsRow_lit w #[] 0 (Nat.le_refl _) (by unfold maxLen; omega) rfl).alloc _, Nat.le_refl _, ((Below.refl _ _).alloc (Nat.le_refl _) _).alloc (by simp) _⟩
  · have h4 : sp.size ≠ 1 := by omega
    have h5 : ((sp.size : Int) == 1) = false := by rw [beq_eq_false_iff_ne]; omega
    have h6 : ((sp.size : Int) != 1) = true := by rw [bne, h5]; rfl
    clear h h4
    go_enter Try.func10, Try.ntmps10
    go_wp2_with fail
    go_ret2
    exact ⟨_, _, rfl, (World.ownsRow_lit w #[] 0 (Nat.le_refl _) (by unfold maxLen; omega) rfl).alloc _, Nat.le_refl _, ((Below.refl _ _).alloc (Nat.le_refl _) _).alloc (by simp) _⟩
theorem specS_no (s sp : ByteArray) (h : 4000 < s.size ∨ sp.size ≠ 1) (h1 : s.size ≤ 1048576) (h2 : sp.size ≤ 1048576) (w : World) : Calls Try.prog 17 #[.string s, .string sp] w (SpnPost w) := by
  by_cases h4 : sp.size = 1
  · have hs : 4000 < s.size := by omega
    clear h
    go_enter Try.func17, Try.ntmps17
    go_wp2_with fail
    go_ret2
    exact ⟨_, _, rfl, World.ownsRow_lit w #[] 0 (Nat.le_refl _) (by unfold maxLen; omega) rfl, Nat.le_refl _, (Below.refl _ _).alloc (Nat.le_refl _) _⟩
  · have h5 : ((sp.size : Int) == 1) = false := by rw [beq_eq_false_iff_ne]; omega
    have h6 : ((sp.size : Int) != 1) = true := by rw [bne, h5]; rfl
    clear h h4
    go_enter Try.func17, Try.ntmps17
    go_wp2_with fail
    go_ret2
    exact ⟨_, _, rfl, World.ownsRow_lit w #[] 0 (Nat.le_refl _) (by unfold maxLen; omega) rfl, Nat.le_refl _, (Below.refl _ _).alloc (Nat.le_refl _) _⟩
end Go.Proofs.Ytgogacgmphpaoaa
