/- CONTRACTS: the steps that are vain, of the code. -/
import Derived.Test.YtkbpfdmmjpmbmaaPk11
import Derived.Test.YtkbpfdmmjpmbmaaEq
import Derived.WalkKit
import Derived.ProofKit
import Derived.OpenShut
import Derived.Lib.Hide
import Derived.WalkSpells
import Derived.Below
import Derived.BigQuiet
import Derived.LoopN
namespace Go.Proofs.Ytkbpfdmmjpmbmaa
open Go.ChangeShapes Go.WideShapes Go.ChangeAt Go.RowKit
set_option linter.unusedVariables false
def eqH (a b : H11) : Bool := a.1 == b.1 && a.2.1 == b.2.1 && a.2.2.1 == b.2.2.1 && a.2.2.2.1 == b.2.2.2.1 && a.2.2.2.2.1 == b.2.2.2.2.1 && a.2.2.2.2.2 == b.2.2.2.2.2
/-- The numbers of the vain ones among the first n steps. -/
def vn11 (F : List Fn11) (st : List S11) (f : Fn11) (n : Nat) : List Nat := (List.range n).filter fun i => eqH (t11 (at11 F st f (i + 1))) (t11 (at11 F st f i))
theorem vn11_zero (F : List Fn11) (st : List S11) (f : Fn11) : vn11 F st f 0 = [] := rfl
theorem vn11_succ (F : List Fn11) (st : List S11) (f : Fn11) (n : Nat) : vn11 F st f (n + 1) = vn11 F st f n ++ if eqH (t11 (at11 F st f (n + 1))) (t11 (at11 F st f n)) then [n] else [] := by
  unfold vn11
  rw [List.range_succ, List.filter_append]
  congr 1
  cases h : eqH (t11 (at11 F st f (n + 1))) (t11 (at11 F st f n)) <;> simp [h]
theorem vn11_len (F : List Fn11) (st : List S11) (f : Fn11) (n : Nat) : (vn11 F st f n).length ≤ n := by
  unfold vn11
  refine Nat.le_trans (List.length_filter_le _ _) ?_
  simp
def iv11 (z : List Nat) : List Value := z.map fun n : Nat => Value.int .i64 ((n : Nat) : Int)
theorem iv11_len (z : List Nat) : (iv11 z).length = z.length := by simp [iv11]
theorem iv11_snoc (z : List Nat) (n : Nat) : iv11 (z ++ [n]) = iv11 z ++ [.int .i64 (n : Int)] := by simp [iv11]
theorem one_new11 (W : World) (u0 : Value) (t : TypeId) (j : Nat) (u : Value) (h : ([u0] : List Value)[j]? = some u) : (W.alloc (.cells #[u0] t)).cell? ((⟨W.heap.size, 0, none⟩ : Addr).add j) = some u := by
  rcases j with _ | j
  · simp only [List.getElem?_cons_zero, Option.some.injEq] at h; subst h; go_simp
  · simp at h
theorem ints_one11 (a : Int) : ∀ u ∈ ([.int .i64 a] : List Value), u.oneCell' = true := by intro u hu; simp at hu; subst hu; rfl
theorem info_int11 : (Try.prog.info? 3).map (fun i => (i.zero, i.size, i.bytes)) = some (some (.int .i64 0), 1, 8) := by kernel_rfl
theorem infos_int11 : ∃ i0, Try.prog.info? 3 = some i0 ∧ i0.zero = some (.int .i64 0) ∧ i0.size = 1 ∧ i0.bytes = 8 := by
  have h := info_int11
  cases hh : Try.prog.info? 3 with
  | none => rw [hh] at h; simp at h
  | some i0 =>
    rw [hh] at h
    simp only [Option.map_some, Option.some.injEq, Prod.mk.injEq] at h
    exact ⟨i0, rfl, h.1, h.2.1, h.2.2⟩
/-- Midway: the numbers so far in a row of their own, beside the sheets. -/
def Rv_11 (gs : Nat) (l : List H11) (z : List Nat) (v : Value) (w U : World) : Prop := U.ownsRow (w.heap.size + 1) 3 1 v z.length (iv11 z) ∧ v ≠ .slice none 0 0 ∧ v.ownBlock ≠ some gs ∧ gs < U.heap.size ∧ U.rangeAt gs 0 (hv11 l) ∧ w.heap.size + 1 ≤ U.heap.size ∧ Below w.heap.size w U
theorem Rv_11.far {gs M : Nat} {l : List H11} {z : List Nat} {v : Value} {w U V : World} (h : Rv_11 gs l z v w U) (hb : Below M U V) (hM : M = U.heap.size) : Rv_11 gs l z v w V := ⟨h.1.kept (grown_below hb hM) (by cases hq : v.ownBlock <;> simp), h.2.1, h.2.2.1, Nat.lt_of_lt_of_le h.2.2.2.1 hb.size, ra_below h.2.2.2.2.1 hb hM, Nat.le_trans h.2.2.2.2.2.1 hb.size, below_of h.2.2.2.2.2.2 hb (by have := h.2.2.2.2.2.2.size; omega)⟩
theorem Rv_11.snoc {gs n : Nat} {l : List H11} {z : List Nat} {v v' : Value} {w U V : World} (h : Rv_11 gs l z v w U) (ho : V.ownsRow (w.heap.size + 1) 3 1 v' (z.length + 1) (iv11 z ++ [.int .i64 (n : Int)])) (hg : U.grownBy V v.ownBlock) (hn : v' = .slice none 0 0 ↔ v = .slice none 0 0 ∧ (1 : Nat) = 0) (hat : v'.ownBlock = v.ownBlock ∨ v'.ownBlock = some U.heap.size) : Rv_11 gs l (z ++ [n]) v' w V := by
  obtain ⟨h1, h2, h3, h4, h5, h6, h7⟩ := h
  refine ⟨by rw [iv11_snoc, List.length_append]; exact ho, fun e => by have := hn.mp e; omega, ?_, Nat.lt_of_lt_of_le h4 hg.size, ?_, Nat.le_trans h6 hg.size, h7.grown hg h7.size (fun k hk => by have := (h1.lt k hk).1; omega)⟩
  · rcases hat with e | e
    · rw [e]; exact h3
    · rw [e]; intro e2; cases e2; omega
  · intro j u hu
    exact hg.cell (h5 j u hu) (fun e => h3 (by rw [← e]))
theorem own_form11 {W : World} {B n k : Nat} {e : TypeId} {v : Value} {xs : List Value} (h : W.ownsRow B e k v n xs) (hn : v ≠ .slice none 0 0) : ∃ g c, v = .slice (some ⟨g, 0, none⟩) n c := by
  rcases h.2 with ⟨e1, _⟩ | ⟨g, c, _, e1, _⟩
  · exact absurd e1 hn
  · exact ⟨g, c, e1⟩
/-- What is answered. -/
def VP11 (z : List Nat) (t : Bool) (w : World) (E : Ending) (w' : World) : Prop := ∃ g cap, E = .returned (.tuple #[.slice (some ⟨g, 0, none⟩) z.length cap, .bool t]) ∧ w'.ownsRow w.heap.size 3 1 (.slice (some ⟨g, 0, none⟩) z.length cap) z.length (iv11 z) ∧ Below w.heap.size w w'
theorem SKv11 {gs k : Nat} {l : List H11} {w U : World} {z : List Nat} {v : Value} {f f' : Fn11} (h : Rv_11 gs l z v w U) (h1 : k + 1 < l.length) (e : l[k]'(by omega) = t11 f) (e' : l[k + 1] = t11 f') : U.cell? ⟨gs, k * 6, none⟩ = some (.int .i64 (rowv (f 0))) ∧ U.cell? ⟨gs, k * 6 + 1, none⟩ = some (.int .i64 (rowv (f 1))) ∧ U.cell? ⟨gs, k * 6 + 2, none⟩ = some (.int .i64 (rowv (f 2))) ∧ U.cell? ⟨gs, k * 6 + 3, none⟩ = some (.int .i64 (rowv (f 3))) ∧ U.cell? ⟨gs, k * 6 + 4, none⟩ = some (.int .i64 (rowv (f 4))) ∧ U.cell? ⟨gs, k * 6 + 5, none⟩ = some (.int .i64 (rowv (f 5))) ∧ U.cell? ⟨gs, (k + 1) * 6, none⟩ = some (.int .i64 (rowv (f' 0))) ∧ U.cell? ⟨gs, (k + 1) * 6 + 1, none⟩ = some (.int .i64 (rowv (f' 1))) ∧ U.cell? ⟨gs, (k + 1) * 6 + 2, none⟩ = some (.int .i64 (rowv (f' 2))) ∧ U.cell? ⟨gs, (k + 1) * 6 + 3, none⟩ = some (.int .i64 (rowv (f' 3))) ∧ U.cell? ⟨gs, (k + 1) * 6 + 4, none⟩ = some (.int .i64 (rowv (f' 4))) ∧ U.cell? ⟨gs, (k + 1) * 6 + 5, none⟩ = some (.int .i64 (rowv (f' 5))) := by
  have a := fm_range ch11_len h.2.2.2.2.1 (i := k) (by omega)
  have b := fm_range ch11_len h.2.2.2.2.1 (i := k + 1) h1
  rw [e] at a
  rw [e'] at b
  exact ⟨a 0 _ rfl, a 1 _ rfl, a 2 _ rfl, a 3 _ rfl, a 4 _ rfl, a 5 _ rfl, b 0 _ rfl, b 1 _ rfl, b 2 _ rfl, b 3 _ rfl, b 4 _ rfl, b 5 _ rfl⟩
set_option maxRecDepth 20000 in
set_option maxHeartbeats 4000000 in
theorem ivain_yes (f : Fn11) (F : List Fn11) (st : List S11) (g1 c1 g2 c2 : Nat) (hst : st.length ≤ 40) (hF : F.length ≤ 4) (hv : ∀ p ∈ st, okS F.length p = true) (w : World) (h1 : w.rangeAt g1 0 (hv11 (F.map t11))) (h2 : w.rangeAt g2 0 (sv11 st)) : Calls Try.prog 36 #[.agg #[.int .i64 (rowv (f 0)), .int .i64 (rowv (f 1)), .int .i64 (rowv (f 2)), .int .i64 (rowv (f 3)), .int .i64 (rowv (f 4)), .int .i64 (rowv (f 5)), .slice (some ⟨g1, 0, none⟩) F.length c1, .slice (some ⟨g2, 0, none⟩) st.length c2]] w (VP11 (vn11 F st f st.length) true w) := by
  have hn4 : (F.map t11).length = F.length := List.length_map t11
  have HP := Lib.hid (fun W a b => iplan_11 (rowv (f 0)) (rowv (f 1)) (rowv (f 2)) (rowv (f 3)) (rowv (f 4)) (rowv (f 5)) (F.map t11) st g1 c1 g2 c2 (by rw [hn4]; omega) (by omega) (wfs_of hv) W a b)
  rw [show okP (rowv (f 0), rowv (f 1), rowv (f 2), rowv (f 3), rowv (f 4), rowv (f 5)) (F.map t11) st = true from okP_of (f := f) hF hst hv, hn4] at HP
  have R1 := Lib.hid h1
  have R2 := Lib.hid h2
  have HX := Lib.hid (fun W a b => sheets_11 (rowv (f 0)) (rowv (f 1)) (rowv (f 2)) (rowv (f 3)) (rowv (f 4)) (rowv (f 5)) f F st g1 c1 g2 c2 hst hF hv W a b)
  clear h1 h2 hn4
  obtain ⟨i0, hi, hz0, hz1, hz2⟩ := infos_int11
  go_enter Try.func36, Try.ntmps36
  go_wp2_with fail
  generalize hW : (World.alloc _ _ : World) = W0
  have q0 : W0.heap[w.heap.size]? = some (Obj.cells #[.int .i64 (rowv (f 0)), .int .i64 (rowv (f 1)), .int .i64 (rowv (f 2)), .int .i64 (rowv (f 3)), .int .i64 (rowv (f 4)), .int .i64 (rowv (f 5)), .slice (some ⟨g1, 0, none⟩) F.length c1, .slice (some ⟨g2, 0, none⟩) st.length c2] 35 (0, 0)) := by rw [← hW]; exact alloc_past (alloc_at rfl)
  have ho0 : W0.ownsRow (w.heap.size + 1) 3 1 (.slice (some ⟨w.heap.size + 1, 0, none⟩) 0 0) 0 (iv11 []) := by
    rw [← hW]
    have h := World.ownsRow_lit (base := w.heap.size + 1) (e := 3) (size := 1) (w.alloc (.cells #[.int .i64 (rowv (f 0)), .int .i64 (rowv (f 1)), .int .i64 (rowv (f 2)), .int .i64 (rowv (f 3)), .int .i64 (rowv (f 4)), .int .i64 (rowv (f 5)), .slice (some ⟨g1, 0, none⟩) F.length c1, .slice (some ⟨g2, 0, none⟩) st.length c2] 35)) #[] 0 (by simp) (by unfold maxLen; omega) rfl
    rw [show (w.alloc (.cells #[.int .i64 (rowv (f 0)), .int .i64 (rowv (f 1)), .int .i64 (rowv (f 2)), .int .i64 (rowv (f 3)), .int .i64 (rowv (f 4)), .int .i64 (rowv (f 5)), .slice (some ⟨g1, 0, none⟩) F.length c1, .slice (some ⟨g2, 0, none⟩) st.length c2] 35)).heap.size = w.heap.size + 1 by simp] at h
    exact h
  have hsz : w.heap.size + 1 < W0.heap.size := by rw [← hW]; simp
  have hB : Below w.heap.size w W0 := by rw [← hW]; (repeat (first | exact Below.refl _ _ | assumption | refine Below.setCell ?_ (by first | (simp; done) | (simp; omega)) _ | refine Below.alloc ?_ (by first | (simp; done) | (simp; omega)) _ | refine Below.drew ?_))
  clear hW
  refine (HP.out _ (ra_below R1.out hB rfl) (ra_below R2.out hB rfl)).mono ?_
  rintro e W1 ⟨rfl, hb⟩
  replace q0 := rowk q0 hb rfl
  replace ho0 := ho0.kept (grown_below hb rfl) (.inr (by simp [Value.ownBlock]))
  replace hsz := Nat.lt_of_lt_of_le hsz hb.size
  replace hB := below_of hB hb (by have := hB.size; omega)
  clear hb HP
  have a_c := fun j => cell_of_row W1 _ j _ _ _ q0
  go_wp2_with fail
  refine (HX.out _ (ra_below R1.out hB rfl) (ra_below R2.out hB rfl)).mono ?_
  rintro e W2 ⟨gs, cap, rfl, hs, hb⟩
  replace q0 := rowk q0 hb rfl
  replace ho0 := ho0.kept (grown_below hb rfl) (.inr (by simp [Value.ownBlock]))
  have hlt := hs.lt gs rfl
  have HO := Lib.hid (own_range hs)
  have S0 : Hid (Rv_11 gs (sh11 F st f st.length) (vn11 F st f 0) (.slice (some ⟨w.heap.size + 1, 0, none⟩) 0 0) w W2) := Lib.hid ⟨by rw [vn11_zero]; exact ho0, by simp, by simp [Value.ownBlock]; omega, hlt.2, HO.out, by have := hb.size; omega, below_of hB hb (by have := hB.size; omega)⟩
  clear hb HX ho0 hB hsz R1 R2 hs hlt HO a_c
  have a_c := fun j => cell_of_row W2 _ j _ _ _ q0
  go_wp2_with fail
  clear a_c q0
  go_loopw [4, 19] (fun a i wr => ∃ k : Nat, k ≤ st.length ∧ i = .int .i64 k ∧ Hid (Rv_11 gs (sh11 F st f st.length) (vn11 F st f k) a w wr)) (fun _ i _ => st.length - (intOf i).toNat)
  case atStart => exact ⟨0, by omega, rfl, S0⟩
  case round =>
    obtain ⟨k, hk, rfl, HB⟩ := hrel
    by_cases hlt : k < st.length
    · have hlt' : (k : Int) < st.length := by omega
      have hk0 : (0 : Int) ≤ k := by omega
      have hk2 : (k : Int) < ((st.length + 1 : Nat) : Int) := by omega
      have hk3 : (k : Int) + 1 < ((st.length + 1 : Nat) : Int) := by omega
      have e1 : wrap64 ((k : Int) + 1) = ((k + 1 : Nat) : Int) := by unfold wrap64; omega
      have e2 : IntKind.i64.wrap ((k : Int) + 1) = ((k + 1 : Nat) : Int) := by rw [IntKind.wrap_i64]; omega
      have hk4 : ((k + 1 : Nat) : Int) < ((st.length + 1 : Nat) : Int) := by omega
      have HV := Lib.hid (vn11_succ F st f k)
      have HL := Lib.hid (vn11_len F st f k)
      obtain ⟨c0, c1', c2', c3, c4, c5, d0, d1, d2, d3, d4, d5⟩ := SKv11 (k := k) HB.out (by rw [sh11_len]; omega) (sh11_get F st f (by omega)) (sh11_get F st f (by omega))
      have hE := fun W => eq26 (rowv (at11 F st f (k + 1) 0)) (rowv (at11 F st f (k + 1) 1)) (rowv (at11 F st f (k + 1) 2)) (rowv (at11 F st f (k + 1) 3)) (rowv (at11 F st f (k + 1) 4)) (rowv (at11 F st f (k + 1) 5)) (rowv (at11 F st f k 0)) (rowv (at11 F st f k 1)) (rowv (at11 F st f k 2)) (rowv (at11 F st f k 3)) (rowv (at11 F st f k 4)) (rowv (at11 F st f k 5)) W
      have hH : eqH (t11 (at11 F st f (k + 1))) (t11 (at11 F st f k)) = (rowv (at11 F st f (k + 1) 0) == rowv (at11 F st f k 0) && rowv (at11 F st f (k + 1) 1) == rowv (at11 F st f k 1) && rowv (at11 F st f (k + 1) 2) == rowv (at11 F st f k 2) && rowv (at11 F st f (k + 1) 3) == rowv (at11 F st f k 3) && rowv (at11 F st f (k + 1) 4) == rowv (at11 F st f k 4) && rowv (at11 F st f (k + 1) 5) == rowv (at11 F st f k 5)) := rfl
      rw [← hH] at hE
      clear hH
      generalize eqH (t11 (at11 F st f (k + 1))) (t11 (at11 F st f k)) = b at hE HV
      generalize vn11 F st f k = z at HB HV HL
      obtain ⟨ga, ca, rfl⟩ := own_form11 HB.out.1 HB.out.2.1
      go_wp2_with fail
      go_quiet (fail)
      generalize hWq : (World.drewN wr _) = Wq
      have HK : Hid (Rv_11 gs (sh11 F st f st.length) z (.slice (some ⟨ga, 0, none⟩) z.length ca) w Wq) := Lib.hid (by
        rw [← hWq]
        exact HB.out.far (M := wr.heap.size) ⟨rfl, rfl, rfl, Nat.le_refl _, fun _ _ => rfl⟩ rfl)
      clear hWq HB c0 c1' c2' c3 c4 c5 d0 d1 d2 d3 d4 d5 hE
      cases b
      · have HV2 : Hid (vn11 F st f (k + 1) = z) := Lib.hid (by have := HV.out; simpa using this)
        go_wp2_with fail
        go_roundw
        case rel => exact ⟨k + 1, by omega, by go_num, by rw [HV2.out]; exact HK⟩
        case measure => simp [intOf]; omega
      · have HV2 : Hid (vn11 F st f (k + 1) = z ++ [k]) := Lib.hid (by have := HV.out; simpa using this)
        have HA := Lib.hid (HK.out.far (M := Wq.heap.size) ((Below.refl _ _).alloc (Nat.le_refl _) (.cells #[.int .i64 (k : Int)] 3)) rfl)
        clear HV HK
        go_wp2_with (at_builtin; refine wpList_append_own_at _ rfl _ _ 54 rfl (w.heap.size + 1) 3 i0 (.int .i64 0) 1 8 Try.underlying54 hi hz0 hz1 hz2 rfl (by decide) _ _ _ rfl HA.out.1 ⟨Wq.heap.size, 0, none⟩ 1 1 [.int .i64 (k : Int)] rfl rfl (one_new11 _ _ _) (ints_one11 _) (by have := HL.out; unfold maxLen; omega) (by have := HL.out; omega) HA.out.2.2.2.2.2.1 ?_; intro v' w1 hown hgr hnn hat; have R := Lib.hid (HA.out.snoc hown hgr hnn hat); clear hown hgr hnn hat HA)
        go_roundw
        case rel => exact ⟨k + 1, by omega, by go_num, by rw [HV2.out]; exact R⟩
        case measure => simp [intOf]; omega
    · obtain rfl : k = st.length := by omega
      obtain ⟨ga, ca, rfl⟩ := own_form11 HB.out.1 HB.out.2.1
      have HO := Lib.hid (own_mono HB.out.1 (show w.heap.size ≤ w.heap.size + 1 by omega))
      go_wp2_with fail
      exact bodyPost_ret (v := .tuple #[.slice (some ⟨ga, 0, none⟩) (vn11 F st f st.length).length ca, .bool true]) (by simp [results, Try.results36, go_sem]) rfl ⟨ga, ca, rfl, HO.out, HB.out.2.2.2.2.2.2⟩
end Go.Proofs.Ytkbpfdmmjpmbmaa
