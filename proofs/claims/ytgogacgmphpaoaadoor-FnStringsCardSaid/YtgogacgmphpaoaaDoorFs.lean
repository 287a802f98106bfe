/- CONTRACTS: the tail of the strings' first law: one byte of a sealed text is changed. -/
import Derived.Test.YtgogacgmphpaoaaDoorDr
import Derived.Test.YtgogacgmphpaoaaDoorNt
import Derived.StillTailTactics
import Derived.Laws.BitsAllLaws
import Derived.Lib.ConvBytes
namespace Go.Proofs.YtgogacgmphpaoaaDoor
open Go.ChangeShapes Go.WideShapes Go.ChangeAt Go.RowKit
set_option linter.unusedVariables false
theorem bw_frozen (w : World) (s : ByteArray) (j : Nat) (hj : j < s.size) : (Lib.bytesWorld w 5 s).frozen? ⟨w.heap.size, j, none⟩ = false := by
  have h := Lib.bytesWorld_at_new w 5 s
  have hs : j < (Lib.bytesCells w 5 s).size := by
    unfold Lib.bytesCells
    rw [Array.size_append, Array.size_map]
    have : s.data.size = s.size := rfl
    omega
  simp [World.frozen?, h]
  omega
theorem xor_ne (c v : Nat) (hc : c < 256) (hv0 : 0 < v) (hv : v < 256) : c ^^^ v < 256 ∧ c ^^^ v ≠ c := by
  refine ⟨Nat.xor_lt_two_pow (n := 8) (by omega) (by omega), fun e => ?_⟩
  have h : c ^^^ (c ^^^ v) = v := by rw [← Nat.xor_assoc, Nat.xor_self, Nat.zero_xor]
  rw [e, Nat.xor_self] at h
  omega
/-- The changed byte. -/
theorem xor_byte (c : UInt8) (v : Int) (h0 : 0 ≤ v) (h1 : v ≤ 255) : ∃ d : UInt8, bits BinOp.xor IntKind.u8 (c.toNat : Int) (1 + v % 255) = (d.toNat : Int) ∧ c ≠ d := by
  have hc := UInt8.toNat_lt c
  have hx := xor_ne c.toNat (1 + v % 255).toNat (by omega) (by omega) (by omega)
  have hd : (UInt8.ofNat (c.toNat ^^^ (1 + v % 255).toNat)).toNat = c.toNat ^^^ (1 + v % 255).toNat := by
    simp only [UInt8.toNat_ofNat']
    exact Nat.mod_eq_of_lt hx.1
  refine ⟨UInt8.ofNat (c.toNat ^^^ (1 + v % 255).toNat), ?_, fun e => hx.2 (hd.symm.trans (congrArg UInt8.toNat e).symm)⟩
  rw [u8_xor _ _ (by omega) (by omega) (by omega) (by omega), hd]
  rfl
theorem no_empty : ∀ n, inR n → Lib.itoa n ≠ (⟨#[]⟩ : ByteArray).data.toList := fun n hn he => by
  have h : Lib.itoa n = [] := he
  by_cases hneg : n < 0
  · obtain ⟨u, rfl⟩ : ∃ u : Nat, n = -(u : Int) := ⟨n.natAbs, by omega⟩
    rw [Lib.itoa_neg u (by omega)] at h; cases h
  · obtain ⟨u, rfl⟩ : ∃ u : Nat, n = u := ⟨n.toNat, by omega⟩
    rw [Lib.itoa_nonneg] at h
    have := dec_pos u
    rw [h] at this; simp at this
/-- The two FormatInt say the same; what is formatted is parsed back. -/
theorem format_pair (n : Int) : ∃ (s : ByteArray) (ok : Bool),
    (∀ w, Lib.TabIs Tryd.prog w "internal/strconv.uint64pow10" .u64 Lib.pow10Tab → Calls Tryd.prog 10 #[.int .i64 n] w fun e w' => e = .returned (.tuple #[.string s, .bool ok]) ∧ Below w.heap.size w w') ∧
    (∀ w, Calls Tryd.prog 11 #[.int .i64 n] w fun e w' => e = .returned (.tuple #[.string s, .bool ok]) ∧ Below w.heap.size w w') ∧
    (∀ w, Vars w → Calls Tryd.prog 13 #[.string s] w fun e w' => ∃ (b : Int) (there : Bool), e = .returned (.tuple #[.int .i64 b, .bool there]) ∧ (ok = false ∨ (ok = true ∧ b = n ∧ there = true)) ∧ Below w.heap.size w w') := by
  by_cases h : inR n
  · refine ⟨⟨(Lib.itoa n).toArray⟩, true, fun w ht => fi_call h.1 h.2 rfl w ht, fun w => (specF_yes n h.1 h.2 w).mono fun e w' ⟨he, k, hk⟩ => ⟨he, by rw [hk]; exact below_drewN (Below.refl _ _) k⟩, fun w hv => ?_⟩
    have hsz : (⟨(Lib.itoa n).toArray⟩ : ByteArray).size ≤ 1048576 := by
      have := Lib.itoa_length_le n (by have := h.1; omega) (by have := h.2; omega)
      show (Lib.itoa n).toArray.size ≤ 1048576
      simp; omega
    exact (implP_yes _ n hsz h rfl w hv).mono fun e w' ⟨he, hb⟩ => ⟨n, true, he, .inr ⟨rfl, rfl, rfl⟩, hb⟩
  · have h' : n < -999999 ∨ 999999 < n := by unfold inR at h; omega
    exact ⟨⟨#[]⟩, false, fun w _ => (implF_no n h' w).mono fun e w' ⟨he, hw⟩ => ⟨he, hw ▸ Below.refl _ _⟩, fun w => (specF_no n h' w).mono fun e w' ⟨he, hw⟩ => ⟨he, hw ▸ Below.refl _ _⟩,
      fun w hv => (implP_no _ (by decide) no_empty w hv).mono fun e w' ⟨he, hb⟩ => ⟨0, false, he, .inl rfl, hb⟩⟩
theorem read_any' (s : ByteArray) (w : World) (hs : s.size ≤ 1048576) : Calls Tryd.prog 29 #[.string s] w (RdPost s w) := by
  by_cases h : 1 < s.size ∧ ∃ h : 0 < s.size, s[0] = 45
  · obtain ⟨h1, _, h0⟩ := h
    exact read_neg s w hs h1 h0
  · exact read_pos s w hs h
theorem spec14 {s : ByteArray} {n : Int} {b : Bool} (w : World) (hA0 : Calls Tryd.prog 29 #[.string s] w fun e w' => e = .returned (.tuple #[.int .i64 n, .bool b]) ∧ ∃ k, w' = w.drewN k) :
    Calls Tryd.prog 14 #[.string s] w fun e w' => e = .returned (.tuple #[.int .i64 n, .bool b]) ∧ Below w.heap.size w w' := by
  have hA := Lib.hid hA0
  clear hA0
  go_enter Tryd.func14, Tryd.ntmps14
  go_wp2_with fail
  refine hA.out.mono ?_
  rintro e w1 ⟨rfl, k, rfl⟩
  go_wp2_with fail
  go_ret2
  exact ⟨rfl, below_drewN (Below.refl _ _) k⟩
/-- The two ParseInt say the same. -/
theorem parse_pair (t : ByteArray) (ht : t.size ≤ 1048576) : ∃ (m : Int) (ok : Bool),
    (∀ w, Vars w → Calls Tryd.prog 13 #[.string t] w fun e w' => e = .returned (.tuple #[.int .i64 m, .bool ok]) ∧ Below w.heap.size w w') ∧
    (∀ w, Calls Tryd.prog 14 #[.string t] w fun e w' => e = .returned (.tuple #[.int .i64 m, .bool ok]) ∧ Below w.heap.size w w') := by
  by_cases h : ∃ n, inR n ∧ Lib.itoa n = t.data.toList
  · obtain ⟨n, hn, he⟩ := h
    refine ⟨n, true, fun w hv => implP_yes t n ht hn he w hv, fun w => spec14 w ((read_any' t w ht).mono fun e w' ⟨h, hw⟩ => ⟨?_, hw⟩)⟩
    rcases h with ⟨m, hm, hm2, rfl⟩ | ⟨h, _⟩
    · have e1 := atoi_itoa n hn.1 hn.2
      have e2 := atoi_itoa m hm.1 hm.2
      rw [he] at e1
      rw [hm2] at e2
      have : n = m := by rw [e1] at e2; injection e2
      rw [this]
    · exact absurd he (h n hn)
  · have h' : ∀ n, inR n → Lib.itoa n ≠ t.data.toList := fun n hn he => h ⟨n, hn, he⟩
    refine ⟨0, false, fun w hv => implP_no t ht h' w hv, fun w => spec14 w ((read_any' t w ht).mono fun e w' ⟨h, hw⟩ => ⟨?_, hw⟩)⟩
    rcases h with ⟨m, hm, hm2, rfl⟩ | ⟨_, rfl⟩
    · exact absurd hm2 (h' m hm)
    · rfl
theorem store_text (W : World) (g cp kk : Nat) (Y : ByteArray) (d : UInt8) (hk : kk < Y.size) (hc : ∀ j, j < Y.size → W.cell? ⟨g, j, none⟩ = some (.int .u8 (Y.data.toList.getD j 0).toNat)) :
    (convert 22 9 (.slice (some ⟨g, 0, none⟩) Y.size cp)).run Tryd.prog (W.setCell ⟨g, kk, none⟩ (.int .u8 (d.toNat : Int))).drew = .ok (.string ⟨(Y.data.toList.set kk d).toArray⟩) (W.setCell ⟨g, kk, none⟩ (.int .u8 (d.toNat : Int))).drew := by
  have hl : (Y.data.toList.set kk d).length = Y.size := by rw [List.length_set]; exact ba_len Y
  have h := run_convert_bytes_back (P := Tryd.prog) (W.setCell ⟨g, kk, none⟩ (.int .u8 (d.toNat : Int))).drew 22 9 5 ⟨g, 0, none⟩ cp (Y.data.toList.set kk d) Tryd.underlying22 Tryd.underlying5 Tryd.underlying9 (fun j hj => by
    have hj2 : j < Y.size := by rw [hl] at hj; exact hj
    rw [Go.WideShapes.add_plain, Nat.zero_add]
    show (W.setCell _ _).cell? _ = _
    by_cases e : kk = j
    · subst e
      rw [World.cell?_setCell_same _ _ _ (hc kk hk)]
      simp
    · rw [World.cell?_setCell_other _ _ _ _ (fun h => e (by cases h; rfl)), hc j hj2]
      have : j < Y.data.toList.length := by rw [ba_len]; exact hj2
      rw [List.getElem_set_ne e, List.getD_eq_getElem?_getD, List.getElem?_eq_getElem this]
      rfl)
  rwa [hl] at h
theorem bad_change {x Y : ByteArray} (hY : Y = sealed x) (hx : okA x) {kk : Nat} {d : UInt8} (hk : kk < Y.size) (hne : Y.data.toList.getD kk 0 ≠ d) : ¬ okV ⟨(Y.data.toList.set kk d).toArray⟩ := by
  subst hY
  have hl : kk < (sealed x).data.toList.length := by rw [ba_len]; exact hk
  refine okV_change hx.2.1 hl (fun e => hne ?_) rfl
  rw [List.getD_eq_getElem?_getD, List.getElem?_eq_getElem hl]; exact e
set_option maxHeartbeats 4000000 in
theorem core (A : Option Addr) (len cap : Nat) (zs : List Int) (w : World) (hcode0 : CodeIn w w.heap.size A len zs) (hl : len ≤ 65536) (hV0 : Vars w) :
    Calls Tryd.prog 3 #[.slice A len cap] w fun e w' => e = .returned (.bool true) ∧ Below w.heap.size w w' := by
  have hcode := Lib.hid hcode0
  have hV := Lib.hid hV0
  clear hcode0 hV0
  go_enter Tryd.func3, Tryd.ntmps3
  go_wp2_with fail
  refine (vBig_no A len cap hl w).mono ?_
  rintro e w' ⟨rfl, rfl⟩
  go_wp2_with fail
  refine (drawFormat w.heap.size A len cap zs w hcode.out (Nat.le_refl _) hl).mono ?_
  rintro e w1 ⟨n, hn0, hn1, rfl, hb1⟩
  have HB1 := Lib.hid hb1
  clear hb1
  obtain ⟨s, okn, hF, hS, hP⟩ := format_pair n
  have HF := Lib.hid hF
  have HS := Lib.hid hS
  have HP := Lib.hid hP
  clear hF hS hP
  go_wp2_with fail
  refine (HF.out w1 (hV.out.below HB1.out).1).mono ?_
  rintro e w2 ⟨rfl, hb2⟩
  have HB2 := Lib.hid (HB1.out.trans (hb2.mono HB1.out.size))
  clear hb2
  go_wp2_with fail
  refine (HS.out w2).mono ?_
  rintro e w3 ⟨rfl, hb3⟩
  have HB3 := Lib.hid (HB2.out.trans (hb3.mono HB2.out.size))
  clear hb3
  go_wp2_with fail
  refine (drawParse w.heap.size A len cap zs w3 (hcode.out.below HB3.out) HB3.out.size hl).mono ?_
  rintro e w4 ⟨t, ht, rfl, hb4⟩
  have HB4 := Lib.hid (HB3.out.trans (hb4.mono HB3.out.size))
  clear hb4
  obtain ⟨m, okm, hPI, hPS⟩ := parse_pair t (by omega)
  have HPI := Lib.hid hPI
  have HPS := Lib.hid hPS
  clear hPI hPS
  go_wp2_with fail
  refine (HPI.out w4 (hV.out.below HB4.out)).mono ?_
  rintro e w5 ⟨rfl, hb5⟩
  have HB5 := Lib.hid (HB4.out.trans (hb5.mono HB4.out.size))
  clear hb5
  go_wp2_with fail
  refine (HPS.out w5).mono ?_
  rintro e w6 ⟨rfl, hb6⟩
  have HB6 := Lib.hid (HB5.out.trans (hb6.mono HB5.out.size))
  clear hb6
  go_wp2_with fail
  refine (drawAppend w.heap.size A len cap zs w6 (hcode.out.below HB6.out) HB6.out.size hl).mono ?_
  rintro e w7 ⟨x, hx, rfl, hb7⟩
  have HB7 := Lib.hid (HB6.out.trans (hb7.mono HB6.out.size))
  clear hb7
  by_cases hok : okA x
  · have HOK := Lib.hid hok
    obtain ⟨Y, hY⟩ : ∃ Y, Y = sealed x := ⟨_, rfl⟩
    have HY := Lib.hid hY
    have HI := Lib.hid (fun W (hb : Below w.heap.size w W) => implA_any x W (by omega) (hV.out.below hb).1 Y true (.inl ⟨hok, hY, rfl⟩))
    have HA := Lib.hid (specA_yes x · hok)
    rw [← hY] at HA
    have hys : Y.size ≤ 4000 := by rw [hY]; exact hok.2.2
    have hyp : 0 < Y.size := by rw [hY, sealed_size]; omega
    clear hok hY
    go_wp2_with fail
    refine (HI.out w7 HB7.out).mono ?_
    rintro e w8 ⟨rfl, hb8⟩
    have HB8 := Lib.hid (HB7.out.trans (hb8.mono HB7.out.size))
    clear hb8
    go_wp2_with fail
    refine (HA.out w8).mono ?_
    rintro e w9 ⟨rfl, k9, hk9⟩
    have HB9 := Lib.hid (show Below w.heap.size w w9 by rw [hk9]; exact below_drewN HB8.out k9)
    clear hk9
    go_wp2_with fail
    refine (HP.out w9 (hV.out.below HB9.out)).mono ?_
    rintro e w10 ⟨b, there, rfl, hbt, hb10⟩
    have HB10 := Lib.hid (HB9.out.trans (hb10.mono HB9.out.size))
    clear hb10
    rcases hbt with rfl | ⟨rfl, rfl, rfl⟩
    all_goals
      go_wp2_with fail
      refine (implV_yes Y w10 (hV.out.below HB10.out).1 (by rw [HY.out]; exact (okV_sealed HOK.out).1)).mono ?_
      rw [show first Y 35 = x from by rw [HY.out]; exact (okV_sealed HOK.out).2]
      rintro e w11 ⟨rfl, hb11⟩
      have HB11 := Lib.hid (HB10.out.trans (hb11.mono HB10.out.size))
      clear hb11
      have hcv := Lib.run_convert_string_bytes (P := Tryd.prog) w11 9 22 5 Y Tryd.underlying9 Tryd.underlying22 Tryd.underlying5
      have HC := Lib.hid (fun j hj => Lib.bytesWorld_cell w11 5 Y j hj)
      have HFz := Lib.hid (fun j hj => bw_frozen w11 Y j hj)
      have HB12 := Lib.hid (HB11.out.trans ((Lib.bytesWorld_below w11 5 Y).mono HB11.out.size))
      generalize hw12 : Lib.bytesWorld w11 5 Y = w12 at hcv HC HFz HB12
      generalize hcp : grownCap w11 Y.size 0 5 = cp at hcv
      clear hw12 hcp
      obtain ⟨v9, hv90, hv91, hV9⟩ := vAt_any w.heap.size A len cap zs 9 (by omega) hl
      obtain ⟨v10, hv100, hv101, hV10⟩ := vAt_any w.heap.size A len cap zs 10 (by omega) hl
      have HV9 := Lib.hid hV9
      have HV10 := Lib.hid hV10
      clear hV9 hV10
      obtain ⟨kk, hkk⟩ : ∃ kk : Nat, v9 % (Y.size : Int) = (kk : Int) := ⟨(v9 % (Y.size : Int)).toNat, by have := Int.emod_nonneg v9 (show (Y.size : Int) ≠ 0 by omega); omega⟩
      have hkl : kk < Y.size := by have := Int.emod_lt_of_pos v9 (show (0 : Int) < (Y.size : Int) by omega); omega
      go_wp2_with fail
      refine (HV9.out w12 (hcode.out.below HB12.out)).mono ?_
      rintro e w13 ⟨rfl, rfl⟩
      go_wp2_with fail
      obtain ⟨c, hc⟩ : ∃ c, c = Y.data.toList.getD kk 0 := ⟨_, rfl⟩
      obtain ⟨d, hd, hcd⟩ := xor_byte c v10 hv100 hv101
      have hbad := bad_change HY.out HOK.out (d := d) hkl (by rw [← hc]; exact hcd)
      have hback := store_text w13 w11.heap.size cp kk Y d hkl HC.out
      obtain ⟨y', hy'⟩ : ∃ y' : ByteArray, y' = ⟨(Y.data.toList.set kk d).toArray⟩ := ⟨_, rfl⟩
      have hy's : y'.size = Y.size := by
        rw [hy']
        show (Y.data.toList.set kk d).toArray.size = Y.size
        rw [List.size_toArray, List.length_set]; exact ba_len Y
      rw [← hy'] at hbad hback
      have hcell := HC.out kk hkl
      rw [← hc] at hcell
      have hfz := HFz.out kk hkl
      have hbyte : 0 ≤ 1 + v10 % 255 ∧ 1 + v10 % 255 ≤ 255 := by omega
      have HB13 := Lib.hid (show Below w.heap.size w (w13.setCell ⟨w11.heap.size, kk, none⟩ (.int .u8 (d.toNat : Int))).drew from below_drewN (HB12.out.setCell HB11.out.size _) 1)
      have HBAD := Lib.hid hbad
      clear hc hcd hcv hbad hy'
      refine wp_region_still_tail 13 (by kernel_rfl) (by kernel_rfl) ?_
      simp only [List.take_succ_cons, List.take_zero, List.drop_succ_cons, List.drop_zero]
      repeat still_step
      still_call (HV10.out _ (hcode.out.below (below_drewN HB12.out 1)))
      repeat still_step
      refine wpStill_nil ?_
      change wpList _ _ _ _ _ w13.drew
      go_wp2_with fail
      refine (implV_no y' _ (by omega) (hV.out.below HB13.out).1 HBAD.out).mono ?_
      rintro e w14 ⟨rfl, hb14⟩
      have HB14 := Lib.hid (HB13.out.trans (hb14.mono HB13.out.size))
      clear hb14
      go_wp2_with fail
      go_ret
      exact ⟨rfl, HB14.out⟩
  · have HI := Lib.hid (fun W (hb : Below w.heap.size w W) => implA_any x W (by omega) (hV.out.below hb).1 ⟨#[]⟩ false (.inr ⟨hok, rfl, rfl⟩))
    have HA := Lib.hid (specA_no x · (by omega) hok)
    clear hok
    go_wp2_with fail
    refine (HI.out w7 HB7.out).mono ?_
    rintro e w8 ⟨rfl, hb8⟩
    have HB8 := Lib.hid (HB7.out.trans (hb8.mono HB7.out.size))
    clear hb8
    go_wp2_with fail
    refine (HA.out w8).mono ?_
    rintro e w9 ⟨rfl, k9, hk9⟩
    have HB9 := Lib.hid (show Below w.heap.size w w9 by rw [hk9]; exact below_drewN HB8.out k9)
    clear hk9
    go_wp2_with fail
    refine (HP.out w9 (hV.out.below HB9.out)).mono ?_
    rintro e w10 ⟨b, there, rfl, hbt, hb10⟩
    have HB10 := Lib.hid (HB9.out.trans (hb10.mono HB9.out.size))
    clear hb10
    rcases hbt with rfl | ⟨rfl, rfl, rfl⟩
    all_goals
      go_wp2_with fail
      go_ret
      exact ⟨rfl, HB10.out⟩
end Go.Proofs.YtgogacgmphpaoaaDoor
