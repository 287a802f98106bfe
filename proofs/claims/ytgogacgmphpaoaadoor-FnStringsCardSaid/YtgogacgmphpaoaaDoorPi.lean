/- CONTRACTS: the code's ParseInt: the number of a numeral within the bounds, else no. -/
import Derived.Test.YtgogacgmphpaoaaDoorVf
import Derived.Test.YtgogacgmphpaoaaDoorDg
import Derived.Test.YtgogacgmphpaoaaDoorLe
import Derived.Test.YtgogacgmphpaoaaDoorShelfb
import Derived.Lib.AtoiErrMem
import Derived.Lib.IfaceNeq
namespace Go.Proofs.YtgogacgmphpaoaaDoor
open Go.ChangeShapes Go.WideShapes Go.ChangeAt Go.RowKit
set_option linter.unusedVariables false
/-- What the listed variables give. -/
def Vars (w : World) : Prop := Lib.TabIs Tryd.prog w "internal/strconv.uint64pow10" .u64 Lib.pow10Tab ∧ (∃ a, w.var? Tryd.prog "strconv.ErrSyntax" = some #[.iface 86 (.pointer (some a))]) ∧ (∃ a, w.var? Tryd.prog "strconv.ErrRange" = some #[.iface 86 (.pointer (some a))])
theorem var_lt {P : Program} {w : World} {n : String} {cs : Array Value} (h : w.var? P n = some cs) : ∃ g, P.globalNamed n = some g ∧ g < w.heap.size := by
  unfold World.var? at h
  rcases hg : P.globalNamed n with _ | g
  · rw [hg] at h; cases h
  · refine ⟨g, rfl, Nat.lt_of_not_le fun hge => ?_⟩
    rw [hg] at h
    simp only [Option.bind_some] at h
    rw [Array.getElem?_eq_none hge] at h
    cases h
theorem var_below {P : Program} {w w1 : World} {n : String} {cs : Array Value} (h : w.var? P n = some cs) (hb : Below w.heap.size w w1) : w1.var? P n = some cs := by
  obtain ⟨g, hg, hlt⟩ := var_lt h
  exact var?_below hb hg hlt h
theorem Vars.below {w w1 : World} (h : Vars w) (hb : Below w.heap.size w w1) : Vars w1 := by
  obtain ⟨h1, ⟨a, h2⟩, ⟨b, h3⟩⟩ := h
  exact ⟨tab_below h1 hb, ⟨a, var_below h2 hb⟩, ⟨b, var_below h3 hb⟩⟩
theorem atoi_ok {s : ByteArray} (hs : s.size ≤ 1048576) {v : Int} (h : Lib.atoiAll s.data.toList = .ok v) (w : World) :
    Calls Tryd.prog 28 #[.string s] w fun e w' => e = .returned (.tuple #[.int .i64 v, .nilIface]) ∧ Below w.heap.size w w' :=
  (Tryd.strconv_Atoi_ok s (by omega) v h w).mono fun _ _ ⟨a, b⟩ => ⟨a, by
    rcases b with rfl | ⟨t, rfl⟩
    · exact Below.refl _ _
    · exact Lib.bytesWorld_below w 5 t⟩
/-- Where Atoi says no: some number, an error that is not nil. -/
def AtNo (w : World) (e : Ending) (w' : World) : Prop := ∃ v N, e = .returned (.tuple #[.int .i64 v, .iface 65 (.pointer (some ⟨N, 0, none⟩))]) ∧ Below w.heap.size w w'
theorem atoi_no {s : ByteArray} (hs : s.size ≤ 1048576) (h : ∀ v, Lib.atoiAll s.data.toList ≠ .ok v) (w : World) (hV : Vars w) : Calls Tryd.prog 28 #[.string s] w (AtNo w) := by
  obtain ⟨_, ⟨a, h2⟩, ⟨b, h3⟩⟩ := hV
  rcases hx : Lib.atoiAll s.data.toList with v | _ | _
  · exact absurd hx (h v)
  · exact (Tryd.strconv_Atoi_bad_var s (by omega) hx _ _ w h2).mono fun _ _ ⟨N, e, _, _, hb⟩ => ⟨_, N, e, hb⟩
  · exact (Tryd.strconv_Atoi_range_var s (by omega) hx _ _ w h3).mono fun _ _ ⟨N, e, _, _, hb⟩ => ⟨_, N, e, hb⟩
theorem ba_of_list {s : ByteArray} {l : List UInt8} (h : l = s.data.toList) : s = ⟨l.toArray⟩ := by subst h; rfl
set_option maxHeartbeats 400000 in
theorem implP_yes (s : ByteArray) (n : Int) (hs : s.size ≤ 1048576) (hn : inR n) (h : Lib.itoa n = s.data.toList) (w : World) (hV0 : Vars w) :
    Calls Tryd.prog 13 #[.string s] w fun e w' => e = .returned (.tuple #[.int .i64 n, .bool true]) ∧ Below w.heap.size w w' := by
  have HA := Lib.hid (atoi_ok hs (v := n) (by rw [← h]; exact atoi_itoa n hn.1 hn.2) w)
  have HF := Lib.hid (fun W (hb : Below w.heap.size w W) => fi_call hn.1 hn.2 (ba_of_list h) W (hV0.below hb).1)
  clear hV0 h
  go_enter Tryd.func13, Tryd.ntmps13
  go_wp2_with fail
  refine HA.out.mono ?_
  rintro e w1 ⟨rfl, hb1⟩
  have HB1 := Lib.hid hb1
  clear hb1
  go_wp2_with fail
  refine (HF.out _ HB1.out).mono ?_
  rintro e w2 ⟨rfl, hb2⟩
  have HB2 := Lib.hid (HB1.out.trans (hb2.mono HB1.out.size))
  clear hb2
  go_wp2_with fail
  go_ret2
  exact ⟨rfl, HB2.out⟩
set_option maxHeartbeats 400000 in
theorem implP_no (s : ByteArray) (hs : s.size ≤ 1048576) (h : ∀ n, inR n → Lib.itoa n ≠ s.data.toList) (w : World) (hV0 : Vars w) :
    Calls Tryd.prog 13 #[.string s] w fun e w' => e = .returned (.tuple #[.int .i64 0, .bool false]) ∧ Below w.heap.size w w' := by
  by_cases hok : ∃ v, Lib.atoiAll s.data.toList = .ok v
  · obtain ⟨v, hv⟩ := hok
    have HA := Lib.hid (atoi_ok hs hv w)
    by_cases hr : inR v
    · obtain ⟨t, ht⟩ : ∃ t : ByteArray, t = ⟨(Lib.itoa v).toArray⟩ := ⟨_, rfl⟩
      have HF := Lib.hid (fun W (hb : Below w.heap.size w W) => fi_call hr.1 hr.2 ht W (hV0.below hb).1)
      obtain ⟨hne1, _, hne3⟩ := ba_ne (a := t) (b := s) (fun e => h v hr (by rw [← e, ht]))
      clear hV0 h hv ht hr
      go_enter Tryd.func13, Tryd.ntmps13
      go_wp2_with fail
      refine HA.out.mono ?_
      rintro e w1 ⟨rfl, hb1⟩
      have HB1 := Lib.hid hb1
      clear hb1
      go_wp2_with fail
      refine (HF.out _ HB1.out).mono ?_
      rintro e w2 ⟨rfl, hb2⟩
      have HB2 := Lib.hid (HB1.out.trans (hb2.mono HB1.out.size))
      clear hb2
      go_wp2_with fail
      go_ret2
      exact ⟨rfl, HB2.out⟩
    · have HF := Lib.hid (fun W => implF_no v (by unfold inR at hr; omega) W)
      clear hV0 h hv hr
      go_enter Tryd.func13, Tryd.ntmps13
      go_wp2_with fail
      refine HA.out.mono ?_
      rintro e w1 ⟨rfl, hb1⟩
      have HB1 := Lib.hid hb1
      clear hb1
      go_wp2_with fail
      refine (HF.out _).mono ?_
      rintro e w2 ⟨rfl, rfl⟩
      go_wp2_with fail
      go_ret2
      exact ⟨rfl, HB1.out⟩
  · have HA := Lib.hid (atoi_no hs (fun v hv => hok ⟨v, hv⟩) w hV0)
    clear hV0 h hok
    go_enter Tryd.func13, Tryd.ntmps13
    go_wp2_with fail
    refine HA.out.mono ?_
    rintro e w1 ⟨v, N, rfl, hb1⟩
    have HB1 := Lib.hid hb1
    clear hb1
    go_wp2_with fail
    go_ret2
    exact ⟨rfl, HB1.out⟩
end Go.Proofs.YtgogacgmphpaoaaDoor
