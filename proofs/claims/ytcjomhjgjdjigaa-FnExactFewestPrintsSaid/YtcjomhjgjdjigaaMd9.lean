/- CONTRACTS: PictureOf of both, where the list has prints and where not; the pair. -/
import Derived.Test.YtcjomhjgjdjigaaMc9
import Derived.WalkKit
import Derived.ProofKit
import Derived.OpenShut
import Derived.Lib.Hide
import Derived.WalkSpells
import Derived.Below
import Derived.BigQuiet
import Derived.LoopN
namespace Go.Proofs.Ytcjomhjgjdjigaa
open Go.ChangeShapes Go.WideShapes Go.ChangeAt Go.RowKit
set_option linter.unusedVariables false
set_option maxRecDepth 8000 in
set_option maxHeartbeats 1000000 in
theorem spic_yes (z : List Pn) (hz : z.length ≤ 1048576) (hwf : ∀ p ∈ z, (Lit.int .i64 p.x).wf = true ∧ (Lit.int .i64 p.y).wf = true) (hok : lok z = true) (g c : Nat) (w : World) (h0 : Op9 0 g c z w) : Calls Try.prog 25 #[.slice (some ⟨g, 0, none⟩) z.length c] w fun e w' => e = .returned (.tuple #[pv (al8 z (List.range z.length)), .bool true]) ∧ Below w.heap.size w w' := by
  obtain ⟨hl6, hall⟩ := lok_get hok
  have HL := Lib.hid (slist_any z hz 0 g c)
  rw [hok] at HL
  have HP := Lib.hid (splain_f z.length (by omega))
  have HA := Lib.hid (sall_f z hz (List.range z.length) (by simp; omega) hall (fun i hi => by simpa using hi) g c)
  have H0 := Lib.hid h0
  clear h0 hok hall hwf
  have hll : ((List.range z.length).length : Nat) = z.length := by simp
  rw [hll] at HA
  generalize al8 z (List.range z.length) = R at HA ⊢
  go_enter Try.func25, Try.ntmps25
  go_wp2_with (with_reducible refine wpAlP w.heap.size rfl ?_)
  have S0 : Hid (KR 1 [(w.heap.size, pb 27 fun _ => 0)] w (w.alloc (pb 27 fun _ => 0)) ∧ Op9 0 g c z (w.alloc (pb 27 fun _ => 0))) := Lib.hid ⟨kr1_8 w _, H0.out.below (M := w.heap.size) ((Below.refl _ _).alloc (Nat.le_refl _) _) rfl⟩
  clear H0
  generalize (World.alloc _ _ : World) = W1 at S0 ⊢
  refine (HL.out _ S0.out.2).mono ?_
  rintro e W2 ⟨rfl, hb⟩
  have S1 := Lib.hid (show KR 1 [(w.heap.size, pb 27 fun _ => 0)] w W2 ∧ Op9 0 g c z W2 from ⟨S0.out.1.far hb rfl, S0.out.2.below hb rfl⟩)
  clear hb S0
  go_wp2_with fail
  refine (HP.out _).mono ?_
  intro e W3 hp
  obtain ⟨go, co, rfl, ho, hb⟩ := hp.out
  have S2 := Lib.hid (show KR 1 [(w.heap.size, pb 27 fun _ => 0)] w W3 ∧ Op9 0 g c z W3 from ⟨S1.out.1.far hb rfl, S1.out.2.below hb rfl⟩)
  have HO : Hid (On8 0 go co (List.range z.length) W3) := Lib.hid (own_mono ho (Nat.zero_le _))
  clear hb S1 ho hp
  rw [hll]
  go_wp2_with fail
  refine (HA.out _ _ _ S2.out.2 HO.out).mono ?_
  rintro e W4 ⟨rfl, hb⟩
  have K3 := S2.out.1.far hb rfl
  have h2 := Lib.hid (K3.row (g := w.heap.size) (o := pb 27 fun _ => 0) (by simp))
  have hB0 := Lib.hid K3.2.2
  clear hb S2 HO K3 HA HP HL
  go_wp2_with ((with_reducible refine wpS36 w.heap.size R 27 _ h2.out ?_ ?_ ?_ ?_); rfl; rfl; kernel_rfl)
  have hr := pb_sets R h2.out
  have hB := setCells_below (b := w.heap.size) (cs36 R) 0 hB0.out (by omega)
  generalize (World.setCells _ _ _ _ : World) = X at hr hB ⊢
  exact bodyPost_ret (v := .tuple #[pv R, .bool true]) (res36b (a := 2) (b := 3) (t := 27) rfl rfl rfl (run_loadP hr)) rfl ⟨rfl, hB⟩
set_option maxRecDepth 8000 in
set_option maxHeartbeats 1000000 in
theorem ipic_yes (z : List Pn) (hz : z.length ≤ 1048576) (hwf : ∀ p ∈ z, (Lit.int .i64 p.x).wf = true ∧ (Lit.int .i64 p.y).wf = true) (hok : lok z = true) (g c : Nat) (w : World) (h0 : Op9 0 g c z w) : Calls Try.prog 27 #[.slice (some ⟨g, 0, none⟩) z.length c] w fun e w' => e = .returned (.tuple #[pv (al8 z (List.range z.length)), .bool true]) ∧ Below w.heap.size w w' := by
  obtain ⟨hl6, hall⟩ := lok_get hok
  have HL := Lib.hid (ilist_any z hz hwf 0 g c)
  rw [hok] at HL
  have HP := Lib.hid (iall_f z.length (by omega) (some ⟨g, 0, none⟩) c)
  have HA := Lib.hid (iby_f z hz (List.range z.length) (by simp; omega) hall (fun i hi => by simpa using hi) g c)
  have H0 := Lib.hid h0
  clear h0 hok hall hwf
  have hll : ((List.range z.length).length : Nat) = z.length := by simp
  rw [hll] at HA
  generalize al8 z (List.range z.length) = R at HA ⊢
  go_enter Try.func27, Try.ntmps27
  go_wp2_with (with_reducible refine wpAlP w.heap.size rfl ?_)
  have S0 : Hid (KR 1 [(w.heap.size, pb 27 fun _ => 0)] w (w.alloc (pb 27 fun _ => 0)) ∧ Op9 0 g c z (w.alloc (pb 27 fun _ => 0))) := Lib.hid ⟨kr1_8 w _, H0.out.below (M := w.heap.size) ((Below.refl _ _).alloc (Nat.le_refl _) _) rfl⟩
  clear H0
  generalize (World.alloc _ _ : World) = W1 at S0 ⊢
  refine (HL.out _ S0.out.2).mono ?_
  rintro e W2 ⟨rfl, hb⟩
  have S1 := Lib.hid (show KR 1 [(w.heap.size, pb 27 fun _ => 0)] w W2 ∧ Op9 0 g c z W2 from ⟨S0.out.1.far hb rfl, S0.out.2.below hb rfl⟩)
  clear hb S0
  go_wp2_with fail
  refine (HP.out _).mono ?_
  intro e W3 hp
  obtain ⟨go, co, rfl, ho, hb⟩ := hp.out
  have S2 := Lib.hid (show KR 1 [(w.heap.size, pb 27 fun _ => 0)] w W3 ∧ Op9 0 g c z W3 from ⟨S1.out.1.far hb rfl, S1.out.2.below hb rfl⟩)
  have HO : Hid (On8 0 go co (List.range z.length) W3) := Lib.hid (own_mono ho (Nat.zero_le _))
  clear hb S1 ho hp
  rw [hll]
  go_wp2_with fail
  refine (HA.out _ _ _ S2.out.2 HO.out).mono ?_
  rintro e W4 ⟨rfl, hb⟩
  have K3 := S2.out.1.far hb rfl
  have h2 := Lib.hid (K3.row (g := w.heap.size) (o := pb 27 fun _ => 0) (by simp))
  have hB0 := Lib.hid K3.2.2
  clear hb S2 HO K3 HA HP HL
  go_wp2_with ((with_reducible refine wpS36 w.heap.size R 27 _ h2.out ?_ ?_ ?_ ?_); rfl; rfl; kernel_rfl)
  have hr := pb_sets R h2.out
  have hB := setCells_below (b := w.heap.size) (cs36 R) 0 hB0.out (by omega)
  generalize (World.setCells _ _ _ _ : World) = X at hr hB ⊢
  exact bodyPost_ret (v := .tuple #[pv R, .bool true]) (res36b (a := 2) (b := 3) (t := 27) rfl rfl rfl (run_loadP hr)) rfl ⟨rfl, hB⟩
set_option maxRecDepth 8000 in
set_option maxHeartbeats 1000000 in
theorem spic_no (z : List Pn) (hz : z.length ≤ 1048576) (hwf : ∀ p ∈ z, (Lit.int .i64 p.x).wf = true ∧ (Lit.int .i64 p.y).wf = true) (hok : lok z = false) (g c : Nat) (w : World) (h0 : Op9 0 g c z w) : Calls Try.prog 25 #[.slice (some ⟨g, 0, none⟩) z.length c] w fun e w' => e = .returned (.tuple #[pv (fun _ => 0), .bool false]) ∧ Below w.heap.size w w' := by
  have HL := Lib.hid (slist_any z hz 0 g c)
  rw [hok] at HL
  have H0 := Lib.hid h0
  clear h0 hok hwf
  go_enter Try.func25, Try.ntmps25
  go_wp2_with (with_reducible refine wpAlP w.heap.size rfl ?_)
  have S0 : Hid (KR 1 [(w.heap.size, pb 27 fun _ => 0)] w (w.alloc (pb 27 fun _ => 0)) ∧ Op9 0 g c z (w.alloc (pb 27 fun _ => 0))) := Lib.hid ⟨kr1_8 w _, H0.out.below (M := w.heap.size) ((Below.refl _ _).alloc (Nat.le_refl _) _) rfl⟩
  clear H0
  generalize (World.alloc _ _ : World) = W1 at S0 ⊢
  refine (HL.out _ S0.out.2).mono ?_
  rintro e W2 ⟨rfl, hb⟩
  have K3 := S0.out.1.far hb rfl
  have h2 := Lib.hid (K3.row (g := w.heap.size) (o := pb 27 fun _ => 0) (by simp))
  have hB0 := Lib.hid K3.2.2
  clear hb S0 K3 HL
  go_wp2_with (first | with_reducible refine wpBdP ?_ | ((with_reducible refine wpS36 w.heap.size (fun _ => 0) 27 _ h2.out ?_ ?_ ?_ ?_); rfl; rfl; kernel_rfl))
  have hr := pb_sets (fun _ => 0) h2.out
  have hB := setCells_below (b := w.heap.size) (cs36 fun _ => 0) 0 hB0.out (by omega)
  generalize (World.setCells _ _ _ _ : World) = X at hr hB ⊢
  exact bodyPost_ret (v := .tuple #[pv (fun _ => 0), .bool false]) (res36b (a := 2) (b := 3) (t := 27) rfl rfl rfl (run_loadP hr)) rfl ⟨rfl, hB⟩
set_option maxRecDepth 8000 in
set_option maxHeartbeats 1000000 in
theorem ipic_no (z : List Pn) (hz : z.length ≤ 1048576) (hwf : ∀ p ∈ z, (Lit.int .i64 p.x).wf = true ∧ (Lit.int .i64 p.y).wf = true) (hok : lok z = false) (g c : Nat) (w : World) (h0 : Op9 0 g c z w) : Calls Try.prog 27 #[.slice (some ⟨g, 0, none⟩) z.length c] w fun e w' => e = .returned (.tuple #[pv (fun _ => 0), .bool false]) ∧ Below w.heap.size w w' := by
  have HL := Lib.hid (ilist_any z hz hwf 0 g c)
  rw [hok] at HL
  have H0 := Lib.hid h0
  clear h0 hok hwf
  go_enter Try.func27, Try.ntmps27
  go_wp2_with (with_reducible refine wpAlP w.heap.size rfl ?_)
  have S0 : Hid (KR 1 [(w.heap.size, pb 27 fun _ => 0)] w (w.alloc (pb 27 fun _ => 0)) ∧ Op9 0 g c z (w.alloc (pb 27 fun _ => 0))) := Lib.hid ⟨kr1_8 w _, H0.out.below (M := w.heap.size) ((Below.refl _ _).alloc (Nat.le_refl _) _) rfl⟩
  clear H0
  generalize (World.alloc _ _ : World) = W1 at S0 ⊢
  refine (HL.out _ S0.out.2).mono ?_
  rintro e W2 ⟨rfl, hb⟩
  have K3 := S0.out.1.far hb rfl
  have h2 := Lib.hid (K3.row (g := w.heap.size) (o := pb 27 fun _ => 0) (by simp))
  have hB0 := Lib.hid K3.2.2
  clear hb S0 K3 HL
  go_wp2_with (first | with_reducible refine wpBdP ?_ | ((with_reducible refine wpS36 w.heap.size (fun _ => 0) 27 _ h2.out ?_ ?_ ?_ ?_); rfl; rfl; kernel_rfl))
  have hr := pb_sets (fun _ => 0) h2.out
  have hB := setCells_below (b := w.heap.size) (cs36 fun _ => 0) 0 hB0.out (by omega)
  generalize (World.setCells _ _ _ _ : World) = X at hr hB ⊢
  exact bodyPost_ret (v := .tuple #[pv (fun _ => 0), .bool false]) (res36b (a := 2) (b := 3) (t := 27) rfl rfl rfl (run_loadP hr)) rfl ⟨rfl, hB⟩
theorem pic_pair (z : List Pn) (hz : z.length ≤ 1048576) (hwf : ∀ p ∈ z, (Lit.int .i64 p.x).wf = true ∧ (Lit.int .i64 p.y).wf = true) : ∃ (m : Nat → Int) (t : Bool), (∀ (w : World) (g c : Nat), Op9 0 g c z w → Calls Try.prog 25 #[.slice (some ⟨g, 0, none⟩) z.length c] w fun e w' => e = .returned (.tuple #[pv m, .bool t]) ∧ Below w.heap.size w w') ∧ (∀ (w : World) (g c : Nat), Op9 0 g c z w → Calls Try.prog 27 #[.slice (some ⟨g, 0, none⟩) z.length c] w fun e w' => e = .returned (.tuple #[pv m, .bool t]) ∧ Below w.heap.size w w') := by
  cases hok : lok z
  · exact ⟨_, false, fun w g c h => spic_no z hz hwf hok g c w h, fun w g c h => ipic_no z hz hwf hok g c w h⟩
  · exact ⟨_, true, fun w g c h => spic_yes z hz hwf hok g c w h, fun w g c h => ipic_yes z hz hwf hok g c w h⟩
end Go.Proofs.Ytcjomhjgjdjigaa
