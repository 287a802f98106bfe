/- CONTRACTS: SheetAt and EndOf, of the model and of the code. -/
import Derived.Test.YtkbpfdmmjpmbmaaPk11
import Derived.WalkKit
import Derived.ProofKit
import Derived.OpenShut
import Derived.Lib.Hide
import Derived.WalkSpells
import Derived.Below
import Derived.BigQuiet
import Derived.LoopN
namespace Go.Proofs.Ytkbpfdmmjpmbmaa
open Go.ChangeShapes Go.WideShapes Go.ChangeAt Go.RowKit
set_option linter.unusedVariables false
theorem ok_parts11 {f : Fn11} {F : List Fn11} {st : List S11} (h2 : F.length ≤ 4) (h3 : st.length ≤ 40) (h5 : ∀ p ∈ st, okS F.length p = true) : okP (rowv (f 0), rowv (f 1), rowv (f 2), rowv (f 3), rowv (f 4), rowv (f 5)) (F.map t11) st = true := okP_of (f := f) h2 h3 h5
set_option maxRecDepth 20000 in
set_option maxHeartbeats 2000000 in
theorem isheetat_yes (f : Fn11) (F : List Fn11) (st : List S11) (k g1 c1 g2 c2 : Nat) (hk : k ≤ st.length) (hst : st.length ≤ 40) (hF : F.length ≤ 4) (hv : ∀ p ∈ st, okS F.length p = true) (w : World) (h1 : w.rangeAt g1 0 (hv11 (F.map t11))) (h2 : w.rangeAt g2 0 (sv11 st)) : Calls Try.prog 24 #[.agg #[.int .i64 (rowv (f 0)), .int .i64 (rowv (f 1)), .int .i64 (rowv (f 2)), .int .i64 (rowv (f 3)), .int .i64 (rowv (f 4)), .int .i64 (rowv (f 5)), .slice (some ⟨g1, 0, none⟩) F.length c1, .slice (some ⟨g2, 0, none⟩) st.length c2], .int .i64 (k : Int)] w fun e w' => e = .returned (.tuple #[.agg #[.int .i64 (rowv (at11 F st f k 0)), .int .i64 (rowv (at11 F st f k 1)), .int .i64 (rowv (at11 F st f k 2)), .int .i64 (rowv (at11 F st f k 3)), .int .i64 (rowv (at11 F st f k 4)), .int .i64 (rowv (at11 F st f k 5))], .bool true]) ∧ Below w.heap.size w w' := by
  have hn4 : (F.map t11).length = F.length := List.length_map t11
  have HP := Lib.hid (fun W a b => iplan_11 (rowv (f 0)) (rowv (f 1)) (rowv (f 2)) (rowv (f 3)) (rowv (f 4)) (rowv (f 5)) (F.map t11) st g1 c1 g2 c2 (by rw [hn4]; omega) (by omega) (wfs_of hv) W a b)
  rw [ok_parts11 (f := f) hF hst hv, hn4] at HP
  have R1 := Lib.hid h1
  have R2 := Lib.hid h2
  have HX := Lib.hid (fun W a b => sheets_11 (rowv (f 0)) (rowv (f 1)) (rowv (f 2)) (rowv (f 3)) (rowv (f 4)) (rowv (f 5)) f F st g1 c1 g2 c2 hst hF hv W a b)
  have HG := Lib.hid (sh11_get F st f hk)
  have HL := Lib.hid (sh11_len F st f st.length)
  clear h1 h2 hn4
  have k1 : ¬ (k : Int) < 0 := by omega
  have k2 : ¬ (st.length : Int) < (k : Int) := by omega
  have k3 : ¬ (k : Int) > (st.length : Int) := by omega
  go_enter Try.func24, Try.ntmps24
  go_wp2_with fail
  generalize hW : (World.alloc _ _ : World) = W0
  have q0 : W0.heap[w.heap.size]? = some (Obj.cells #[.int .i64 (rowv (f 0)), .int .i64 (rowv (f 1)), .int .i64 (rowv (f 2)), .int .i64 (rowv (f 3)), .int .i64 (rowv (f 4)), .int .i64 (rowv (f 5)), .slice (some ⟨g1, 0, none⟩) F.length c1, .slice (some ⟨g2, 0, none⟩) st.length c2] 35 (0, 0)) := by rw [← hW]; exact alloc_past (alloc_at rfl)
  have q1 : W0.heap[w.heap.size + 1]? = some oz := by rw [← hW]; exact alloc_at (by simp)
  have hB : Below w.heap.size w W0 := by rw [← hW]; (repeat (first | exact Below.refl _ _ | assumption | refine Below.setCell ?_ (by first | (simp; done) | (simp; omega)) _ | refine Below.alloc ?_ (by first | (simp; done) | (simp; omega)) _ | refine Below.drew ?_))
  clear hW
  refine (HP.out _ (ra_below R1.out hB rfl) (ra_below R2.out hB rfl)).mono ?_
  rintro e W1 ⟨rfl, hb⟩
  replace q0 := rowk q0 hb rfl
  replace q1 := rowk q1 hb rfl
  replace hB := below_of hB hb (by have := hB.size; omega)
  clear hb HP
  have a_c := fun j => cell_of_row W1 _ j _ _ _ q0
  go_wp2_with fail
  refine (HX.out _ (ra_below R1.out hB rfl) (ra_below R2.out hB rfl)).mono ?_
  rintro e W2 ⟨gs, cap, rfl, ho, hb⟩
  replace q1 := rowk q1 hb rfl
  replace hB := below_of hB hb (by have := hB.size; omega)
  have hr := fm_range ch11_len (own_range ho) (i := k) (by rw [HL.out]; omega)
  rw [HG.out] at hr
  obtain ⟨G, hG⟩ : ∃ G, G = at11 F st f k := ⟨_, rfl⟩
  rw [← hG] at hr
  have HGG := Lib.hid hG
  clear hG
  have d0 : W2.cell? ⟨gs, k * 6 + 0, none⟩ = some (.int .i64 (rowv (G 0))) := hr 0 _ rfl
  have d1 : W2.cell? ⟨gs, k * 6 + 1, none⟩ = some (.int .i64 (rowv (G 1))) := hr 1 _ rfl
  have d2 : W2.cell? ⟨gs, k * 6 + 2, none⟩ = some (.int .i64 (rowv (G 2))) := hr 2 _ rfl
  have d3 : W2.cell? ⟨gs, k * 6 + 3, none⟩ = some (.int .i64 (rowv (G 3))) := hr 3 _ rfl
  have d4 : W2.cell? ⟨gs, k * 6 + 4, none⟩ = some (.int .i64 (rowv (G 4))) := hr 4 _ rfl
  have d5 : W2.cell? ⟨gs, k * 6 + 5, none⟩ = some (.int .i64 (rowv (G 5))) := hr 5 _ rfl
  simp only [Nat.add_zero] at d0
  clear hb HX HG HL ho hr a_c q0
  have k4 : (k : Int) < ((st.length + 1 : Nat) : Int) := by omega
  have k5 : (0 : Int) ≤ (k : Int) := by omega
  have z_f := fun j => frozen_of_row W2 _ j _ _ q1
  have z_c := fun j => cell_of_row W2 _ j _ _ _ q1
  go_wp2_with fail
  clear d0 d1 d2 d3 d4 d5 z_f z_c
  have qx := set6a (.int .i64 (rowv (G 0))) (.int .i64 (rowv (G 1))) (.int .i64 (rowv (G 2))) (.int .i64 (rowv (G 3))) (.int .i64 (rowv (G 4))) (.int .i64 (rowv (G 5))) q1
  have hB2 := below6 (g := w.heap.size + 1) (v0 := .int .i64 (rowv (G 0))) (v1 := .int .i64 (rowv (G 1))) (v2 := .int .i64 (rowv (G 2))) (v3 := .int .i64 (rowv (G 3))) (v4 := .int .i64 (rowv (G 4))) (v5 := .int .i64 (rowv (G 5))) hB (by omega)
  generalize (World.setCell _ _ _ : World) = X at qx hB2 ⊢
  have x_c := fun j => cell_of_row X _ j _ _ _ qx
  exact bodyPost_ret (v := .tuple #[.agg #[.int .i64 (rowv (G 0)), .int .i64 (rowv (G 1)), .int .i64 (rowv (G 2)), .int .i64 (rowv (G 3)), .int .i64 (rowv (G 4)), .int .i64 (rowv (G 5))], .bool true]) (by simp [results, Try.results24, go_sem, x_c]) rfl ⟨by rw [HGG.out], hB2⟩
set_option maxRecDepth 20000 in
set_option maxHeartbeats 2000000 in
theorem isheetat_no0 (m0 m1 m2 m3 m4 m5 : Int) (l : List H11) (st : List S11) (k : Int) (g1 c1 g2 c2 : Nat) (hl : l.length ≤ 1048576) (hst : st.length ≤ 1048576) (hwf : ∀ p ∈ st, (Lit.int .i64 p.x).wf = true ∧ (Lit.int .i64 p.y).wf = true) (hq : okP (m0, m1, m2, m3, m4, m5) l st = false) (w : World) (h1 : w.rangeAt g1 0 (hv11 l)) (h2 : w.rangeAt g2 0 (sv11 st)) : Calls Try.prog 24 #[.agg #[.int .i64 m0, .int .i64 m1, .int .i64 m2, .int .i64 m3, .int .i64 m4, .int .i64 m5, .slice (some ⟨g1, 0, none⟩) l.length c1, .slice (some ⟨g2, 0, none⟩) st.length c2], .int .i64 k] w fun e w' => e = .returned (.tuple #[.agg #[.int .i64 0, .int .i64 0, .int .i64 0, .int .i64 0, .int .i64 0, .int .i64 0], .bool false]) ∧ Below w.heap.size w w' := by
  have HP := Lib.hid (fun W a b => iplan_11 m0 m1 m2 m3 m4 m5 l st g1 c1 g2 c2 hl hst hwf W a b)
  rw [hq] at HP
  have R1 := Lib.hid h1
  have R2 := Lib.hid h2
  clear h1 h2 hq hwf
  go_enter Try.func24, Try.ntmps24
  go_wp2_with fail
  generalize hW : (World.alloc _ _ : World) = W0
  have q0 : W0.heap[w.heap.size]? = some (Obj.cells #[.int .i64 m0, .int .i64 m1, .int .i64 m2, .int .i64 m3, .int .i64 m4, .int .i64 m5, .slice (some ⟨g1, 0, none⟩) l.length c1, .slice (some ⟨g2, 0, none⟩) st.length c2] 35 (0, 0)) := by rw [← hW]; exact alloc_past (alloc_at rfl)
  have q1 : W0.heap[w.heap.size + 1]? = some oz := by rw [← hW]; exact alloc_at (by simp)
  have hB : Below w.heap.size w W0 := by rw [← hW]; (repeat (first | exact Below.refl _ _ | assumption | refine Below.setCell ?_ (by first | (simp; done) | (simp; omega)) _ | refine Below.alloc ?_ (by first | (simp; done) | (simp; omega)) _ | refine Below.drew ?_))
  clear hW
  refine (HP.out _ (ra_below R1.out hB rfl) (ra_below R2.out hB rfl)).mono ?_
  rintro e W1 ⟨rfl, hb⟩
  replace q0 := rowk q0 hb rfl
  replace q1 := rowk q1 hb rfl
  replace hB := below_of hB hb (by have := hB.size; omega)
  clear hb HP
  have a_c := fun j => cell_of_row W1 _ j _ _ _ q0
  have z_f := fun j => frozen_of_row W1 _ j _ _ q1
  have z_c := fun j => cell_of_row W1 _ j _ _ _ q1
  go_wp2_with fail
  clear a_c z_f z_c
  have qx := set6a (.int .i64 0) (.int .i64 0) (.int .i64 0) (.int .i64 0) (.int .i64 0) (.int .i64 0) q1
  have hB2 := below6 (g := w.heap.size + 1) (v0 := .int .i64 0) (v1 := .int .i64 0) (v2 := .int .i64 0) (v3 := .int .i64 0) (v4 := .int .i64 0) (v5 := .int .i64 0) hB (by omega)
  generalize (World.setCell _ _ _ : World) = X at qx hB2 ⊢
  have x_c := fun j => cell_of_row X _ j _ _ _ qx
  exact bodyPost_ret (v := .tuple #[.agg #[.int .i64 0, .int .i64 0, .int .i64 0, .int .i64 0, .int .i64 0, .int .i64 0], .bool false]) (by simp [results, Try.results24, go_sem, x_c]) rfl ⟨rfl, hB2⟩
set_option maxRecDepth 20000 in
set_option maxHeartbeats 2000000 in
theorem isheetat_no1 (m0 m1 m2 m3 m4 m5 : Int) (l : List H11) (st : List S11) (k : Int) (g1 c1 g2 c2 : Nat) (hl : l.length ≤ 1048576) (hst : st.length ≤ 1048576) (hwf : ∀ p ∈ st, (Lit.int .i64 p.x).wf = true ∧ (Lit.int .i64 p.y).wf = true) (hq : okP (m0, m1, m2, m3, m4, m5) l st = true) (hk : k < 0 ∨ (st.length : Int) < k) (w : World) (h1 : w.rangeAt g1 0 (hv11 l)) (h2 : w.rangeAt g2 0 (sv11 st)) : Calls Try.prog 24 #[.agg #[.int .i64 m0, .int .i64 m1, .int .i64 m2, .int .i64 m3, .int .i64 m4, .int .i64 m5, .slice (some ⟨g1, 0, none⟩) l.length c1, .slice (some ⟨g2, 0, none⟩) st.length c2], .int .i64 k] w fun e w' => e = .returned (.tuple #[.agg #[.int .i64 0, .int .i64 0, .int .i64 0, .int .i64 0, .int .i64 0, .int .i64 0], .bool false]) ∧ Below w.heap.size w w' := by
  have HP := Lib.hid (fun W a b => iplan_11 m0 m1 m2 m3 m4 m5 l st g1 c1 g2 c2 hl hst hwf W a b)
  rw [hq] at HP
  have R1 := Lib.hid h1
  have R2 := Lib.hid h2
  clear h1 h2 hq hwf
  by_cases hk0 : k < 0
  · have hk9 := hk0
    go_enter Try.func24, Try.ntmps24
    go_wp2_with fail
    generalize hW : (World.alloc _ _ : World) = W0
    have q0 : W0.heap[w.heap.size]? = some (Obj.cells #[.int .i64 m0, .int .i64 m1, .int .i64 m2, .int .i64 m3, .int .i64 m4, .int .i64 m5, .slice (some ⟨g1, 0, none⟩) l.length c1, .slice (some ⟨g2, 0, none⟩) st.length c2] 35 (0, 0)) := by rw [← hW]; exact alloc_past (alloc_at rfl)
    have q1 : W0.heap[w.heap.size + 1]? = some oz := by rw [← hW]; exact alloc_at (by simp)
    have hB : Below w.heap.size w W0 := by rw [← hW]; (repeat (first | exact Below.refl _ _ | assumption | refine Below.setCell ?_ (by first | (simp; done) | (simp; omega)) _ | refine Below.alloc ?_ (by first | (simp; done) | (simp; omega)) _ | refine Below.drew ?_))
    clear hW
    refine (HP.out _ (ra_below R1.out hB rfl) (ra_below R2.out hB rfl)).mono ?_
    rintro e W1 ⟨rfl, hb⟩
    replace q0 := rowk q0 hb rfl
    replace q1 := rowk q1 hb rfl
    replace hB := below_of hB hb (by have := hB.size; omega)
    clear hb HP
    have a_c := fun j => cell_of_row W1 _ j _ _ _ q0
    have z_f := fun j => frozen_of_row W1 _ j _ _ q1
    have z_c := fun j => cell_of_row W1 _ j _ _ _ q1
    go_wp2_with fail
    clear a_c z_f z_c
    have qx := set6a (.int .i64 0) (.int .i64 0) (.int .i64 0) (.int .i64 0) (.int .i64 0) (.int .i64 0) q1
    have hB2 := below6 (g := w.heap.size + 1) (v0 := .int .i64 0) (v1 := .int .i64 0) (v2 := .int .i64 0) (v3 := .int .i64 0) (v4 := .int .i64 0) (v5 := .int .i64 0) hB (by omega)
    generalize (World.setCell _ _ _ : World) = X at qx hB2 ⊢
    have x_c := fun j => cell_of_row X _ j _ _ _ qx
    exact bodyPost_ret (v := .tuple #[.agg #[.int .i64 0, .int .i64 0, .int .i64 0, .int .i64 0, .int .i64 0, .int .i64 0], .bool false]) (by simp [results, Try.results24, go_sem, x_c]) rfl ⟨rfl, hB2⟩
  · have hk1 : k > (st.length : Int) := by omega
    have hk2 : (st.length : Int) < k := by omega
    go_enter Try.func24, Try.ntmps24
    go_wp2_with fail
    generalize hW : (World.alloc _ _ : World) = W0
    have q0 : W0.heap[w.heap.size]? = some (Obj.cells #[.int .i64 m0, .int .i64 m1, .int .i64 m2, .int .i64 m3, .int .i64 m4, .int .i64 m5, .slice (some ⟨g1, 0, none⟩) l.length c1, .slice (some ⟨g2, 0, none⟩) st.length c2] 35 (0, 0)) := by rw [← hW]; exact alloc_past (alloc_at rfl)
    have q1 : W0.heap[w.heap.size + 1]? = some oz := by rw [← hW]; exact alloc_at (by simp)
    have hB : Below w.heap.size w W0 := by rw [← hW]; (repeat (first | exact Below.refl _ _ | assumption | refine Below.setCell ?_ (by first | (simp; done) | (simp; omega)) _ | refine Below.alloc ?_ (by first | (simp; done) | (simp; omega)) _ | refine Below.drew ?_))
    clear hW
    refine (HP.out _ (ra_below R1.out hB rfl) (ra_below R2.out hB rfl)).mono ?_
    rintro e W1 ⟨rfl, hb⟩
    replace q0 := rowk q0 hb rfl
    replace q1 := rowk q1 hb rfl
    replace hB := below_of hB hb (by have := hB.size; omega)
    clear hb HP
    have a_c := fun j => cell_of_row W1 _ j _ _ _ q0
    have z_f := fun j => frozen_of_row W1 _ j _ _ q1
    have z_c := fun j => cell_of_row W1 _ j _ _ _ q1
    go_wp2_with fail
    clear a_c z_f z_c
    have qx := set6a (.int .i64 0) (.int .i64 0) (.int .i64 0) (.int .i64 0) (.int .i64 0) (.int .i64 0) q1
    have hB2 := below6 (g := w.heap.size + 1) (v0 := .int .i64 0) (v1 := .int .i64 0) (v2 := .int .i64 0) (v3 := .int .i64 0) (v4 := .int .i64 0) (v5 := .int .i64 0) hB (by omega)
    generalize (World.setCell _ _ _ : World) = X at qx hB2 ⊢
    have x_c := fun j => cell_of_row X _ j _ _ _ qx
    exact bodyPost_ret (v := .tuple #[.agg #[.int .i64 0, .int .i64 0, .int .i64 0, .int .i64 0, .int .i64 0, .int .i64 0], .bool false]) (by simp [results, Try.results24, go_sem, x_c]) rfl ⟨rfl, hB2⟩
set_option maxRecDepth 20000 in
set_option maxHeartbeats 2000000 in
theorem ssheetat_yes (f : Fn11) (F : List Fn11) (st : List S11) (k g1 c1 g2 c2 : Nat) (hk : k ≤ st.length) (hst : st.length ≤ 40) (hF : F.length ≤ 4) (hv : ∀ p ∈ st, okS F.length p = true) (w : World) (h1 : w.rangeAt g1 0 (hv11 (F.map t11))) (h2 : w.rangeAt g2 0 (sv11 st)) : Calls Try.prog 23 #[.agg #[.int .i64 (rowv (f 0)), .int .i64 (rowv (f 1)), .int .i64 (rowv (f 2)), .int .i64 (rowv (f 3)), .int .i64 (rowv (f 4)), .int .i64 (rowv (f 5)), .slice (some ⟨g1, 0, none⟩) F.length c1, .slice (some ⟨g2, 0, none⟩) st.length c2], .int .i64 (k : Int)] w fun e w' => e = .returned (.tuple #[.agg #[.int .i64 (rowv (at11 F st f k 0)), .int .i64 (rowv (at11 F st f k 1)), .int .i64 (rowv (at11 F st f k 2)), .int .i64 (rowv (at11 F st f k 3)), .int .i64 (rowv (at11 F st f k 4)), .int .i64 (rowv (at11 F st f k 5))], .bool true]) ∧ Below w.heap.size w w' := by
  have hn4 : (F.map t11).length = F.length := List.length_map t11
  have HP := Lib.hid (fun W a b => lplan_11 (rowv (f 0)) (rowv (f 1)) (rowv (f 2)) (rowv (f 3)) (rowv (f 4)) (rowv (f 5)) (F.map t11) st g1 c1 g2 c2 (by rw [hn4]; omega) (by omega) W a b)
  rw [ok_parts11 (f := f) hF hst hv, hn4] at HP
  have R1 := Lib.hid h1
  have R2 := Lib.hid h2
  have HX := Lib.hid (fun W a b => lat_11 (rowv (f 0)) (rowv (f 1)) (rowv (f 2)) (rowv (f 3)) (rowv (f 4)) (rowv (f 5)) f F st g1 c1 g2 c2 k hk hst hF hv W a b)
  have HI := Lib.hid (l1in_any (k : Int) 0 (st.length : Int))
  have ei : (decide ((0 : Int) ≤ (k : Int)) && decide ((k : Int) ≤ (st.length : Int))) = true := by
    rw [decide_eq_true (by omega), decide_eq_true (by omega)]; rfl
  rw [ei] at HI
  clear ei
  clear h1 h2 hn4
  have k1 : ¬ (k : Int) < 0 := by omega
  have k2 : ¬ (st.length : Int) < (k : Int) := by omega
  have k3 : ¬ (k : Int) > (st.length : Int) := by omega
  go_enter Try.func23, Try.ntmps23
  go_wp2_with fail
  generalize hW : (World.alloc _ _ : World) = W0
  have q0 : W0.heap[w.heap.size]? = some (Obj.cells #[.int .i64 (rowv (f 0)), .int .i64 (rowv (f 1)), .int .i64 (rowv (f 2)), .int .i64 (rowv (f 3)), .int .i64 (rowv (f 4)), .int .i64 (rowv (f 5)), .slice (some ⟨g1, 0, none⟩) F.length c1, .slice (some ⟨g2, 0, none⟩) st.length c2] 35 (0, 0)) := by rw [← hW]; exact alloc_past (alloc_at rfl)
  have q1 : W0.heap[w.heap.size + 1]? = some oz := by rw [← hW]; exact alloc_at (by simp)
  have hB : Below w.heap.size w W0 := by rw [← hW]; (repeat (first | exact Below.refl _ _ | assumption | refine Below.setCell ?_ (by first | (simp; done) | (simp; omega)) _ | refine Below.alloc ?_ (by first | (simp; done) | (simp; omega)) _ | refine Below.drew ?_))
  clear hW
  refine (HP.out _ (ra_below R1.out hB rfl) (ra_below R2.out hB rfl)).mono ?_
  rintro e W1 ⟨rfl, hb⟩
  replace q0 := rowk q0 hb rfl
  replace q1 := rowk q1 hb rfl
  replace hB := below_of hB hb (by have := hB.size; omega)
  clear hb HP
  have a_c := fun j => cell_of_row W1 _ j _ _ _ q0
  go_wp2_with fail
  refine (HI.out _).mono ?_
  rintro e W2 ⟨rfl, hb⟩
  obtain rfl := hb.symm
  clear HI
  go_wp2_with fail
  refine (HX.out _ (ra_below R1.out hB rfl) (ra_below R2.out hB rfl)).mono ?_
  rintro e W3 ⟨rfl, hb⟩
  replace q1 := rowk q1 hb rfl
  replace hB := below_of hB hb (by have := hB.size; omega)
  obtain ⟨G, hG⟩ : ∃ G, G = at11 F st f k := ⟨_, rfl⟩
  rw [← hG]
  have HGG := Lib.hid hG
  clear hG
  clear hb HX a_c q0
  have z_f := fun j => frozen_of_row W3 _ j _ _ q1
  have z_c := fun j => cell_of_row W3 _ j _ _ _ q1
  go_wp2_with fail
  clear z_f z_c
  have qx := set6a (.int .i64 (rowv (G 0))) (.int .i64 (rowv (G 1))) (.int .i64 (rowv (G 2))) (.int .i64 (rowv (G 3))) (.int .i64 (rowv (G 4))) (.int .i64 (rowv (G 5))) q1
  have hB2 := below6 (g := w.heap.size + 1) (v0 := .int .i64 (rowv (G 0))) (v1 := .int .i64 (rowv (G 1))) (v2 := .int .i64 (rowv (G 2))) (v3 := .int .i64 (rowv (G 3))) (v4 := .int .i64 (rowv (G 4))) (v5 := .int .i64 (rowv (G 5))) hB (by omega)
  generalize (World.setCell _ _ _ : World) = X at qx hB2 ⊢
  have x_c := fun j => cell_of_row X _ j _ _ _ qx
  exact bodyPost_ret (v := .tuple #[.agg #[.int .i64 (rowv (G 0)), .int .i64 (rowv (G 1)), .int .i64 (rowv (G 2)), .int .i64 (rowv (G 3)), .int .i64 (rowv (G 4)), .int .i64 (rowv (G 5))], .bool true]) (by simp [results, Try.results23, go_sem, x_c]) rfl ⟨by rw [HGG.out], hB2⟩
set_option maxRecDepth 20000 in
set_option maxHeartbeats 2000000 in
theorem ssheetat_no0 (m0 m1 m2 m3 m4 m5 : Int) (l : List H11) (st : List S11) (k : Int) (g1 c1 g2 c2 : Nat) (hl : l.length ≤ 1048576) (hst : st.length ≤ 1048576) (hq : okP (m0, m1, m2, m3, m4, m5) l st = false) (w : World) (h1 : w.rangeAt g1 0 (hv11 l)) (h2 : w.rangeAt g2 0 (sv11 st)) : Calls Try.prog 23 #[.agg #[.int .i64 m0, .int .i64 m1, .int .i64 m2, .int .i64 m3, .int .i64 m4, .int .i64 m5, .slice (some ⟨g1, 0, none⟩) l.length c1, .slice (some ⟨g2, 0, none⟩) st.length c2], .int .i64 k] w fun e w' => e = .returned (.tuple #[.agg #[.int .i64 0, .int .i64 0, .int .i64 0, .int .i64 0, .int .i64 0, .int .i64 0], .bool false]) ∧ Below w.heap.size w w' := by
  have HP := Lib.hid (fun W a b => lplan_11 m0 m1 m2 m3 m4 m5 l st g1 c1 g2 c2 hl hst W a b)
  rw [hq] at HP
  have R1 := Lib.hid h1
  have R2 := Lib.hid h2
  clear h1 h2 hq
  go_enter Try.func23, Try.ntmps23
  go_wp2_with fail
  generalize hW : (World.alloc _ _ : World) = W0
  have q0 : W0.heap[w.heap.size]? = some (Obj.cells #[.int .i64 m0, .int .i64 m1, .int .i64 m2, .int .i64 m3, .int .i64 m4, .int .i64 m5, .slice (some ⟨g1, 0, none⟩) l.length c1, .slice (some ⟨g2, 0, none⟩) st.length c2] 35 (0, 0)) := by rw [← hW]; exact alloc_past (alloc_at rfl)
  have q1 : W0.heap[w.heap.size + 1]? = some oz := by rw [← hW]; exact alloc_at (by simp)
  have hB : Below w.heap.size w W0 := by rw [← hW]; (repeat (first | exact Below.refl _ _ | assumption | refine Below.setCell ?_ (by first | (simp; done) | (simp; omega)) _ | refine Below.alloc ?_ (by first | (simp; done) | (simp; omega)) _ | refine Below.drew ?_))
  clear hW
  refine (HP.out _ (ra_below R1.out hB rfl) (ra_below R2.out hB rfl)).mono ?_
  rintro e W1 ⟨rfl, hb⟩
  replace q0 := rowk q0 hb rfl
  replace q1 := rowk q1 hb rfl
  replace hB := below_of hB hb (by have := hB.size; omega)
  clear hb HP
  have a_c := fun j => cell_of_row W1 _ j _ _ _ q0
  have z_f := fun j => frozen_of_row W1 _ j _ _ q1
  have z_c := fun j => cell_of_row W1 _ j _ _ _ q1
  go_wp2_with fail
  clear a_c z_f z_c
  have qx := set6a (.int .i64 0) (.int .i64 0) (.int .i64 0) (.int .i64 0) (.int .i64 0) (.int .i64 0) q1
  have hB2 := below6 (g := w.heap.size + 1) (v0 := .int .i64 0) (v1 := .int .i64 0) (v2 := .int .i64 0) (v3 := .int .i64 0) (v4 := .int .i64 0) (v5 := .int .i64 0) hB (by omega)
  generalize (World.setCell _ _ _ : World) = X at qx hB2 ⊢
  have x_c := fun j => cell_of_row X _ j _ _ _ qx
  exact bodyPost_ret (v := .tuple #[.agg #[.int .i64 0, .int .i64 0, .int .i64 0, .int .i64 0, .int .i64 0, .int .i64 0], .bool false]) (by simp [results, Try.results23, go_sem, x_c]) rfl ⟨rfl, hB2⟩
set_option maxRecDepth 20000 in
set_option maxHeartbeats 2000000 in
theorem ssheetat_no1 (m0 m1 m2 m3 m4 m5 : Int) (l : List H11) (st : List S11) (k : Int) (g1 c1 g2 c2 : Nat) (hl : l.length ≤ 1048576) (hst : st.length ≤ 1048576) (hq : okP (m0, m1, m2, m3, m4, m5) l st = true) (hk : k < 0 ∨ (st.length : Int) < k) (w : World) (h1 : w.rangeAt g1 0 (hv11 l)) (h2 : w.rangeAt g2 0 (sv11 st)) : Calls Try.prog 23 #[.agg #[.int .i64 m0, .int .i64 m1, .int .i64 m2, .int .i64 m3, .int .i64 m4, .int .i64 m5, .slice (some ⟨g1, 0, none⟩) l.length c1, .slice (some ⟨g2, 0, none⟩) st.length c2], .int .i64 k] w fun e w' => e = .returned (.tuple #[.agg #[.int .i64 0, .int .i64 0, .int .i64 0, .int .i64 0, .int .i64 0, .int .i64 0], .bool false]) ∧ Below w.heap.size w w' := by
  have HP := Lib.hid (fun W a b => lplan_11 m0 m1 m2 m3 m4 m5 l st g1 c1 g2 c2 hl hst W a b)
  rw [hq] at HP
  have R1 := Lib.hid h1
  have R2 := Lib.hid h2
  clear h1 h2 hq
  have HI := Lib.hid (l1in_any k 0 (st.length : Int))
  have ei : (decide ((0 : Int) ≤ k) && decide (k ≤ (st.length : Int))) = false := by
    rcases hk with h | h
    · rw [decide_eq_false (by omega)]; rfl
    · rw [decide_eq_false (p := k ≤ _) (by omega), Bool.and_false]
  rw [ei] at HI
  clear ei
  go_enter Try.func23, Try.ntmps23
  go_wp2_with fail
  generalize hW : (World.alloc _ _ : World) = W0
  have q0 : W0.heap[w.heap.size]? = some (Obj.cells #[.int .i64 m0, .int .i64 m1, .int .i64 m2, .int .i64 m3, .int .i64 m4, .int .i64 m5, .slice (some ⟨g1, 0, none⟩) l.length c1, .slice (some ⟨g2, 0, none⟩) st.length c2] 35 (0, 0)) := by rw [← hW]; exact alloc_past (alloc_at rfl)
  have q1 : W0.heap[w.heap.size + 1]? = some oz := by rw [← hW]; exact alloc_at (by simp)
  have hB : Below w.heap.size w W0 := by rw [← hW]; (repeat (first | exact Below.refl _ _ | assumption | refine Below.setCell ?_ (by first | (simp; done) | (simp; omega)) _ | refine Below.alloc ?_ (by first | (simp; done) | (simp; omega)) _ | refine Below.drew ?_))
  clear hW
  refine (HP.out _ (ra_below R1.out hB rfl) (ra_below R2.out hB rfl)).mono ?_
  rintro e W1 ⟨rfl, hb⟩
  replace q0 := rowk q0 hb rfl
  replace q1 := rowk q1 hb rfl
  replace hB := below_of hB hb (by have := hB.size; omega)
  clear hb HP
  have a_c := fun j => cell_of_row W1 _ j _ _ _ q0
  have z_f := fun j => frozen_of_row W1 _ j _ _ q1
  have z_c := fun j => cell_of_row W1 _ j _ _ _ q1
  go_wp2_with fail
  refine (HI.out _).mono ?_
  rintro e W2 ⟨rfl, hb⟩
  obtain rfl := hb.symm
  clear HI
  go_wp2_with fail
  clear a_c z_f z_c
  have qx := set6a (.int .i64 0) (.int .i64 0) (.int .i64 0) (.int .i64 0) (.int .i64 0) (.int .i64 0) q1
  have hB2 := below6 (g := w.heap.size + 1) (v0 := .int .i64 0) (v1 := .int .i64 0) (v2 := .int .i64 0) (v3 := .int .i64 0) (v4 := .int .i64 0) (v5 := .int .i64 0) hB (by omega)
  generalize (World.setCell _ _ _ : World) = X at qx hB2 ⊢
  have x_c := fun j => cell_of_row X _ j _ _ _ qx
  exact bodyPost_ret (v := .tuple #[.agg #[.int .i64 0, .int .i64 0, .int .i64 0, .int .i64 0, .int .i64 0, .int .i64 0], .bool false]) (by simp [results, Try.results23, go_sem, x_c]) rfl ⟨rfl, hB2⟩
set_option maxRecDepth 20000 in
set_option maxHeartbeats 2000000 in
theorem iendof_any (m0 m1 m2 m3 m4 m5 : Int) (r0 r1 r2 r3 r4 r5 : Int) (t : Bool) (l : List H11) (st : List S11) (g1 c1 g2 c2 : Nat) (HX : Hid (∀ W : World, W.rangeAt g1 0 (hv11 l) → W.rangeAt g2 0 (sv11 st) → Calls Try.prog 24 #[.agg #[.int .i64 m0, .int .i64 m1, .int .i64 m2, .int .i64 m3, .int .i64 m4, .int .i64 m5, .slice (some ⟨g1, 0, none⟩) l.length c1, .slice (some ⟨g2, 0, none⟩) st.length c2], .int .i64 (st.length : Int)] W fun e w' => e = .returned (.tuple #[.agg #[.int .i64 r0, .int .i64 r1, .int .i64 r2, .int .i64 r3, .int .i64 r4, .int .i64 r5], .bool t]) ∧ Below W.heap.size W w')) (w : World) (h1 : w.rangeAt g1 0 (hv11 l)) (h2 : w.rangeAt g2 0 (sv11 st)) : Calls Try.prog 27 #[.agg #[.int .i64 m0, .int .i64 m1, .int .i64 m2, .int .i64 m3, .int .i64 m4, .int .i64 m5, .slice (some ⟨g1, 0, none⟩) l.length c1, .slice (some ⟨g2, 0, none⟩) st.length c2]] w fun e w' => e = .returned (.tuple #[.agg #[.int .i64 r0, .int .i64 r1, .int .i64 r2, .int .i64 r3, .int .i64 r4, .int .i64 r5], .bool t]) ∧ Below w.heap.size w w' := by
  have R1 := Lib.hid h1
  have R2 := Lib.hid h2
  clear h1 h2
  go_enter Try.func27, Try.ntmps27
  go_wp2_with fail
  generalize hW : (World.alloc _ _ : World) = W0
  have q1 : W0.heap[w.heap.size + 1]? = some oz := by rw [← hW]; exact alloc_at (by simp)
  have hB : Below w.heap.size w W0 := by rw [← hW]; (repeat (first | exact Below.refl _ _ | assumption | refine Below.setCell ?_ (by first | (simp; done) | (simp; omega)) _ | refine Below.alloc ?_ (by first | (simp; done) | (simp; omega)) _ | refine Below.drew ?_))
  clear hW
  refine (HX.out _ (ra_below R1.out hB rfl) (ra_below R2.out hB rfl)).mono ?_
  rintro e W1 ⟨rfl, hb⟩
  replace q1 := rowk q1 hb rfl
  replace hB := below_of hB hb (by have := hB.size; omega)
  clear hb HX
  have z_f := fun j => frozen_of_row W1 _ j _ _ q1
  have z_c := fun j => cell_of_row W1 _ j _ _ _ q1
  go_wp2_with fail
  clear z_f z_c
  have qx := set6a (.int .i64 r0) (.int .i64 r1) (.int .i64 r2) (.int .i64 r3) (.int .i64 r4) (.int .i64 r5) q1
  have hB2 := below6 (g := w.heap.size + 1) (v0 := .int .i64 r0) (v1 := .int .i64 r1) (v2 := .int .i64 r2) (v3 := .int .i64 r3) (v4 := .int .i64 r4) (v5 := .int .i64 r5) hB (by omega)
  generalize (World.setCell _ _ _ : World) = X at qx hB2 ⊢
  have x_c := fun j => cell_of_row X _ j _ _ _ qx
  exact bodyPost_ret (v := .tuple #[.agg #[.int .i64 r0, .int .i64 r1, .int .i64 r2, .int .i64 r3, .int .i64 r4, .int .i64 r5], .bool t]) (by simp [results, Try.results27, go_sem, x_c]) rfl ⟨rfl, hB2⟩
set_option maxRecDepth 20000 in
set_option maxHeartbeats 2000000 in
theorem sendof_yes (f : Fn11) (F : List Fn11) (st : List S11) (g1 c1 g2 c2 : Nat) (hst : st.length ≤ 40) (hF : F.length ≤ 4) (hv : ∀ p ∈ st, okS F.length p = true) (w : World) (h1 : w.rangeAt g1 0 (hv11 (F.map t11))) (h2 : w.rangeAt g2 0 (sv11 st)) : Calls Try.prog 26 #[.agg #[.int .i64 (rowv (f 0)), .int .i64 (rowv (f 1)), .int .i64 (rowv (f 2)), .int .i64 (rowv (f 3)), .int .i64 (rowv (f 4)), .int .i64 (rowv (f 5)), .slice (some ⟨g1, 0, none⟩) F.length c1, .slice (some ⟨g2, 0, none⟩) st.length c2]] w fun e w' => e = .returned (.tuple #[.agg #[.int .i64 (rowv (at11 F st f st.length 0)), .int .i64 (rowv (at11 F st f st.length 1)), .int .i64 (rowv (at11 F st f st.length 2)), .int .i64 (rowv (at11 F st f st.length 3)), .int .i64 (rowv (at11 F st f st.length 4)), .int .i64 (rowv (at11 F st f st.length 5))], .bool true]) ∧ Below w.heap.size w w' := by
  have hn4 : (F.map t11).length = F.length := List.length_map t11
  have HP := Lib.hid (fun W a b => lplan_11 (rowv (f 0)) (rowv (f 1)) (rowv (f 2)) (rowv (f 3)) (rowv (f 4)) (rowv (f 5)) (F.map t11) st g1 c1 g2 c2 (by rw [hn4]; omega) (by omega) W a b)
  rw [ok_parts11 (f := f) hF hst hv, hn4] at HP
  have R1 := Lib.hid h1
  have R2 := Lib.hid h2
  have HX := Lib.hid (fun W a b => lat_11 (rowv (f 0)) (rowv (f 1)) (rowv (f 2)) (rowv (f 3)) (rowv (f 4)) (rowv (f 5)) f F st g1 c1 g2 c2 st.length (Nat.le_refl _) hst hF hv W a b)
  clear h1 h2 hn4
  go_enter Try.func26, Try.ntmps26
  go_wp2_with fail
  generalize hW : (World.alloc _ _ : World) = W0
  have q0 : W0.heap[w.heap.size]? = some (Obj.cells #[.int .i64 (rowv (f 0)), .int .i64 (rowv (f 1)), .int .i64 (rowv (f 2)), .int .i64 (rowv (f 3)), .int .i64 (rowv (f 4)), .int .i64 (rowv (f 5)), .slice (some ⟨g1, 0, none⟩) F.length c1, .slice (some ⟨g2, 0, none⟩) st.length c2] 35 (0, 0)) := by rw [← hW]; exact alloc_past (alloc_at rfl)
  have q1 : W0.heap[w.heap.size + 1]? = some oz := by rw [← hW]; exact alloc_at (by simp)
  have hB : Below w.heap.size w W0 := by rw [← hW]; (repeat (first | exact Below.refl _ _ | assumption | refine Below.setCell ?_ (by first | (simp; done) | (simp; omega)) _ | refine Below.alloc ?_ (by first | (simp; done) | (simp; omega)) _ | refine Below.drew ?_))
  clear hW
  refine (HP.out _ (ra_below R1.out hB rfl) (ra_below R2.out hB rfl)).mono ?_
  rintro e W1 ⟨rfl, hb⟩
  replace q0 := rowk q0 hb rfl
  replace q1 := rowk q1 hb rfl
  replace hB := below_of hB hb (by have := hB.size; omega)
  clear hb HP
  have a_c := fun j => cell_of_row W1 _ j _ _ _ q0
  go_wp2_with fail
  refine (HX.out _ (ra_below R1.out hB rfl) (ra_below R2.out hB rfl)).mono ?_
  rintro e W3 ⟨rfl, hb⟩
  replace q1 := rowk q1 hb rfl
  replace hB := below_of hB hb (by have := hB.size; omega)
  obtain ⟨G, hG⟩ : ∃ G, G = at11 F st f st.length := ⟨_, rfl⟩
  rw [← hG]
  have HGG := Lib.hid hG
  clear hG
  clear hb HX a_c q0
  have z_f := fun j => frozen_of_row W3 _ j _ _ q1
  have z_c := fun j => cell_of_row W3 _ j _ _ _ q1
  go_wp2_with fail
  clear z_f z_c
  have qx := set6a (.int .i64 (rowv (G 0))) (.int .i64 (rowv (G 1))) (.int .i64 (rowv (G 2))) (.int .i64 (rowv (G 3))) (.int .i64 (rowv (G 4))) (.int .i64 (rowv (G 5))) q1
  have hB2 := below6 (g := w.heap.size + 1) (v0 := .int .i64 (rowv (G 0))) (v1 := .int .i64 (rowv (G 1))) (v2 := .int .i64 (rowv (G 2))) (v3 := .int .i64 (rowv (G 3))) (v4 := .int .i64 (rowv (G 4))) (v5 := .int .i64 (rowv (G 5))) hB (by omega)
  generalize (World.setCell _ _ _ : World) = X at qx hB2 ⊢
  have x_c := fun j => cell_of_row X _ j _ _ _ qx
  exact bodyPost_ret (v := .tuple #[.agg #[.int .i64 (rowv (G 0)), .int .i64 (rowv (G 1)), .int .i64 (rowv (G 2)), .int .i64 (rowv (G 3)), .int .i64 (rowv (G 4)), .int .i64 (rowv (G 5))], .bool true]) (by simp [results, Try.results26, go_sem, x_c]) rfl ⟨by rw [HGG.out], hB2⟩
set_option maxRecDepth 20000 in
set_option maxHeartbeats 2000000 in
theorem sendof_no (m0 m1 m2 m3 m4 m5 : Int) (l : List H11) (st : List S11) (g1 c1 g2 c2 : Nat) (hl : l.length ≤ 1048576) (hst : st.length ≤ 1048576) (hq : okP (m0, m1, m2, m3, m4, m5) l st = false) (w : World) (h1 : w.rangeAt g1 0 (hv11 l)) (h2 : w.rangeAt g2 0 (sv11 st)) : Calls Try.prog 26 #[.agg #[.int .i64 m0, .int .i64 m1, .int .i64 m2, .int .i64 m3, .int .i64 m4, .int .i64 m5, .slice (some ⟨g1, 0, none⟩) l.length c1, .slice (some ⟨g2, 0, none⟩) st.length c2]] w fun e w' => e = .returned (.tuple #[.agg #[.int .i64 0, .int .i64 0, .int .i64 0, .int .i64 0, .int .i64 0, .int .i64 0], .bool false]) ∧ Below w.heap.size w w' := by
  have HP := Lib.hid (fun W a b => lplan_11 m0 m1 m2 m3 m4 m5 l st g1 c1 g2 c2 hl hst W a b)
  rw [hq] at HP
  have R1 := Lib.hid h1
  have R2 := Lib.hid h2
  clear h1 h2 hq
  go_enter Try.func26, Try.ntmps26
  go_wp2_with fail
  generalize hW : (World.alloc _ _ : World) = W0
  have q0 : W0.heap[w.heap.size]? = some (Obj.cells #[.int .i64 m0, .int .i64 m1, .int .i64 m2, .int .i64 m3, .int .i64 m4, .int .i64 m5, .slice (some ⟨g1, 0, none⟩) l.length c1, .slice (some ⟨g2, 0, none⟩) st.length c2] 35 (0, 0)) := by rw [← hW]; exact alloc_past (alloc_at rfl)
  have q1 : W0.heap[w.heap.size + 1]? = some oz := by rw [← hW]; exact alloc_at (by simp)
  have hB : Below w.heap.size w W0 := by rw [← hW]; (repeat (first | exact Below.refl _ _ | assumption | refine Below.setCell ?_ (by first | (simp; done) | (simp; omega)) _ | refine Below.alloc ?_ (by first | (simp; done) | (simp; omega)) _ | refine Below.drew ?_))
  clear hW
  refine (HP.out _ (ra_below R1.out hB rfl) (ra_below R2.out hB rfl)).mono ?_
  rintro e W1 ⟨rfl, hb⟩
  replace q0 := rowk q0 hb rfl
  replace q1 := rowk q1 hb rfl
  replace hB := below_of hB hb (by have := hB.size; omega)
  clear hb HP
  have a_c := fun j => cell_of_row W1 _ j _ _ _ q0
  have z_f := fun j => frozen_of_row W1 _ j _ _ q1
  have z_c := fun j => cell_of_row W1 _ j _ _ _ q1
  go_wp2_with fail
  clear a_c z_f z_c
  have qx := set6a (.int .i64 0) (.int .i64 0) (.int .i64 0) (.int .i64 0) (.int .i64 0) (.int .i64 0) q1
  have hB2 := below6 (g := w.heap.size + 1) (v0 := .int .i64 0) (v1 := .int .i64 0) (v2 := .int .i64 0) (v3 := .int .i64 0) (v4 := .int .i64 0) (v5 := .int .i64 0) hB (by omega)
  generalize (World.setCell _ _ _ : World) = X at qx hB2 ⊢
  have x_c := fun j => cell_of_row X _ j _ _ _ qx
  exact bodyPost_ret (v := .tuple #[.agg #[.int .i64 0, .int .i64 0, .int .i64 0, .int .i64 0, .int .i64 0, .int .i64 0], .bool false]) (by simp [results, Try.results26, go_sem, x_c]) rfl ⟨rfl, hB2⟩
theorem sheetat_pair (m0 m1 m2 m3 m4 m5 : Int) (l : List H11) (st : List S11) (k : Int) (hl : l.length ≤ 1048576) (hst : st.length ≤ 1048576) (hwf : ∀ p ∈ st, (Lit.int .i64 p.x).wf = true ∧ (Lit.int .i64 p.y).wf = true) : ∃ (r0 r1 r2 r3 r4 r5 : Int) (t : Bool), (∀ (g1 c1 g2 c2 : Nat) (W : World), W.rangeAt g1 0 (hv11 l) → W.rangeAt g2 0 (sv11 st) → Calls Try.prog 23 #[.agg #[.int .i64 m0, .int .i64 m1, .int .i64 m2, .int .i64 m3, .int .i64 m4, .int .i64 m5, .slice (some ⟨g1, 0, none⟩) l.length c1, .slice (some ⟨g2, 0, none⟩) st.length c2], .int .i64 k] W fun e w' => e = .returned (.tuple #[.agg #[.int .i64 r0, .int .i64 r1, .int .i64 r2, .int .i64 r3, .int .i64 r4, .int .i64 r5], .bool t]) ∧ Below W.heap.size W w') ∧ (∀ (g1 c1 g2 c2 : Nat) (W : World), W.rangeAt g1 0 (hv11 l) → W.rangeAt g2 0 (sv11 st) → Calls Try.prog 24 #[.agg #[.int .i64 m0, .int .i64 m1, .int .i64 m2, .int .i64 m3, .int .i64 m4, .int .i64 m5, .slice (some ⟨g1, 0, none⟩) l.length c1, .slice (some ⟨g2, 0, none⟩) st.length c2], .int .i64 k] W fun e w' => e = .returned (.tuple #[.agg #[.int .i64 r0, .int .i64 r1, .int .i64 r2, .int .i64 r3, .int .i64 r4, .int .i64 r5], .bool t]) ∧ Below W.heap.size W w') := by
  cases hq : okP (m0, m1, m2, m3, m4, m5) l st
  · exact ⟨0, 0, 0, 0, 0, 0, false, fun g1 c1 g2 c2 W a b => ssheetat_no0 m0 m1 m2 m3 m4 m5 l st k g1 c1 g2 c2 hl hst hq W a b, fun g1 c1 g2 c2 W a b => isheetat_no0 m0 m1 m2 m3 m4 m5 l st k g1 c1 g2 c2 hl hst hwf hq W a b⟩
  · by_cases hk : k < 0 ∨ (st.length : Int) < k
    · exact ⟨0, 0, 0, 0, 0, 0, false, fun g1 c1 g2 c2 W a b => ssheetat_no1 m0 m1 m2 m3 m4 m5 l st k g1 c1 g2 c2 hl hst hq hk W a b, fun g1 c1 g2 c2 W a b => isheetat_no1 m0 m1 m2 m3 m4 m5 l st k g1 c1 g2 c2 hl hst hwf hq hk W a b⟩
    · obtain ⟨f, F, e1, rfl, h2, h3, h5⟩ := okP_get hq
      simp only [t11, Prod.mk.injEq] at e1
      obtain ⟨rfl, rfl, rfl, rfl, rfl, rfl⟩ := e1
      obtain ⟨n, rfl⟩ : ∃ n : Nat, k = n := ⟨k.toNat, by omega⟩
      have hm : (F.map t11).length = F.length := List.length_map t11
      rw [hm]
      exact ⟨_, _, _, _, _, _, true, fun g1 c1 g2 c2 W a b => ssheetat_yes f F st n g1 c1 g2 c2 (by omega) h3 h2 h5 W a b, fun g1 c1 g2 c2 W a b => isheetat_yes f F st n g1 c1 g2 c2 (by omega) h3 h2 h5 W a b⟩
theorem endof_pair (m0 m1 m2 m3 m4 m5 : Int) (l : List H11) (st : List S11) (hl : l.length ≤ 1048576) (hst : st.length ≤ 1048576) (hwf : ∀ p ∈ st, (Lit.int .i64 p.x).wf = true ∧ (Lit.int .i64 p.y).wf = true) : ∃ (r0 r1 r2 r3 r4 r5 : Int) (t : Bool), (∀ (g1 c1 g2 c2 : Nat) (W : World), W.rangeAt g1 0 (hv11 l) → W.rangeAt g2 0 (sv11 st) → Calls Try.prog 26 #[.agg #[.int .i64 m0, .int .i64 m1, .int .i64 m2, .int .i64 m3, .int .i64 m4, .int .i64 m5, .slice (some ⟨g1, 0, none⟩) l.length c1, .slice (some ⟨g2, 0, none⟩) st.length c2]] W fun e w' => e = .returned (.tuple #[.agg #[.int .i64 r0, .int .i64 r1, .int .i64 r2, .int .i64 r3, .int .i64 r4, .int .i64 r5], .bool t]) ∧ Below W.heap.size W w') ∧ (∀ (g1 c1 g2 c2 : Nat) (W : World), W.rangeAt g1 0 (hv11 l) → W.rangeAt g2 0 (sv11 st) → Calls Try.prog 27 #[.agg #[.int .i64 m0, .int .i64 m1, .int .i64 m2, .int .i64 m3, .int .i64 m4, .int .i64 m5, .slice (some ⟨g1, 0, none⟩) l.length c1, .slice (some ⟨g2, 0, none⟩) st.length c2]] W fun e w' => e = .returned (.tuple #[.agg #[.int .i64 r0, .int .i64 r1, .int .i64 r2, .int .i64 r3, .int .i64 r4, .int .i64 r5], .bool t]) ∧ Below W.heap.size W w') := by
  cases hq : okP (m0, m1, m2, m3, m4, m5) l st
  · exact ⟨0, 0, 0, 0, 0, 0, false, fun g1 c1 g2 c2 W a b => sendof_no m0 m1 m2 m3 m4 m5 l st g1 c1 g2 c2 hl hst hq W a b, fun g1 c1 g2 c2 W a b => iendof_any m0 m1 m2 m3 m4 m5 0 0 0 0 0 0 false l st g1 c1 g2 c2 (Lib.hid fun W a b => isheetat_no0 m0 m1 m2 m3 m4 m5 l st _ g1 c1 g2 c2 hl hst hwf hq W a b) W a b⟩
  · obtain ⟨f, F, e1, rfl, h2, h3, h5⟩ := okP_get hq
    simp only [t11, Prod.mk.injEq] at e1
    obtain ⟨rfl, rfl, rfl, rfl, rfl, rfl⟩ := e1
    have hm : (F.map t11).length = F.length := List.length_map t11
    refine ⟨rowv (at11 F st f st.length 0), rowv (at11 F st f st.length 1), rowv (at11 F st f st.length 2), rowv (at11 F st f st.length 3), rowv (at11 F st f st.length 4), rowv (at11 F st f st.length 5), true, fun g1 c1 g2 c2 W a b => ?_, fun g1 c1 g2 c2 W a b => iendof_any (rowv (f 0)) (rowv (f 1)) (rowv (f 2)) (rowv (f 3)) (rowv (f 4)) (rowv (f 5)) (rowv (at11 F st f st.length 0)) (rowv (at11 F st f st.length 1)) (rowv (at11 F st f st.length 2)) (rowv (at11 F st f st.length 3)) (rowv (at11 F st f st.length 4)) (rowv (at11 F st f st.length 5)) true (F.map t11) st g1 c1 g2 c2 (Lib.hid fun W a b => ?_) W a b⟩
    · rw [hm]; exact sendof_yes f F st g1 c1 g2 c2 h3 h2 h5 W a b
    · rw [hm]; exact isheetat_yes f F st st.length g1 c1 g2 c2 (Nat.le_refl _) h3 h2 h5 W a b
end Go.Proofs.Ytkbpfdmmjpmbmaa
