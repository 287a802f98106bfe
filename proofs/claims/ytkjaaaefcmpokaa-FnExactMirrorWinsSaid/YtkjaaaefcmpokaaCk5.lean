/- CONTRACTS: the code's reflection, and its steps: spreading and shrinking, closures over a stamp. -/
import Derived.Test.YtkjaaaefcmpokaaRw5
import Derived.WalkKit
import Derived.ProofKit
import Derived.OpenShut
import Derived.Lib.Hide
import Derived.WalkSpells
import Derived.Below
import Derived.BigQuiet
import Derived.LoopN
namespace Go.Proofs.Ytkjaaaefcmpokaa
open Go.ChangeShapes Go.WideShapes Go.ChangeAt Go.RowKit
set_option linter.unusedVariables false
theorem reflected_f (p : Fn6) (w : World) : Calls Try.prog 271 #[.agg #[.int .i64 (rowv (p 0)), .int .i64 (rowv (p 1)), .int .i64 (rowv (p 2)), .int .i64 (rowv (p 3)), .int .i64 (rowv (p 4)), .int .i64 (rowv (p 5))]] w fun e w' => e = .returned (.agg #[.int .i64 (rowv (rf p 0)), .int .i64 (rowv (rf p 1)), .int .i64 (rowv (rf p 2)), .int .i64 (rowv (rf p 3)), .int .i64 (rowv (rf p 4)), .int .i64 (rowv (rf p 5))]) ∧ Below w.heap.size w w' := by
  have HM : Hid (∀ w, Calls Try.prog 236 #[.agg #[.int .i64 (rowv (p 0)), .int .i64 (rowv (p 1)), .int .i64 (rowv (p 2)), .int .i64 (rowv (p 3)), .int .i64 (rowv (p 4)), .int .i64 (rowv (p 5))], .agg #[.int .i64 2, .int .i64 1, .int .i64 1]] w fun e w' => e = .returned (.agg #[.int .i64 (rowv (rf p 0)), .int .i64 (rowv (rf p 1)), .int .i64 (rowv (rf p 2)), .int .i64 (rowv (rf p 3)), .int .i64 (rowv (rf p 4)), .int .i64 (rowv (rf p 5))]) ∧ Below w.heap.size w w') := Lib.hid (fun w => by
    have h := moved_f p (k := 2) (x := 1) (y := 1) (by decide) (by decide) (by decide) w
    rw [rf_move p (show 0 < 6 by decide), rf_move p (show 1 < 6 by decide), rf_move p (show 2 < 6 by decide), rf_move p (show 3 < 6 by decide), rf_move p (show 4 < 6 by decide), rf_move p (show 5 < 6 by decide)] at h
    exact h)
  go_enter Try.func271, Try.ntmps271
  go_wp2_with fail
  generalize hW : (World.alloc _ _ : World) = W0
  have hB0 : Below w.heap.size w W0 := by rw [← hW]; (repeat (first | exact Below.refl _ _ | assumption | refine Below.setCell ?_ (by first | (simp; done) | (simp; omega)) _ | refine Below.alloc ?_ (by first | (simp; done) | (simp; omega)) _ | refine Below.drew ?_))
  have q0 : W0.heap[(w.heap.size : Nat)]? = some (o6 p) := by
    rw [← hW]
    repeat (first | (refine alloc_at ?_; first | (simp; done) | (simp; omega)) | refine drew_row ?_ | refine alloc_past ?_ | assumption)
  have q1 : W0.heap[(w.heap.size + 1 : Nat)]? = some (oz) := by
    rw [← hW]
    repeat (first | (refine alloc_at ?_; first | (simp; done) | (simp; omega)) | refine drew_row ?_ | refine alloc_past ?_ | assumption)
  have hk : KR 1 [(w.heap.size, o6 p)] w W0 := ⟨by simp [q0], by rw [← hW]; simp, hB0⟩
  have hq := q1
  clear hW hB0 q0 q1
  refine (HM.out _).mono ?_
  rintro e W1 ⟨rfl, hb⟩
  have hk1 := hk.far hb rfl
  have hq1 := rowk hq hb rfl
  have z_c := fun j => cell_of_row _ _ j _ _ _ hq1
  have z_f := fun j => frozen_of_row _ _ j _ _ hq1
  clear hb hk hq
  go_wp2_with fail
  refine bodyPost_ret (v := .agg #[.int .i64 (rowv (rf p 0)), .int .i64 (rowv (rf p 1)), .int .i64 (rowv (rf p 2)), .int .i64 (rowv (rf p 3)), .int .i64 (rowv (rf p 4)), .int .i64 (rowv (rf p 5))]) (by simp [results, Try.results271, go_sem, z_c]) rfl ⟨rfl, ?_⟩
  exact below6 hk1.2.2 (by omega)
/-- A closure over a stamp. -/
theorem spreading_f (p : Fn6) (w : World) : Calls Try.prog 308 #[.agg #[.int .i64 (rowv (p 0)), .int .i64 (rowv (p 1)), .int .i64 (rowv (p 2)), .int .i64 (rowv (p 3)), .int .i64 (rowv (p 4)), .int .i64 (rowv (p 5))]] w fun e w' => ∃ g, e = .returned (.func (.func 327) #[] #[.pointer (some ⟨g, 0, none⟩)]) ∧ w'.heap[g]? = some (o6 p) ∧ Below w.heap.size w w' := by
  have hmf : ∀ (fn : Fn) (first cap : Array Value) (w : World), (Instr.makeFunc fn first cap).run Try.prog w = .ok (.func fn first cap) w := fun _ _ _ _ => rfl
  go_enter Try.func308, Try.ntmps308
  go_wp2_with fail
  go_ret
  exact ⟨_, rfl, alloc_at rfl, by (repeat (first | exact Below.refl _ _ | assumption | refine Below.setCell ?_ (by first | (simp; done) | (simp; omega)) _ | refine Below.alloc ?_ (by first | (simp; done) | (simp; omega)) _ | refine Below.drew ?_))⟩
theorem shrinking_f (p : Fn6) (w : World) : Calls Try.prog 190 #[.agg #[.int .i64 (rowv (p 0)), .int .i64 (rowv (p 1)), .int .i64 (rowv (p 2)), .int .i64 (rowv (p 3)), .int .i64 (rowv (p 4)), .int .i64 (rowv (p 5))]] w fun e w' => ∃ g, e = .returned (.func (.func 272) #[] #[.pointer (some ⟨g, 0, none⟩)]) ∧ w'.heap[g]? = some (o6 (rf p)) ∧ Below w.heap.size w w' := by
  have hmf : ∀ (fn : Fn) (first cap : Array Value) (w : World), (Instr.makeFunc fn first cap).run Try.prog w = .ok (.func fn first cap) w := fun _ _ _ _ => rfl
  have HR := Lib.hid (reflected_f p)
  go_enter Try.func190, Try.ntmps190
  go_wp2_with fail
  refine (HR.out _).mono ?_
  rintro e W1 ⟨rfl, hb⟩
  have hB : Below w.heap.size w W1 := below_of (by (repeat (first | exact Below.refl _ _ | assumption | refine Below.setCell ?_ (by first | (simp; done) | (simp; omega)) _ | refine Below.alloc ?_ (by first | (simp; done) | (simp; omega)) _ | refine Below.drew ?_))) hb (by simp)
  clear hb
  go_wp2_with fail
  go_ret
  exact ⟨_, rfl, alloc_at rfl, hB.alloc hB.size _⟩
set_option maxHeartbeats 4000000 in
theorem spread1_f (s q : Fn6) (gp : Nat) (w : World) (hp : w.heap[gp]? = some (o6 q)) : Calls Try.prog 327 #[.agg #[.int .i64 (rowv (s 0)), .int .i64 (rowv (s 1)), .int .i64 (rowv (s 2)), .int .i64 (rowv (s 3)), .int .i64 (rowv (s 4)), .int .i64 (rowv (s 5))], .pointer (some ⟨gp, 0, none⟩)] w fun e w' => e = .returned (.agg #[.int .i64 (rowv (((bl q 36).map (fun c => sf c.1 c.2 s)).foldl jf zf 0)), .int .i64 (rowv (((bl q 36).map (fun c => sf c.1 c.2 s)).foldl jf zf 1)), .int .i64 (rowv (((bl q 36).map (fun c => sf c.1 c.2 s)).foldl jf zf 2)), .int .i64 (rowv (((bl q 36).map (fun c => sf c.1 c.2 s)).foldl jf zf 3)), .int .i64 (rowv (((bl q 36).map (fun c => sf c.1 c.2 s)).foldl jf zf 4)), .int .i64 (rowv (((bl q 36).map (fun c => sf c.1 c.2 s)).foldl jf zf 5))]) ∧ Below w.heap.size w w' := by
  have hmf : ∀ (fn : Fn) (first cap : Array Value) (w : World), (Instr.makeFunc fn first cap).run Try.prog w = .ok (.func fn first cap) w := fun _ _ _ _ => rfl
  have hgl := row_lt hp
  have hgl1 := Nat.lt_succ_of_lt hgl
  have hgl2 := Nat.lt_succ_of_lt hgl1
  have hgl3 := Nat.lt_succ_of_lt hgl2
  have hn0 := Nat.ne_of_lt hgl
  have hn1 := Nat.ne_of_lt hgl1
  have hn2 := Nat.ne_of_lt hgl2
  have p_c := fun j => cell_of_row w _ j _ _ _ hp
  go_enter Try.func327, Try.ntmps327
  go_wp2_with fail
  generalize hW : (World.alloc _ _ : World) = W0
  have q0 : W0.heap[(w.heap.size : Nat)]? = some (o6 s) := by
    rw [← hW]
    repeat (first | (refine alloc_at ?_; first | (simp; done) | (simp; omega)) | refine drew_row ?_ | refine alloc_past ?_ | assumption)
  have q1 : W0.heap[(w.heap.size + 1 : Nat)]? = some oz := by
    rw [← hW]
    repeat (first | (refine alloc_at ?_; first | (simp; done) | (simp; omega)) | refine drew_row ?_ | refine alloc_past ?_ | assumption)
  have q2 : W0.heap[(w.heap.size + 2 : Nat)]? = some (o6 zf) := by
    rw [← hW]
    repeat (first | (refine alloc_at ?_; first | (simp; done) | (simp; omega)) | refine drew_row ?_ | refine alloc_past ?_ | assumption)
  have K0 : KR 2 [(w.heap.size, o6 s), (w.heap.size + 1, oz)] w W0 := ⟨by simp [q0, q1], by rw [← hW]; simp, by rw [← hW]; (repeat (first | exact Below.refl _ _ | assumption | refine Below.setCell ?_ (by first | (simp; done) | (simp; omega)) _ | refine Below.alloc ?_ (by first | (simp; done) | (simp; omega)) _ | refine Below.drew ?_))⟩
  clear hW q0 q1 p_c hgl1 hgl2 hgl3 hn0 hn1 hn2
  have hge : w.heap.size + 2 ≤ w.heap.size + 2 := Nat.le_refl _
  refine (shifts_f s q _).mono ?_
  rintro e W2 ⟨l, g, cap, hl, rfl, ho, hb⟩
  have K1 := K0.far hb rfl
  have q3 := rowk q2 hb rfl
  have hgn : g ≠ w.heap.size + 2 := by have h1 := (ho.lt g rfl).1; have h2 := row_lt q2; omega
  have ho0 := own_mono ho (Nat.zero_le _)
  clear hb K0 ho q2
  obtain ⟨L, hL⟩ : ∃ L, L = l.map (fun c => sf c.1 c.2 s) := ⟨_, rfl⟩
  have hLn : l.length = L.length := by rw [hL, List.length_map]
  have hL36 : L.length ≤ 36 := by rw [← hLn, hl]; exact bl_len q 36
  have HL := Lib.hid (show ((bl q 36).map (fun c => sf c.1 c.2 s)).foldl jf zf = fo5 jf L L.length zf by rw [fo5_end, hL, hl])
  rw [← hL, hLn] at ho0
  rw [hLn]
  clear hl hL hLn
  have S0 : Hid (Rw5 w 2 [(w.heap.size, o6 s), (w.heap.size + 1, oz)] L g cap (w.heap.size + 2) (fo5 jf L 0 zf) W2) := Lib.hid ⟨K1, ho0, q3, hge, row_lt q3, hgn⟩
  clear K1 ho0 q3 hge hgn
  go_wp2_with fail
  go_loopw [12] (fun c wr => ∃ i : Nat, i ≤ L.length ∧ c = .int .i64 i ∧ Hid (Rw5 w 2 [(w.heap.size, o6 s), (w.heap.size + 1, oz)] L g cap (w.heap.size + 2) (fo5 jf L i zf) wr)) (fun c _ => L.length - (intOf c).toNat)
  case atStart => exact ⟨0, by omega, rfl, S0⟩
  case round =>
    obtain ⟨i, hi, rfl, HS⟩ := hrel
    by_cases hlt : i < L.length
    · have hlt' : (i : Int) < L.length := by omega
      have hi0 : (0 : Int) ≤ i := by omega
      have hi2 : i ≤ 36 := by omega
      have HE := Lib.hid (fo5_succ jf L zf hlt)
      obtain ⟨a0, a1, a2, a3, a4, a5⟩ := Rw5_s HS.out hlt
      obtain ⟨F, hF⟩ : ∃ F, F = fo5 jf L i zf := ⟨_, rfl⟩
      rw [← hF] at HE HS
      clear hF
      generalize L[i] = c at HE a0 a1 a2 a3 a4 a5
      have HX : Hid (∀ w, Calls Try.prog 156 #[.agg #[.int .i64 (rowv (F 0)), .int .i64 (rowv (F 1)), .int .i64 (rowv (F 2)), .int .i64 (rowv (F 3)), .int .i64 (rowv (F 4)), .int .i64 (rowv (F 5))], .agg #[.int .i64 (rowv (c 0)), .int .i64 (rowv (c 1)), .int .i64 (rowv (c 2)), .int .i64 (rowv (c 3)), .int .i64 (rowv (c 4)), .int .i64 (rowv (c 5))]] w fun e w' => e = .returned (.agg #[.int .i64 (rowv (jf F c 0)), .int .i64 (rowv (jf F c 1)), .int .i64 (rowv (jf F c 2)), .int .i64 (rowv (jf F c 3)), .int .i64 (rowv (jf F c 4)), .int .i64 (rowv (jf F c 5))]) ∧ Below w.heap.size w w') := Lib.hid (fun w => by
        have h := or_any (rowv (F 0)) (rowv (F 1)) (rowv (F 2)) (rowv (F 3)) (rowv (F 4)) (rowv (F 5)) (rowv (c 0)) (rowv (c 1)) (rowv (c 2)) (rowv (c 3)) (rowv (c 4)) (rowv (c 5)) w
        simp only [row_jf] at h
        exact h)
      have d_c := Rw5_c HS.out
      have hg5 := HS.out.2.2.2.2.1
      have hg6 := Nat.lt_succ_of_lt hg5
      have hg7 := Nat.ne_of_lt hg5
      go_wp2_with fail
      refine (HX.out _).mono ?_
      rintro e W3 ⟨rfl, hb⟩
      have HE2 := Lib.hid ((HS.out.below (M := wr.heap.size) ((Below.refl _ _).alloc (Nat.le_refl _) _) rfl).below hb rfl)
      clear hb a0 a1 a2 a3 a4 a5 HS d_c hg5 hg6 hg7
      have b_c := Rw5_c HE2.out
      have b_f := Rw5_f HE2.out
      go_wp2_with fail
      have HI2 := Lib.hid (HE2.out.put (jf F c))
      clear b_c b_f HE2
      go_roundw
      case rel => exact ⟨i + 1, by omega, by go_num, by rw [HE.out]; exact HI2⟩
      case measure => simp [intOf]; omega
    · obtain rfl : i = L.length := by omega
      have d_c := Rw5_c HS.out
      have z_c := fun j => cell_of_row wr _ j _ _ _ (HS.out.1.row (g := w.heap.size + 1) (o := oz) (by simp))
      have z_f := fun j => frozen_of_row wr _ j _ _ (HS.out.1.row (g := w.heap.size + 1) (o := oz) (by simp))
      go_wp2_with fail
      rw [HL.out]
      refine bodyPost_ret (v := .agg #[.int .i64 (rowv (fo5 jf L L.length zf 0)), .int .i64 (rowv (fo5 jf L L.length zf 1)), .int .i64 (rowv (fo5 jf L L.length zf 2)), .int .i64 (rowv (fo5 jf L L.length zf 3)), .int .i64 (rowv (fo5 jf L L.length zf 4)), .int .i64 (rowv (fo5 jf L L.length zf 5))]) (by simp [results, Try.results327, go_sem, z_c]) rfl ⟨rfl, ?_⟩
      exact below6 HS.out.1.2.2 (by omega)
set_option maxHeartbeats 4000000 in
theorem shrink1_f (s q : Fn6) (gp : Nat) (w : World) (hp : w.heap[gp]? = some (o6 q)) : Calls Try.prog 272 #[.agg #[.int .i64 (rowv (s 0)), .int .i64 (rowv (s 1)), .int .i64 (rowv (s 2)), .int .i64 (rowv (s 3)), .int .i64 (rowv (s 4)), .int .i64 (rowv (s 5))], .pointer (some ⟨gp, 0, none⟩)] w fun e w' => e = .returned (.agg #[.int .i64 (rowv (((bl q 36).map (fun c => sf c.1 c.2 s)).foldl af onf 0)), .int .i64 (rowv (((bl q 36).map (fun c => sf c.1 c.2 s)).foldl af onf 1)), .int .i64 (rowv (((bl q 36).map (fun c => sf c.1 c.2 s)).foldl af onf 2)), .int .i64 (rowv (((bl q 36).map (fun c => sf c.1 c.2 s)).foldl af onf 3)), .int .i64 (rowv (((bl q 36).map (fun c => sf c.1 c.2 s)).foldl af onf 4)), .int .i64 (rowv (((bl q 36).map (fun c => sf c.1 c.2 s)).foldl af onf 5))]) ∧ Below w.heap.size w w' := by
  have hmf : ∀ (fn : Fn) (first cap : Array Value) (w : World), (Instr.makeFunc fn first cap).run Try.prog w = .ok (.func fn first cap) w := fun _ _ _ _ => rfl
  have hgl := row_lt hp
  have hgl1 := Nat.lt_succ_of_lt hgl
  have hgl2 := Nat.lt_succ_of_lt hgl1
  have hgl3 := Nat.lt_succ_of_lt hgl2
  have hn0 := Nat.ne_of_lt hgl
  have hn1 := Nat.ne_of_lt hgl1
  have hn2 := Nat.ne_of_lt hgl2
  have p_c := fun j => cell_of_row w _ j _ _ _ hp
  go_enter Try.func272, Try.ntmps272
  go_wp2_with fail
  generalize hW : (World.alloc _ _ : World) = W0
  have q0 : W0.heap[(w.heap.size : Nat)]? = some (o6 s) := by
    rw [← hW]
    repeat (first | (refine alloc_at ?_; first | (simp; done) | (simp; omega)) | refine drew_row ?_ | refine alloc_past ?_ | assumption)
  have q1 : W0.heap[(w.heap.size + 1 : Nat)]? = some oz := by
    rw [← hW]
    repeat (first | (refine alloc_at ?_; first | (simp; done) | (simp; omega)) | refine drew_row ?_ | refine alloc_past ?_ | assumption)
  have hB0 : Below w.heap.size w W0 := by rw [← hW]; (repeat (first | exact Below.refl _ _ | assumption | refine Below.setCell ?_ (by first | (simp; done) | (simp; omega)) _ | refine Below.alloc ?_ (by first | (simp; done) | (simp; omega)) _ | refine Below.drew ?_))
  have qp := rowk hp hB0 rfl
  have K0 : KR 2 [(w.heap.size, o6 s), (w.heap.size + 1, oz)] w W0 := ⟨by simp [q0, q1], by rw [← hW]; simp, hB0⟩
  clear hW hB0 q0 q1 p_c hgl1 hgl2 hgl3 hn0 hn1 hn2
  refine (full_any _).mono ?_
  rintro e W1 ⟨rfl, hb⟩
  have K1 := K0.far hb rfl
  have qp1 := rowk qp hb rfl
  clear hb K0 qp
  have hge : w.heap.size + 2 ≤ W1.heap.size := K1.le
  have m0 := row_lt qp1
  have m1 := Nat.lt_succ_of_lt m0
  have m2 := Nat.ne_of_lt m0
  have m3 : w.heap.size < W1.heap.size := by omega
  have m4 := Nat.lt_succ_of_lt m3
  have m5 := Nat.ne_of_lt m3
  have p_c := fun j => cell_of_row W1 _ j _ _ _ qp1
  have s_c := fun j => cell_of_row W1 _ j _ _ _ (K1.row (g := w.heap.size) (o := o6 s) (by simp))
  go_wp2_with fail
  have K0 := K1.al (o := .cells #[.int .i64 63, .int .i64 63, .int .i64 63, .int .i64 63, .int .i64 63, .int .i64 63] 28)
  have q2 : (W1.alloc (.cells #[.int .i64 63, .int .i64 63, .int .i64 63, .int .i64 63, .int .i64 63, .int .i64 63] 28)).heap[W1.heap.size]? = some (o6 onf) := alloc_at rfl
  clear K1 qp1 p_c s_c m0 m1 m2 m3 m4 m5
  generalize (World.alloc _ _ : World) = W0 at K0 q2 ⊢
  generalize W1.heap.size = gb at q2 hge ⊢
  refine (shifts_f s q _).mono ?_
  rintro e W2 ⟨l, g, cap, hl, rfl, ho, hb⟩
  have K1 := K0.far hb rfl
  have q3 := rowk q2 hb rfl
  have hgn : g ≠ gb := by have h1 := (ho.lt g rfl).1; have h2 := row_lt q2; omega
  have ho0 := own_mono ho (Nat.zero_le _)
  clear hb K0 ho q2
  obtain ⟨L, hL⟩ : ∃ L, L = l.map (fun c => sf c.1 c.2 s) := ⟨_, rfl⟩
  have hLn : l.length = L.length := by rw [hL, List.length_map]
  have hL36 : L.length ≤ 36 := by rw [← hLn, hl]; exact bl_len q 36
  have HL := Lib.hid (show ((bl q 36).map (fun c => sf c.1 c.2 s)).foldl af onf = fo5 af L L.length onf by rw [fo5_end, hL, hl])
  rw [← hL, hLn] at ho0
  rw [hLn]
  clear hl hL hLn
  have S0 : Hid (Rw5 w 2 [(w.heap.size, o6 s), (w.heap.size + 1, oz)] L g cap gb (fo5 af L 0 onf) W2) := Lib.hid ⟨K1, ho0, q3, hge, row_lt q3, hgn⟩
  clear K1 ho0 q3 hge hgn
  go_wp2_with fail
  go_loopw [13] (fun c wr => ∃ i : Nat, i ≤ L.length ∧ c = .int .i64 i ∧ Hid (Rw5 w 2 [(w.heap.size, o6 s), (w.heap.size + 1, oz)] L g cap gb (fo5 af L i onf) wr)) (fun c _ => L.length - (intOf c).toNat)
  case atStart => exact ⟨0, by omega, rfl, S0⟩
  case round =>
    obtain ⟨i, hi, rfl, HS⟩ := hrel
    by_cases hlt : i < L.length
    · have hlt' : (i : Int) < L.length := by omega
      have hi0 : (0 : Int) ≤ i := by omega
      have hi2 : i ≤ 36 := by omega
      have HE := Lib.hid (fo5_succ af L onf hlt)
      obtain ⟨a0, a1, a2, a3, a4, a5⟩ := Rw5_s HS.out hlt
      obtain ⟨F, hF⟩ : ∃ F, F = fo5 af L i onf := ⟨_, rfl⟩
      rw [← hF] at HE HS
      clear hF
      generalize L[i] = c at HE a0 a1 a2 a3 a4 a5
      have HX : Hid (∀ w, Calls Try.prog 170 #[.agg #[.int .i64 (rowv (F 0)), .int .i64 (rowv (F 1)), .int .i64 (rowv (F 2)), .int .i64 (rowv (F 3)), .int .i64 (rowv (F 4)), .int .i64 (rowv (F 5))], .agg #[.int .i64 (rowv (c 0)), .int .i64 (rowv (c 1)), .int .i64 (rowv (c 2)), .int .i64 (rowv (c 3)), .int .i64 (rowv (c 4)), .int .i64 (rowv (c 5))]] w fun e w' => e = .returned (.agg #[.int .i64 (rowv (af F c 0)), .int .i64 (rowv (af F c 1)), .int .i64 (rowv (af F c 2)), .int .i64 (rowv (af F c 3)), .int .i64 (rowv (af F c 4)), .int .i64 (rowv (af F c 5))]) ∧ Below w.heap.size w w') := Lib.hid (fun w => by
        have h := shared_any (rowv (F 0)) (rowv (F 1)) (rowv (F 2)) (rowv (F 3)) (rowv (F 4)) (rowv (F 5)) (rowv (c 0)) (rowv (c 1)) (rowv (c 2)) (rowv (c 3)) (rowv (c 4)) (rowv (c 5)) w
        simp only [row_af] at h
        exact h)
      have d_c := Rw5_c HS.out
      have hg5 := HS.out.2.2.2.2.1
      have hg6 := Nat.lt_succ_of_lt hg5
      have hg7 := Nat.ne_of_lt hg5
      go_wp2_with fail
      refine (HX.out _).mono ?_
      rintro e W3 ⟨rfl, hb⟩
      have HE2 := Lib.hid ((HS.out.below (M := wr.heap.size) ((Below.refl _ _).alloc (Nat.le_refl _) _) rfl).below hb rfl)
      clear hb a0 a1 a2 a3 a4 a5 HS d_c hg5 hg6 hg7
      have b_c := Rw5_c HE2.out
      have b_f := Rw5_f HE2.out
      go_wp2_with fail
      have HI2 := Lib.hid (HE2.out.put (af F c))
      clear b_c b_f HE2
      go_roundw
      case rel => exact ⟨i + 1, by omega, by go_num, by rw [HE.out]; exact HI2⟩
      case measure => simp [intOf]; omega
    · obtain rfl : i = L.length := by omega
      have d_c := Rw5_c HS.out
      have z_c := fun j => cell_of_row wr _ j _ _ _ (HS.out.1.row (g := w.heap.size + 1) (o := oz) (by simp))
      have z_f := fun j => frozen_of_row wr _ j _ _ (HS.out.1.row (g := w.heap.size + 1) (o := oz) (by simp))
      go_wp2_with fail
      rw [HL.out]
      refine bodyPost_ret (v := .agg #[.int .i64 (rowv (fo5 af L L.length onf 0)), .int .i64 (rowv (fo5 af L L.length onf 1)), .int .i64 (rowv (fo5 af L L.length onf 2)), .int .i64 (rowv (fo5 af L L.length onf 3)), .int .i64 (rowv (fo5 af L L.length onf 4)), .int .i64 (rowv (fo5 af L L.length onf 5))]) (by simp [results, Try.results272, go_sem, z_c]) rfl ⟨rfl, ?_⟩
      exact below6 HS.out.1.2.2 (by omega)
end Go.Proofs.Ytkjaaaefcmpokaa
