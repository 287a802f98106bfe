/- CONTRACTS: ShiftsTo of the code. -/
import Derived.Test.YthphkhcppljdlaaP7
import Derived.WalkKit
import Derived.ProofKit
import Derived.OpenShut
import Derived.Lib.Hide
import Derived.WalkSpells
import Derived.Below
import Derived.BigQuiet
import Derived.LoopN
namespace Go.Proofs.Ythphkhcppljdlaa
open Go.ChangeShapes Go.WideShapes Go.ChangeAt Go.RowKit
set_option linter.unusedVariables false
theorem shifted_v (f : Fn6) {x y : Nat} (hx : x < 6) (hy : y < 6) (w : World) : Calls Try.prog 111 #[.agg #[.int .i64 (rowv (f 0)), .int .i64 (rowv (f 1)), .int .i64 (rowv (f 2)), .int .i64 (rowv (f 3)), .int .i64 (rowv (f 4)), .int .i64 (rowv (f 5))], .int .i64 (x : Int), .int .i64 (y : Int)] w fun e w' => e = .returned (.agg #[.int .i64 (rowv (sf x y f 0)), .int .i64 (rowv (sf x y f 1)), .int .i64 (rowv (sf x y f 2)), .int .i64 (rowv (sf x y f 3)), .int .i64 (rowv (sf x y f 4)), .int .i64 (rowv (sf x y f 5))]) ∧ Below w.heap.size w w' := shifted_f f (x : Int) (y : Int) (WalkArith.wf_i64 (by omega)) (WalkArith.wf_i64 (by omega)) hx hy (by omega) (by omega) w
set_option maxHeartbeats 1000000 in
theorem shiftedby_n (f : Fn6) {x y : Nat} (hx : x < 6) (hy : y < 6) (w : World) : Calls Try.prog 168 #[.agg #[.int .i64 (rowv (f 0)), .int .i64 (rowv (f 1)), .int .i64 (rowv (f 2)), .int .i64 (rowv (f 3)), .int .i64 (rowv (f 4)), .int .i64 (rowv (f 5))], .agg #[.int .i64 (x : Int), .int .i64 (y : Int)]] w fun e w' => e = .returned (.agg #[.int .i64 (rowv (sf x y f 0)), .int .i64 (rowv (sf x y f 1)), .int .i64 (rowv (sf x y f 2)), .int .i64 (rowv (sf x y f 3)), .int .i64 (rowv (sf x y f 4)), .int .i64 (rowv (sf x y f 5))]) ∧ Below w.heap.size w w' := by
  have HF := Lib.hid (shifted_v f hx hy)
  go_enter Try.func168, Try.ntmps168
  go_wp2_with fail
  generalize hW : (World.alloc _ _ : World) = W0
  have hB0 : Below w.heap.size w W0 := by rw [← hW]; (repeat (first | exact Below.refl _ _ | assumption | refine Below.setCell ?_ (by first | (simp; done) | (simp; omega)) _ | refine Below.alloc ?_ (by first | (simp; done) | (simp; omega)) _ | refine Below.drew ?_))
  have qz : W0.heap[(w.heap.size + 1 + 1 : Nat)]? = some oz := by
    rw [← hW]
    repeat (first | (refine alloc_at ?_; first | (simp; done) | (simp; omega)) | refine drew_row ?_ | refine alloc_past ?_ | assumption)
  clear hW
  refine (HF.out _).mono ?_
  rintro e W1 ⟨rfl, hb⟩
  have qz1 := rowk qz hb rfl
  have hB1 := below_of hB0 hb hB0.size
  clear hb hB0 qz
  unfold oz at qz1
  have z_c := fun j => cell_of_row W1 _ j _ _ _ qz1
  have z_f := fun j => frozen_of_row W1 _ j _ _ qz1
  go_wp2_with fail
  have qr := set6a (.int .i64 (rowv (sf x y f 0))) (.int .i64 (rowv (sf x y f 1))) (.int .i64 (rowv (sf x y f 2))) (.int .i64 (rowv (sf x y f 3))) (.int .i64 (rowv (sf x y f 4))) (.int .i64 (rowv (sf x y f 5))) qz1
  have hB2 := below6 (v0 := .int .i64 (rowv (sf x y f 0))) (v1 := .int .i64 (rowv (sf x y f 1))) (v2 := .int .i64 (rowv (sf x y f 2))) (v3 := .int .i64 (rowv (sf x y f 3))) (v4 := .int .i64 (rowv (sf x y f 4))) (v5 := .int .i64 (rowv (sf x y f 5))) hB1 (show w.heap.size ≤ w.heap.size + 1 + 1 by omega)
  clear z_c z_f qz1 hB1
  generalize (World.setCell _ _ _ : World) = X at qr hB2 ⊢
  have x_c := fun j => cell_of_row X _ j _ _ _ qr
  exact bodyPost_ret (v := .agg #[.int .i64 (rowv (sf x y f 0)), .int .i64 (rowv (sf x y f 1)), .int .i64 (rowv (sf x y f 2)), .int .i64 (rowv (sf x y f 3)), .int .i64 (rowv (sf x y f 4)), .int .i64 (rowv (sf x y f 5))]) (by simp [results, Try.results168, go_sem, x_c]) rfl ⟨rfl, hB2⟩
/-- Midway: the two sheets, the list of all vectors, the answer so far, and in block gc the vector that is looked at. -/
def Qp (w : World) (a b : Fn6) (gl cl : Nat) (xs : List (Nat × Nat)) (v : Value) (gc x y : Nat) (U : World) : Prop := Rl 2 [(w.heap.size, o6 a), (w.heap.size + 1, o6 b)] w xs v U ∧ U.ownsRow 0 25 2 (.slice (some ⟨gl, 0, none⟩) (vl 36).length cl) (vl 36).length (cv (vl 36)) ∧ U.heap[gc]? = some (oc x y)
theorem Qp.below {w U U' : World} {a b : Fn6} {gl cl : Nat} {xs : List (Nat × Nat)} {v : Value} {gc x y M : Nat} (h : Qp w a b gl cl xs v gc x y U) (hb : Below M U U') (hM : M = U.heap.size) : Qp w a b gl cl xs v gc x y U' := ⟨h.1.below hb hM, h.2.1.kept (grown_below hb hM) (.inr (by simp [Value.ownBlock])), rowk h.2.2 hb hM⟩
theorem Qp.drew {w U : World} {a b : Fn6} {gl cl : Nat} {xs : List (Nat × Nat)} {v : Value} {gc x y : Nat} (h : Qp w a b gl cl xs v gc x y U) : Qp w a b gl cl xs v gc x y U.drew := h.below (M := U.heap.size) (Below.refl _ _).drew rfl
theorem SKp {w U : World} {a b : Fn6} {gl cl : Nat} {xs : List (Nat × Nat)} {v : Value} {gc x y : Nat} (h : Qp w a b gl cl xs v gc x y U) : U.cell? ⟨w.heap.size, 0, none⟩ = some (.int .i64 (rowv (a 0))) ∧ U.cell? ⟨w.heap.size, 1, none⟩ = some (.int .i64 (rowv (a 1))) ∧ U.cell? ⟨w.heap.size, 2, none⟩ = some (.int .i64 (rowv (a 2))) ∧ U.cell? ⟨w.heap.size, 3, none⟩ = some (.int .i64 (rowv (a 3))) ∧ U.cell? ⟨w.heap.size, 4, none⟩ = some (.int .i64 (rowv (a 4))) ∧ U.cell? ⟨w.heap.size, 5, none⟩ = some (.int .i64 (rowv (a 5))) ∧ U.cell? ⟨w.heap.size + 1, 0, none⟩ = some (.int .i64 (rowv (b 0))) ∧ U.cell? ⟨w.heap.size + 1, 1, none⟩ = some (.int .i64 (rowv (b 1))) ∧ U.cell? ⟨w.heap.size + 1, 2, none⟩ = some (.int .i64 (rowv (b 2))) ∧ U.cell? ⟨w.heap.size + 1, 3, none⟩ = some (.int .i64 (rowv (b 3))) ∧ U.cell? ⟨w.heap.size + 1, 4, none⟩ = some (.int .i64 (rowv (b 4))) ∧ U.cell? ⟨w.heap.size + 1, 5, none⟩ = some (.int .i64 (rowv (b 5))) ∧ U.cell? ⟨gc, 0, none⟩ = some (.int .i64 (x : Int)) ∧ U.cell? ⟨gc, 1, none⟩ = some (.int .i64 (y : Int)) ∧ Qp w a b gl cl xs v gc x y U :=
  have h0 := fun j => cell_of_row U _ j _ _ _ (h.1.1.row (g := w.heap.size) (o := o6 a) (List.mem_cons_self ..))
  have h1 := fun j => cell_of_row U _ j _ _ _ (h.1.1.row (g := w.heap.size + 1) (o := o6 b) (List.mem_cons_of_mem _ (List.mem_cons_self ..)))
  have h2 := fun j => cell_of_row U _ j _ _ _ h.2.2
  ⟨h0 0, h0 1, h0 2, h0 3, h0 4, h0 5, h1 0, h1 1, h1 2, h1 3, h1 4, h1 5, h2 0, h2 1, h⟩
set_option maxHeartbeats 4000000 in
theorem ito_yes (a b : Fn6) (K0 : Hid (∀ w, Calls Try.prog 102 #[.agg #[.int .i64 (rowv (a 0)), .int .i64 (rowv (a 1)), .int .i64 (rowv (a 2)), .int .i64 (rowv (a 3)), .int .i64 (rowv (a 4)), .int .i64 (rowv (a 5))]] w fun e w' => e = .returned (.bool true) ∧ Below w.heap.size w w')) (K1 : Hid (∀ w, Calls Try.prog 102 #[.agg #[.int .i64 (rowv (b 0)), .int .i64 (rowv (b 1)), .int .i64 (rowv (b 2)), .int .i64 (rowv (b 3)), .int .i64 (rowv (b 4)), .int .i64 (rowv (b 5))]] w fun e w' => e = .returned (.bool true) ∧ Below w.heap.size w w')) (w : World) : Calls Try.prog 124 #[.agg #[.int .i64 (rowv (a 0)), .int .i64 (rowv (a 1)), .int .i64 (rowv (a 2)), .int .i64 (rowv (a 3)), .int .i64 (rowv (a 4)), .int .i64 (rowv (a 5))], .agg #[.int .i64 (rowv (b 0)), .int .i64 (rowv (b 1)), .int .i64 (rowv (b 2)), .int .i64 (rowv (b 3)), .int .i64 (rowv (b 4)), .int .i64 (rowv (b 5))]] w (LPb (pl (sg7 a b) 36) true w) := by
  obtain ⟨i0, hi, hz0, hz1, hz2⟩ := info_parts info44
  have HV := Lib.hid vectors_f
  go_enter Try.func124, Try.ntmps124
  go_wp2_with fail
  generalize hW : (World.alloc (World.alloc w _) _ : World) = W0
  have hsz : W0.heap.size = w.heap.size + 1 + 1 := by rw [← hW]; simp
  have hB0 : Below w.heap.size w W0 := by rw [← hW]; (repeat (first | exact Below.refl _ _ | assumption | refine Below.setCell ?_ (by first | (simp; done) | (simp; omega)) _ | refine Below.alloc ?_ (by first | (simp; done) | (simp; omega)) _ | refine Below.drew ?_))
  have q0 : W0.heap[(w.heap.size : Nat)]? = some (o6 a) := by
    rw [← hW]
    repeat (first | (refine alloc_at ?_; first | (simp; done) | (simp; omega)) | refine drew_row ?_ | refine alloc_past ?_ | assumption)
  have q1 : W0.heap[(w.heap.size + 1 : Nat)]? = some (o6 b) := by
    rw [← hW]
    repeat (first | (refine alloc_at ?_; first | (simp; done) | (simp; omega)) | refine drew_row ?_ | refine alloc_past ?_ | assumption)
  have K : KR 2 [(w.heap.size, o6 a), (w.heap.size + 1, o6 b)] w W0 := ⟨by simp [q0, q1], by rw [← hW]; simp, hB0⟩
  have S0 := Rl.start K
  rw [hsz] at S0
  clear hsz
  clear hW hB0 q0 q1 K
  generalize (World.alloc _ _ : World) = W1 at S0 ⊢
  generalize hv0 : (Value.slice (some ⟨_, 0, none⟩) 0 0) = v0 at S0 ⊢
  clear hv0
  have a_c := fun j => cell_of_row W1 _ j _ _ _ (S0.1.row (g := w.heap.size) (o := o6 a) (by simp))
  go_wp2_with fail
  refine (K0.out _).mono ?_
  rintro e W2 ⟨rfl, hb⟩
  have S1 := S0.below hb rfl
  clear hb S0 a_c
  have b_c := fun j => cell_of_row W2 _ j _ _ _ (S1.1.row (g := w.heap.size + 1) (o := o6 b) (by simp))
  go_wp2_with fail
  refine (K1.out _).mono ?_
  rintro e W3 ⟨rfl, hb⟩
  have S2 := S1.below hb rfl
  clear hb S1 b_c K0 K1
  go_wp2_with fail
  refine (HV.out _).mono ?_
  intro e W4 hp
  obtain ⟨gl, cl, rfl, ho, hb⟩ := LP.out hp
  have S3 := S2.below hb rfl
  have ho0 := own_mono ho (Nat.zero_le _)
  clear hp hb HV
  have hlt0 := (S2.2.choose_spec.choose_spec.2).lt
  have S4 : Hid (Rl 2 [(w.heap.size, o6 a), (w.heap.size + 1, o6 b)] w (pl (sg7 a b) 0) v0 W4 ∧ W4.ownsRow 0 25 2 (.slice (some ⟨gl, 0, none⟩) (vl 36).length cl) (vl 36).length (cv (vl 36)) ∧ v0.ownBlock ≠ some gl) := Lib.hid ⟨S3, ho0, fun e => by have h1 := (hlt0 gl e).2; have h2 := (ho.lt gl rfl).1; omega⟩
  clear S3 ho0 S2 hlt0 ho
  have h36 : ((vl 36).length : Int) = 36 := by rw [vl_len]; rfl
  go_wp2_with fail
  go_loopw [6, 21] (fun v n wr => ∃ k : Nat, k ≤ 36 ∧ n = .int .i64 k ∧ Hid (Rl 2 [(w.heap.size, o6 a), (w.heap.size + 1, o6 b)] w (pl (sg7 a b) k) v wr ∧ wr.ownsRow 0 25 2 (.slice (some ⟨gl, 0, none⟩) (vl 36).length cl) (vl 36).length (cv (vl 36)) ∧ v.ownBlock ≠ some gl)) (fun _ n _ => 36 - (intOf n).toNat)
  case atStart => exact ⟨0, by omega, rfl, S4⟩
  case round =>
    obtain ⟨k, hk, rfl, HS⟩ := hrel
    by_cases hlt : k < 36
    · have hlt' : (k : Int) < 36 := by omega
      have hltv : k < (vl 36).length := by rw [vl_len]; exact hlt
      have hk0 : (0 : Int) ≤ k := by omega
      have hx : k / 6 < 6 := by omega
      have hy : k % 6 < 6 := Nat.mod_lt _ (by decide)
      have HF := Lib.hid (shiftedby_n a hx hy)
      have he := eq_sg7 a b (k / 6) (k % 6)
      have e6 : 6 * (k / 6) + k % 6 = k := by omega
      have H0 := @pl_no (sg7 a b) (k / 6) (k % 6) hy
      have H1 := @pl_yes (sg7 a b) (k / 6) (k % 6) hy
      rw [e6] at H0 H1
      have H0 := Lib.hid H0
      have H1 := Lib.hid H1
      obtain ⟨p1, p2⟩ := cv_at (vl 36) k hltv
      rw [vl_get 36 k hltv] at p1 p2
      have a1 := own_at HS.out.2.1 p1
      have a2 := own_at HS.out.2.1 p2
      have hng := HS.out.2.2
      dsimp only at a1 a2
      clear p1 p2 e6
      have HL := pl_len (sg7 a b) k
      have HL := Lib.hid (show (pl (sg7 a b) k).length ≤ 36 by omega)
      obtain ⟨xs, hxs⟩ : ∃ xs, xs = pl (sg7 a b) k := ⟨_, rfl⟩
      rw [← hxs] at HS H0 H1 HL
      clear hxs
      obtain ⟨g, cap, rfl, ho⟩ := HS.out.1.2
      clear ho
      obtain ⟨u, hu⟩ : ∃ u, u = sg7 a b (k / 6) (k % 6) := ⟨_, rfl⟩
      rw [← hu] at H0 H1 he
      clear hu
      generalize k / 6 = x at *
      generalize k % 6 = y at *
      go_wp2_with fail
      have hq : Qp w a b gl cl xs (.slice (some ⟨g, 0, none⟩) xs.length cap) wr.heap.size x y (wr.alloc (.cells #[.int .i64 (x : Int), .int .i64 (y : Int)] 25)) := ⟨HS.out.1.alloc _, HS.out.2.1.alloc _, alloc_at rfl⟩
      clear HS a1 a2
      generalize (World.alloc _ _ : World) = W5 at hq ⊢
      generalize wr.heap.size = gc at hq ⊢
      set_option maxRecDepth 8000 in
      go_region_held3 (fun U => U.cell? ⟨w.heap.size, 0, none⟩ = some (.int .i64 (rowv (a 0))) ∧ U.cell? ⟨w.heap.size, 1, none⟩ = some (.int .i64 (rowv (a 1))) ∧ U.cell? ⟨w.heap.size, 2, none⟩ = some (.int .i64 (rowv (a 2))) ∧ U.cell? ⟨w.heap.size, 3, none⟩ = some (.int .i64 (rowv (a 3))) ∧ U.cell? ⟨w.heap.size, 4, none⟩ = some (.int .i64 (rowv (a 4))) ∧ U.cell? ⟨w.heap.size, 5, none⟩ = some (.int .i64 (rowv (a 5))) ∧ U.cell? ⟨w.heap.size + 1, 0, none⟩ = some (.int .i64 (rowv (b 0))) ∧ U.cell? ⟨w.heap.size + 1, 1, none⟩ = some (.int .i64 (rowv (b 1))) ∧ U.cell? ⟨w.heap.size + 1, 2, none⟩ = some (.int .i64 (rowv (b 2))) ∧ U.cell? ⟨w.heap.size + 1, 3, none⟩ = some (.int .i64 (rowv (b 3))) ∧ U.cell? ⟨w.heap.size + 1, 4, none⟩ = some (.int .i64 (rowv (b 4))) ∧ U.cell? ⟨w.heap.size + 1, 5, none⟩ = some (.int .i64 (rowv (b 5))) ∧ U.cell? ⟨gc, 0, none⟩ = some (.int .i64 (x : Int)) ∧ U.cell? ⟨gc, 1, none⟩ = some (.int .i64 (y : Int)) ∧ Qp w a b gl cl xs (.slice (some ⟨g, 0, none⟩) xs.length cap) gc x y U) (with_reducible refine SKp ?_; (first | with_reducible assumption | (with_reducible refine Qp.drew ?_; with_reducible assumption))) ((go_at_call 168; with_reducible refine (HF.out _).mono ?_; rintro e w' ⟨rfl, hb'⟩; have hq : Qp w a b gl cl xs (.slice (some ⟨g, 0, none⟩) xs.length cap) gc x y w' := Qp.below (by (first | with_reducible assumption | (with_reducible refine Qp.drew ?_; with_reducible assumption))) hb' rfl))
      all_goals
        have HJ := Lib.hid hq
        rename_i hS
        clear hS hq HF he
        cases u
        · go_wp2_with fail
          go_roundw
          case rel => exact ⟨k + 1, by omega, by go_num, by rw [H0.out rfl]; exact Lib.hid ⟨HJ.out.1, HJ.out.2.1, hng⟩⟩
          case measure => simp [intOf]; omega
        · obtain ⟨hK, _, _, hv, ho⟩ := HJ.out.1
          have HO := ho.kept (grown_below ((Below.refl _ _).alloc (Nat.le_refl _) (.cells #[.int .i64 (x : Int), .int .i64 (y : Int)] 25)) rfl) (.inr (by simp [Value.ownBlock]))
          have HY := Lib.hid (HJ.out.1.alloc (.cells #[.int .i64 (x : Int), .int .i64 (y : Int)] 25))
          have HLX := HL.out
          have hks := hK.2.1
          have g_c := fun j => cell_of_row w' _ j _ _ _ HJ.out.2.2
          have hgl := (HJ.out.2.1.lt gl rfl).2
          have HG := Lib.hid (HJ.out.2.1.alloc (.cells #[.int .i64 (x : Int), .int .i64 (y : Int)] 25))
          clear ho hv hK
          go_wp2_with (at_builtin; refine wpList_append_own_at _ rfl _ _ 52 rfl (w.heap.size + 2) 25 i0 (.agg #[.int .i64 0, .int .i64 0]) 2 16 Try.underlying52 hi hz0 hz1 hz2 rfl (by decide) _ _ _ rfl HO ⟨w'.heap.size, 0, none⟩ 1 1 [.int .i64 (x : Int), .int .i64 (y : Int)] rfl rfl (two_new _ _ _ _) (ints_one _ _) (by have := HLX; unfold maxLen; omega) (by have := HLX; omega) (by have := hks; simp; omega) ?_; intro v' w1 hown' hgrow hnn hat; have R := Lib.hid (HY.out.snoc hown' hgrow hnn); have RG : Hid (w1.ownsRow 0 25 2 (.slice (some ⟨gl, 0, none⟩) (vl 36).length cl) (vl 36).length (cv (vl 36)) ∧ v'.ownBlock ≠ some gl) := Lib.hid ⟨HG.out.kept hgrow (.inr (fun e => hng e.symm)), fun e => by rcases hat with h | h; exact hng (h.symm.trans e); have h2 := h.symm.trans e; simp at h2; omega⟩; clear hown' hgrow hnn hat HY HO HLX hks g_c HG hgl)
          go_roundw
          case rel => exact ⟨k + 1, by omega, by go_num, by rw [H1.out rfl]; exact Lib.hid ⟨R.out, RG.out.1, RG.out.2⟩⟩
          case measure => simp [intOf]; omega
    · obtain rfl : k = 36 := by omega
      obtain ⟨g, cap, rfl, h2, h3⟩ := HS.out.1.post
      have H2 := Lib.hid h2
      have H3 := Lib.hid h3
      clear h2 h3 HS
      go_wp2_with fail
      go_ret2
      exact ⟨g, cap, rfl, H2.out, H3.out⟩
end Go.Proofs.Ythphkhcppljdlaa
