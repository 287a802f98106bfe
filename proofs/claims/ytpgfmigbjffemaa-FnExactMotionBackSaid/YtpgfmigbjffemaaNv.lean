/- THE WALKS of TurnVector: the model's and the code's, and the law's. -/
import Derived.Test.YtpgfmigbjffemaaVc
import Derived.RegionTactic
import Derived.Deep.RegionHeld3
import Derived.WalkKit
import Derived.ProofKit
import Derived.OpenShut
import Derived.Lib.Hide
import Derived.WalkSpells
import Derived.Below
import Derived.BigQuiet
import Derived.LoopN
namespace Go.Proofs.Ytpgfmigbjffemaa
open Go.ChangeShapes Go.WideShapes Go.ChangeAt Go.RowKit
set_option linter.unusedVariables false
theorem same_b {P : Program} {f : Nat} {args : Array Value} {v : Value} (h : ∀ w, Calls P f args w fun e w' => e = .returned v ∧ w' = w) : Hid (∀ w, Calls P f args w fun e w' => e = .returned v ∧ Below w.heap.size w w') := Lib.hid (fun w => (h w).mono (by rintro e w' ⟨rfl, h2⟩; exact ⟨rfl, same_below h2⟩))
theorem svector_no (k x y : Int) (hx : (Lit.int .i64 x).wf = true) (hy : (Lit.int .i64 y).wf = true) (h : okm k x y = false) (w : World) : Calls Try.prog 67 #[.int .i64 k, .int .i64 x, .int .i64 y] w fun e w' => e = .returned (.tuple #[.int .i64 0, .int .i64 0, .bool false]) ∧ Below w.heap.size w w' := by
  have H := mo_s k x y h
  clear hx hy
  go_enter Try.func67, Try.ntmps67
  go_wp2_with fail
  refine (H.out _).mono ?_
  rintro e w1 ⟨rfl, hb⟩
  have k1 := Lib.hid (hb)
  clear hb
  go_wp2_with fail
  refine bodyPost_ret (v := .tuple #[.int .i64 0, .int .i64 0, .bool false]) (by simp [results, Try.results67, go_sem]) rfl ⟨rfl, k1.out⟩
theorem svector_yes {k x y : Nat} (hk : k < 8) (hx : x < 6) (hy : y < 6) (w : World) : Calls Try.prog 67 #[.int .i64 (k : Int), .int .i64 (x : Int), .int .i64 (y : Int)] w fun e w' => e = .returned (.tuple #[.int .i64 ((vec k x y).1 : Int), .int .i64 ((vec k x y).2 : Int), .bool true]) ∧ Below w.heap.size w w' := by
  have hm : okm (k : Int) x y = true := by simp [okm, okt, in5]; omega
  have H := mo_s (k : Int) x y hm
  have HV := same_b (lvec_f hk hx hy)
  clear hm
  generalize vec k x y = v at HV ⊢
  obtain ⟨v1, v2⟩ := v
  simp only at HV ⊢
  go_enter Try.func67, Try.ntmps67
  go_wp2_with fail
  refine (H.out _).mono ?_
  rintro e w1 ⟨rfl, hb⟩
  have k1 := Lib.hid (hb)
  clear hb
  go_wp2_with fail
  refine (HV.out _).mono ?_
  rintro e w2 ⟨rfl, hb⟩
  have k2 := Lib.hid (below_of k1.out hb k1.out.size)
  clear hb k1
  go_wp2_with fail
  refine bodyPost_ret (v := .tuple #[.int .i64 (v1 : Int), .int .i64 (v2 : Int), .bool true]) (by simp [results, Try.results67, go_sem]) rfl ⟨rfl, k2.out⟩
theorem ivector_no (k x y : Int) (hx : (Lit.int .i64 x).wf = true) (hy : (Lit.int .i64 y).wf = true) (h : okm k x y = false) (w : World) : Calls Try.prog 68 #[.int .i64 k, .int .i64 x, .int .i64 y] w fun e w' => e = .returned (.tuple #[.int .i64 0, .int .i64 0, .bool false]) ∧ Below w.heap.size w w' := by
  have H := mo_i k x y hx hy h
  clear hx hy
  go_enter Try.func68, Try.ntmps68
  go_wp2_with fail
  refine (H.out _).mono ?_
  rintro e w1 ⟨rfl, hb⟩
  have k1 := Lib.hid (hb)
  clear hb
  go_wp2_with fail
  refine bodyPost_ret (v := .tuple #[.int .i64 0, .int .i64 0, .bool false]) (by simp [results, Try.results68, go_sem]) rfl ⟨rfl, k1.out⟩
theorem ivector_yes {k x y : Nat} (hk : k < 8) (hx : x < 6) (hy : y < 6) (w : World) : Calls Try.prog 68 #[.int .i64 (k : Int), .int .i64 (x : Int), .int .i64 (y : Int)] w fun e w' => e = .returned (.tuple #[.int .i64 ((vec k x y).1 : Int), .int .i64 ((vec k x y).2 : Int), .bool true]) ∧ Below w.heap.size w w' := by
  have hm : okm (k : Int) x y = true := by simp [okm, okt, in5]; omega
  have H := mo_i (k : Int) x y (WalkArith.wf_i64 (by omega)) (WalkArith.wf_i64 (by omega)) hm
  have HV := Lib.hid (cvec_f hk hx hy)
  clear hm
  generalize vec k x y = v at HV ⊢
  obtain ⟨v1, v2⟩ := v
  simp only at HV ⊢
  go_enter Try.func68, Try.ntmps68
  go_wp2_with fail
  refine (H.out _).mono ?_
  rintro e w1 ⟨rfl, hb⟩
  have k1 := Lib.hid (hb)
  clear hb
  go_wp2_with fail
  refine (HV.out _).mono ?_
  rintro e w2 ⟨rfl, hb⟩
  have k2 := Lib.hid (below_of k1.out hb k1.out.size)
  clear hb k1
  go_wp2_with fail
  have hB := k2.out.alloc k2.out.size (.cells #[.int .i64 (v1 : Int), .int .i64 (v2 : Int)] 44)
  have hq : (w2.alloc (.cells #[.int .i64 (v1 : Int), .int .i64 (v2 : Int)] 44)).heap[w2.heap.size]? = some (.cells #[.int .i64 (v1 : Int), .int .i64 (v2 : Int)] 44 (0, 0)) := alloc_at rfl
  clear k2
  generalize (World.alloc _ _ : World) = W at hB hq ⊢
  generalize w2.heap.size = g at hq ⊢
  have c_c := fun k => cell_of_row W _ k _ _ _ hq
  go_region
  all_goals
    go_wp2_with fail
    refine bodyPost_ret (v := .tuple #[.int .i64 (v1 : Int), .int .i64 (v2 : Int), .bool true]) (by simp [results, Try.results68, go_sem]) rfl ⟨rfl, ?_⟩
    first | exact hB.drew | exact hB
theorem vector_pair (k x y : Int) (hx : (Lit.int .i64 x).wf = true) (hy : (Lit.int .i64 y).wf = true) : ∃ (r0 r1 : Int) (t : Bool), (∀ w, Calls Try.prog 67 #[.int .i64 k, .int .i64 x, .int .i64 y] w fun e w' => e = .returned (.tuple #[.int .i64 r0, .int .i64 r1, .bool t]) ∧ Below w.heap.size w w') ∧ (∀ w, Calls Try.prog 68 #[.int .i64 k, .int .i64 x, .int .i64 y] w fun e w' => e = .returned (.tuple #[.int .i64 r0, .int .i64 r1, .bool t]) ∧ Below w.heap.size w w') := by
  cases h : okm k x y
  · exact ⟨0, 0, false, svector_no k x y hx hy h, ivector_no k x y hx hy h⟩
  · obtain ⟨k', x', y', hk, hx', hy', rfl, rfl, rfl⟩ := okm_in h
    exact ⟨_, _, true, svector_yes hk hx' hy', ivector_yes hk hx' hy'⟩
theorem vector_core (k x y : Int) (hk : (Lit.int .i64 k).wf = true) (hx : (Lit.int .i64 x).wf = true) (hy : (Lit.int .i64 y).wf = true) (w : World) : Calls Try.prog 12 #[.int .i64 k, .int .i64 x, .int .i64 y] w fun e w' => e = .returned (.bool true) ∧ Below w.heap.size w w' := by
  obtain ⟨r0, r1, t, h1, h2⟩ := vector_pair k x y hx hy
  have HS := Lib.hid h1
  have HI := Lib.hid h2
  clear h1 h2 hk hx hy
  go_enter Try.func12, Try.ntmps12
  go_wp2_with fail
  refine (HS.out _).mono ?_
  rintro e w1 ⟨rfl, hb⟩
  have k1 := Lib.hid (hb)
  clear hb
  go_wp2_with fail
  refine (HI.out _).mono ?_
  rintro e w2 ⟨rfl, hb⟩
  have k2 := Lib.hid (below_of k1.out hb k1.out.size)
  clear hb k1
  go_wp2_with fail
  go_ret
  exact ⟨rfl, k2.out⟩
end Go.Proofs.Ytpgfmigbjffemaa
