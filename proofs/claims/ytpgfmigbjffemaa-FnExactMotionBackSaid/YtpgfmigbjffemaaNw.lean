/- THE PAIRS: MotionBehind and MotionBack, the model's and the code's. -/
import Derived.Test.YtpgfmigbjffemaaBg
import Derived.Test.YtpgfmigbjffemaaBi
import Derived.Test.YtpgfmigbjffemaaNv
import Derived.WalkKit
import Derived.ProofKit
import Derived.OpenShut
import Derived.Lib.Hide
import Derived.WalkSpells
import Derived.Below
import Derived.BigQuiet
import Derived.LoopN
namespace Go.Proofs.Ytpgfmigbjffemaa
open Go.ChangeShapes Go.WideShapes Go.ChangeAt Go.RowKit
set_option linter.unusedVariables false
def mk1 (k x y : Nat) : Nat := neg6 (vec (bk k) x y).1
def mk2 (k x y : Nat) : Nat := neg6 (vec (bk k) x y).2
theorem okm_of {k x y : Nat} (hk : k < 8) (hx : x < 6) (hy : y < 6) : okm (k : Int) x y = true := by simp [okm, okt, in5]; omega
theorem wfn {z : Nat} (h : z < 100) : (Lit.int .i64 (z : Int)).wf = true := WalkArith.wf_i64 (by omega)
theorem mby_f (k : Int) {a b : Nat} (ha : a < 12) (hb : b < 12) (w : World) : Calls Try.prog 154 #[.int .i64 k, .int .i64 ((a : Int)), .int .i64 (b : Int)] w fun e w' => e = .returned (.agg #[.int .i64 k, .int .i64 ((a % 6 : Nat) : Int), .int .i64 ((b % 6 : Nat) : Int)]) ∧ Below w.heap.size w w' := by
  have H := mby_any k (a : Int) (b : Int) (wfn (by omega)) (wfn (by omega)) w
  rw [show (a : Int) % 6 = ((a % 6 : Nat) : Int) by omega, show (b : Int) % 6 = ((b % 6 : Nat) : Int) by omega] at H
  exact H
theorem mby_neg (k : Int) {a b : Nat} (ha : a < 6) (hb : b < 6) (w : World) : Calls Try.prog 154 #[.int .i64 k, .int .i64 (-(a : Int)), .int .i64 (-(b : Int))] w fun e w' => e = .returned (.agg #[.int .i64 k, .int .i64 (neg6 a : Int), .int .i64 (neg6 b : Int)]) ∧ Below w.heap.size w w' := by
  have H := mby_any k (-(a : Int)) (-(b : Int)) (WalkArith.wf_i64 (by omega)) (WalkArith.wf_i64 (by omega)) w
  rw [show (-(a : Int)) % 6 = (neg6 a : Int) by unfold neg6; omega, show (-(b : Int)) % 6 = (neg6 b : Int) by unfold neg6; omega] at H
  exact H
theorem wr_sum {a b : Nat} (ha : a < 6) (hb : b < 6) : wrap64 ((a : Int) + b) = (a : Int) + b ∧ IntKind.i64.wrap ((a : Int) + b) = (a : Int) + b := by
  constructor
  · unfold wrap64; omega
  · rw [IntKind.wrap_i64]; omega
theorem wr_neg {a : Nat} (ha : a < 6) : wrap64 (-(a : Int)) = -(a : Int) ∧ IntKind.i64.wrap (-(a : Int)) = -(a : Int) := by
  constructor
  · unfold wrap64; omega
  · rw [IntKind.wrap_i64]; omega
theorem bk_lt {k : Nat} (hk : k < 8) : bk k < 8 := (bk_tb hk hk).1
theorem lbehind_f {k x y m u v : Nat} (hk : k < 8) (hx : x < 6) (hy : y < 6) (hm : m < 8) (hu : u < 6) (hv : v < 6) (w : World) : Calls Try.prog 153 #[.agg #[.int .i64 (k : Int), .int .i64 (x : Int), .int .i64 (y : Int)], .agg #[.int .i64 (m : Int), .int .i64 (u : Int), .int .i64 (v : Int)]] w fun e w' => e = .returned (.agg #[.int .i64 (tb k m : Int), .int .i64 (mb1 x y m u : Int), .int .i64 (mb2 x y m v : Int)]) ∧ Below w.heap.size w w' := by
  obtain ⟨h8, e0, e1, e2, e3, e4, e5⟩ := marks_tb hk hm
  have HN := number_f h8
  rw [← e0, ← e1, ← e2, ← e3, ← e4, ← e5] at HN
  obtain ⟨l1, l2⟩ := vec_lt hm hx hy
  exact lbehind_go k x y m u v _ _ _ _ _ _ _ _ _ _ _ _ _ _ _ _ _ _ _ _ _ _ _ _ _ (Lib.hid marked_any) (Lib.hid (turn_f mk0 hk)) (Lib.hid (turn_f (tf k mk0) hm)) (Lib.hid HN) (Lib.hid (lvec_f hm hx hy)) (same_b (mod_sum l1 hu)) (same_b (mod_sum l2 hv)) (wr_sum l1 hu).1 (wr_sum l2 hv).1 (wr_sum l1 hu).2 (wr_sum l2 hv).2 w
theorem smb_f {k x y m u v : Nat} (hk : k < 8) (hx : x < 6) (hy : y < 6) (hm : m < 8) (hu : u < 6) (hv : v < 6) (w : World) : Calls Try.prog 69 #[.agg #[.int .i64 (k : Int), .int .i64 (x : Int), .int .i64 (y : Int)], .agg #[.int .i64 (m : Int), .int .i64 (u : Int), .int .i64 (v : Int)]] w fun e w' => e = .returned (.tuple #[.agg #[.int .i64 (tb k m : Int), .int .i64 (mb1 x y m u : Int), .int .i64 (mb2 x y m v : Int)], .bool true]) ∧ Below w.heap.size w w' :=
  smb_yes k x y m u v _ _ _ (mo_s _ _ _ (okm_of hk hx hy)) (mo_s _ _ _ (okm_of hm hu hv)) (Lib.hid (lbehind_f hk hx hy hm hu hv)) w
theorem imb_f {k x y m u v : Nat} (hk : k < 8) (hx : x < 6) (hy : y < 6) (hm : m < 8) (hu : u < 6) (hv : v < 6) (w : World) : Calls Try.prog 70 #[.agg #[.int .i64 (k : Int), .int .i64 (x : Int), .int .i64 (y : Int)], .agg #[.int .i64 (m : Int), .int .i64 (u : Int), .int .i64 (v : Int)]] w fun e w' => e = .returned (.tuple #[.agg #[.int .i64 (tb k m : Int), .int .i64 (mb1 x y m u : Int), .int .i64 (mb2 x y m v : Int)], .bool true]) ∧ Below w.heap.size w w' := by
  obtain ⟨l1, l2⟩ := vec_lt hm hx hy
  have HM := mby_f (tb k m : Int) (show (vec m x y).1 + u < 12 by omega) (show (vec m x y).2 + v < 12 by omega)
  rw [show (((vec m x y).1 + u : Nat) : Int) = ((vec m x y).1 : Int) + u by omega, show (((vec m x y).2 + v : Nat) : Int) = ((vec m x y).2 : Int) + v by omega] at HM
  exact imb_go k x y m u v _ _ _ _ _ _ _ (mo_i _ _ _ (wfn (by omega)) (wfn (by omega)) (okm_of hk hx hy)) (mo_i _ _ _ (wfn (by omega)) (wfn (by omega)) (okm_of hm hu hv)) (Lib.hid (cvec_f hm hx hy)) (same_b (cbehind_f hk hm)) (Lib.hid HM) (wr_sum l1 hu).1 (wr_sum l2 hv).1 (wr_sum l1 hu).2 (wr_sum l2 hv).2 w
theorem smk_f {k x y : Nat} (hk : k < 8) (hx : x < 6) (hy : y < 6) (w : World) : Calls Try.prog 72 #[.agg #[.int .i64 (k : Int), .int .i64 (x : Int), .int .i64 (y : Int)]] w fun e w' => e = .returned (.tuple #[.agg #[.int .i64 (bk k : Int), .int .i64 (mk1 k x y : Int), .int .i64 (mk2 k x y : Int)], .bool true]) ∧ Below w.heap.size w w' := by
  obtain ⟨l1, l2⟩ := vec_lt (bk_lt hk) hx hy
  exact smk_go k x y _ _ _ _ _ _ _ (mo_s _ _ _ (okm_of hk hx hy)) (Lib.hid (lback_f hk)) (same_b (lvec_f (bk_lt hk) hx hy)) (same_b (mod_neg l1)) (same_b (mod_neg l2)) (wr_neg l1).1 (wr_neg l2).1 (wr_neg l1).2 (wr_neg l2).2 w
theorem imk_f {k x y : Nat} (hk : k < 8) (hx : x < 6) (hy : y < 6) (w : World) : Calls Try.prog 73 #[.agg #[.int .i64 (k : Int), .int .i64 (x : Int), .int .i64 (y : Int)]] w fun e w' => e = .returned (.tuple #[.agg #[.int .i64 (bk k : Int), .int .i64 (mk1 k x y : Int), .int .i64 (mk2 k x y : Int)], .bool true]) ∧ Below w.heap.size w w' := by
  obtain ⟨l1, l2⟩ := vec_lt (bk_lt hk) hx hy
  exact imk_go k x y _ _ _ _ _ _ _ (mo_i _ _ _ (wfn (by omega)) (wfn (by omega)) (okm_of hk hx hy)) (same_b (cback_f hk)) (Lib.hid (cvec_f (bk_lt hk) hx hy)) (Lib.hid (mby_neg _ l1 l2)) (wr_neg l1).1 (wr_neg l2).1 (wr_neg l1).2 (wr_neg l2).2 w
theorem mbehind_pair (m0 m1 m2 n0 n1 n2 : Int) (hm0 : (Lit.int .i64 m0).wf = true) (hm1 : (Lit.int .i64 m1).wf = true) (hm2 : (Lit.int .i64 m2).wf = true) (hn0 : (Lit.int .i64 n0).wf = true) (hn1 : (Lit.int .i64 n1).wf = true) (hn2 : (Lit.int .i64 n2).wf = true) : ∃ (r0 r1 r2 : Int) (t : Bool), (∀ w, Calls Try.prog 69 #[.agg #[.int .i64 m0, .int .i64 m1, .int .i64 m2], .agg #[.int .i64 n0, .int .i64 n1, .int .i64 n2]] w fun e w' => e = .returned (.tuple #[.agg #[.int .i64 r0, .int .i64 r1, .int .i64 r2], .bool t]) ∧ Below w.heap.size w w') ∧ (∀ w, Calls Try.prog 70 #[.agg #[.int .i64 m0, .int .i64 m1, .int .i64 m2], .agg #[.int .i64 n0, .int .i64 n1, .int .i64 n2]] w fun e w' => e = .returned (.tuple #[.agg #[.int .i64 r0, .int .i64 r1, .int .i64 r2], .bool t]) ∧ Below w.heap.size w w') := by
  cases h : okm m0 m1 m2
  · exact ⟨0, 0, 0, false, smb_no0 m0 m1 m2 n0 n1 n2 (mo_s _ _ _ h), imb_no0 m0 m1 m2 n0 n1 n2 (mo_i _ _ _ hm1 hm2 h)⟩
  · cases h2 : okm n0 n1 n2
    · exact ⟨0, 0, 0, false, smb_no1 m0 m1 m2 n0 n1 n2 (mo_s _ _ _ h) (mo_s _ _ _ h2), imb_no1 m0 m1 m2 n0 n1 n2 (mo_i _ _ _ hm1 hm2 h) (mo_i _ _ _ hn1 hn2 h2)⟩
    · obtain ⟨k, x, y, hk, hx, hy, rfl, rfl, rfl⟩ := okm_in h
      obtain ⟨m, u, v, hm, hu, hv, rfl, rfl, rfl⟩ := okm_in h2
      exact ⟨_, _, _, true, smb_f hk hx hy hm hu hv, imb_f hk hx hy hm hu hv⟩
theorem mback_pair (m0 m1 m2 : Int) (hm0 : (Lit.int .i64 m0).wf = true) (hm1 : (Lit.int .i64 m1).wf = true) (hm2 : (Lit.int .i64 m2).wf = true) : ∃ (r0 r1 r2 : Int) (t : Bool), (∀ w, Calls Try.prog 72 #[.agg #[.int .i64 m0, .int .i64 m1, .int .i64 m2]] w fun e w' => e = .returned (.tuple #[.agg #[.int .i64 r0, .int .i64 r1, .int .i64 r2], .bool t]) ∧ Below w.heap.size w w') ∧ (∀ w, Calls Try.prog 73 #[.agg #[.int .i64 m0, .int .i64 m1, .int .i64 m2]] w fun e w' => e = .returned (.tuple #[.agg #[.int .i64 r0, .int .i64 r1, .int .i64 r2], .bool t]) ∧ Below w.heap.size w w') := by
  cases h : okm m0 m1 m2
  · exact ⟨0, 0, 0, false, smk_no0 m0 m1 m2 (mo_s _ _ _ h), imk_no0 m0 m1 m2 (mo_i _ _ _ hm1 hm2 h)⟩
  · obtain ⟨k, x, y, hk, hx, hy, rfl, rfl, rfl⟩ := okm_in h
    exact ⟨_, _, _, true, smk_f hk hx hy, imk_f hk hx hy⟩
end Go.Proofs.Ytpgfmigbjffemaa
