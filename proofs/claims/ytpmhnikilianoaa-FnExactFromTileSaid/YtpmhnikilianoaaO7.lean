/- CONTRACTS: orders of vectors, numbers of choices, kept sheets counted; the model's and the code's. -/
import Derived.Test.YtpmhnikilianoaaSd
import Derived.Test.YtpmhnikilianoaaRg
import Derived.BigQuiet
import Derived.WalkKit
import Derived.ProofKit
import Derived.OpenShut
import Derived.Lib.Hide
import Derived.WalkSpells
import Derived.Below
import Derived.BigQuiet
import Derived.LoopN
namespace Go.Proofs.Ytpmhnikilianoaa
open Go.ChangeShapes Go.WideShapes Go.ChangeAt Go.RowKit
set_option linter.unusedVariables false
/-- The order of a vector. -/
def vo (x y : Nat) : Nat := 6 / Nat.gcd 6 (Nat.gcd x y)
theorem vo_fin : ∀ x y : Fin 6, 1 ≤ vo x y ∧ vo x y ≤ 6 := by decide
theorem vo_ge {x y : Nat} (hx : x < 6) (hy : y < 6) : 1 ≤ vo x y ∧ vo x y ≤ 6 := vo_fin ⟨x, hx⟩ ⟨y, hy⟩
theorem vo_f2 : ∀ x y : Fin 6, ∀ n : Fin 7, 1 ≤ n.val → n.val < vo x y → ((n.val * x.val) % 6 = 0 ∧ (n.val * y.val) % 6 = 0) → False := by decide
theorem vo_f3 : ∀ x y : Fin 6, (vo x y * x.val) % 6 = 0 ∧ (vo x y * y.val) % 6 = 0 := by decide
theorem vo_no {x y n : Nat} (hx : x < 6) (hy : y < 6) (h1 : 1 ≤ n) (hn : n < vo x y) : ¬ ((n * x) % 6 = 0 ∧ (n * y) % 6 = 0) := fun h => vo_f2 ⟨x, hx⟩ ⟨y, hy⟩ ⟨n, by have := (vo_ge hx hy).2; omega⟩ h1 hn h
theorem vo_yes {x y : Nat} (hx : x < 6) (hy : y < 6) : (vo x y * x) % 6 = 0 ∧ (vo x y * y) % 6 = 0 := vo_f3 ⟨x, hx⟩ ⟨y, hy⟩
theorem l2mod_n (n x : Nat) (hn : n ≤ 6) (hx : x < 6) (r : Nat) (hr : (n * x) % 6 = r) (w : World) : Calls Try.prog 167 #[.int .i64 (wrap64 ((n : Int) * (x : Int)))] w fun e w' => e = .returned (.int .i64 (r : Int)) ∧ w' = w := by
  have h30 : n * x ≤ 6 * 5 := Nat.mul_le_mul hn (by omega)
  have e : wrap64 ((n : Int) * (x : Int)) = ((n * x : Nat) : Int) := by
    rw [← Int.natCast_mul]
    generalize n * x = k at *
    unfold wrap64
    omega
  rw [e]
  refine (l2mod_any ((n * x : Nat) : Int) ?_ w).mono ?_
  · generalize n * x = k at *
    exact WalkArith.wf_i64 (by omega)
  · rintro e w' ⟨rfl, rfl⟩
    refine ⟨?_, rfl⟩
    rw [← hr]
    simp
set_option maxHeartbeats 1000000 in
theorem lorder_f (x y : Nat) (hx : x < 6) (hy : y < 6) (w : World) : Calls Try.prog 139 #[.agg #[.int .i64 (x : Int), .int .i64 (y : Int)]] w fun e w' => e = .returned (.int .i64 (vo x y : Int)) ∧ Below w.heap.size w w' := by
  have HG := Lib.hid (vo_ge hx hy)
  have HY := Lib.hid (vo_yes hx hy)
  have HN := fun n => @vo_no x y n hx hy
  have HN := Lib.hid HN
  have HM := fun n h r e => l2mod_n n x h hx r e
  have HM2 := fun n h r e => l2mod_n n y h hy r e
  have HM := Lib.hid HM
  have HM2 := Lib.hid HM2
  obtain ⟨N, hN⟩ : ∃ N, N = vo x y := ⟨_, rfl⟩
  rw [← hN] at HG HY HN ⊢
  clear hN
  go_enter Try.func139, Try.ntmps139
  go_wp2_with fail
  generalize hW : (World.alloc _ _ : World) = W0
  have S0 : Hid (W0.heap[w.heap.size]? = some (.cells #[.int .i64 (x : Int), .int .i64 (y : Int)] 37 (0, 0)) ∧ Below w.heap.size w W0) := Lib.hid ⟨by rw [← hW]; exact alloc_at rfl, by rw [← hW]; (repeat (first | exact Below.refl _ _ | assumption | refine Below.setCell ?_ (by first | (simp; done) | (simp; omega)) _ | refine Below.alloc ?_ (by first | (simp; done) | (simp; omega)) _ | refine Below.drew ?_))⟩
  clear hW
  go_loopw [3] (fun c wr => ∃ n : Nat, 1 ≤ n ∧ n ≤ N ∧ c = .int .i64 n ∧ Hid (wr.heap[w.heap.size]? = some (.cells #[.int .i64 (x : Int), .int .i64 (y : Int)] 37 (0, 0)) ∧ Below w.heap.size w wr)) (fun c _ => 7 - (intOf c).toNat)
  case atStart => exact ⟨1, by omega, HG.out.1, rfl, S0⟩
  case round =>
    obtain ⟨n, h1, hn, rfl, HS⟩ := hrel
    have hn6 : n ≤ 6 := Nat.le_trans hn HG.out.2
    have c_c := fun j => cell_of_row wr _ j _ _ _ HS.out.1
    have HA := Lib.hid (HM.out n hn6)
    have HB := Lib.hid (HM2.out n hn6)
    have HC := Lib.hid (HN.out n h1)
    rcases Nat.lt_or_ge n N with hlt | hge
    · have hno := HC.out hlt
      by_cases h0 : (n * x) % 6 = 0
      · have h2 : (n * y) % 6 ≠ 0 := fun h => hno ⟨h0, h⟩
        have HA := Lib.hid (HA.out 0 h0)
        obtain ⟨r, hr⟩ : ∃ r, (n * y) % 6 = r := ⟨_, rfl⟩
        have HB := Lib.hid (HB.out r hr)
        have hr0 : r ≠ 0 := hr ▸ h2
        clear hr h2 h0 hno
        have hr1 : ((r : Int) == 0) = false := by simp; omega
        go_wp2_with fail
        refine (HA.out _).mono ?_
        rintro e w' ⟨rfl, rfl⟩
        go_wp2_with fail
        refine (HB.out _).mono ?_
        rintro e w' ⟨rfl, rfl⟩
        go_wp2_with fail
        clear c_c
        go_roundw
        case rel => exact ⟨n + 1, by omega, by omega, by go_num, HS⟩
        case measure => simp [intOf]; omega
      · obtain ⟨r, hr⟩ : ∃ r, (n * x) % 6 = r := ⟨_, rfl⟩
        have HA := Lib.hid (HA.out r hr)
        have hr0 : r ≠ 0 := hr ▸ h0
        clear hr h0 hno
        have hr1 : ((r : Int) == 0) = false := by simp; omega
        go_wp2_with fail
        refine (HA.out _).mono ?_
        rintro e w' ⟨rfl, rfl⟩
        go_wp2_with fail
        clear c_c
        go_roundw
        case rel => exact ⟨n + 1, by omega, by omega, by go_num, HS⟩
        case measure => simp [intOf]; omega
    · obtain rfl : n = N := by omega
      have HA := Lib.hid (HA.out 0 HY.out.1)
      have HB := Lib.hid (HB.out 0 HY.out.2)
      go_wp2_with fail
      refine (HA.out _).mono ?_
      rintro e w' ⟨rfl, rfl⟩
      go_wp2_with fail
      refine (HB.out _).mono ?_
      rintro e w' ⟨rfl, rfl⟩
      go_wp2_with fail
      go_ret
      exact ⟨rfl, HS.out.2⟩
theorem neq29 (x y u v : Int) (w : World) : (binOp .neq 37 (.agg #[.int .i64 x, .int .i64 y]) (.agg #[.int .i64 u, .int .i64 v])).run Try.prog w = .ok (.bool (!(x == u && y == v))) w := by
  have h := eq29 x y u v w
  rw [run_eql_struct] at h
  rw [run_neq_struct]
  generalize (Op.equalIn 10000 37 (.agg #[.int .i64 x, .int .i64 y]) (.agg #[.int .i64 u, .int .i64 v])).run Try.prog w = r at h ⊢
  cases r with
  | ok v w' =>
    simp only [Result.andThen_ok, Result.ok.injEq, Value.bool.injEq] at h ⊢
    exact ⟨by rw [h.1], h.2⟩
  | halt e w' => cases h
/-- Midway in the code: the vector, and in block g how far it has led. -/
def Ro7 (w : World) (x y : Nat) (g n : Nat) (W : World) : Prop := W.heap[w.heap.size]? = some (.cells #[.int .i64 (x : Int), .int .i64 (y : Int)] 37 (0, 0)) ∧ W.heap[g]? = some (.cells #[.int .i64 ((n * x % 6 : Nat) : Int), .int .i64 ((n * y % 6 : Nat) : Int)] 37 (0, 0)) ∧ w.heap.size < g ∧ g < W.heap.size ∧ Below w.heap.size w W
theorem Ro7.far {w W W' : World} {x y g n M : Nat} (h : Ro7 w x y g n W) (hb : Below M W W') (hM : M = W.heap.size) : Ro7 w x y g n W' := by
  obtain ⟨h1, h2, h3, h4, h5⟩ := h
  subst hM
  exact ⟨row_keep hb (by omega) h1, row_keep hb h4 h2, h3, Nat.lt_of_lt_of_le h4 hb.size, below_of h5 hb (by omega)⟩
theorem o7_set2 {k : Nat} {W : World} {v0 v1 : Value} {t : TypeId} (u0 u1 : Value) (h : W.heap[k]? = some (Obj.cells #[v0, v1] t (0, 0))) : ((W.setCell ⟨k, 0, none⟩ u0).setCell ⟨k, 1, none⟩ u1).heap[k]? = some (Obj.cells #[u0, u1] t (0, 0)) := by
  have e0 : (W.setCell ⟨k, 0, none⟩ u0).heap[k]? = some (Obj.cells #[u0, v1] t (0, 0)) := heap_setCell_same W k 0 _ t u0 h
  exact heap_setCell_same _ k 1 _ t u1 e0
theorem o7_set2o {k g : Nat} {W : World} {o : Obj} (u0 u1 : Value) (hne : g ≠ k) (h : W.heap[g]? = some o) : ((W.setCell ⟨k, 0, none⟩ u0).setCell ⟨k, 1, none⟩ u1).heap[g]? = some o := by
  rw [Below.heap_setCell _ _ _ _ hne, Below.heap_setCell _ _ _ _ hne]
  exact h
theorem Ro7.copy {w W : World} {x y g n : Nat} (h : Ro7 w x y g n W) : Ro7 w x y W.heap.size n (W.alloc (.cells #[.int .i64 ((n * x % 6 : Nat) : Int), .int .i64 ((n * y % 6 : Nat) : Int)] 37)) := by
  obtain ⟨h1, h2, h3, h4, h5⟩ := h
  exact ⟨alloc_past h1, alloc_at rfl, by omega, by simp, h5.alloc (by omega) _⟩
theorem Ro7.put {w W : World} {x y g n : Nat} (h : Ro7 w x y g n W) : Ro7 w x y g (n + 1) ((W.setCell ⟨g, 0, none⟩ (.int .i64 (((n + 1) * x % 6 : Nat) : Int))).setCell ⟨g, 1, none⟩ (.int .i64 (((n + 1) * y % 6 : Nat) : Int))) := by
  obtain ⟨h1, h2, h3, h4, h5⟩ := h
  exact ⟨o7_set2o _ _ (by omega) h1, o7_set2 _ _ h2, h3, by simpa using h4, (h5.setCell (Nat.le_of_lt h3) _).setCell (Nat.le_of_lt h3) _⟩
theorem around_n (a b x y p q : Nat) (ha : a < 6) (hb : b < 6) (hx : x < 6) (hy : y < 6) (hp : (a + x) % 6 = p) (hq : (b + y) % 6 = q) (w : World) : Calls Try.prog 203 #[.int .i64 ((a : Int) + (x : Int)), .int .i64 ((b : Int) + (y : Int))] w fun e w' => e = .returned (.agg #[.int .i64 (p : Int), .int .i64 (q : Int)]) ∧ Below w.heap.size w w' := by
  refine (around_any ((a : Int) + (x : Int)) ((b : Int) + (y : Int)) (WalkArith.wf_i64 (by omega)) (WalkArith.wf_i64 (by omega)) w).mono ?_
  rintro e w' ⟨rfl, h⟩
  refine ⟨?_, h⟩
  rw [← hp, ← hq]
  simp
set_option maxHeartbeats 1000000 in
theorem iorder_f (x y : Nat) (hx : x < 6) (hy : y < 6) (w : World) : Calls Try.prog 141 #[.agg #[.int .i64 (x : Int), .int .i64 (y : Int)]] w fun e w' => e = .returned (.int .i64 (vo x y : Int)) ∧ Below w.heap.size w w' := by
  have HG := Lib.hid (vo_ge hx hy)
  have HY := Lib.hid (vo_yes hx hy)
  have HN := fun n => @vo_no x y n hx hy
  have HN := Lib.hid HN
  obtain ⟨N, hN⟩ : ∃ N, N = vo x y := ⟨_, rfl⟩
  rw [← hN] at HG HY HN ⊢
  clear hN
  go_enter Try.func141, Try.ntmps141
  go_wp2_with fail
  generalize hW : (World.alloc (World.alloc w _) _ : World) = W0
  have hsz : (World.alloc w (.cells #[.int .i64 (x : Int), .int .i64 (y : Int)] 37)).heap.size = w.heap.size + 1 := by simp
  have S0 : Hid (Ro7 w x y (w.heap.size + 1) 1 W0) := by
    rw [← hW]
    have e1 : 1 * x % 6 = x := by rw [Nat.one_mul]; exact Nat.mod_eq_of_lt hx
    have e2 : 1 * y % 6 = y := by rw [Nat.one_mul]; exact Nat.mod_eq_of_lt hy
    refine Lib.hid ⟨?_, ?_, by omega, by simp, by (repeat (first | exact Below.refl _ _ | assumption | refine Below.setCell ?_ (by first | (simp; done) | (simp; omega)) _ | refine Below.alloc ?_ (by first | (simp; done) | (simp; omega)) _ | refine Below.drew ?_))⟩
    · exact alloc_past (alloc_at rfl)
    · rw [e1, e2]; exact alloc_at (by simp)
  clear hW hsz
  go_loopw [3, 4] (fun c p wr => ∃ n g : Nat, 1 ≤ n ∧ n ≤ N ∧ c = .int .i64 n ∧ p = .pointer (some ⟨g, 0, none⟩) ∧ Hid (Ro7 w x y g n wr)) (fun c _ _ => 7 - (intOf c).toNat)
  case atStart => exact ⟨1, _, by omega, HG.out.1, rfl, rfl, S0⟩
  case round =>
    obtain ⟨n, g, h1, hn, rfl, rfl, HS⟩ := hrel
    have hn6 : n ≤ 6 := Nat.le_trans hn HG.out.2
    rcases Nat.lt_or_ge n N with hlt | hge
    · have hno := HN.out n h1 hlt
      have hc := HS.out.copy
      have HC := Lib.hid hc
      obtain ⟨a, ha⟩ : ∃ a, n * x % 6 = a := ⟨_, rfl⟩
      obtain ⟨b, hb⟩ : ∃ b, n * y % 6 = b := ⟨_, rfl⟩
      have ha6 : a < 6 := by omega
      have hb6 : b < 6 := by omega
      have hp : (n + 1) * x % 6 = (a + x) % 6 := by rw [Nat.add_mul, Nat.one_mul, Nat.add_mod, ha, Nat.add_mod a x, Nat.mod_eq_of_lt ha6]
      have hq : (n + 1) * y % 6 = (b + y) % 6 := by rw [Nat.add_mul, Nat.one_mul, Nat.add_mod, hb, Nat.add_mod b y, Nat.mod_eq_of_lt hb6]
      obtain ⟨p, hpp⟩ : ∃ p, (a + x) % 6 = p := ⟨_, rfl⟩
      obtain ⟨q, hqq⟩ : ∃ q, (b + y) % 6 = q := ⟨_, rfl⟩
      have HA := Lib.hid (around_n a b x y p q ha6 hb6 hx hy hpp hqq)
      rw [hpp] at hp
      rw [hqq] at hq
      have NE : ∀ w, (binOp .neq 37 (.agg #[.int .i64 (a : Int), .int .i64 (b : Int)]) (.agg #[.int .i64 0, .int .i64 0])).run Try.prog w = .ok (.bool true) w := by
        intro w
        rw [neq29]
        have : ((a : Int) == 0 && (b : Int) == 0) = false := by
          rw [ha, hb] at hno
          simp
          omega
        rw [this]; rfl
      have hc1 : (HS.out.1) = HS.out.1 := rfl
      have c_v := fun j => cell_of_row wr _ j _ _ _ HS.out.1
      have c_g := fun j => cell_of_row wr _ j _ _ _ HS.out.2.1
      rw [ha, hb] at c_g
      have hz : w.heap.size < wr.heap.size := by have := HS.out.2.2; omega
      have hz2 : w.heap.size ≠ wr.heap.size := by omega
      clear hno hc hc1
      go_wp2_with fail
      have hc2 := HC.out
      rw [ha, hb] at hc2
      refine (HA.out _).mono ?_
      rintro e W1 ⟨rfl, hbb⟩
      have h5 := hc2.far hbb rfl
      have h6 := h5.put
      rw [hp, hq] at h6
      have HP := Lib.hid h6
      have g_f := fun j => frozen_of_row W1 _ j _ _ h5.2.1
      have g_c := fun j => cell_of_row W1 _ j _ _ _ h5.2.1
      clear h5 h6 hc2 hbb HC c_v c_g HS HA
      go_wp2_with fail
      generalize (World.setCell _ _ _ : World) = X at HP ⊢
      clear g_f g_c
      go_roundw
      case rel => exact ⟨n + 1, _, by omega, by omega, by go_num, rfl, HP⟩
      case measure => simp [intOf]; omega
    · obtain rfl : n = N := by omega
      have c_g := fun j => cell_of_row wr _ j _ _ _ HS.out.2.1
      rw [HY.out.1, HY.out.2] at c_g
      have c_g : ∀ j, wr.cell? ⟨g, j, none⟩ = (#[.int .i64 0, .int .i64 0] : Array Value)[j]? := c_g
      have NE : ∀ w, (binOp .neq 37 (.agg #[.int .i64 0, .int .i64 0]) (.agg #[.int .i64 0, .int .i64 0])).run Try.prog w = .ok (.bool false) w := fun w => neq29 _ _ _ _ w
      go_wp2_with fail
      go_ret
      exact ⟨rfl, HS.out.2.2.2.2⟩
end Go.Proofs.Ytpmhnikilianoaa
