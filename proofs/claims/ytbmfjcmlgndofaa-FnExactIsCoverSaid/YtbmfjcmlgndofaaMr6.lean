/- MERGED, for one claim's sake: Ci6, Cj6, Cm6, Cn6, Co6, Cp6, Cq6, Ob6, Co, Zl, Cr6. -/
import Derived.Test.YtbmfjcmlgndofaaCc6
import Derived.Test.YtbmfjcmlgndofaaZo
import Derived.Test.YtbmfjcmlgndofaaZs
import Derived.Test.YtbmfjcmlgndofaaRl6
import Derived.Test.YtbmfjcmlgndofaaSc
import Derived.Test.YtbmfjcmlgndofaaCn
import Derived.Test.YtbmfjcmlgndofaaShp
import Derived.WalkKit
import Derived.ProofKit
import Derived.OpenShut
import Derived.Lib.Hide
import Derived.WalkSpells
import Derived.Below
import Derived.BigQuiet
import Derived.LoopN
import Derived.Deep.RegionHeld3
import Derived.RegionTactic
import Derived.Laws.OwnMore
import Derived.Deep.Slices
import Derived.DataReads
namespace Go.Proofs.Ytbmfjcmlgndofaa
open Go.ChangeShapes Go.WideShapes Go.ChangeAt Go.RowKit
set_option linter.unusedVariables false
/- Ci6 -/
/-- The valid cells of a list as natural numbers. -/
def nz (z : List (Int × Int)) : List (Nat × Nat) := z.map fun c => (c.1.toNat, c.2.toNat)
theorem nz_len (z : List (Int × Int)) : (nz z).length = z.length := by simp [nz]
theorem nz_cv (z : List (Int × Int)) (h : ∀ i (h : i < z.length), okc (z[i]).1 (z[i]).2 = true) : cw z = cv (nz z) ∧ ∀ c ∈ nz z, c.1 < 6 ∧ c.2 < 6 := by
  have h' : ∀ c ∈ z, okc c.1 c.2 = true := fun c hc => by
    obtain ⟨i, hi, rfl⟩ := List.mem_iff_getElem.mp hc
    exact h i hi
  clear h
  induction z with
  | nil => exact ⟨rfl, by simp [nz]⟩
  | cons a z ih =>
    obtain ⟨i1, i2⟩ := ih (fun c hc => h' c (List.mem_cons_of_mem _ hc))
    obtain ⟨a1, a2⟩ := a
    obtain ⟨x, y, hx, hy, e1, e2⟩ := okc_nat (h' (a1, a2) (List.mem_cons_self ..))
    dsimp only at e1 e2
    subst e1 e2
    have e : nz (((x : Int), (y : Int)) :: z) = (x, y) :: nz z := by simp [nz]
    refine ⟨?_, ?_⟩
    · rw [e]
      have e1 : cw (((x : Int), (y : Int)) :: z) = [.int .i64 (x : Int), .int .i64 (y : Int)] ++ cw z := rfl
      have e2 : cv ((x, y) :: nz z) = [.int .i64 (x : Int), .int .i64 (y : Int)] ++ cv (nz z) := rfl
      rw [e1, e2, i1]
    · rw [e]
      intro c hc
      rcases List.mem_cons.mp hc with rfl | hc
      · exact ⟨hx, hy⟩
      · exact i2 c hc
theorem fz_iff (z : List (Int × Int)) (j i : Nat) : fz z z.length j i = true ↔ (i, j) ∈ nz z := by
  have key : ∀ (z : List (Int × Int)) (F : Fn6), z.foldl (fun F c => orf c.1.toNat c.2.toNat F) F j i = true ↔ F j i = true ∨ (i, j) ∈ nz z := by
    intro z
    induction z with
    | nil => intro F; simp [nz]
    | cons a z ih =>
      intro F
      rw [List.foldl_cons, ih]
      have e : nz (a :: z) = (a.1.toNat, a.2.toNat) :: nz z := rfl
      rw [e, List.mem_cons, Prod.mk.injEq]
      simp only [orf, Bool.or_eq_true, Bool.and_eq_true, beq_iff_eq, or_assoc]
      constructor
      · rintro (h | ⟨h1, h2⟩ | h)
        · exact .inl h
        · exact .inr (.inl ⟨h2, h1⟩)
        · exact .inr (.inr h)
      · rintro (h | ⟨h1, h2⟩ | h)
        · exact .inl h
        · exact .inr (.inl ⟨h2, h1⟩)
        · exact .inr (.inr h)
  rw [fz, List.take_length, key]
  simp [zf]
theorem ink_ag (p : Fn6) (z : List (Int × Int)) (h : ∀ c ∈ nz z, c.1 < 6 ∧ c.2 < 6) : Ag (spd (fz z z.length) p) (spo p (nz z) zf) := by
  refine (spd_comm _ _).trans fun j i hj hi => ?_
  rw [Bool.eq_iff_iff, spd_iff, spo_iff]
  constructor
  · rintro ⟨b, a, hb, ha, hf, hp⟩
    exact .inr ⟨(a, b), (fz_iff z b a).mp hf, hp⟩
  · rintro (h0 | ⟨c, hc, hp⟩)
    · simp [zf] at h0
    · exact ⟨c.2, c.1, (h c hc).2, (h c hc).1, (fz_iff z c.2 c.1).mpr hc, hp⟩
theorem ag_row {f g : Fn6} (h : Ag f g) {j : Nat} (hj : j < 6) : rowv (f j) = rowv (g j) := rowv_congr fun i hi => h j i hj hi
/-- Midway: rows known, and a row of pairs. -/
def Ri6 (n : Nat) (R : List (Nat × Obj)) (w : World) (z : List (Int × Int)) (g cap : Nat) (W : World) : Prop := KR n R w W ∧ W.ownsRow 0 53 2 (.slice (some ⟨g, 0, none⟩) z.length cap) z.length (cw z)
theorem Ri6.below {n : Nat} {R : List (Nat × Obj)} {w W W' : World} {z : List (Int × Int)} {g cap M : Nat} (h : Ri6 n R w z g cap W) (hb : Below M W W') (hM : M = W.heap.size) : Ri6 n R w z g cap W' := ⟨h.1.far hb hM, h.2.kept (grown_below hb hM) (.inr (by simp [Value.ownBlock]))⟩
set_option maxRecDepth 8000 in
set_option maxHeartbeats 2000000 in
theorem sia_yes (p : Fn6) (z : List (Int × Int)) (hz : z.length ≤ 1048576) (hok : ∀ i (h : i < z.length), okc (z[i]).1 (z[i]).2 = true) (g cap : Nat) (w : World) (hO : w.ownsRow 0 53 2 (.slice (some ⟨g, 0, none⟩) z.length cap) z.length (cw z)) : Calls Try.prog 29 #[.agg #[.int .i64 (rowv (p 0)), .int .i64 (rowv (p 1)), .int .i64 (rowv (p 2)), .int .i64 (rowv (p 3)), .int .i64 (rowv (p 4)), .int .i64 (rowv (p 5))], .slice (some ⟨g, 0, none⟩) z.length cap] w fun e w' => e = .returned (.tuple #[.agg #[.int .i64 (rowv (spo p (nz z) zf 0)), .int .i64 (rowv (spo p (nz z) zf 1)), .int .i64 (rowv (spo p (nz z) zf 2)), .int .i64 (rowv (spo p (nz z) zf 3)), .int .i64 (rowv (spo p (nz z) zf 4)), .int .i64 (rowv (spo p (nz z) zf 5))], .bool true]) ∧ Below w.heap.size w w' := by
  have HO := Lib.hid hO
  have HK := Lib.hid hok
  have HV := Lib.hid (row_as p)
  obtain ⟨ec, hlm⟩ := nz_cv z hok
  have hn := nz_len z
  have HL := Lib.hid (link6_f p (nz z) hlm (by omega))
  rw [← ec, hn] at HL
  clear hO hok ec hlm hn
  generalize spo p (nz z) zf = F at HL ⊢
  go_enter Try.func29, Try.ntmps29
  go_wp2_with fail
  generalize hW : (World.alloc _ _ : World) = W0
  have hB0 : Below w.heap.size w W0 := by rw [← hW]; (repeat (first | exact Below.refl _ _ | assumption | refine Below.setCell ?_ (by first | (simp; done) | (simp; omega)) _ | refine Below.alloc ?_ (by first | (simp; done) | (simp; omega)) _ | refine Below.drew ?_))
  have S0 : Hid (Ri6 2 [(w.heap.size, o6 p), (w.heap.size + 1, oz)] w z g cap W0) := Lib.hid ⟨two_boxes w _ _ hB0 (by rw [← hW]; exact alloc_past (alloc_at rfl)) (by rw [← hW]; exact alloc_at (by simp)) (by rw [← hW]; simp), HO.out.kept (grown_below hB0 rfl) (.inr (by simp [Value.ownBlock]))⟩
  clear hW hB0 HO
  have a_c := fun j => cell_of_row W0 _ j _ _ _ (S0.out.1.row (g := w.heap.size) (o := o6 p) (by simp))
  go_wp2_with fail
  refine (HV.out _).mono ?_
  rintro e W1 ⟨rfl, hb⟩
  have S1 := Lib.hid (S0.out.below hb rfl)
  clear hb S0 a_c HV
  go_wp2_with fail
  go_loopw [6] (fun c wr => ∃ i : Nat, i ≤ z.length ∧ c = .int .i64 i ∧ Hid (Ri6 2 [(w.heap.size, o6 p), (w.heap.size + 1, oz)] w z g cap wr)) (fun c _ => z.length - (intOf c).toNat)
  case atStart => exact ⟨0, by omega, rfl, S1⟩
  case round =>
    obtain ⟨i, hi, rfl, HS⟩ := hrel
    by_cases hlt : i < z.length
    · have hlt' : (i : Int) < z.length := by omega
      have hi0 : (0 : Int) ≤ i := by omega
      obtain ⟨p1, p2⟩ := cw_at z i hlt
      have a1 := own_at HS.out.2 p1
      have a2 := own_at HS.out.2 p2
      clear p1 p2
      have HI : Hid (∀ w, Calls Try.prog 128 #[.agg #[.int .i64 (z[i]).1, .int .i64 (z[i]).2]] w fun e w' => e = .returned (.bool true) ∧ Below w.heap.size w w') := Lib.hid (fun w => by
        have h := l2cell_any (z[i]).1 (z[i]).2 w
        rw [HK.out i hlt] at h
        exact h)
      generalize z[i] = c at a1 a2 HI
      obtain ⟨c1, c2⟩ := c
      dsimp only at a1 a2 HI
      go_wp2_with fail
      refine (HI.out _).mono ?_
      rintro e Y ⟨rfl, hb⟩
      have HY := Lib.hid (HS.out.below hb rfl)
      clear hb HS a1 a2 HI
      go_wp2_with fail
      go_roundw
      case rel => exact ⟨i + 1, by omega, by go_num, HY⟩
      case measure => simp [intOf]; omega
    · obtain rfl : i = z.length := by omega
      have b_c := fun j => cell_of_row wr _ j _ _ _ (HS.out.1.row (g := w.heap.size) (o := o6 p) (by simp))
      go_wp2_with fail
      refine (HL.out _ _ _ HS.out.2).mono ?_
      rintro e Y ⟨rfl, hb⟩
      have HY := Lib.hid (HS.out.below hb rfl)
      clear hb HS HL b_c
      have z_c : ∀ j, Y.cell? ⟨w.heap.size + 1, j, none⟩ = (#[.int .i64 0, .int .i64 0, .int .i64 0, .int .i64 0, .int .i64 0, .int .i64 0] : Array Value)[j]? := fun j => cell_of_row Y _ j _ _ _ (HY.out.1.row (g := w.heap.size + 1) (o := oz) (by simp))
      have z_f : ∀ j, Y.frozen? ⟨w.heap.size + 1, j, none⟩ = false := fun j => frozen_of_row Y _ j _ _ (HY.out.1.row (g := w.heap.size + 1) (o := oz) (by simp))
      go_wp2_with fail
      refine bodyPost_ret (v := .tuple #[.agg #[.int .i64 (rowv (F 0)), .int .i64 (rowv (F 1)), .int .i64 (rowv (F 2)), .int .i64 (rowv (F 3)), .int .i64 (rowv (F 4)), .int .i64 (rowv (F 5))], .bool true]) (by simp [results, Try.results29, go_sem, z_c]) rfl ⟨rfl, ?_⟩
      exact below6 HY.out.1.2.2 (by omega)
set_option maxRecDepth 8000 in
set_option maxHeartbeats 2000000 in
theorem sia_no (p : Fn6) (z : List (Int × Int)) (hz : z.length ≤ 1048576) (N : Nat) (hN : N < z.length) (hok : ∀ i (h : i < N), okc (z[i]'(by omega)).1 (z[i]'(by omega)).2 = true) (hbad : okc (z[N]).1 (z[N]).2 = false) (g cap : Nat) (w : World) (hO : w.ownsRow 0 53 2 (.slice (some ⟨g, 0, none⟩) z.length cap) z.length (cw z)) : Calls Try.prog 29 #[.agg #[.int .i64 (rowv (p 0)), .int .i64 (rowv (p 1)), .int .i64 (rowv (p 2)), .int .i64 (rowv (p 3)), .int .i64 (rowv (p 4)), .int .i64 (rowv (p 5))], .slice (some ⟨g, 0, none⟩) z.length cap] w fun e w' => e = .returned (.tuple #[.agg #[.int .i64 0, .int .i64 0, .int .i64 0, .int .i64 0, .int .i64 0, .int .i64 0], .bool false]) ∧ Below w.heap.size w w' := by
  have HO := Lib.hid hO
  have HK := Lib.hid hok
  have HV := Lib.hid (row_as p)
  clear hO hok
  go_enter Try.func29, Try.ntmps29
  go_wp2_with fail
  generalize hW : (World.alloc _ _ : World) = W0
  have hB0 : Below w.heap.size w W0 := by rw [← hW]; (repeat (first | exact Below.refl _ _ | assumption | refine Below.setCell ?_ (by first | (simp; done) | (simp; omega)) _ | refine Below.alloc ?_ (by first | (simp; done) | (simp; omega)) _ | refine Below.drew ?_))
  have S0 : Hid (Ri6 2 [(w.heap.size, o6 p), (w.heap.size + 1, oz)] w z g cap W0) := Lib.hid ⟨two_boxes w _ _ hB0 (by rw [← hW]; exact alloc_past (alloc_at rfl)) (by rw [← hW]; exact alloc_at (by simp)) (by rw [← hW]; simp), HO.out.kept (grown_below hB0 rfl) (.inr (by simp [Value.ownBlock]))⟩
  clear hW hB0 HO
  have a_c := fun j => cell_of_row W0 _ j _ _ _ (S0.out.1.row (g := w.heap.size) (o := o6 p) (by simp))
  go_wp2_with fail
  refine (HV.out _).mono ?_
  rintro e W1 ⟨rfl, hb⟩
  have S1 := Lib.hid (S0.out.below hb rfl)
  clear hb S0 a_c HV
  go_wp2_with fail
  go_loopw [6] (fun c wr => ∃ i : Nat, i ≤ N ∧ c = .int .i64 i ∧ Hid (Ri6 2 [(w.heap.size, o6 p), (w.heap.size + 1, oz)] w z g cap wr)) (fun c _ => z.length - (intOf c).toNat)
  case atStart => exact ⟨0, by omega, rfl, S1⟩
  case round =>
    obtain ⟨i, hi, rfl, HS⟩ := hrel
    by_cases hlt : i < N
    · have hltz : i < z.length := by omega
      have hlt' : (i : Int) < z.length := by omega
      have hi0 : (0 : Int) ≤ i := by omega
      obtain ⟨p1, p2⟩ := cw_at z i hltz
      have a1 := own_at HS.out.2 p1
      have a2 := own_at HS.out.2 p2
      clear p1 p2
      have HI : Hid (∀ w, Calls Try.prog 128 #[.agg #[.int .i64 (z[i]).1, .int .i64 (z[i]).2]] w fun e w' => e = .returned (.bool true) ∧ Below w.heap.size w w') := Lib.hid (fun w => by
        have h := l2cell_any (z[i]).1 (z[i]).2 w
        rw [HK.out i hlt] at h
        exact h)
      generalize z[i] = c at a1 a2 HI
      obtain ⟨c1, c2⟩ := c
      dsimp only at a1 a2 HI
      go_wp2_with fail
      refine (HI.out _).mono ?_
      rintro e Y ⟨rfl, hb⟩
      have HY := Lib.hid (HS.out.below hb rfl)
      clear hb HS a1 a2 HI
      go_wp2_with fail
      go_roundw
      case rel => exact ⟨i + 1, by omega, by go_num, HY⟩
      case measure => simp [intOf]; omega
    · obtain rfl : i = N := by omega
      have hlt' : (i : Int) < z.length := by omega
      have hi0 : (0 : Int) ≤ i := by omega
      obtain ⟨p1, p2⟩ := cw_at z i hN
      have a1 := own_at HS.out.2 p1
      have a2 := own_at HS.out.2 p2
      clear p1 p2
      have HI : Hid (∀ w, Calls Try.prog 128 #[.agg #[.int .i64 (z[i]).1, .int .i64 (z[i]).2]] w fun e w' => e = .returned (.bool false) ∧ Below w.heap.size w w') := Lib.hid (fun w => by
        have h := l2cell_any (z[i]).1 (z[i]).2 w
        rw [hbad] at h
        exact h)
      clear hbad
      generalize z[i] = c at a1 a2 HI
      obtain ⟨c1, c2⟩ := c
      dsimp only at a1 a2 HI
      go_wp2_with fail
      refine (HI.out _).mono ?_
      rintro e Y ⟨rfl, hb⟩
      have HY := Lib.hid (HS.out.below hb rfl)
      clear hb HS a1 a2 HI
      have z_c : ∀ j, Y.cell? ⟨w.heap.size + 1, j, none⟩ = (#[.int .i64 0, .int .i64 0, .int .i64 0, .int .i64 0, .int .i64 0, .int .i64 0] : Array Value)[j]? := fun j => cell_of_row Y _ j _ _ _ (HY.out.1.row (g := w.heap.size + 1) (o := oz) (by simp))
      have z_f : ∀ j, Y.frozen? ⟨w.heap.size + 1, j, none⟩ = false := fun j => frozen_of_row Y _ j _ _ (HY.out.1.row (g := w.heap.size + 1) (o := oz) (by simp))
      go_wp2_with fail
      refine bodyPost_ret (v := .tuple #[.agg #[.int .i64 0, .int .i64 0, .int .i64 0, .int .i64 0, .int .i64 0, .int .i64 0], .bool false]) (by simp [results, Try.results29, go_sem, z_c]) rfl ⟨rfl, ?_⟩
      exact below6 HY.out.1.2.2 (by omega)
set_option maxHeartbeats 1000000 in
theorem sia_ns (a0 a1 a2 a3 a4 a5 : Int) (V : Value) (H0 : Hid (∀ w, Calls Try.prog 121 #[.agg #[.int .i64 a0, .int .i64 a1, .int .i64 a2, .int .i64 a3, .int .i64 a4, .int .i64 a5]] w fun e w' => e = .returned (.bool false) ∧ Below w.heap.size w w')) (w : World) : Calls Try.prog 29 #[.agg #[.int .i64 a0, .int .i64 a1, .int .i64 a2, .int .i64 a3, .int .i64 a4, .int .i64 a5], V] w fun e w' => e = .returned (.tuple #[.agg #[.int .i64 0, .int .i64 0, .int .i64 0, .int .i64 0, .int .i64 0, .int .i64 0], .bool false]) ∧ Below w.heap.size w w' := by
  go_enter Try.func29, Try.ntmps29
  go_wp2_with fail
  generalize hW : (World.alloc _ _ : World) = W0
  have K0 : KR 2 [(w.heap.size, os a0 a1 a2 a3 a4 a5), (w.heap.size + 1, oz)] w W0 := by
    rw [← hW]
    exact two_boxes w _ _ (by (repeat (first | exact Below.refl _ _ | assumption | refine Below.setCell ?_ (by first | (simp; done) | (simp; omega)) _ | refine Below.alloc ?_ (by first | (simp; done) | (simp; omega)) _ | refine Below.drew ?_))) (alloc_past (alloc_at rfl)) (alloc_at (by simp)) (by simp)
  clear hW
  have a_c := fun j => cell_of_row W0 _ j _ _ _ (K0.row (g := w.heap.size) (o := os a0 a1 a2 a3 a4 a5) (by simp))
  go_wp2_with fail
  refine (H0.out _).mono ?_
  rintro e W1 ⟨rfl, hb⟩
  have K1 := K0.far hb rfl
  clear hb K0 a_c
  have z_c : ∀ j, W1.cell? ⟨w.heap.size + 1, j, none⟩ = (#[.int .i64 0, .int .i64 0, .int .i64 0, .int .i64 0, .int .i64 0, .int .i64 0] : Array Value)[j]? := fun j => cell_of_row W1 _ j _ _ _ (K1.row (g := w.heap.size + 1) (o := oz) (by simp))
  have z_f : ∀ j, W1.frozen? ⟨w.heap.size + 1, j, none⟩ = false := fun j => frozen_of_row W1 _ j _ _ (K1.row (g := w.heap.size + 1) (o := oz) (by simp))
  go_wp2_with fail
  refine bodyPost_ret (v := .tuple #[.agg #[.int .i64 0, .int .i64 0, .int .i64 0, .int .i64 0, .int .i64 0, .int .i64 0], .bool false]) (by simp [results, Try.results29, go_sem, z_c]) rfl ⟨rfl, ?_⟩
  exact below6 K1.2.2 (by omega)
set_option maxHeartbeats 1000000 in
/-- The code's: the sheet of the cells, spread by the stamp. -/
theorem iia_any (a0 a1 a2 a3 a4 a5 : Int) (V : Value) (b0 b1 b2 b3 b4 b5 : Int) (r0 r1 r2 r3 r4 r5 : Int) (t : Bool) (w : World) (HS : Hid (∀ W : World, Below w.heap.size w W → Calls Try.prog 131 #[V] W fun e w' => e = .returned (.tuple #[.agg #[.int .i64 b0, .int .i64 b1, .int .i64 b2, .int .i64 b3, .int .i64 b4, .int .i64 b5], .bool true]) ∧ Below W.heap.size W w')) (HF : Hid (∀ w, Calls Try.prog 84 #[.agg #[.int .i64 b0, .int .i64 b1, .int .i64 b2, .int .i64 b3, .int .i64 b4, .int .i64 b5], .agg #[.int .i64 a0, .int .i64 a1, .int .i64 a2, .int .i64 a3, .int .i64 a4, .int .i64 a5]] w fun e w' => e = .returned (.tuple #[.agg #[.int .i64 r0, .int .i64 r1, .int .i64 r2, .int .i64 r3, .int .i64 r4, .int .i64 r5], .bool t]) ∧ Below w.heap.size w w')) : Calls Try.prog 31 #[.agg #[.int .i64 a0, .int .i64 a1, .int .i64 a2, .int .i64 a3, .int .i64 a4, .int .i64 a5], V] w fun e w' => e = .returned (.tuple #[.agg #[.int .i64 r0, .int .i64 r1, .int .i64 r2, .int .i64 r3, .int .i64 r4, .int .i64 r5], .bool t]) ∧ Below w.heap.size w w' := by
  go_enter Try.func31, Try.ntmps31
  go_wp2_with fail
  generalize hW : (World.alloc _ _ : World) = W0
  have K0 : KR 2 [(w.heap.size, os a0 a1 a2 a3 a4 a5), (w.heap.size + 1, oz)] w W0 := by
    rw [← hW]
    exact two_boxes w _ _ (by (repeat (first | exact Below.refl _ _ | assumption | refine Below.setCell ?_ (by first | (simp; done) | (simp; omega)) _ | refine Below.alloc ?_ (by first | (simp; done) | (simp; omega)) _ | refine Below.drew ?_))) (alloc_past (alloc_at rfl)) (alloc_at (by simp)) (by simp)
  clear hW
  refine (HS.out _ K0.2.2).mono ?_
  rintro e W1 ⟨rfl, hb⟩
  have K1 := K0.far hb rfl
  clear hb K0
  have hl1 := K1.2.1
  have a_c := fun j => cell_of_row (W1.alloc (.cells #[.int .i64 b0, .int .i64 b1, .int .i64 b2, .int .i64 b3, .int .i64 b4, .int .i64 b5] 28)) _ j _ _ _ (K1.al.row (g := w.heap.size) (o := os a0 a1 a2 a3 a4 a5) (by simp))
  have K2 := K1.al (o := .cells #[.int .i64 b0, .int .i64 b1, .int .i64 b2, .int .i64 b3, .int .i64 b4, .int .i64 b5] 28)
  go_wp2_with fail
  refine (HF.out _).mono ?_
  rintro e W3 ⟨rfl, hb⟩
  have K3 := K2.far hb rfl
  clear hb K1 K2 a_c
  have z_c : ∀ j, W3.cell? ⟨w.heap.size + 1, j, none⟩ = (#[.int .i64 0, .int .i64 0, .int .i64 0, .int .i64 0, .int .i64 0, .int .i64 0] : Array Value)[j]? := fun j => cell_of_row W3 _ j _ _ _ (K3.row (g := w.heap.size + 1) (o := oz) (by simp))
  have z_f : ∀ j, W3.frozen? ⟨w.heap.size + 1, j, none⟩ = false := fun j => frozen_of_row W3 _ j _ _ (K3.row (g := w.heap.size + 1) (o := oz) (by simp))
  go_wp2_with fail
  refine bodyPost_ret (v := .tuple #[.agg #[.int .i64 r0, .int .i64 r1, .int .i64 r2, .int .i64 r3, .int .i64 r4, .int .i64 r5], .bool t]) (by simp [results, Try.results31, go_sem, z_c]) rfl ⟨rfl, ?_⟩
  exact below6 K3.2.2 (by omega)
set_option maxHeartbeats 1000000 in
theorem iia_no (a0 a1 a2 a3 a4 a5 : Int) (V : Value) (b0 b1 b2 b3 b4 b5 : Int) (w : World) (HS : Hid (∀ W : World, Below w.heap.size w W → Calls Try.prog 131 #[V] W fun e w' => e = .returned (.tuple #[.agg #[.int .i64 b0, .int .i64 b1, .int .i64 b2, .int .i64 b3, .int .i64 b4, .int .i64 b5], .bool false]) ∧ Below W.heap.size W w')) : Calls Try.prog 31 #[.agg #[.int .i64 a0, .int .i64 a1, .int .i64 a2, .int .i64 a3, .int .i64 a4, .int .i64 a5], V] w fun e w' => e = .returned (.tuple #[.agg #[.int .i64 0, .int .i64 0, .int .i64 0, .int .i64 0, .int .i64 0, .int .i64 0], .bool false]) ∧ Below w.heap.size w w' := by
  go_enter Try.func31, Try.ntmps31
  go_wp2_with fail
  generalize hW : (World.alloc _ _ : World) = W0
  have K0 : KR 2 [(w.heap.size, os a0 a1 a2 a3 a4 a5), (w.heap.size + 1, oz)] w W0 := by
    rw [← hW]
    exact two_boxes w _ _ (by (repeat (first | exact Below.refl _ _ | assumption | refine Below.setCell ?_ (by first | (simp; done) | (simp; omega)) _ | refine Below.alloc ?_ (by first | (simp; done) | (simp; omega)) _ | refine Below.drew ?_))) (alloc_past (alloc_at rfl)) (alloc_at (by simp)) (by simp)
  clear hW
  refine (HS.out _ K0.2.2).mono ?_
  rintro e W1 ⟨rfl, hb⟩
  have K1 := K0.far hb rfl
  clear hb K0
  have K3 := K1.al (o := .cells #[.int .i64 b0, .int .i64 b1, .int .i64 b2, .int .i64 b3, .int .i64 b4, .int .i64 b5] 28)
  have hl1 := K1.2.1
  have z_c : ∀ j, W1.cell? ⟨w.heap.size + 1, j, none⟩ = (#[.int .i64 0, .int .i64 0, .int .i64 0, .int .i64 0, .int .i64 0, .int .i64 0] : Array Value)[j]? := fun j => cell_of_row W1 _ j _ _ _ (K1.row (g := w.heap.size + 1) (o := oz) (by simp))
  have z_f : ∀ j, W1.frozen? ⟨w.heap.size + 1, j, none⟩ = false := fun j => frozen_of_row W1 _ j _ _ (K1.row (g := w.heap.size + 1) (o := oz) (by simp))
  have y_c : ∀ j, (W1.alloc (.cells #[.int .i64 b0, .int .i64 b1, .int .i64 b2, .int .i64 b3, .int .i64 b4, .int .i64 b5] 28)).cell? ⟨w.heap.size + 1, j, none⟩ = (#[.int .i64 0, .int .i64 0, .int .i64 0, .int .i64 0, .int .i64 0, .int .i64 0] : Array Value)[j]? := fun j => cell_of_row _ _ j _ _ _ (K3.row (g := w.heap.size + 1) (o := oz) (by simp))
  have y_f : ∀ j, (W1.alloc (.cells #[.int .i64 b0, .int .i64 b1, .int .i64 b2, .int .i64 b3, .int .i64 b4, .int .i64 b5] 28)).frozen? ⟨w.heap.size + 1, j, none⟩ = false := fun j => frozen_of_row _ _ j _ _ (K3.row (g := w.heap.size + 1) (o := oz) (by simp))
  have gne : w.heap.size + 1 ≠ W1.heap.size := by omega
  have glt : w.heap.size + 1 < W1.heap.size := by omega
  go_wp2_with fail
  have qx := alloc_past (o := .cells #[.int .i64 b0, .int .i64 b1, .int .i64 b2, .int .i64 b3, .int .i64 b4, .int .i64 b5] 28) (set6a (.int .i64 0) (.int .i64 0) (.int .i64 0) (.int .i64 0) (.int .i64 0) (.int .i64 0) (K1.row (g := w.heap.size + 1) (o := oz) (by simp)))
  have hB := (below6 (g := w.heap.size + 1) (v0 := .int .i64 0) (v1 := .int .i64 0) (v2 := .int .i64 0) (v3 := .int .i64 0) (v4 := .int .i64 0) (v5 := .int .i64 0) K1.2.2 (by omega)).alloc (by simp; omega) (.cells #[.int .i64 b0, .int .i64 b1, .int .i64 b2, .int .i64 b3, .int .i64 b4, .int .i64 b5] 28)
  generalize (World.alloc _ _ : World) = X at qx hB ⊢
  have x_c := fun j => cell_of_row X _ j _ _ _ qx
  exact bodyPost_ret (v := .tuple #[.agg #[.int .i64 0, .int .i64 0, .int .i64 0, .int .i64 0, .int .i64 0, .int .i64 0], .bool false]) (by simp [results, Try.results31, go_sem, x_c]) rfl ⟨rfl, hB⟩
/- Cj6 -/
theorem inkall_pair (a0 a1 a2 a3 a4 a5 : Int) (z : List (Int × Int)) (hz : z.length ≤ 1048576) (hwf : ∀ c ∈ z, (Lit.int .i64 c.1).wf = true ∧ (Lit.int .i64 c.2).wf = true) : ∃ (r0 r1 r2 r3 r4 r5 : Int) (t : Bool), (∀ (w : World) (g cap : Nat), w.ownsRow 0 53 2 (.slice (some ⟨g, 0, none⟩) z.length cap) z.length (cw z) → Calls Try.prog 29 #[.agg #[.int .i64 a0, .int .i64 a1, .int .i64 a2, .int .i64 a3, .int .i64 a4, .int .i64 a5], .slice (some ⟨g, 0, none⟩) z.length cap] w fun e w' => e = .returned (.tuple #[.agg #[.int .i64 r0, .int .i64 r1, .int .i64 r2, .int .i64 r3, .int .i64 r4, .int .i64 r5], .bool t]) ∧ Below w.heap.size w w') ∧ (∀ (w : World) (g cap : Nat), w.ownsRow 0 53 2 (.slice (some ⟨g, 0, none⟩) z.length cap) z.length (cw z) → Calls Try.prog 31 #[.agg #[.int .i64 a0, .int .i64 a1, .int .i64 a2, .int .i64 a3, .int .i64 a4, .int .i64 a5], .slice (some ⟨g, 0, none⟩) z.length cap] w fun e w' => e = .returned (.tuple #[.agg #[.int .i64 r0, .int .i64 r1, .int .i64 r2, .int .i64 r3, .int .i64 r4, .int .i64 r5], .bool t]) ∧ Below w.heap.size w w') := by
  have keep : ∀ {w W : World} {g cap : Nat}, w.ownsRow 0 53 2 (.slice (some ⟨g, 0, none⟩) z.length cap) z.length (cw z) → Below w.heap.size w W → W.ownsRow 0 53 2 (.slice (some ⟨g, 0, none⟩) z.length cap) z.length (cw z) := fun hO hb => hO.kept (grown_below hb rfl) (.inr (by simp [Value.ownBlock]))
  cases hv : (ok a0 && ok a1 && ok a2 && ok a3 && ok a4 && ok a5)
  · rcases first_bad z with h | ⟨N, hN, h, hb⟩
    · refine ⟨0, 0, 0, 0, 0, 0, false, fun w g cap hO => sia_ns a0 a1 a2 a3 a4 a5 _ (sh_as a0 a1 a2 a3 a4 a5 hv) w, fun w g cap hO => ?_⟩
      exact iia_any a0 a1 a2 a3 a4 a5 _ (rowv (fz z z.length 0)) (rowv (fz z z.length 1)) (rowv (fz z z.length 2)) (rowv (fz z z.length 3)) (rowv (fz z z.length 4)) (rowv (fz z z.length 5)) 0 0 0 0 0 0 false w (Lib.hid fun W hW => isf_yes z hz hwf h g cap W (keep hO hW)) (Lib.hid (ispread_n1 (rowv (fz z z.length 0)) (rowv (fz z z.length 1)) (rowv (fz z z.length 2)) (rowv (fz z z.length 3)) (rowv (fz z z.length 4)) (rowv (fz z z.length 5)) a0 a1 a2 a3 a4 a5 (by simp only [rowv_ok, Bool.and_self]) hv))
    · exact ⟨0, 0, 0, 0, 0, 0, false, fun w g cap hO => sia_ns a0 a1 a2 a3 a4 a5 _ (sh_as a0 a1 a2 a3 a4 a5 hv) w, fun w g cap hO => iia_no a0 a1 a2 a3 a4 a5 _ 0 0 0 0 0 0 w (Lib.hid fun W hW => isf_no z hz hwf N hN h hb g cap W (keep hO hW))⟩
  · obtain ⟨p, rfl, rfl, rfl, rfl, rfl, rfl⟩ := sheet_bits a0 a1 a2 a3 a4 a5 hv
    rcases first_bad z with h | ⟨N, hN, h, hb⟩
    · refine ⟨_, _, _, _, _, _, true, fun w g cap hO => sia_yes p z hz h g cap w hO, fun w g cap hO => ?_⟩
      have ha := ink_ag p z (nz_cv z h).2
      have H := iia_any (rowv (p 0)) (rowv (p 1)) (rowv (p 2)) (rowv (p 3)) (rowv (p 4)) (rowv (p 5)) (.slice (some ⟨g, 0, none⟩) z.length cap) (rowv (fz z z.length 0)) (rowv (fz z z.length 1)) (rowv (fz z z.length 2)) (rowv (fz z z.length 3)) (rowv (fz z z.length 4)) (rowv (fz z z.length 5)) (rowv (spd (fz z z.length) p 0)) (rowv (spd (fz z z.length) p 1)) (rowv (spd (fz z z.length) p 2)) (rowv (spd (fz z z.length) p 3)) (rowv (spd (fz z z.length) p 4)) (rowv (spd (fz z z.length) p 5)) true w (Lib.hid fun W hW => isf_yes z hz hwf h g cap W (keep hO hW)) (Lib.hid (ispread_c (fz z z.length) p))
      rw [ag_row ha (show 0 < 6 by decide), ag_row ha (show 1 < 6 by decide), ag_row ha (show 2 < 6 by decide), ag_row ha (show 3 < 6 by decide), ag_row ha (show 4 < 6 by decide), ag_row ha (show 5 < 6 by decide)] at H
      exact H
    · exact ⟨0, 0, 0, 0, 0, 0, false, fun w g cap hO => sia_no p z hz N hN h hb g cap w hO, fun w g cap hO => iia_no (rowv (p 0)) (rowv (p 1)) (rowv (p 2)) (rowv (p 3)) (rowv (p 4)) (rowv (p 5)) _ 0 0 0 0 0 0 w (Lib.hid fun W hW => isf_no z hz hwf N hN h hb g cap W (keep hO hW))⟩
/- Cm6 -/
theorem lplace_n (x y : Nat) (hx : x < 6) (hy : y < 6) (w : World) : Calls Try.prog 146 #[.agg #[.int .i64 (x : Int), .int .i64 (y : Int)]] w fun e w' => e = .returned (.int .i64 (6 * (y : Int) + (x : Int))) ∧ Below w.heap.size w w' := by
  have h0 : (0 : Int) ≤ x := by omega
  have h1 : (x : Int) < 6 := by omega
  have h2 : (0 : Int) ≤ y := by omega
  have h3 : (y : Int) < 6 := by omega
  go_enter Try.func146, Try.ntmps146
  go_wp2_with fail
  go_ret
  exact ⟨rfl, by (repeat (first | exact Below.refl _ _ | assumption | refine Below.setCell ?_ (by first | (simp; done) | (simp; omega)) _ | refine Below.alloc ?_ (by first | (simp; done) | (simp; omega)) _ | refine Below.drew ?_))⟩
theorem isnan_any (a : Int) (w : World) : Calls Try.prog 221 #[.int .i64 a] w fun e w' => e = .returned (.bool false) ∧ w' = w := by
  go_enter Try.func221, Try.ntmps221
  go_wp2_with fail
  go_ret
  exact ⟨by simp, rfl⟩
/-- -1, 0 or 1. -/
def sgn (a b : Int) : Int := if a < b then -1 else if b < a then 1 else 0
theorem cmpint_any (a b : Int) (w : World) : Calls Try.prog 143 #[.int .i64 a, .int .i64 b] w fun e w' => e = .returned (.int .i64 (sgn a b)) ∧ w' = w := by
  have H1 := Lib.hid (isnan_any a)
  have H2 := Lib.hid (isnan_any b)
  rcases Int.lt_trichotomy a b with h | h | h
  · have e : sgn a b = -1 := by unfold sgn; rw [if_pos h]
    rw [e]
    go_enter Try.func143, Try.ntmps143
    go_wp2_with fail
    refine (H1.out _).mono ?_
    rintro e w' ⟨rfl, rfl⟩
    go_wp2_with fail
    refine (H2.out _).mono ?_
    rintro e w' ⟨rfl, rfl⟩
    go_wp2_with fail
    go_ret
    exact ⟨rfl, rfl⟩
  · subst h
    have e : sgn a a = 0 := by unfold sgn; simp
    have hn : ¬ (a < a) := by omega
    rw [e]
    go_enter Try.func143, Try.ntmps143
    go_wp2_with fail
    refine (H1.out _).mono ?_
    rintro e w' ⟨rfl, rfl⟩
    go_wp2_with fail
    refine (H2.out _).mono ?_
    rintro e w' ⟨rfl, rfl⟩
    go_wp2_with fail
    go_ret
    exact ⟨rfl, rfl⟩
  · have hn : ¬ (a < b) := by omega
    have e : sgn a b = 1 := by unfold sgn; rw [if_neg hn, if_pos h]
    rw [e]
    go_enter Try.func143, Try.ntmps143
    go_wp2_with fail
    refine (H1.out _).mono ?_
    rintro e w' ⟨rfl, rfl⟩
    go_wp2_with fail
    refine (H2.out _).mono ?_
    rintro e w' ⟨rfl, rfl⟩
    go_wp2_with fail
    go_ret
    exact ⟨rfl, rfl⟩
theorem cmpor_two (a b : Int) (g : Nat) (w : World) (h0 : w.cell? ⟨g, 0, none⟩ = some (.int .i64 a)) (h1 : w.cell? ⟨g, 1, none⟩ = some (.int .i64 b)) : Calls Try.prog 224 #[.slice (some ⟨g, 0, none⟩) 2 2] w fun e w' => e = .returned (.int .i64 (if a = 0 then b else a)) ∧ w' = w := by
  by_cases ha : a = 0
  · subst ha
    by_cases hb : b = 0
    · subst hb
      go_enter Try.func224, Try.ntmps224
      go_wp2_with fail
      refine wp_loop_rounds 3 ?_
      rw [rounds_succ]
      go_wp2_with fail
      rw [rounds_succ]
      go_wp2_with fail
      try rw [rounds_succ]
      try go_wp2_with fail
      go_ret
      exact ⟨rfl, rfl⟩
    · have hb1 : (b == 0) = false := by simpa using hb
      have hb2 : (b != 0) = true := by simpa using hb
      go_enter Try.func224, Try.ntmps224
      go_wp2_with fail
      refine wp_loop_rounds 3 ?_
      rw [rounds_succ]
      go_wp2_with fail
      rw [rounds_succ]
      go_wp2_with fail
      go_ret
      exact ⟨rfl, rfl⟩
  · have hb1 : (a == 0) = false := by simpa using ha
    have hb2 : (a != 0) = true := by simpa using ha
    rw [if_neg ha]
    go_enter Try.func224, Try.ntmps224
    go_wp2_with fail
    refine wp_loop_rounds 3 ?_
    rw [rounds_succ]
    go_wp2_with fail
    go_ret
    exact ⟨rfl, rfl⟩
/-- Cells compared, row first. -/
def lexc (x1 y1 x2 y2 : Int) : Int := if sgn y1 y2 = 0 then sgn x1 x2 else sgn y1 y2
set_option maxHeartbeats 1000000 in
theorem cmpcells_any (x1 y1 x2 y2 : Int) (w : World) : Calls Try.prog 148 #[.agg #[.int .i64 x1, .int .i64 y1], .agg #[.int .i64 x2, .int .i64 y2]] w fun e w' => e = .returned (.int .i64 (lexc x1 y1 x2 y2)) ∧ Below w.heap.size w w' := by
  have H1 := Lib.hid (cmpint_any x1 x2)
  have H2 := Lib.hid (cmpint_any y1 y2)
  have H3 : Hid (∀ (g : Nat) (w : World), w.cell? ⟨g, 0, none⟩ = some (.int .i64 (sgn y1 y2)) → w.cell? ⟨g, 1, none⟩ = some (.int .i64 (sgn x1 x2)) → Calls Try.prog 224 #[.slice (some ⟨g, 0, none⟩) 2 2] w fun e w' => e = .returned (.int .i64 (lexc x1 y1 x2 y2)) ∧ w' = w) := Lib.hid (cmpor_two (sgn y1 y2) (sgn x1 x2))
  generalize lexc x1 y1 x2 y2 = L at H3 ⊢
  go_enter Try.func148, Try.ntmps148
  go_wp2_with fail
  generalize sgn x1 x2 = A at H1 H3
  generalize sgn y1 y2 = B at H2 H3
  generalize hW : (World.alloc _ _ : World) = W0
  have k0 : W0.cell? ⟨w.heap.size, 0, none⟩ = some (.int .i64 x1) ∧ W0.cell? ⟨w.heap.size, 1, none⟩ = some (.int .i64 y1) ∧ W0.cell? ⟨w.heap.size + 1, 0, none⟩ = some (.int .i64 x2) ∧ W0.cell? ⟨w.heap.size + 1, 1, none⟩ = some (.int .i64 y2) ∧ Below w.heap.size w W0 := by
    subst hW
    exact ⟨by go_simp, by go_simp, by go_simp, by go_simp, by (repeat (first | exact Below.refl _ _ | assumption | refine Below.setCell ?_ (by first | (simp; done) | (simp; omega)) _ | refine Below.alloc ?_ (by first | (simp; done) | (simp; omega)) _ | refine Below.drew ?_))⟩
  clear hW
  set_option maxRecDepth 8000 in
  go_region_held3 (fun U => U.cell? ⟨w.heap.size, 0, none⟩ = some (.int .i64 x1) ∧ U.cell? ⟨w.heap.size, 1, none⟩ = some (.int .i64 y1) ∧ U.cell? ⟨w.heap.size + 1, 0, none⟩ = some (.int .i64 x2) ∧ U.cell? ⟨w.heap.size + 1, 1, none⟩ = some (.int .i64 y2) ∧ Below w.heap.size w U) (first | with_reducible exact drewc4 k0 | with_reducible exact drewc4 (allocc4 k0) | with_reducible assumption) (first | (go_at_call 143; with_reducible refine (H1.out _).mono ?_; rintro e w' ⟨rfl, rfl⟩) | (go_at_call 143; with_reducible refine (H2.out _).mono ?_; rintro e w' ⟨rfl, rfl⟩) | (go_at_call 224; refine (H3.out _ _ (by go_simp) (by go_simp)).mono ?_; rintro e w' ⟨rfl, rfl⟩))
  all_goals
    go_wp2_with fail
    go_ret
    rename_i hS
    exact ⟨rfl, hS.2.2.2.2⟩
/- Cn6 -/
/-- The cell at i is valid, and its place is behind that of the one before. -/
def ascP (z : List (Int × Int)) (i : Nat) : Bool := match z[i]? with
  | none => false
  | some c => okc c.1 c.2 && (match i with
    | 0 => true
    | j + 1 => match z[j]? with
      | none => false
      | some d => decide (6 * d.2 + d.1 < 6 * c.2 + c.1))
/-- The cell at i + 1 is behind the one at i, row first. -/
def ascQ (z : List (Int × Int)) (i : Nat) : Bool := match z[i]?, z[i + 1]? with
  | some d, some c => decide (lexc d.1 d.2 c.1 c.2 < 0)
  | _, _ => false
theorem ascP_zero {z : List (Int × Int)} (h : 0 < z.length) : ascP z 0 = okc (z[0]).1 (z[0]).2 := by
  unfold ascP
  rw [List.getElem?_eq_getElem h]
  simp
theorem ascP_succ {z : List (Int × Int)} {i : Nat} (h : i + 1 < z.length) : ascP z (i + 1) = (okc (z[i + 1]).1 (z[i + 1]).2 && decide (6 * (z[i]'(by omega)).2 + (z[i]'(by omega)).1 < 6 * (z[i + 1]).2 + (z[i + 1]).1)) := by
  unfold ascP
  rw [List.getElem?_eq_getElem h]
  dsimp only
  rw [List.getElem?_eq_getElem (show i < z.length by omega)]
theorem ascP_ok {z : List (Int × Int)} {i : Nat} (h : i < z.length) (hp : ascP z i = true) : okc (z[i]).1 (z[i]).2 = true := by
  cases i with
  | zero => rw [ascP_zero h] at hp; exact hp
  | succ i => rw [ascP_succ h, Bool.and_eq_true] at hp; exact hp.1
theorem ascQ_at {z : List (Int × Int)} {i : Nat} (h : i + 1 < z.length) : ascQ z i = decide (lexc (z[i]'(by omega)).1 (z[i]'(by omega)).2 (z[i + 1]).1 (z[i + 1]).2 < 0) := by
  unfold ascQ
  rw [List.getElem?_eq_getElem h, List.getElem?_eq_getElem (show i < z.length by omega)]
theorem okc_iff {a b : Int} : okc a b = true ↔ (0 ≤ a ∧ a ≤ 5) ∧ (0 ≤ b ∧ b ≤ 5) := by
  simp [okc]
theorem lexc_neg (x1 y1 x2 y2 : Int) : lexc x1 y1 x2 y2 < 0 ↔ y1 < y2 ∨ (y1 = y2 ∧ x1 < x2) := by
  unfold lexc sgn
  split <;> (try split) <;> (try split) <;> (try split) <;> omega
theorem lex_place {x1 y1 x2 y2 : Int} (h1 : okc x1 y1 = true) (h2 : okc x2 y2 = true) : decide (lexc x1 y1 x2 y2 < 0) = decide (6 * y1 + x1 < 6 * y2 + x2) := by
  rw [okc_iff] at h1 h2
  rw [decide_eq_decide, lexc_neg]
  omega
/-- All ascend, or there is a first place where they do not. -/
theorem first_false (P : Nat → Bool) (n : Nat) : (∀ i, i < n → P i = true) ∨ ∃ N, N < n ∧ (∀ i, i < N → P i = true) ∧ P N = false := by
  induction n with
  | zero => exact .inl fun i h => by omega
  | succ n ih =>
    rcases ih with h | ⟨N, hN, h1, h2⟩
    · cases hq : P n
      · exact .inr ⟨n, by omega, h, hq⟩
      · refine .inl fun i hi => ?_
        rcases Nat.lt_succ_iff_lt_or_eq.mp hi with h' | rfl
        · exact h i h'
        · exact hq
    · exact .inr ⟨N, by omega, h1, h2⟩
theorem asc_both (z : List (Int × Int)) (h : ∀ i, i < z.length → ascP z i = true) : (∀ i (h : i < z.length), okc (z[i]).1 (z[i]).2 = true) ∧ ∀ i, i + 1 < z.length → ascQ z i = true := by
  refine ⟨fun i hi => ascP_ok hi (h i hi), fun i hi => ?_⟩
  have h1 := h (i + 1) hi
  rw [ascP_succ hi, Bool.and_eq_true] at h1
  rw [ascQ_at hi, lex_place (ascP_ok (by omega) (h i (by omega))) h1.1]
  exact h1.2
theorem asc_not (z : List (Int × Int)) {N : Nat} (hN : N < z.length) (h : ∀ i, i < N → ascP z i = true) (hb : ascP z N = false) : (∃ M, M + 1 < z.length ∧ (∀ i, i < M → ascQ z i = true) ∧ ascQ z M = false) ∨ ((∀ i, i + 1 < z.length → ascQ z i = true) ∧ ∃ M, ∃ hM : M < z.length, (∀ i (h : i < M), okc (z[i]'(by omega)).1 (z[i]'(by omega)).2 = true) ∧ okc (z[M]).1 (z[M]).2 = false) := by
  rcases first_false (ascQ z) (z.length - 1) with hq | ⟨M, hM, h1, h2⟩
  · rcases first_bad z with hk | hk
    · exfalso
      cases N with
      | zero =>
        rw [ascP_zero hN, hk 0 hN] at hb
        exact absurd hb (by decide)
      | succ N =>
        rw [ascP_succ hN, hk (N + 1) hN, Bool.true_and, ← lex_place (hk N (by omega)) (hk (N + 1) hN), ← ascQ_at hN, hq N (by omega)] at hb
        exact absurd hb (by decide)
    · exact .inr ⟨fun i hi => hq i (by omega), hk⟩
  · exact .inl ⟨M, by omega, h1, h2⟩
/- Co6 -/
/-- Midway in the model's IsCover. -/
def Rv6 (w : World) (p s : Fn6) (z : List (Int × Int)) (g cap : Nat) (W : World) : Prop := Ri6 2 [(w.heap.size, o6 p), (w.heap.size + 1, o6 s)] w z g cap W
theorem Rv6.below {w W W' : World} {p s : Fn6} {z : List (Int × Int)} {g cap M : Nat} (h : Rv6 w p s z g cap W) (hb : Below M W W') (hM : M = W.heap.size) : Rv6 w p s z g cap W' := Ri6.below h hb hM
theorem Rv6.drew {w W : World} {p s : Fn6} {z : List (Int × Int)} {g cap : Nat} (h : Rv6 w p s z g cap W) : Rv6 w p s z g cap W.drew := h.below (M := W.heap.size) (Below.refl _ _).drew rfl
theorem Rv6_at {w W : World} {p s : Fn6} {z : List (Int × Int)} {g cap i : Nat} (h : Rv6 w p s z g cap W) (hi : i < z.length) : W.cell? ⟨g, i * 2, none⟩ = some (.int .i64 (z[i]).1) ∧ W.cell? ⟨g, i * 2 + 1, none⟩ = some (.int .i64 (z[i]).2) :=
  ⟨own_at h.2 (cw_at z i hi).1, own_at h.2 (cw_at z i hi).2⟩
theorem okc_p {a b : Int} (h : okc a b = true) (w : World) : Calls Try.prog 146 #[.agg #[.int .i64 a, .int .i64 b]] w fun e w' => e = .returned (.int .i64 (6 * b + a)) ∧ Below w.heap.size w w' := by
  obtain ⟨x, y, hx, hy, rfl, rfl⟩ := okc_nat h
  exact lplace_n x y hx hy w
theorem l2cell_b {a b : Int} {t : Bool} (h : okc a b = t) (w : World) : Calls Try.prog 128 #[.agg #[.int .i64 a, .int .i64 b]] w fun e w' => e = .returned (.bool t) ∧ Below w.heap.size w w' := by
  have q := l2cell_any a b w
  rw [h] at q
  exact q
theorem Rv6_own {w U : World} {p s : Fn6} {z : List (Int × Int)} {g cap : Nat} (h : Rv6 w p s z g cap U) : U.ownsRow 0 53 2 (.slice (some ⟨g, 0, none⟩) z.length cap) z.length (cw z) := h.2
theorem SKw {w U : World} {p s : Fn6} {z : List (Int × Int)} {g cap : Nat} (h : Rv6 w p s z g cap U) : U.cell? ⟨w.heap.size, 0, none⟩ = some (.int .i64 (rowv (p 0))) ∧ U.cell? ⟨w.heap.size, 1, none⟩ = some (.int .i64 (rowv (p 1))) ∧ U.cell? ⟨w.heap.size, 2, none⟩ = some (.int .i64 (rowv (p 2))) ∧ U.cell? ⟨w.heap.size, 3, none⟩ = some (.int .i64 (rowv (p 3))) ∧ U.cell? ⟨w.heap.size, 4, none⟩ = some (.int .i64 (rowv (p 4))) ∧ U.cell? ⟨w.heap.size, 5, none⟩ = some (.int .i64 (rowv (p 5))) ∧ U.cell? ⟨w.heap.size + 1, 0, none⟩ = some (.int .i64 (rowv (s 0))) ∧ U.cell? ⟨w.heap.size + 1, 1, none⟩ = some (.int .i64 (rowv (s 1))) ∧ U.cell? ⟨w.heap.size + 1, 2, none⟩ = some (.int .i64 (rowv (s 2))) ∧ U.cell? ⟨w.heap.size + 1, 3, none⟩ = some (.int .i64 (rowv (s 3))) ∧ U.cell? ⟨w.heap.size + 1, 4, none⟩ = some (.int .i64 (rowv (s 4))) ∧ U.cell? ⟨w.heap.size + 1, 5, none⟩ = some (.int .i64 (rowv (s 5))) ∧ Rv6 w p s z g cap U :=
  have h0 := fun j => cell_of_row U _ j _ _ _ (h.1.row (g := w.heap.size) (o := o6 p) (List.mem_cons_self ..))
  have h1 := fun j => cell_of_row U _ j _ _ _ (h.1.row (g := w.heap.size + 1) (o := o6 s) (List.mem_cons_of_mem _ (List.mem_cons_self ..)))
  ⟨h0 0, h0 1, h0 2, h0 3, h0 4, h0 5, h1 0, h1 1, h1 2, h1 3, h1 4, h1 5, h⟩
set_option maxRecDepth 8000 in
set_option maxHeartbeats 4000000 in
theorem scov_any (p s : Fn6) (z : List (Int × Int)) (hz : z.length ≤ 1048576) (N : Nat) (hN : N ≤ z.length) (hP : ∀ i, i < N → ascP z i = true) (hE : N < z.length → ascP z N = false) (r : Bool) (hr : r = (decide (N = z.length) && (decide (z.length ≤ 5) && eqf (spo p (nz z) zf) s))) (g cap : Nat) (w : World) (hO : w.ownsRow 0 53 2 (.slice (some ⟨g, 0, none⟩) z.length cap) z.length (cw z)) : Calls Try.prog 41 #[.agg #[.int .i64 (rowv (p 0)), .int .i64 (rowv (p 1)), .int .i64 (rowv (p 2)), .int .i64 (rowv (p 3)), .int .i64 (rowv (p 4)), .int .i64 (rowv (p 5))], .agg #[.int .i64 (rowv (s 0)), .int .i64 (rowv (s 1)), .int .i64 (rowv (s 2)), .int .i64 (rowv (s 3)), .int .i64 (rowv (s 4)), .int .i64 (rowv (s 5))], .slice (some ⟨g, 0, none⟩) z.length cap] w fun e w' => e = .returned (.tuple #[.bool r, .bool true]) ∧ Below w.heap.size w w' := by
  have HO := Lib.hid hO
  have HK := Lib.hid hP
  have HE := Lib.hid hE
  have HV := Lib.hid (row_as p)
  have HV2 := Lib.hid (row_as s)
  have hnl := nz_len z
  have HL : Hid (N = z.length → ∀ (g cap : Nat) (w : World), w.ownsRow 0 53 2 (.slice (some ⟨g, 0, none⟩) z.length cap) z.length (cw z) → Calls Try.prog 129 #[.agg #[.int .i64 (rowv (p 0)), .int .i64 (rowv (p 1)), .int .i64 (rowv (p 2)), .int .i64 (rowv (p 3)), .int .i64 (rowv (p 4)), .int .i64 (rowv (p 5))], .slice (some ⟨g, 0, none⟩) z.length cap] w fun e w' => e = .returned (.agg #[.int .i64 (rowv (spo p (nz z) zf 0)), .int .i64 (rowv (spo p (nz z) zf 1)), .int .i64 (rowv (spo p (nz z) zf 2)), .int .i64 (rowv (spo p (nz z) zf 3)), .int .i64 (rowv (spo p (nz z) zf 4)), .int .i64 (rowv (spo p (nz z) zf 5))]) ∧ Below w.heap.size w w') := Lib.hid (fun hNz g cap w hO => by
    obtain ⟨ec, hlm⟩ := nz_cv z (fun i h => ascP_ok h (hP i (by omega)))
    have h := link6_f p (nz z) hlm (by omega) g cap w (by rw [nz_len, ← ec]; exact hO)
    rw [nz_len] at h
    exact h)
  have HR := Lib.hid hr
  clear hO hP hE hnl hr
  go_enter Try.func41, Try.ntmps41
  go_wp2_with fail
  generalize hW : (World.alloc _ _ : World) = W0
  have hB0 : Below w.heap.size w W0 := by rw [← hW]; (repeat (first | exact Below.refl _ _ | assumption | refine Below.setCell ?_ (by first | (simp; done) | (simp; omega)) _ | refine Below.alloc ?_ (by first | (simp; done) | (simp; omega)) _ | refine Below.drew ?_))
  have S0 : Hid (Rv6 w p s z g cap W0) := Lib.hid ⟨two_boxes w _ _ hB0 (by rw [← hW]; exact alloc_past (alloc_at rfl)) (by rw [← hW]; exact alloc_at (by simp)) (by rw [← hW]; simp), HO.out.kept (grown_below hB0 rfl) (.inr (by simp [Value.ownBlock]))⟩
  clear hW hB0 HO
  have a_c := fun j => cell_of_row W0 _ j _ _ _ (S0.out.1.row (g := w.heap.size) (o := o6 p) (by simp))
  go_wp2_with fail
  refine (HV.out _).mono ?_
  rintro e W1 ⟨rfl, hb⟩
  have S1 := Lib.hid (S0.out.below hb rfl)
  clear hb S0 a_c HV
  have a_c := fun j => cell_of_row W1 _ j _ _ _ (S1.out.1.row (g := w.heap.size + 1) (o := o6 s) (by simp))
  go_wp2_with fail
  refine (HV2.out _).mono ?_
  rintro e W2 ⟨rfl, hb⟩
  have S2 := Lib.hid (S1.out.below hb rfl)
  clear hb S1 a_c HV2
  go_wp2_with fail
  go_loopw [8] (fun c wr => ∃ i : Nat, i ≤ N ∧ c = .int .i64 i ∧ Hid (Rv6 w p s z g cap wr)) (fun c _ => z.length - (intOf c).toNat)
  case atStart => exact ⟨0, by omega, rfl, S2⟩
  case round =>
    obtain ⟨i, hi, rfl, HS⟩ := hrel
    by_cases hlt : i < N
    · have hltz : i < z.length := by omega
      have hlt' : (i : Int) < z.length := by omega
      have hi0 : (0 : Int) ≤ i := by omega
      have hPi := HK.out i hlt
      have HI := Lib.hid (l2cell_b (ascP_ok hltz hPi))
      have hq := HS.out.drew
      have HC := Lib.hid (fun (U : World) (h : Rv6 w p s z g cap U) => Rv6_at h hltz)
      rcases Nat.eq_zero_or_pos i with h0 | h0
      · subst h0
        clear hPi HS HL
        simp only [Nat.zero_mul, Nat.zero_add] at HC
        generalize z[0] = c at HC HI
        obtain ⟨c1, c2⟩ := c
        dsimp only at HC HI
        go_wp2_with fail
        refine wp_region_held_drew (S := (fun U => U.cell? ⟨g, 0, none⟩ = some (.int .i64 c1) ∧ U.cell? ⟨g, 1, none⟩ = some (.int .i64 c2) ∧ Rv6 w p s z g cap U)) (by kernel_rfl) ?_ (fun hHeld => ?_)
        · (try dsimp only)
          exact ⟨(HC.out _ hq).1, (HC.out _ hq).2, hq⟩
        refine wpAnyH_take (i := 0) (oi := { dst := some 23, op := Go.Op.move (Go.Operand.tmp 2), type := 25, pos := "l6_covers.go:149", after := #[], guard := none }) (v := ?_) rfl (by kernel_rfl) (by kernel_rfl) (by kernel_rfl) (fun _ _ _ h => h) (Or.inl ⟨by rfl, ?_⟩) (by assumption) ?_
        rotate_left
        · intro w hSw; (try dsimp only at hSw); go_simp; (try with_reducible rfl)
        simp only [Act.put, List.setIfInBounds_toArray, List.set_cons_zero, List.set_cons_succ]
        refine wpAnyH_take (i := 1) (oi := { dst := some 24, op := Go.Op.move (Go.Operand.tmp 8), type := 3, pos := "l6_covers.go:149", after := #[], guard := none }) (v := ?_) rfl (by kernel_rfl) (by kernel_rfl) (by kernel_rfl) (fun _ _ _ h => h) (Or.inl ⟨by rfl, ?_⟩) (by assumption) ?_
        rotate_left
        · intro w hSw; (try dsimp only at hSw); go_simp; (try with_reducible rfl)
        simp only [Act.put, List.setIfInBounds_toArray, List.set_cons_zero, List.set_cons_succ]
        refine wpAnyH_take (i := 2) (oi := { dst := some 25, op := Go.Op.indexAddr 25 (Go.Operand.tmp 23) (Go.Operand.tmp 24), type := 0, pos := "l6_covers.go:149", after := #[{ on := 0, ground := Go.Ground.data }, { on := 1, ground := Go.Ground.data }], guard := none }) (v := ?_) rfl (by kernel_rfl) (by kernel_rfl) (by kernel_rfl) (fun _ _ _ h => h) (Or.inl ⟨by rfl, ?_⟩) (by assumption) ?_
        rotate_left
        · intro w hSw; (try dsimp only at hSw); go_simp; (try with_reducible rfl)
        simp only [Act.put, List.setIfInBounds_toArray, List.set_cons_zero, List.set_cons_succ]
        refine wpAnyH_take (i := 3) (oi := { dst := some 26, op := Go.Op.load 53 (Go.Operand.tmp 25), type := 53, pos := "l6_covers.go:149", after := #[{ on := 2, ground := Go.Ground.data }], guard := none }) (v := ?_) rfl (by kernel_rfl) (by kernel_rfl) (by kernel_rfl) (fun _ _ _ h => h) (Or.inl ⟨by rfl, ?_⟩) (by assumption) ?_
        rotate_left
        · intro w hSw; (try dsimp only at hSw); go_simp; (try with_reducible rfl)
        simp only [Act.put, List.setIfInBounds_toArray, List.set_cons_zero, List.set_cons_succ]
        refine wpAnyH_ready (rs := [4]) (by kernel_rfl) (by simp) ?_
        refine AllReadyH.cons (o := { dst := some 27, op := Go.Op.call { callee := Go.Callee.value (Go.Operand.func 128), args := #[Go.Operand.tmp 26], argTypes := #[53] }, type := 4, pos := "l6_covers.go:149", after := #[{ on := 3, ground := Go.Ground.data }], guard := none }) rfl (fun K hK => ?_) AllReadyH.nil
        go_simp
        (go_at_call 128; with_reducible refine (HI.out _).mono ?_; rintro e w' ⟨rfl, hb'⟩; have hq := hq.below hb' rfl; go_wp2_with fail)
        refine hK.out _ _ ?_ (fun hHeld => ?_)
        · (try dsimp only)
          exact ⟨(HC.out _ hq).1, (HC.out _ hq).2, hq⟩
        clear hK K
        (try simp only [Act.put, List.setIfInBounds_toArray, List.set_cons_zero, List.set_cons_succ])
        refine wpAnyH_take (i := 5) (oi := { dst := some 28, op := Go.Op.unOp Go.UnOp.not 4 (Go.Operand.tmp 27), type := 4, pos := "l6_covers.go:149", after := #[{ on := 4, ground := Go.Ground.data }], guard := none }) (v := ?_) rfl (by kernel_rfl) (by kernel_rfl) (by kernel_rfl) (fun _ _ _ h => h) (Or.inl ⟨by rfl, ?_⟩) (by assumption) ?_
        rotate_left
        · intro w hSw; (try dsimp only at hSw); go_simp; (try with_reducible rfl)
        simp only [Act.put, List.setIfInBounds_toArray, List.set_cons_zero, List.set_cons_succ]
        refine wpAnyH_take (i := 6) (oi := { dst := some 29, op := Go.Op.move (Go.Operand.tmp 28), type := 4, pos := "l6_covers.go:149", after := #[{ on := 5, ground := Go.Ground.data }, { on := 4, ground := Go.Ground.chain }], guard := none }) (v := ?_) rfl (by kernel_rfl) (by kernel_rfl) (by kernel_rfl) (fun _ _ _ h => h) (Or.inl ⟨by rfl, ?_⟩) (by assumption) ?_
        rotate_left
        · intro w hSw; (try dsimp only at hSw); go_simp; (try with_reducible rfl)
        simp only [Act.put, List.setIfInBounds_toArray, List.set_cons_zero, List.set_cons_succ]
        refine wpAnyH_take (i := 7) (oi := { dst := some 30, op := Go.Op.move (Go.Operand.tmp 8), type := 3, pos := "l6_covers.go:149", after := #[{ on := 6, ground := Go.Ground.guard }], guard := some (6, false) }) (v := ?_) rfl (by kernel_rfl) (by kernel_rfl) (by kernel_rfl) (fun _ _ _ h => h) (Or.inl ⟨by rfl, ?_⟩) (by assumption) ?_
        rotate_left
        · intro w hSw; (try dsimp only at hSw); go_simp; (try with_reducible rfl)
        simp only [Act.put, List.setIfInBounds_toArray, List.set_cons_zero, List.set_cons_succ]
        refine wpAnyH_take (i := 8) (oi := { dst := some 31, op := Go.Op.binOp Go.BinOp.gtr 3 (Go.Operand.tmp 30) (Go.Operand.const (Go.Value.int Go.IntKind.i64 0)) 3, type := 4, pos := "l6_covers.go:149", after := #[{ on := 7, ground := Go.Ground.data }, { on := 6, ground := Go.Ground.guard }], guard := some (6, false) }) (v := ?_) rfl (by kernel_rfl) (by kernel_rfl) (by kernel_rfl) (fun _ _ _ h => h) (Or.inl ⟨by rfl, ?_⟩) (by assumption) ?_
        rotate_left
        · intro w hSw; (try dsimp only at hSw); go_simp; (try with_reducible rfl)
        simp only [Act.put, List.setIfInBounds_toArray, List.set_cons_zero, List.set_cons_succ]
        refine wpAnyH_take (i := 9) (oi := { dst := some 32, op := Go.Op.move (Go.Operand.tmp 31), type := 4, pos := "l6_covers.go:149", after := #[{ on := 8, ground := Go.Ground.data }, { on := 6, ground := Go.Ground.chain }, { on := 6, ground := Go.Ground.guard }], guard := some (6, false) }) (v := ?_) rfl (by kernel_rfl) (by kernel_rfl) (by kernel_rfl) (fun _ _ _ h => h) (Or.inl ⟨by rfl, ?_⟩) (by assumption) ?_
        rotate_left
        · intro w hSw; (try dsimp only at hSw); go_simp; (try with_reducible rfl)
        simp only [Act.put, List.setIfInBounds_toArray, List.set_cons_zero, List.set_cons_succ]
        refine wpAnyH_take (i := 10) (oi := { dst := some 33, op := Go.Op.move (Go.Operand.tmp 2), type := 25, pos := "l6_covers.go:149", after := #[{ on := 9, ground := Go.Ground.guard }], guard := some (9, true) }) (v := undef) rfl (by kernel_rfl) (by kernel_rfl) (by kernel_rfl) (fun _ _ _ h => h) (Or.inr ⟨by rfl, rfl⟩) (by assumption) ?_
        simp only [Act.put, List.setIfInBounds_toArray, List.set_cons_zero, List.set_cons_succ]
        refine wpAnyH_take (i := 11) (oi := { dst := some 34, op := Go.Op.move (Go.Operand.tmp 8), type := 3, pos := "l6_covers.go:149", after := #[{ on := 9, ground := Go.Ground.guard }], guard := some (9, true) }) (v := undef) rfl (by kernel_rfl) (by kernel_rfl) (by kernel_rfl) (fun _ _ _ h => h) (Or.inr ⟨by rfl, rfl⟩) (by assumption) ?_
        simp only [Act.put, List.setIfInBounds_toArray, List.set_cons_zero, List.set_cons_succ]
        refine wpAnyH_take (i := 12) (oi := { dst := some 35, op := Go.Op.binOp Go.BinOp.sub 3 (Go.Operand.tmp 34) (Go.Operand.const (Go.Value.int Go.IntKind.i64 1)) 3, type := 3, pos := "l6_covers.go:149", after := #[{ on := 11, ground := Go.Ground.data }, { on := 9, ground := Go.Ground.guard }], guard := some (9, true) }) (v := undef) rfl (by kernel_rfl) (by kernel_rfl) (by kernel_rfl) (fun _ _ _ h => h) (Or.inr ⟨by rfl, rfl⟩) (by assumption) ?_
        simp only [Act.put, List.setIfInBounds_toArray, List.set_cons_zero, List.set_cons_succ]
        refine wpAnyH_take (i := 13) (oi := { dst := some 36, op := Go.Op.indexAddr 25 (Go.Operand.tmp 33) (Go.Operand.tmp 35), type := 0, pos := "l6_covers.go:149", after := #[{ on := 10, ground := Go.Ground.data }, { on := 12, ground := Go.Ground.data }, { on := 9, ground := Go.Ground.guard }], guard := some (9, true) }) (v := undef) rfl (by kernel_rfl) (by kernel_rfl) (by kernel_rfl) (fun _ _ _ h => h) (Or.inr ⟨by rfl, rfl⟩) (by assumption) ?_
        simp only [Act.put, List.setIfInBounds_toArray, List.set_cons_zero, List.set_cons_succ]
        refine wpAnyH_take (i := 14) (oi := { dst := some 37, op := Go.Op.load 53 (Go.Operand.tmp 36), type := 53, pos := "l6_covers.go:149", after := #[{ on := 13, ground := Go.Ground.data }, { on := 9, ground := Go.Ground.guard }], guard := some (9, true) }) (v := undef) rfl (by kernel_rfl) (by kernel_rfl) (by kernel_rfl) (fun _ _ _ h => h) (Or.inr ⟨by rfl, rfl⟩) (by assumption) ?_
        simp only [Act.put, List.setIfInBounds_toArray, List.set_cons_zero, List.set_cons_succ]
        refine wpAnyH_take (i := 15) (oi := { dst := some 38, op := Go.Op.call { callee := Go.Callee.value (Go.Operand.func 146), args := #[Go.Operand.tmp 37], argTypes := #[53] }, type := 3, pos := "l6_covers.go:149", after := #[{ on := 14, ground := Go.Ground.data }, { on := 9, ground := Go.Ground.chain }, { on := 9, ground := Go.Ground.guard }], guard := some (9, true) }) (v := undef) rfl (by kernel_rfl) (by kernel_rfl) (by kernel_rfl) (fun _ _ _ h => h) (Or.inr ⟨by rfl, rfl⟩) (by assumption) ?_
        simp only [Act.put, List.setIfInBounds_toArray, List.set_cons_zero, List.set_cons_succ]
        refine wpAnyH_take (i := 16) (oi := { dst := some 39, op := Go.Op.move (Go.Operand.tmp 2), type := 25, pos := "l6_covers.go:149", after := #[{ on := 9, ground := Go.Ground.guard }], guard := some (9, true) }) (v := undef) rfl (by kernel_rfl) (by kernel_rfl) (by kernel_rfl) (fun _ _ _ h => h) (Or.inr ⟨by rfl, rfl⟩) (by assumption) ?_
        simp only [Act.put, List.setIfInBounds_toArray, List.set_cons_zero, List.set_cons_succ]
        refine wpAnyH_take (i := 17) (oi := { dst := some 40, op := Go.Op.move (Go.Operand.tmp 8), type := 3, pos := "l6_covers.go:149", after := #[{ on := 9, ground := Go.Ground.guard }], guard := some (9, true) }) (v := undef) rfl (by kernel_rfl) (by kernel_rfl) (by kernel_rfl) (fun _ _ _ h => h) (Or.inr ⟨by rfl, rfl⟩) (by assumption) ?_
        simp only [Act.put, List.setIfInBounds_toArray, List.set_cons_zero, List.set_cons_succ]
        refine wpAnyH_take (i := 18) (oi := { dst := some 41, op := Go.Op.indexAddr 25 (Go.Operand.tmp 39) (Go.Operand.tmp 40), type := 0, pos := "l6_covers.go:149", after := #[{ on := 16, ground := Go.Ground.data }, { on := 17, ground := Go.Ground.data }, { on := 9, ground := Go.Ground.guard }], guard := some (9, true) }) (v := undef) rfl (by kernel_rfl) (by kernel_rfl) (by kernel_rfl) (fun _ _ _ h => h) (Or.inr ⟨by rfl, rfl⟩) (by assumption) ?_
        simp only [Act.put, List.setIfInBounds_toArray, List.set_cons_zero, List.set_cons_succ]
        refine wpAnyH_take (i := 19) (oi := { dst := some 42, op := Go.Op.load 53 (Go.Operand.tmp 41), type := 53, pos := "l6_covers.go:149", after := #[{ on := 18, ground := Go.Ground.data }, { on := 9, ground := Go.Ground.guard }], guard := some (9, true) }) (v := undef) rfl (by kernel_rfl) (by kernel_rfl) (by kernel_rfl) (fun _ _ _ h => h) (Or.inr ⟨by rfl, rfl⟩) (by assumption) ?_
        simp only [Act.put, List.setIfInBounds_toArray, List.set_cons_zero, List.set_cons_succ]
        refine wpAnyH_take (i := 20) (oi := { dst := some 43, op := Go.Op.call { callee := Go.Callee.value (Go.Operand.func 146), args := #[Go.Operand.tmp 42], argTypes := #[53] }, type := 3, pos := "l6_covers.go:149", after := #[{ on := 19, ground := Go.Ground.data }, { on := 15, ground := Go.Ground.chain }, { on := 9, ground := Go.Ground.guard }], guard := some (9, true) }) (v := undef) rfl (by kernel_rfl) (by kernel_rfl) (by kernel_rfl) (fun _ _ _ h => h) (Or.inr ⟨by rfl, rfl⟩) (by assumption) ?_
        simp only [Act.put, List.setIfInBounds_toArray, List.set_cons_zero, List.set_cons_succ]
        refine wpAnyH_take (i := 21) (oi := { dst := some 44, op := Go.Op.binOp Go.BinOp.geq 3 (Go.Operand.tmp 38) (Go.Operand.tmp 43) 3, type := 4, pos := "l6_covers.go:149", after := #[{ on := 15, ground := Go.Ground.data }, { on := 20, ground := Go.Ground.data }, { on := 9, ground := Go.Ground.guard }], guard := some (9, true) }) (v := undef) rfl (by kernel_rfl) (by kernel_rfl) (by kernel_rfl) (fun _ _ _ h => h) (Or.inr ⟨by rfl, rfl⟩) (by assumption) ?_
        simp only [Act.put, List.setIfInBounds_toArray, List.set_cons_zero, List.set_cons_succ]
        refine wpAnyH_take (i := 22) (oi := { dst := some 45, op := Go.Op.pick (Go.Operand.tmp 32) (Go.Operand.tmp 44) (Go.Operand.const (Go.Value.bool false)), type := 4, pos := "l6_covers.go:149", after := #[{ on := 9, ground := Go.Ground.data }, { on := 21, ground := Go.Ground.data }, { on := 6, ground := Go.Ground.guard }], guard := some (6, false) }) (v := ?_) rfl (by kernel_rfl) (by kernel_rfl) (by kernel_rfl) (fun _ _ _ h => h) (Or.inl ⟨by rfl, ?_⟩) (by assumption) ?_
        rotate_left
        · intro w hSw; (try dsimp only at hSw); go_simp; (try with_reducible rfl)
        simp only [Act.put, List.setIfInBounds_toArray, List.set_cons_zero, List.set_cons_succ]
        refine wpAnyH_take (i := 23) (oi := { dst := some 46, op := Go.Op.pick (Go.Operand.tmp 29) (Go.Operand.const (Go.Value.bool true)) (Go.Operand.tmp 45), type := 4, pos := "l6_covers.go:149", after := #[{ on := 6, ground := Go.Ground.data }, { on := 22, ground := Go.Ground.data }], guard := none }) (v := ?_) rfl (by kernel_rfl) (by kernel_rfl) (by kernel_rfl) (fun _ _ _ h => h) (Or.inl ⟨by rfl, ?_⟩) (by assumption) ?_
        rotate_left
        · intro w hSw; (try dsimp only at hSw); go_simp; (try with_reducible rfl)
        simp only [Act.put, List.setIfInBounds_toArray, List.set_cons_zero, List.set_cons_succ]
        refine wpAnyH_done (by kernel_rfl) ?_ _
        have HQ := Lib.hid hq
        rename_i hHeld
        clear hHeld hq HC HI
        go_wp2_with fail
        go_roundw
        case rel => exact ⟨1, by omega, by go_num, HQ⟩
        case measure => simp [intOf]; omega
      · obtain ⟨j, rfl⟩ : ∃ j, i = j + 1 := ⟨i - 1, by omega⟩
        have hj1 : j < z.length := by omega
        have HD := Lib.hid (fun (U : World) (h : Rv6 w p s z g cap U) => Rv6_at h hj1)
        have hj0 : (0 : Int) ≤ (j : Int) := by omega
        have hjl : (j : Int) < z.length := by omega
        have hjm : (j : Int) + 1 < z.length := by omega
        have hju : (0 : Int) ≤ (j : Int) + 1 := by omega
        have hjg : (0 : Int) < (j : Int) + 1 := by omega
        have hjt : ((j : Int) + 1).toNat = j + 1 := by omega
        have hwj : IntKind.i64.wrap (j : Int) = j := by rw [IntKind.wrap_i64]; omega
        have HP1 := Lib.hid (okc_p (ascP_ok hj1 (HK.out j (by omega))))
        have HP2 := Lib.hid (okc_p (ascP_ok hltz hPi))
        have hng : ¬ (6 * (z[j + 1]).2 + (z[j + 1]).1 ≤ 6 * (z[j]).2 + (z[j]).1) := by
          rw [ascP_succ hltz, Bool.and_eq_true, decide_eq_true_eq] at hPi
          omega
        clear hPi HS HL h0
        generalize z[j + 1] = c at HC HI HP2 hng
        generalize z[j] = d at HD HP1 hng
        obtain ⟨c1, c2⟩ := c
        obtain ⟨d1, d2⟩ := d
        dsimp only at HC HI HD HP1 HP2 hng
        generalize 6 * c2 + c1 = PC at HP2 hng
        generalize 6 * d2 + d1 = PD at HP1 hng
        go_wp2_with fail
        refine wp_region_held_drew (S := (fun U => U.cell? ⟨g, (j + 1) * 2, none⟩ = some (.int .i64 c1) ∧ U.cell? ⟨g, (j + 1) * 2 + 1, none⟩ = some (.int .i64 c2) ∧ U.cell? ⟨g, j * 2, none⟩ = some (.int .i64 d1) ∧ U.cell? ⟨g, j * 2 + 1, none⟩ = some (.int .i64 d2) ∧ Rv6 w p s z g cap U)) (by kernel_rfl) ?_ (fun hHeld => ?_)
        · (try dsimp only)
          exact ⟨(HC.out _ hq).1, (HC.out _ hq).2, (HD.out _ hq).1, (HD.out _ hq).2, hq⟩
        refine wpAnyH_take (i := 0) (oi := { dst := some 23, op := Go.Op.move (Go.Operand.tmp 2), type := 25, pos := "l6_covers.go:149", after := #[], guard := none }) (v := ?_) rfl (by kernel_rfl) (by kernel_rfl) (by kernel_rfl) (fun _ _ _ h => h) (Or.inl ⟨by rfl, ?_⟩) (by assumption) ?_
        rotate_left
        · intro w hSw; (try dsimp only at hSw); go_simp; (try with_reducible rfl)
        simp only [Act.put, List.setIfInBounds_toArray, List.set_cons_zero, List.set_cons_succ]
        refine wpAnyH_take (i := 1) (oi := { dst := some 24, op := Go.Op.move (Go.Operand.tmp 8), type := 3, pos := "l6_covers.go:149", after := #[], guard := none }) (v := ?_) rfl (by kernel_rfl) (by kernel_rfl) (by kernel_rfl) (fun _ _ _ h => h) (Or.inl ⟨by rfl, ?_⟩) (by assumption) ?_
        rotate_left
        · intro w hSw; (try dsimp only at hSw); go_simp; (try with_reducible rfl)
        simp only [Act.put, List.setIfInBounds_toArray, List.set_cons_zero, List.set_cons_succ]
        refine wpAnyH_take (i := 2) (oi := { dst := some 25, op := Go.Op.indexAddr 25 (Go.Operand.tmp 23) (Go.Operand.tmp 24), type := 0, pos := "l6_covers.go:149", after := #[{ on := 0, ground := Go.Ground.data }, { on := 1, ground := Go.Ground.data }], guard := none }) (v := ?_) rfl (by kernel_rfl) (by kernel_rfl) (by kernel_rfl) (fun _ _ _ h => h) (Or.inl ⟨by rfl, ?_⟩) (by assumption) ?_
        rotate_left
        · intro w hSw; (try dsimp only at hSw); go_simp; (try with_reducible rfl)
        simp only [Act.put, List.setIfInBounds_toArray, List.set_cons_zero, List.set_cons_succ]
        refine wpAnyH_take (i := 3) (oi := { dst := some 26, op := Go.Op.load 53 (Go.Operand.tmp 25), type := 53, pos := "l6_covers.go:149", after := #[{ on := 2, ground := Go.Ground.data }], guard := none }) (v := ?_) rfl (by kernel_rfl) (by kernel_rfl) (by kernel_rfl) (fun _ _ _ h => h) (Or.inl ⟨by rfl, ?_⟩) (by assumption) ?_
        rotate_left
        · intro w hSw; (try dsimp only at hSw); go_simp; (try with_reducible rfl)
        simp only [Act.put, List.setIfInBounds_toArray, List.set_cons_zero, List.set_cons_succ]
        refine wpAnyH_ready (rs := [4]) (by kernel_rfl) (by simp) ?_
        refine AllReadyH.cons (o := { dst := some 27, op := Go.Op.call { callee := Go.Callee.value (Go.Operand.func 128), args := #[Go.Operand.tmp 26], argTypes := #[53] }, type := 4, pos := "l6_covers.go:149", after := #[{ on := 3, ground := Go.Ground.data }], guard := none }) rfl (fun K hK => ?_) AllReadyH.nil
        go_simp
        (go_at_call 128; with_reducible refine (HI.out _).mono ?_; rintro e w' ⟨rfl, hb'⟩; have hq := hq.below hb' rfl; go_wp2_with fail)
        refine hK.out _ _ ?_ (fun hHeld => ?_)
        · (try dsimp only)
          exact ⟨(HC.out _ hq).1, (HC.out _ hq).2, (HD.out _ hq).1, (HD.out _ hq).2, hq⟩
        clear hK K
        (try simp only [Act.put, List.setIfInBounds_toArray, List.set_cons_zero, List.set_cons_succ])
        refine wpAnyH_take (i := 5) (oi := { dst := some 28, op := Go.Op.unOp Go.UnOp.not 4 (Go.Operand.tmp 27), type := 4, pos := "l6_covers.go:149", after := #[{ on := 4, ground := Go.Ground.data }], guard := none }) (v := ?_) rfl (by kernel_rfl) (by kernel_rfl) (by kernel_rfl) (fun _ _ _ h => h) (Or.inl ⟨by rfl, ?_⟩) (by assumption) ?_
        rotate_left
        · intro w hSw; (try dsimp only at hSw); go_simp; (try with_reducible rfl)
        simp only [Act.put, List.setIfInBounds_toArray, List.set_cons_zero, List.set_cons_succ]
        refine wpAnyH_take (i := 6) (oi := { dst := some 29, op := Go.Op.move (Go.Operand.tmp 28), type := 4, pos := "l6_covers.go:149", after := #[{ on := 5, ground := Go.Ground.data }, { on := 4, ground := Go.Ground.chain }], guard := none }) (v := ?_) rfl (by kernel_rfl) (by kernel_rfl) (by kernel_rfl) (fun _ _ _ h => h) (Or.inl ⟨by rfl, ?_⟩) (by assumption) ?_
        rotate_left
        · intro w hSw; (try dsimp only at hSw); go_simp; (try with_reducible rfl)
        simp only [Act.put, List.setIfInBounds_toArray, List.set_cons_zero, List.set_cons_succ]
        refine wpAnyH_take (i := 7) (oi := { dst := some 30, op := Go.Op.move (Go.Operand.tmp 8), type := 3, pos := "l6_covers.go:149", after := #[{ on := 6, ground := Go.Ground.guard }], guard := some (6, false) }) (v := ?_) rfl (by kernel_rfl) (by kernel_rfl) (by kernel_rfl) (fun _ _ _ h => h) (Or.inl ⟨by rfl, ?_⟩) (by assumption) ?_
        rotate_left
        · intro w hSw; (try dsimp only at hSw); go_simp; (try with_reducible rfl)
        simp only [Act.put, List.setIfInBounds_toArray, List.set_cons_zero, List.set_cons_succ]
        refine wpAnyH_take (i := 8) (oi := { dst := some 31, op := Go.Op.binOp Go.BinOp.gtr 3 (Go.Operand.tmp 30) (Go.Operand.const (Go.Value.int Go.IntKind.i64 0)) 3, type := 4, pos := "l6_covers.go:149", after := #[{ on := 7, ground := Go.Ground.data }, { on := 6, ground := Go.Ground.guard }], guard := some (6, false) }) (v := ?_) rfl (by kernel_rfl) (by kernel_rfl) (by kernel_rfl) (fun _ _ _ h => h) (Or.inl ⟨by rfl, ?_⟩) (by assumption) ?_
        rotate_left
        · intro w hSw; (try dsimp only at hSw); go_simp; (try with_reducible rfl)
        simp only [Act.put, List.setIfInBounds_toArray, List.set_cons_zero, List.set_cons_succ]
        refine wpAnyH_take (i := 9) (oi := { dst := some 32, op := Go.Op.move (Go.Operand.tmp 31), type := 4, pos := "l6_covers.go:149", after := #[{ on := 8, ground := Go.Ground.data }, { on := 6, ground := Go.Ground.chain }, { on := 6, ground := Go.Ground.guard }], guard := some (6, false) }) (v := ?_) rfl (by kernel_rfl) (by kernel_rfl) (by kernel_rfl) (fun _ _ _ h => h) (Or.inl ⟨by rfl, ?_⟩) (by assumption) ?_
        rotate_left
        · intro w hSw; (try dsimp only at hSw); go_simp; (try with_reducible rfl)
        simp only [Act.put, List.setIfInBounds_toArray, List.set_cons_zero, List.set_cons_succ]
        refine wpAnyH_take (i := 10) (oi := { dst := some 33, op := Go.Op.move (Go.Operand.tmp 2), type := 25, pos := "l6_covers.go:149", after := #[{ on := 9, ground := Go.Ground.guard }], guard := some (9, true) }) (v := ?_) rfl (by kernel_rfl) (by kernel_rfl) (by kernel_rfl) (fun _ _ _ h => h) (Or.inl ⟨by rfl, ?_⟩) (by assumption) ?_
        rotate_left
        · intro w hSw; (try dsimp only at hSw); go_simp; (try with_reducible rfl)
        simp only [Act.put, List.setIfInBounds_toArray, List.set_cons_zero, List.set_cons_succ]
        refine wpAnyH_take (i := 11) (oi := { dst := some 34, op := Go.Op.move (Go.Operand.tmp 8), type := 3, pos := "l6_covers.go:149", after := #[{ on := 9, ground := Go.Ground.guard }], guard := some (9, true) }) (v := ?_) rfl (by kernel_rfl) (by kernel_rfl) (by kernel_rfl) (fun _ _ _ h => h) (Or.inl ⟨by rfl, ?_⟩) (by assumption) ?_
        rotate_left
        · intro w hSw; (try dsimp only at hSw); go_simp; (try with_reducible rfl)
        simp only [Act.put, List.setIfInBounds_toArray, List.set_cons_zero, List.set_cons_succ]
        refine wpAnyH_take (i := 12) (oi := { dst := some 35, op := Go.Op.binOp Go.BinOp.sub 3 (Go.Operand.tmp 34) (Go.Operand.const (Go.Value.int Go.IntKind.i64 1)) 3, type := 3, pos := "l6_covers.go:149", after := #[{ on := 11, ground := Go.Ground.data }, { on := 9, ground := Go.Ground.guard }], guard := some (9, true) }) (v := ?_) rfl (by kernel_rfl) (by kernel_rfl) (by kernel_rfl) (fun _ _ _ h => h) (Or.inl ⟨by rfl, ?_⟩) (by assumption) ?_
        rotate_left
        · intro w hSw; (try dsimp only at hSw); go_simp; (try with_reducible rfl)
        simp only [Act.put, List.setIfInBounds_toArray, List.set_cons_zero, List.set_cons_succ]
        refine wpAnyH_take (i := 13) (oi := { dst := some 36, op := Go.Op.indexAddr 25 (Go.Operand.tmp 33) (Go.Operand.tmp 35), type := 0, pos := "l6_covers.go:149", after := #[{ on := 10, ground := Go.Ground.data }, { on := 12, ground := Go.Ground.data }, { on := 9, ground := Go.Ground.guard }], guard := some (9, true) }) (v := ?_) rfl (by kernel_rfl) (by kernel_rfl) (by kernel_rfl) (fun _ _ _ h => h) (Or.inl ⟨by rfl, ?_⟩) (by assumption) ?_
        rotate_left
        · intro w hSw; (try dsimp only at hSw); go_simp; (try with_reducible rfl)
        simp only [Act.put, List.setIfInBounds_toArray, List.set_cons_zero, List.set_cons_succ]
        refine wpAnyH_take (i := 14) (oi := { dst := some 37, op := Go.Op.load 53 (Go.Operand.tmp 36), type := 53, pos := "l6_covers.go:149", after := #[{ on := 13, ground := Go.Ground.data }, { on := 9, ground := Go.Ground.guard }], guard := some (9, true) }) (v := ?_) rfl (by kernel_rfl) (by kernel_rfl) (by kernel_rfl) (fun _ _ _ h => h) (Or.inl ⟨by rfl, ?_⟩) (by assumption) ?_
        rotate_left
        · intro w hSw; (try dsimp only at hSw); go_simp; (try with_reducible rfl)
        simp only [Act.put, List.setIfInBounds_toArray, List.set_cons_zero, List.set_cons_succ]
        refine wpAnyH_take (i := 16) (oi := { dst := some 39, op := Go.Op.move (Go.Operand.tmp 2), type := 25, pos := "l6_covers.go:149", after := #[{ on := 9, ground := Go.Ground.guard }], guard := some (9, true) }) (v := ?_) rfl (by kernel_rfl) (by kernel_rfl) (by kernel_rfl) (fun _ _ _ h => h) (Or.inl ⟨by rfl, ?_⟩) (by assumption) ?_
        rotate_left
        · intro w hSw; (try dsimp only at hSw); go_simp; (try with_reducible rfl)
        simp only [Act.put, List.setIfInBounds_toArray, List.set_cons_zero, List.set_cons_succ]
        refine wpAnyH_take (i := 17) (oi := { dst := some 40, op := Go.Op.move (Go.Operand.tmp 8), type := 3, pos := "l6_covers.go:149", after := #[{ on := 9, ground := Go.Ground.guard }], guard := some (9, true) }) (v := ?_) rfl (by kernel_rfl) (by kernel_rfl) (by kernel_rfl) (fun _ _ _ h => h) (Or.inl ⟨by rfl, ?_⟩) (by assumption) ?_
        rotate_left
        · intro w hSw; (try dsimp only at hSw); go_simp; (try with_reducible rfl)
        simp only [Act.put, List.setIfInBounds_toArray, List.set_cons_zero, List.set_cons_succ]
        refine wpAnyH_take (i := 18) (oi := { dst := some 41, op := Go.Op.indexAddr 25 (Go.Operand.tmp 39) (Go.Operand.tmp 40), type := 0, pos := "l6_covers.go:149", after := #[{ on := 16, ground := Go.Ground.data }, { on := 17, ground := Go.Ground.data }, { on := 9, ground := Go.Ground.guard }], guard := some (9, true) }) (v := ?_) rfl (by kernel_rfl) (by kernel_rfl) (by kernel_rfl) (fun _ _ _ h => h) (Or.inl ⟨by rfl, ?_⟩) (by assumption) ?_
        rotate_left
        · intro w hSw; (try dsimp only at hSw); go_simp; (try with_reducible rfl)
        simp only [Act.put, List.setIfInBounds_toArray, List.set_cons_zero, List.set_cons_succ]
        refine wpAnyH_take (i := 19) (oi := { dst := some 42, op := Go.Op.load 53 (Go.Operand.tmp 41), type := 53, pos := "l6_covers.go:149", after := #[{ on := 18, ground := Go.Ground.data }, { on := 9, ground := Go.Ground.guard }], guard := some (9, true) }) (v := ?_) rfl (by kernel_rfl) (by kernel_rfl) (by kernel_rfl) (fun _ _ _ h => h) (Or.inl ⟨by rfl, ?_⟩) (by assumption) ?_
        rotate_left
        · intro w hSw; (try dsimp only at hSw); go_simp; (try with_reducible rfl)
        simp only [Act.put, List.setIfInBounds_toArray, List.set_cons_zero, List.set_cons_succ]
        refine wpAnyH_ready (rs := [15]) (by kernel_rfl) (by simp) ?_
        refine AllReadyH.cons (o := { dst := some 38, op := Go.Op.call { callee := Go.Callee.value (Go.Operand.func 146), args := #[Go.Operand.tmp 37], argTypes := #[53] }, type := 3, pos := "l6_covers.go:149", after := #[{ on := 14, ground := Go.Ground.data }, { on := 9, ground := Go.Ground.chain }, { on := 9, ground := Go.Ground.guard }], guard := some (9, true) }) rfl (fun K hK => ?_) AllReadyH.nil
        go_simp
        (go_at_call 146; with_reducible refine (HP1.out _).mono ?_; rintro e w' ⟨rfl, hb'⟩; have hq := hq.below hb' rfl; go_wp2_with fail)
        refine hK.out _ _ ?_ (fun hHeld => ?_)
        · (try dsimp only)
          exact ⟨(HC.out _ hq).1, (HC.out _ hq).2, (HD.out _ hq).1, (HD.out _ hq).2, hq⟩
        clear hK K
        (try simp only [Act.put, List.setIfInBounds_toArray, List.set_cons_zero, List.set_cons_succ])
        refine wpAnyH_ready (rs := [20]) (by kernel_rfl) (by simp) ?_
        refine AllReadyH.cons (o := { dst := some 43, op := Go.Op.call { callee := Go.Callee.value (Go.Operand.func 146), args := #[Go.Operand.tmp 42], argTypes := #[53] }, type := 3, pos := "l6_covers.go:149", after := #[{ on := 19, ground := Go.Ground.data }, { on := 15, ground := Go.Ground.chain }, { on := 9, ground := Go.Ground.guard }], guard := some (9, true) }) rfl (fun K hK => ?_) AllReadyH.nil
        go_simp
        (go_at_call 146; with_reducible refine (HP2.out _).mono ?_; rintro e w' ⟨rfl, hb'⟩; have hq := hq.below hb' rfl; go_wp2_with fail)
        refine hK.out _ _ ?_ (fun hHeld => ?_)
        · (try dsimp only)
          exact ⟨(HC.out _ hq).1, (HC.out _ hq).2, (HD.out _ hq).1, (HD.out _ hq).2, hq⟩
        clear hK K
        (try simp only [Act.put, List.setIfInBounds_toArray, List.set_cons_zero, List.set_cons_succ])
        refine wpAnyH_take (i := 21) (oi := { dst := some 44, op := Go.Op.binOp Go.BinOp.geq 3 (Go.Operand.tmp 38) (Go.Operand.tmp 43) 3, type := 4, pos := "l6_covers.go:149", after := #[{ on := 15, ground := Go.Ground.data }, { on := 20, ground := Go.Ground.data }, { on := 9, ground := Go.Ground.guard }], guard := some (9, true) }) (v := ?_) rfl (by kernel_rfl) (by kernel_rfl) (by kernel_rfl) (fun _ _ _ h => h) (Or.inl ⟨by rfl, ?_⟩) (by assumption) ?_
        rotate_left
        · intro w hSw; (try dsimp only at hSw); go_simp; (try with_reducible rfl)
        simp only [Act.put, List.setIfInBounds_toArray, List.set_cons_zero, List.set_cons_succ]
        refine wpAnyH_take (i := 22) (oi := { dst := some 45, op := Go.Op.pick (Go.Operand.tmp 32) (Go.Operand.tmp 44) (Go.Operand.const (Go.Value.bool false)), type := 4, pos := "l6_covers.go:149", after := #[{ on := 9, ground := Go.Ground.data }, { on := 21, ground := Go.Ground.data }, { on := 6, ground := Go.Ground.guard }], guard := some (6, false) }) (v := ?_) rfl (by kernel_rfl) (by kernel_rfl) (by kernel_rfl) (fun _ _ _ h => h) (Or.inl ⟨by rfl, ?_⟩) (by assumption) ?_
        rotate_left
        · intro w hSw; (try dsimp only at hSw); go_simp; (try with_reducible rfl)
        simp only [Act.put, List.setIfInBounds_toArray, List.set_cons_zero, List.set_cons_succ]
        refine wpAnyH_take (i := 23) (oi := { dst := some 46, op := Go.Op.pick (Go.Operand.tmp 29) (Go.Operand.const (Go.Value.bool true)) (Go.Operand.tmp 45), type := 4, pos := "l6_covers.go:149", after := #[{ on := 6, ground := Go.Ground.data }, { on := 22, ground := Go.Ground.data }], guard := none }) (v := ?_) rfl (by kernel_rfl) (by kernel_rfl) (by kernel_rfl) (fun _ _ _ h => h) (Or.inl ⟨by rfl, ?_⟩) (by assumption) ?_
        rotate_left
        · intro w hSw; (try dsimp only at hSw); go_simp; (try with_reducible rfl)
        simp only [Act.put, List.setIfInBounds_toArray, List.set_cons_zero, List.set_cons_succ]
        refine wpAnyH_done (by kernel_rfl) ?_ _
        have HQ := Lib.hid hq
        rename_i hHeld
        clear hHeld hq hwj
        go_wp2_with fail
        go_roundw
        case rel => exact ⟨j + 1 + 1, by omega, by go_num, HQ⟩
        case measure => simp [intOf]; omega
    · obtain rfl : i = N := by omega
      have hq := HS.out.drew
      by_cases hnz : i < z.length
      · have hlt' : (i : Int) < z.length := by omega
        have hi0 : (0 : Int) ≤ i := by omega
        have hEi := HE.out hnz
        have HC := Lib.hid (fun (U : World) (h : Rv6 w p s z g cap U) => Rv6_at h hnz)
        have HR2 := Lib.hid (show r = false by rw [HR.out, decide_eq_false (by omega), Bool.false_and])
        clear HL HR
        cases hk : okc (z[i]).1 (z[i]).2
        · have HI := Lib.hid (l2cell_b hk)
          clear hk HS hEi
          generalize z[i] = c at HC HI
          obtain ⟨c1, c2⟩ := c
          dsimp only at HC HI
          go_wp2_with fail
          refine wp_region_held_drew (S := (fun U => U.cell? ⟨g, i * 2, none⟩ = some (.int .i64 c1) ∧ U.cell? ⟨g, i * 2 + 1, none⟩ = some (.int .i64 c2) ∧ Rv6 w p s z g cap U)) (by kernel_rfl) ?_ (fun hHeld => ?_)
          · (try dsimp only)
            exact ⟨(HC.out _ hq).1, (HC.out _ hq).2, hq⟩
          refine wpAnyH_take (i := 0) (oi := { dst := some 23, op := Go.Op.move (Go.Operand.tmp 2), type := 25, pos := "l6_covers.go:149", after := #[], guard := none }) (v := ?_) rfl (by kernel_rfl) (by kernel_rfl) (by kernel_rfl) (fun _ _ _ h => h) (Or.inl ⟨by rfl, ?_⟩) (by assumption) ?_
          rotate_left
          · intro w hSw; (try dsimp only at hSw); go_simp; (try with_reducible rfl)
          simp only [Act.put, List.setIfInBounds_toArray, List.set_cons_zero, List.set_cons_succ]
          refine wpAnyH_take (i := 1) (oi := { dst := some 24, op := Go.Op.move (Go.Operand.tmp 8), type := 3, pos := "l6_covers.go:149", after := #[], guard := none }) (v := ?_) rfl (by kernel_rfl) (by kernel_rfl) (by kernel_rfl) (fun _ _ _ h => h) (Or.inl ⟨by rfl, ?_⟩) (by assumption) ?_
          rotate_left
          · intro w hSw; (try dsimp only at hSw); go_simp; (try with_reducible rfl)
          simp only [Act.put, List.setIfInBounds_toArray, List.set_cons_zero, List.set_cons_succ]
          refine wpAnyH_take (i := 2) (oi := { dst := some 25, op := Go.Op.indexAddr 25 (Go.Operand.tmp 23) (Go.Operand.tmp 24), type := 0, pos := "l6_covers.go:149", after := #[{ on := 0, ground := Go.Ground.data }, { on := 1, ground := Go.Ground.data }], guard := none }) (v := ?_) rfl (by kernel_rfl) (by kernel_rfl) (by kernel_rfl) (fun _ _ _ h => h) (Or.inl ⟨by rfl, ?_⟩) (by assumption) ?_
          rotate_left
          · intro w hSw; (try dsimp only at hSw); go_simp; (try with_reducible rfl)
          simp only [Act.put, List.setIfInBounds_toArray, List.set_cons_zero, List.set_cons_succ]
          refine wpAnyH_take (i := 3) (oi := { dst := some 26, op := Go.Op.load 53 (Go.Operand.tmp 25), type := 53, pos := "l6_covers.go:149", after := #[{ on := 2, ground := Go.Ground.data }], guard := none }) (v := ?_) rfl (by kernel_rfl) (by kernel_rfl) (by kernel_rfl) (fun _ _ _ h => h) (Or.inl ⟨by rfl, ?_⟩) (by assumption) ?_
          rotate_left
          · intro w hSw; (try dsimp only at hSw); go_simp; (try with_reducible rfl)
          simp only [Act.put, List.setIfInBounds_toArray, List.set_cons_zero, List.set_cons_succ]
          refine wpAnyH_ready (rs := [4]) (by kernel_rfl) (by simp) ?_
          refine AllReadyH.cons (o := { dst := some 27, op := Go.Op.call { callee := Go.Callee.value (Go.Operand.func 128), args := #[Go.Operand.tmp 26], argTypes := #[53] }, type := 4, pos := "l6_covers.go:149", after := #[{ on := 3, ground := Go.Ground.data }], guard := none }) rfl (fun K hK => ?_) AllReadyH.nil
          go_simp
          (go_at_call 128; with_reducible refine (HI.out _).mono ?_; rintro e w' ⟨rfl, hb'⟩; have hq := hq.below hb' rfl; go_wp2_with fail)
          refine hK.out _ _ ?_ (fun hHeld => ?_)
          · (try dsimp only)
            exact ⟨(HC.out _ hq).1, (HC.out _ hq).2, hq⟩
          clear hK K
          (try simp only [Act.put, List.setIfInBounds_toArray, List.set_cons_zero, List.set_cons_succ])
          refine wpAnyH_take (i := 5) (oi := { dst := some 28, op := Go.Op.unOp Go.UnOp.not 4 (Go.Operand.tmp 27), type := 4, pos := "l6_covers.go:149", after := #[{ on := 4, ground := Go.Ground.data }], guard := none }) (v := ?_) rfl (by kernel_rfl) (by kernel_rfl) (by kernel_rfl) (fun _ _ _ h => h) (Or.inl ⟨by rfl, ?_⟩) (by assumption) ?_
          rotate_left
          · intro w hSw; (try dsimp only at hSw); go_simp; (try with_reducible rfl)
          simp only [Act.put, List.setIfInBounds_toArray, List.set_cons_zero, List.set_cons_succ]
          refine wpAnyH_take (i := 6) (oi := { dst := some 29, op := Go.Op.move (Go.Operand.tmp 28), type := 4, pos := "l6_covers.go:149", after := #[{ on := 5, ground := Go.Ground.data }, { on := 4, ground := Go.Ground.chain }], guard := none }) (v := ?_) rfl (by kernel_rfl) (by kernel_rfl) (by kernel_rfl) (fun _ _ _ h => h) (Or.inl ⟨by rfl, ?_⟩) (by assumption) ?_
          rotate_left
          · intro w hSw; (try dsimp only at hSw); go_simp; (try with_reducible rfl)
          simp only [Act.put, List.setIfInBounds_toArray, List.set_cons_zero, List.set_cons_succ]
          refine wpAnyH_take (i := 7) (oi := { dst := some 30, op := Go.Op.move (Go.Operand.tmp 8), type := 3, pos := "l6_covers.go:149", after := #[{ on := 6, ground := Go.Ground.guard }], guard := some (6, false) }) (v := undef) rfl (by kernel_rfl) (by kernel_rfl) (by kernel_rfl) (fun _ _ _ h => h) (Or.inr ⟨by rfl, rfl⟩) (by assumption) ?_
          simp only [Act.put, List.setIfInBounds_toArray, List.set_cons_zero, List.set_cons_succ]
          refine wpAnyH_take (i := 8) (oi := { dst := some 31, op := Go.Op.binOp Go.BinOp.gtr 3 (Go.Operand.tmp 30) (Go.Operand.const (Go.Value.int Go.IntKind.i64 0)) 3, type := 4, pos := "l6_covers.go:149", after := #[{ on := 7, ground := Go.Ground.data }, { on := 6, ground := Go.Ground.guard }], guard := some (6, false) }) (v := undef) rfl (by kernel_rfl) (by kernel_rfl) (by kernel_rfl) (fun _ _ _ h => h) (Or.inr ⟨by rfl, rfl⟩) (by assumption) ?_
          simp only [Act.put, List.setIfInBounds_toArray, List.set_cons_zero, List.set_cons_succ]
          refine wpAnyH_take (i := 9) (oi := { dst := some 32, op := Go.Op.move (Go.Operand.tmp 31), type := 4, pos := "l6_covers.go:149", after := #[{ on := 8, ground := Go.Ground.data }, { on := 6, ground := Go.Ground.chain }, { on := 6, ground := Go.Ground.guard }], guard := some (6, false) }) (v := undef) rfl (by kernel_rfl) (by kernel_rfl) (by kernel_rfl) (fun _ _ _ h => h) (Or.inr ⟨by rfl, rfl⟩) (by assumption) ?_
          simp only [Act.put, List.setIfInBounds_toArray, List.set_cons_zero, List.set_cons_succ]
          refine wpAnyH_take (i := 10) (oi := { dst := some 33, op := Go.Op.move (Go.Operand.tmp 2), type := 25, pos := "l6_covers.go:149", after := #[{ on := 9, ground := Go.Ground.guard }], guard := some (9, true) }) (v := undef) rfl (by kernel_rfl) (by kernel_rfl) (by kernel_rfl) (fun _ _ _ h => h) (Or.inr ⟨by rfl, rfl⟩) (by assumption) ?_
          simp only [Act.put, List.setIfInBounds_toArray, List.set_cons_zero, List.set_cons_succ]
          refine wpAnyH_take (i := 11) (oi := { dst := some 34, op := Go.Op.move (Go.Operand.tmp 8), type := 3, pos := "l6_covers.go:149", after := #[{ on := 9, ground := Go.Ground.guard }], guard := some (9, true) }) (v := undef) rfl (by kernel_rfl) (by kernel_rfl) (by kernel_rfl) (fun _ _ _ h => h) (Or.inr ⟨by rfl, rfl⟩) (by assumption) ?_
          simp only [Act.put, List.setIfInBounds_toArray, List.set_cons_zero, List.set_cons_succ]
          refine wpAnyH_take (i := 12) (oi := { dst := some 35, op := Go.Op.binOp Go.BinOp.sub 3 (Go.Operand.tmp 34) (Go.Operand.const (Go.Value.int Go.IntKind.i64 1)) 3, type := 3, pos := "l6_covers.go:149", after := #[{ on := 11, ground := Go.Ground.data }, { on := 9, ground := Go.Ground.guard }], guard := some (9, true) }) (v := undef) rfl (by kernel_rfl) (by kernel_rfl) (by kernel_rfl) (fun _ _ _ h => h) (Or.inr ⟨by rfl, rfl⟩) (by assumption) ?_
          simp only [Act.put, List.setIfInBounds_toArray, List.set_cons_zero, List.set_cons_succ]
          refine wpAnyH_take (i := 13) (oi := { dst := some 36, op := Go.Op.indexAddr 25 (Go.Operand.tmp 33) (Go.Operand.tmp 35), type := 0, pos := "l6_covers.go:149", after := #[{ on := 10, ground := Go.Ground.data }, { on := 12, ground := Go.Ground.data }, { on := 9, ground := Go.Ground.guard }], guard := some (9, true) }) (v := undef) rfl (by kernel_rfl) (by kernel_rfl) (by kernel_rfl) (fun _ _ _ h => h) (Or.inr ⟨by rfl, rfl⟩) (by assumption) ?_
          simp only [Act.put, List.setIfInBounds_toArray, List.set_cons_zero, List.set_cons_succ]
          refine wpAnyH_take (i := 14) (oi := { dst := some 37, op := Go.Op.load 53 (Go.Operand.tmp 36), type := 53, pos := "l6_covers.go:149", after := #[{ on := 13, ground := Go.Ground.data }, { on := 9, ground := Go.Ground.guard }], guard := some (9, true) }) (v := undef) rfl (by kernel_rfl) (by kernel_rfl) (by kernel_rfl) (fun _ _ _ h => h) (Or.inr ⟨by rfl, rfl⟩) (by assumption) ?_
          simp only [Act.put, List.setIfInBounds_toArray, List.set_cons_zero, List.set_cons_succ]
          refine wpAnyH_take (i := 15) (oi := { dst := some 38, op := Go.Op.call { callee := Go.Callee.value (Go.Operand.func 146), args := #[Go.Operand.tmp 37], argTypes := #[53] }, type := 3, pos := "l6_covers.go:149", after := #[{ on := 14, ground := Go.Ground.data }, { on := 9, ground := Go.Ground.chain }, { on := 9, ground := Go.Ground.guard }], guard := some (9, true) }) (v := undef) rfl (by kernel_rfl) (by kernel_rfl) (by kernel_rfl) (fun _ _ _ h => h) (Or.inr ⟨by rfl, rfl⟩) (by assumption) ?_
          simp only [Act.put, List.setIfInBounds_toArray, List.set_cons_zero, List.set_cons_succ]
          refine wpAnyH_take (i := 16) (oi := { dst := some 39, op := Go.Op.move (Go.Operand.tmp 2), type := 25, pos := "l6_covers.go:149", after := #[{ on := 9, ground := Go.Ground.guard }], guard := some (9, true) }) (v := undef) rfl (by kernel_rfl) (by kernel_rfl) (by kernel_rfl) (fun _ _ _ h => h) (Or.inr ⟨by rfl, rfl⟩) (by assumption) ?_
          simp only [Act.put, List.setIfInBounds_toArray, List.set_cons_zero, List.set_cons_succ]
          refine wpAnyH_take (i := 17) (oi := { dst := some 40, op := Go.Op.move (Go.Operand.tmp 8), type := 3, pos := "l6_covers.go:149", after := #[{ on := 9, ground := Go.Ground.guard }], guard := some (9, true) }) (v := undef) rfl (by kernel_rfl) (by kernel_rfl) (by kernel_rfl) (fun _ _ _ h => h) (Or.inr ⟨by rfl, rfl⟩) (by assumption) ?_
          simp only [Act.put, List.setIfInBounds_toArray, List.set_cons_zero, List.set_cons_succ]
          refine wpAnyH_take (i := 18) (oi := { dst := some 41, op := Go.Op.indexAddr 25 (Go.Operand.tmp 39) (Go.Operand.tmp 40), type := 0, pos := "l6_covers.go:149", after := #[{ on := 16, ground := Go.Ground.data }, { on := 17, ground := Go.Ground.data }, { on := 9, ground := Go.Ground.guard }], guard := some (9, true) }) (v := undef) rfl (by kernel_rfl) (by kernel_rfl) (by kernel_rfl) (fun _ _ _ h => h) (Or.inr ⟨by rfl, rfl⟩) (by assumption) ?_
          simp only [Act.put, List.setIfInBounds_toArray, List.set_cons_zero, List.set_cons_succ]
          refine wpAnyH_take (i := 19) (oi := { dst := some 42, op := Go.Op.load 53 (Go.Operand.tmp 41), type := 53, pos := "l6_covers.go:149", after := #[{ on := 18, ground := Go.Ground.data }, { on := 9, ground := Go.Ground.guard }], guard := some (9, true) }) (v := undef) rfl (by kernel_rfl) (by kernel_rfl) (by kernel_rfl) (fun _ _ _ h => h) (Or.inr ⟨by rfl, rfl⟩) (by assumption) ?_
          simp only [Act.put, List.setIfInBounds_toArray, List.set_cons_zero, List.set_cons_succ]
          refine wpAnyH_take (i := 20) (oi := { dst := some 43, op := Go.Op.call { callee := Go.Callee.value (Go.Operand.func 146), args := #[Go.Operand.tmp 42], argTypes := #[53] }, type := 3, pos := "l6_covers.go:149", after := #[{ on := 19, ground := Go.Ground.data }, { on := 15, ground := Go.Ground.chain }, { on := 9, ground := Go.Ground.guard }], guard := some (9, true) }) (v := undef) rfl (by kernel_rfl) (by kernel_rfl) (by kernel_rfl) (fun _ _ _ h => h) (Or.inr ⟨by rfl, rfl⟩) (by assumption) ?_
          simp only [Act.put, List.setIfInBounds_toArray, List.set_cons_zero, List.set_cons_succ]
          refine wpAnyH_take (i := 21) (oi := { dst := some 44, op := Go.Op.binOp Go.BinOp.geq 3 (Go.Operand.tmp 38) (Go.Operand.tmp 43) 3, type := 4, pos := "l6_covers.go:149", after := #[{ on := 15, ground := Go.Ground.data }, { on := 20, ground := Go.Ground.data }, { on := 9, ground := Go.Ground.guard }], guard := some (9, true) }) (v := undef) rfl (by kernel_rfl) (by kernel_rfl) (by kernel_rfl) (fun _ _ _ h => h) (Or.inr ⟨by rfl, rfl⟩) (by assumption) ?_
          simp only [Act.put, List.setIfInBounds_toArray, List.set_cons_zero, List.set_cons_succ]
          refine wpAnyH_take (i := 22) (oi := { dst := some 45, op := Go.Op.pick (Go.Operand.tmp 32) (Go.Operand.tmp 44) (Go.Operand.const (Go.Value.bool false)), type := 4, pos := "l6_covers.go:149", after := #[{ on := 9, ground := Go.Ground.data }, { on := 21, ground := Go.Ground.data }, { on := 6, ground := Go.Ground.guard }], guard := some (6, false) }) (v := undef) rfl (by kernel_rfl) (by kernel_rfl) (by kernel_rfl) (fun _ _ _ h => h) (Or.inr ⟨by rfl, rfl⟩) (by assumption) ?_
          simp only [Act.put, List.setIfInBounds_toArray, List.set_cons_zero, List.set_cons_succ]
          refine wpAnyH_take (i := 23) (oi := { dst := some 46, op := Go.Op.pick (Go.Operand.tmp 29) (Go.Operand.const (Go.Value.bool true)) (Go.Operand.tmp 45), type := 4, pos := "l6_covers.go:149", after := #[{ on := 6, ground := Go.Ground.data }, { on := 22, ground := Go.Ground.data }], guard := none }) (v := ?_) rfl (by kernel_rfl) (by kernel_rfl) (by kernel_rfl) (fun _ _ _ h => h) (Or.inl ⟨by rfl, ?_⟩) (by assumption) ?_
          rotate_left
          · intro w hSw; (try dsimp only at hSw); go_simp; (try with_reducible rfl)
          simp only [Act.put, List.setIfInBounds_toArray, List.set_cons_zero, List.set_cons_succ]
          refine wpAnyH_done (by kernel_rfl) ?_ _
          have HQ := Lib.hid hq
          rename_i hHeld
          clear hHeld hq
          go_wp2_with fail
          go_ret2
          exact ⟨by (have e := HR2.out; subst e; rfl), HQ.out.1.2.2⟩
        · rcases Nat.eq_zero_or_pos i with h0 | h0
          · subst h0
            rw [ascP_zero hnz, hk] at hEi
            exact absurd hEi (by decide)
          · obtain ⟨j, rfl⟩ : ∃ j, i = j + 1 := ⟨i - 1, by omega⟩
            have hj1 : j < z.length := by omega
            have HD := Lib.hid (fun (U : World) (h : Rv6 w p s z g cap U) => Rv6_at h hj1)
            have hj0 : (0 : Int) ≤ (j : Int) := by omega
            have hjl : (j : Int) < z.length := by omega
            have hjm : (j : Int) + 1 < z.length := by omega
            have hju : (0 : Int) ≤ (j : Int) + 1 := by omega
            have hjg : (0 : Int) < (j : Int) + 1 := by omega
            have hjt : ((j : Int) + 1).toNat = j + 1 := by omega
            have hwj : IntKind.i64.wrap (j : Int) = j := by rw [IntKind.wrap_i64]; omega
            have HI := Lib.hid (l2cell_b hk)
            have HP1 := Lib.hid (okc_p (ascP_ok hj1 (HK.out j (by omega))))
            have HP2 := Lib.hid (okc_p hk)
            have hng : 6 * (z[j + 1]).2 + (z[j + 1]).1 ≤ 6 * (z[j]).2 + (z[j]).1 := by
              rw [ascP_succ hnz, hk, Bool.true_and, decide_eq_false_iff_not] at hEi
              omega
            clear hEi HS h0 hk
            generalize z[j + 1] = c at HC HI HP2 hng
            generalize z[j] = d at HD HP1 hng
            obtain ⟨c1, c2⟩ := c
            obtain ⟨d1, d2⟩ := d
            dsimp only at HC HI HD HP1 HP2 hng
            generalize 6 * c2 + c1 = PC at HP2 hng
            generalize 6 * d2 + d1 = PD at HP1 hng
            go_wp2_with fail
            refine wp_region_held_drew (S := (fun U => U.cell? ⟨g, (j + 1) * 2, none⟩ = some (.int .i64 c1) ∧ U.cell? ⟨g, (j + 1) * 2 + 1, none⟩ = some (.int .i64 c2) ∧ U.cell? ⟨g, j * 2, none⟩ = some (.int .i64 d1) ∧ U.cell? ⟨g, j * 2 + 1, none⟩ = some (.int .i64 d2) ∧ Rv6 w p s z g cap U)) (by kernel_rfl) ?_ (fun hHeld => ?_)
            · (try dsimp only)
              exact ⟨(HC.out _ hq).1, (HC.out _ hq).2, (HD.out _ hq).1, (HD.out _ hq).2, hq⟩
            refine wpAnyH_take (i := 0) (oi := { dst := some 23, op := Go.Op.move (Go.Operand.tmp 2), type := 25, pos := "l6_covers.go:149", after := #[], guard := none }) (v := ?_) rfl (by kernel_rfl) (by kernel_rfl) (by kernel_rfl) (fun _ _ _ h => h) (Or.inl ⟨by rfl, ?_⟩) (by assumption) ?_
            rotate_left
            · intro w hSw; (try dsimp only at hSw); go_simp; (try with_reducible rfl)
            simp only [Act.put, List.setIfInBounds_toArray, List.set_cons_zero, List.set_cons_succ]
            refine wpAnyH_take (i := 1) (oi := { dst := some 24, op := Go.Op.move (Go.Operand.tmp 8), type := 3, pos := "l6_covers.go:149", after := #[], guard := none }) (v := ?_) rfl (by kernel_rfl) (by kernel_rfl) (by kernel_rfl) (fun _ _ _ h => h) (Or.inl ⟨by rfl, ?_⟩) (by assumption) ?_
            rotate_left
            · intro w hSw; (try dsimp only at hSw); go_simp; (try with_reducible rfl)
            simp only [Act.put, List.setIfInBounds_toArray, List.set_cons_zero, List.set_cons_succ]
            refine wpAnyH_take (i := 2) (oi := { dst := some 25, op := Go.Op.indexAddr 25 (Go.Operand.tmp 23) (Go.Operand.tmp 24), type := 0, pos := "l6_covers.go:149", after := #[{ on := 0, ground := Go.Ground.data }, { on := 1, ground := Go.Ground.data }], guard := none }) (v := ?_) rfl (by kernel_rfl) (by kernel_rfl) (by kernel_rfl) (fun _ _ _ h => h) (Or.inl ⟨by rfl, ?_⟩) (by assumption) ?_
            rotate_left
            · intro w hSw; (try dsimp only at hSw); go_simp; (try with_reducible rfl)
            simp only [Act.put, List.setIfInBounds_toArray, List.set_cons_zero, List.set_cons_succ]
            refine wpAnyH_take (i := 3) (oi := { dst := some 26, op := Go.Op.load 53 (Go.Operand.tmp 25), type := 53, pos := "l6_covers.go:149", after := #[{ on := 2, ground := Go.Ground.data }], guard := none }) (v := ?_) rfl (by kernel_rfl) (by kernel_rfl) (by kernel_rfl) (fun _ _ _ h => h) (Or.inl ⟨by rfl, ?_⟩) (by assumption) ?_
            rotate_left
            · intro w hSw; (try dsimp only at hSw); go_simp; (try with_reducible rfl)
            simp only [Act.put, List.setIfInBounds_toArray, List.set_cons_zero, List.set_cons_succ]
            refine wpAnyH_ready (rs := [4]) (by kernel_rfl) (by simp) ?_
            refine AllReadyH.cons (o := { dst := some 27, op := Go.Op.call { callee := Go.Callee.value (Go.Operand.func 128), args := #[Go.Operand.tmp 26], argTypes := #[53] }, type := 4, pos := "l6_covers.go:149", after := #[{ on := 3, ground := Go.Ground.data }], guard := none }) rfl (fun K hK => ?_) AllReadyH.nil
            go_simp
            (go_at_call 128; with_reducible refine (HI.out _).mono ?_; rintro e w' ⟨rfl, hb'⟩; have hq := hq.below hb' rfl; go_wp2_with fail)
            refine hK.out _ _ ?_ (fun hHeld => ?_)
            · (try dsimp only)
              exact ⟨(HC.out _ hq).1, (HC.out _ hq).2, (HD.out _ hq).1, (HD.out _ hq).2, hq⟩
            clear hK K
            (try simp only [Act.put, List.setIfInBounds_toArray, List.set_cons_zero, List.set_cons_succ])
            refine wpAnyH_take (i := 5) (oi := { dst := some 28, op := Go.Op.unOp Go.UnOp.not 4 (Go.Operand.tmp 27), type := 4, pos := "l6_covers.go:149", after := #[{ on := 4, ground := Go.Ground.data }], guard := none }) (v := ?_) rfl (by kernel_rfl) (by kernel_rfl) (by kernel_rfl) (fun _ _ _ h => h) (Or.inl ⟨by rfl, ?_⟩) (by assumption) ?_
            rotate_left
            · intro w hSw; (try dsimp only at hSw); go_simp; (try with_reducible rfl)
            simp only [Act.put, List.setIfInBounds_toArray, List.set_cons_zero, List.set_cons_succ]
            refine wpAnyH_take (i := 6) (oi := { dst := some 29, op := Go.Op.move (Go.Operand.tmp 28), type := 4, pos := "l6_covers.go:149", after := #[{ on := 5, ground := Go.Ground.data }, { on := 4, ground := Go.Ground.chain }], guard := none }) (v := ?_) rfl (by kernel_rfl) (by kernel_rfl) (by kernel_rfl) (fun _ _ _ h => h) (Or.inl ⟨by rfl, ?_⟩) (by assumption) ?_
            rotate_left
            · intro w hSw; (try dsimp only at hSw); go_simp; (try with_reducible rfl)
            simp only [Act.put, List.setIfInBounds_toArray, List.set_cons_zero, List.set_cons_succ]
            refine wpAnyH_take (i := 7) (oi := { dst := some 30, op := Go.Op.move (Go.Operand.tmp 8), type := 3, pos := "l6_covers.go:149", after := #[{ on := 6, ground := Go.Ground.guard }], guard := some (6, false) }) (v := ?_) rfl (by kernel_rfl) (by kernel_rfl) (by kernel_rfl) (fun _ _ _ h => h) (Or.inl ⟨by rfl, ?_⟩) (by assumption) ?_
            rotate_left
            · intro w hSw; (try dsimp only at hSw); go_simp; (try with_reducible rfl)
            simp only [Act.put, List.setIfInBounds_toArray, List.set_cons_zero, List.set_cons_succ]
            refine wpAnyH_take (i := 8) (oi := { dst := some 31, op := Go.Op.binOp Go.BinOp.gtr 3 (Go.Operand.tmp 30) (Go.Operand.const (Go.Value.int Go.IntKind.i64 0)) 3, type := 4, pos := "l6_covers.go:149", after := #[{ on := 7, ground := Go.Ground.data }, { on := 6, ground := Go.Ground.guard }], guard := some (6, false) }) (v := ?_) rfl (by kernel_rfl) (by kernel_rfl) (by kernel_rfl) (fun _ _ _ h => h) (Or.inl ⟨by rfl, ?_⟩) (by assumption) ?_
            rotate_left
            · intro w hSw; (try dsimp only at hSw); go_simp; (try with_reducible rfl)
            simp only [Act.put, List.setIfInBounds_toArray, List.set_cons_zero, List.set_cons_succ]
            refine wpAnyH_take (i := 9) (oi := { dst := some 32, op := Go.Op.move (Go.Operand.tmp 31), type := 4, pos := "l6_covers.go:149", after := #[{ on := 8, ground := Go.Ground.data }, { on := 6, ground := Go.Ground.chain }, { on := 6, ground := Go.Ground.guard }], guard := some (6, false) }) (v := ?_) rfl (by kernel_rfl) (by kernel_rfl) (by kernel_rfl) (fun _ _ _ h => h) (Or.inl ⟨by rfl, ?_⟩) (by assumption) ?_
            rotate_left
            · intro w hSw; (try dsimp only at hSw); go_simp; (try with_reducible rfl)
            simp only [Act.put, List.setIfInBounds_toArray, List.set_cons_zero, List.set_cons_succ]
            refine wpAnyH_take (i := 10) (oi := { dst := some 33, op := Go.Op.move (Go.Operand.tmp 2), type := 25, pos := "l6_covers.go:149", after := #[{ on := 9, ground := Go.Ground.guard }], guard := some (9, true) }) (v := ?_) rfl (by kernel_rfl) (by kernel_rfl) (by kernel_rfl) (fun _ _ _ h => h) (Or.inl ⟨by rfl, ?_⟩) (by assumption) ?_
            rotate_left
            · intro w hSw; (try dsimp only at hSw); go_simp; (try with_reducible rfl)
            simp only [Act.put, List.setIfInBounds_toArray, List.set_cons_zero, List.set_cons_succ]
            refine wpAnyH_take (i := 11) (oi := { dst := some 34, op := Go.Op.move (Go.Operand.tmp 8), type := 3, pos := "l6_covers.go:149", after := #[{ on := 9, ground := Go.Ground.guard }], guard := some (9, true) }) (v := ?_) rfl (by kernel_rfl) (by kernel_rfl) (by kernel_rfl) (fun _ _ _ h => h) (Or.inl ⟨by rfl, ?_⟩) (by assumption) ?_
            rotate_left
            · intro w hSw; (try dsimp only at hSw); go_simp; (try with_reducible rfl)
            simp only [Act.put, List.setIfInBounds_toArray, List.set_cons_zero, List.set_cons_succ]
            refine wpAnyH_take (i := 12) (oi := { dst := some 35, op := Go.Op.binOp Go.BinOp.sub 3 (Go.Operand.tmp 34) (Go.Operand.const (Go.Value.int Go.IntKind.i64 1)) 3, type := 3, pos := "l6_covers.go:149", after := #[{ on := 11, ground := Go.Ground.data }, { on := 9, ground := Go.Ground.guard }], guard := some (9, true) }) (v := ?_) rfl (by kernel_rfl) (by kernel_rfl) (by kernel_rfl) (fun _ _ _ h => h) (Or.inl ⟨by rfl, ?_⟩) (by assumption) ?_
            rotate_left
            · intro w hSw; (try dsimp only at hSw); go_simp; (try with_reducible rfl)
            simp only [Act.put, List.setIfInBounds_toArray, List.set_cons_zero, List.set_cons_succ]
            refine wpAnyH_take (i := 13) (oi := { dst := some 36, op := Go.Op.indexAddr 25 (Go.Operand.tmp 33) (Go.Operand.tmp 35), type := 0, pos := "l6_covers.go:149", after := #[{ on := 10, ground := Go.Ground.data }, { on := 12, ground := Go.Ground.data }, { on := 9, ground := Go.Ground.guard }], guard := some (9, true) }) (v := ?_) rfl (by kernel_rfl) (by kernel_rfl) (by kernel_rfl) (fun _ _ _ h => h) (Or.inl ⟨by rfl, ?_⟩) (by assumption) ?_
            rotate_left
            · intro w hSw; (try dsimp only at hSw); go_simp; (try with_reducible rfl)
            simp only [Act.put, List.setIfInBounds_toArray, List.set_cons_zero, List.set_cons_succ]
            refine wpAnyH_take (i := 14) (oi := { dst := some 37, op := Go.Op.load 53 (Go.Operand.tmp 36), type := 53, pos := "l6_covers.go:149", after := #[{ on := 13, ground := Go.Ground.data }, { on := 9, ground := Go.Ground.guard }], guard := some (9, true) }) (v := ?_) rfl (by kernel_rfl) (by kernel_rfl) (by kernel_rfl) (fun _ _ _ h => h) (Or.inl ⟨by rfl, ?_⟩) (by assumption) ?_
            rotate_left
            · intro w hSw; (try dsimp only at hSw); go_simp; (try with_reducible rfl)
            simp only [Act.put, List.setIfInBounds_toArray, List.set_cons_zero, List.set_cons_succ]
            refine wpAnyH_take (i := 16) (oi := { dst := some 39, op := Go.Op.move (Go.Operand.tmp 2), type := 25, pos := "l6_covers.go:149", after := #[{ on := 9, ground := Go.Ground.guard }], guard := some (9, true) }) (v := ?_) rfl (by kernel_rfl) (by kernel_rfl) (by kernel_rfl) (fun _ _ _ h => h) (Or.inl ⟨by rfl, ?_⟩) (by assumption) ?_
            rotate_left
            · intro w hSw; (try dsimp only at hSw); go_simp; (try with_reducible rfl)
            simp only [Act.put, List.setIfInBounds_toArray, List.set_cons_zero, List.set_cons_succ]
            refine wpAnyH_take (i := 17) (oi := { dst := some 40, op := Go.Op.move (Go.Operand.tmp 8), type := 3, pos := "l6_covers.go:149", after := #[{ on := 9, ground := Go.Ground.guard }], guard := some (9, true) }) (v := ?_) rfl (by kernel_rfl) (by kernel_rfl) (by kernel_rfl) (fun _ _ _ h => h) (Or.inl ⟨by rfl, ?_⟩) (by assumption) ?_
            rotate_left
            · intro w hSw; (try dsimp only at hSw); go_simp; (try with_reducible rfl)
            simp only [Act.put, List.setIfInBounds_toArray, List.set_cons_zero, List.set_cons_succ]
            refine wpAnyH_take (i := 18) (oi := { dst := some 41, op := Go.Op.indexAddr 25 (Go.Operand.tmp 39) (Go.Operand.tmp 40), type := 0, pos := "l6_covers.go:149", after := #[{ on := 16, ground := Go.Ground.data }, { on := 17, ground := Go.Ground.data }, { on := 9, ground := Go.Ground.guard }], guard := some (9, true) }) (v := ?_) rfl (by kernel_rfl) (by kernel_rfl) (by kernel_rfl) (fun _ _ _ h => h) (Or.inl ⟨by rfl, ?_⟩) (by assumption) ?_
            rotate_left
            · intro w hSw; (try dsimp only at hSw); go_simp; (try with_reducible rfl)
            simp only [Act.put, List.setIfInBounds_toArray, List.set_cons_zero, List.set_cons_succ]
            refine wpAnyH_take (i := 19) (oi := { dst := some 42, op := Go.Op.load 53 (Go.Operand.tmp 41), type := 53, pos := "l6_covers.go:149", after := #[{ on := 18, ground := Go.Ground.data }, { on := 9, ground := Go.Ground.guard }], guard := some (9, true) }) (v := ?_) rfl (by kernel_rfl) (by kernel_rfl) (by kernel_rfl) (fun _ _ _ h => h) (Or.inl ⟨by rfl, ?_⟩) (by assumption) ?_
            rotate_left
            · intro w hSw; (try dsimp only at hSw); go_simp; (try with_reducible rfl)
            simp only [Act.put, List.setIfInBounds_toArray, List.set_cons_zero, List.set_cons_succ]
            refine wpAnyH_ready (rs := [15]) (by kernel_rfl) (by simp) ?_
            refine AllReadyH.cons (o := { dst := some 38, op := Go.Op.call { callee := Go.Callee.value (Go.Operand.func 146), args := #[Go.Operand.tmp 37], argTypes := #[53] }, type := 3, pos := "l6_covers.go:149", after := #[{ on := 14, ground := Go.Ground.data }, { on := 9, ground := Go.Ground.chain }, { on := 9, ground := Go.Ground.guard }], guard := some (9, true) }) rfl (fun K hK => ?_) AllReadyH.nil
            go_simp
            (go_at_call 146; with_reducible refine (HP1.out _).mono ?_; rintro e w' ⟨rfl, hb'⟩; have hq := hq.below hb' rfl; go_wp2_with fail)
            refine hK.out _ _ ?_ (fun hHeld => ?_)
            · (try dsimp only)
              exact ⟨(HC.out _ hq).1, (HC.out _ hq).2, (HD.out _ hq).1, (HD.out _ hq).2, hq⟩
            clear hK K
            (try simp only [Act.put, List.setIfInBounds_toArray, List.set_cons_zero, List.set_cons_succ])
            refine wpAnyH_ready (rs := [20]) (by kernel_rfl) (by simp) ?_
            refine AllReadyH.cons (o := { dst := some 43, op := Go.Op.call { callee := Go.Callee.value (Go.Operand.func 146), args := #[Go.Operand.tmp 42], argTypes := #[53] }, type := 3, pos := "l6_covers.go:149", after := #[{ on := 19, ground := Go.Ground.data }, { on := 15, ground := Go.Ground.chain }, { on := 9, ground := Go.Ground.guard }], guard := some (9, true) }) rfl (fun K hK => ?_) AllReadyH.nil
            go_simp
            (go_at_call 146; with_reducible refine (HP2.out _).mono ?_; rintro e w' ⟨rfl, hb'⟩; have hq := hq.below hb' rfl; go_wp2_with fail)
            refine hK.out _ _ ?_ (fun hHeld => ?_)
            · (try dsimp only)
              exact ⟨(HC.out _ hq).1, (HC.out _ hq).2, (HD.out _ hq).1, (HD.out _ hq).2, hq⟩
            clear hK K
            (try simp only [Act.put, List.setIfInBounds_toArray, List.set_cons_zero, List.set_cons_succ])
            refine wpAnyH_take (i := 21) (oi := { dst := some 44, op := Go.Op.binOp Go.BinOp.geq 3 (Go.Operand.tmp 38) (Go.Operand.tmp 43) 3, type := 4, pos := "l6_covers.go:149", after := #[{ on := 15, ground := Go.Ground.data }, { on := 20, ground := Go.Ground.data }, { on := 9, ground := Go.Ground.guard }], guard := some (9, true) }) (v := ?_) rfl (by kernel_rfl) (by kernel_rfl) (by kernel_rfl) (fun _ _ _ h => h) (Or.inl ⟨by rfl, ?_⟩) (by assumption) ?_
            rotate_left
            · intro w hSw; (try dsimp only at hSw); go_simp; (try with_reducible rfl)
            simp only [Act.put, List.setIfInBounds_toArray, List.set_cons_zero, List.set_cons_succ]
            refine wpAnyH_take (i := 22) (oi := { dst := some 45, op := Go.Op.pick (Go.Operand.tmp 32) (Go.Operand.tmp 44) (Go.Operand.const (Go.Value.bool false)), type := 4, pos := "l6_covers.go:149", after := #[{ on := 9, ground := Go.Ground.data }, { on := 21, ground := Go.Ground.data }, { on := 6, ground := Go.Ground.guard }], guard := some (6, false) }) (v := ?_) rfl (by kernel_rfl) (by kernel_rfl) (by kernel_rfl) (fun _ _ _ h => h) (Or.inl ⟨by rfl, ?_⟩) (by assumption) ?_
            rotate_left
            · intro w hSw; (try dsimp only at hSw); go_simp; (try with_reducible rfl)
            simp only [Act.put, List.setIfInBounds_toArray, List.set_cons_zero, List.set_cons_succ]
            refine wpAnyH_take (i := 23) (oi := { dst := some 46, op := Go.Op.pick (Go.Operand.tmp 29) (Go.Operand.const (Go.Value.bool true)) (Go.Operand.tmp 45), type := 4, pos := "l6_covers.go:149", after := #[{ on := 6, ground := Go.Ground.data }, { on := 22, ground := Go.Ground.data }], guard := none }) (v := ?_) rfl (by kernel_rfl) (by kernel_rfl) (by kernel_rfl) (fun _ _ _ h => h) (Or.inl ⟨by rfl, ?_⟩) (by assumption) ?_
            rotate_left
            · intro w hSw; (try dsimp only at hSw); go_simp; (try with_reducible rfl)
            simp only [Act.put, List.setIfInBounds_toArray, List.set_cons_zero, List.set_cons_succ]
            refine wpAnyH_done (by kernel_rfl) ?_ _
            have HQ := Lib.hid hq
            rename_i hHeld
            clear hHeld hq hwj
            go_wp2_with fail
            go_ret2
            exact ⟨by (have e := HR2.out; subst e; rfl), HQ.out.1.2.2⟩
      · obtain rfl : i = z.length := by omega
        have HL2 := Lib.hid (HL.out rfl)
        clear HL
        have HR2 := Lib.hid (show r = (decide (z.length ≤ 5) && eqf (spo p (nz z) zf) s) by rw [HR.out, decide_eq_true rfl, Bool.true_and])
        clear HS HR
        generalize spo p (nz z) zf = F at HL2 HR2
        have he := eq26 (rowv (F 0)) (rowv (F 1)) (rowv (F 2)) (rowv (F 3)) (rowv (F 4)) (rowv (F 5)) (rowv (s 0)) (rowv (s 1)) (rowv (s 2)) (rowv (s 3)) (rowv (s 4)) (rowv (s 5))
        by_cases h5 : z.length ≤ 5
        · have h5' : (z.length : Int) ≤ 5 := by omega
          have HR3 := Lib.hid (show r = eqf F s by rw [HR2.out, decide_eq_true h5, Bool.true_and])
          clear HR2
          go_wp2_with fail
          refine wp_region_held_drew (S := (fun U => U.cell? ⟨w.heap.size, 0, none⟩ = some (.int .i64 (rowv (p 0))) ∧ U.cell? ⟨w.heap.size, 1, none⟩ = some (.int .i64 (rowv (p 1))) ∧ U.cell? ⟨w.heap.size, 2, none⟩ = some (.int .i64 (rowv (p 2))) ∧ U.cell? ⟨w.heap.size, 3, none⟩ = some (.int .i64 (rowv (p 3))) ∧ U.cell? ⟨w.heap.size, 4, none⟩ = some (.int .i64 (rowv (p 4))) ∧ U.cell? ⟨w.heap.size, 5, none⟩ = some (.int .i64 (rowv (p 5))) ∧ U.cell? ⟨w.heap.size + 1, 0, none⟩ = some (.int .i64 (rowv (s 0))) ∧ U.cell? ⟨w.heap.size + 1, 1, none⟩ = some (.int .i64 (rowv (s 1))) ∧ U.cell? ⟨w.heap.size + 1, 2, none⟩ = some (.int .i64 (rowv (s 2))) ∧ U.cell? ⟨w.heap.size + 1, 3, none⟩ = some (.int .i64 (rowv (s 3))) ∧ U.cell? ⟨w.heap.size + 1, 4, none⟩ = some (.int .i64 (rowv (s 4))) ∧ U.cell? ⟨w.heap.size + 1, 5, none⟩ = some (.int .i64 (rowv (s 5))) ∧ Rv6 w p s z g cap U)) (by kernel_rfl) ?_ (fun hHeld => ?_)
          · (try dsimp only)
            exact SKw hq
          refine wpAnyH_take (i := 0) (oi := { dst := some 47, op := Go.Op.move (Go.Operand.tmp 2), type := 25, pos := "l6_covers.go:153", after := #[], guard := none }) (v := ?_) rfl (by kernel_rfl) (by kernel_rfl) (by kernel_rfl) (fun _ _ _ h => h) (Or.inl ⟨by rfl, ?_⟩) (by assumption) ?_
          rotate_left
          · intro w hSw; (try dsimp only at hSw); go_simp; (try with_reducible rfl)
          simp only [Act.put, List.setIfInBounds_toArray, List.set_cons_zero, List.set_cons_succ]
          refine wpAnyH_take (i := 1) (oi := { dst := some 48, op := Go.Op.call { callee := Go.Callee.builtin Go.Builtin.len, args := #[Go.Operand.tmp 47], argTypes := #[25] }, type := 3, pos := "l6_covers.go:153", after := #[{ on := 0, ground := Go.Ground.data }], guard := none }) (v := ?_) rfl (by kernel_rfl) (by kernel_rfl) (by kernel_rfl) (fun _ _ _ h => h) (Or.inl ⟨by rfl, ?_⟩) (by assumption) ?_
          rotate_left
          · intro w hSw; (try dsimp only at hSw); go_simp; (try with_reducible rfl)
          simp only [Act.put, List.setIfInBounds_toArray, List.set_cons_zero, List.set_cons_succ]
          refine wpAnyH_take (i := 2) (oi := { dst := some 49, op := Go.Op.binOp Go.BinOp.leq 3 (Go.Operand.tmp 48) (Go.Operand.const (Go.Value.int Go.IntKind.i64 5)) 3, type := 4, pos := "l6_covers.go:153", after := #[{ on := 1, ground := Go.Ground.data }], guard := none }) (v := ?_) rfl (by kernel_rfl) (by kernel_rfl) (by kernel_rfl) (fun _ _ _ h => h) (Or.inl ⟨by rfl, ?_⟩) (by assumption) ?_
          rotate_left
          · intro w hSw; (try dsimp only at hSw); go_simp; (try with_reducible rfl)
          simp only [Act.put, List.setIfInBounds_toArray, List.set_cons_zero, List.set_cons_succ]
          refine wpAnyH_take (i := 3) (oi := { dst := some 50, op := Go.Op.move (Go.Operand.tmp 49), type := 4, pos := "l6_covers.go:153", after := #[{ on := 2, ground := Go.Ground.data }], guard := none }) (v := ?_) rfl (by kernel_rfl) (by kernel_rfl) (by kernel_rfl) (fun _ _ _ h => h) (Or.inl ⟨by rfl, ?_⟩) (by assumption) ?_
          rotate_left
          · intro w hSw; (try dsimp only at hSw); go_simp; (try with_reducible rfl)
          simp only [Act.put, List.setIfInBounds_toArray, List.set_cons_zero, List.set_cons_succ]
          refine wpAnyH_take (i := 4) (oi := { dst := some 51, op := Go.Op.load 28 (Go.Operand.tmp 3), type := 28, pos := "l6_covers.go:153", after := #[{ on := 3, ground := Go.Ground.guard }], guard := some (3, true) }) (v := ?_) rfl (by kernel_rfl) (by kernel_rfl) (by kernel_rfl) (fun _ _ _ h => h) (Or.inl ⟨by rfl, ?_⟩) (by assumption) ?_
          rotate_left
          · intro w hSw; (try dsimp only at hSw); go_simp; (try with_reducible rfl)
          simp only [Act.put, List.setIfInBounds_toArray, List.set_cons_zero, List.set_cons_succ]
          refine wpAnyH_take (i := 5) (oi := { dst := some 52, op := Go.Op.move (Go.Operand.tmp 2), type := 25, pos := "l6_covers.go:153", after := #[{ on := 3, ground := Go.Ground.guard }], guard := some (3, true) }) (v := ?_) rfl (by kernel_rfl) (by kernel_rfl) (by kernel_rfl) (fun _ _ _ h => h) (Or.inl ⟨by rfl, ?_⟩) (by assumption) ?_
          rotate_left
          · intro w hSw; (try dsimp only at hSw); go_simp; (try with_reducible rfl)
          simp only [Act.put, List.setIfInBounds_toArray, List.set_cons_zero, List.set_cons_succ]
          refine wpAnyH_take (i := 7) (oi := { dst := some 54, op := Go.Op.load 28 (Go.Operand.tmp 4), type := 28, pos := "l6_covers.go:153", after := #[{ on := 3, ground := Go.Ground.guard }], guard := some (3, true) }) (v := ?_) rfl (by kernel_rfl) (by kernel_rfl) (by kernel_rfl) (fun _ _ _ h => h) (Or.inl ⟨by rfl, ?_⟩) (by assumption) ?_
          rotate_left
          · intro w hSw; (try dsimp only at hSw); go_simp; (try with_reducible rfl)
          simp only [Act.put, List.setIfInBounds_toArray, List.set_cons_zero, List.set_cons_succ]
          refine wpAnyH_ready (rs := [6]) (by kernel_rfl) (by simp) ?_
          refine AllReadyH.cons (o := { dst := some 53, op := Go.Op.call { callee := Go.Callee.value (Go.Operand.func 129), args := #[Go.Operand.tmp 51, Go.Operand.tmp 52], argTypes := #[28, 25] }, type := 28, pos := "l6_covers.go:153", after := #[{ on := 4, ground := Go.Ground.data }, { on := 5, ground := Go.Ground.data }, { on := 3, ground := Go.Ground.chain }, { on := 3, ground := Go.Ground.guard }], guard := some (3, true) }) rfl (fun K hK => ?_) AllReadyH.nil
          go_simp
          (go_at_call 129; with_reducible refine (HL2.out _ _ _ (Rv6_own hq)).mono ?_; rintro e w' ⟨rfl, hb'⟩; have hq := hq.below hb' rfl; go_wp2_with fail)
          refine hK.out _ _ ?_ (fun hHeld => ?_)
          · (try dsimp only)
            exact SKw hq
          clear hK K
          (try simp only [Act.put, List.setIfInBounds_toArray, List.set_cons_zero, List.set_cons_succ])
          refine wpAnyH_take (i := 8) (oi := { dst := some 55, op := Go.Op.binOp Go.BinOp.eql 28 (Go.Operand.tmp 53) (Go.Operand.tmp 54) 28, type := 4, pos := "l6_covers.go:153", after := #[{ on := 6, ground := Go.Ground.data }, { on := 7, ground := Go.Ground.data }, { on := 3, ground := Go.Ground.guard }], guard := some (3, true) }) (v := ?_) rfl (by kernel_rfl) (by kernel_rfl) (by kernel_rfl) (fun _ _ _ h => h) (Or.inl ⟨by rfl, ?_⟩) (by assumption) ?_
          rotate_left
          · intro w hSw; (try dsimp only at hSw); go_simp; (try with_reducible rfl)
          simp only [Act.put, List.setIfInBounds_toArray, List.set_cons_zero, List.set_cons_succ]
          refine wpAnyH_take (i := 9) (oi := { dst := some 56, op := Go.Op.pick (Go.Operand.tmp 50) (Go.Operand.tmp 55) (Go.Operand.const (Go.Value.bool false)), type := 4, pos := "l6_covers.go:153", after := #[{ on := 3, ground := Go.Ground.data }, { on := 8, ground := Go.Ground.data }], guard := none }) (v := ?_) rfl (by kernel_rfl) (by kernel_rfl) (by kernel_rfl) (fun _ _ _ h => h) (Or.inl ⟨by rfl, ?_⟩) (by assumption) ?_
          rotate_left
          · intro w hSw; (try dsimp only at hSw); go_simp; (try with_reducible rfl)
          simp only [Act.put, List.setIfInBounds_toArray, List.set_cons_zero, List.set_cons_succ]
          refine wpAnyH_take (i := 10) (oi := { dst := some 6, op := Go.Op.assign (Go.Operand.tmp 56), type := 4, pos := "l6_covers.go:153", after := #[{ on := 9, ground := Go.Ground.data }, { on := 6, ground := Go.Ground.chain }, { on := 0, ground := Go.Ground.phase }, { on := 1, ground := Go.Ground.phase }, { on := 2, ground := Go.Ground.phase }, { on := 3, ground := Go.Ground.phase }, { on := 4, ground := Go.Ground.phase }, { on := 5, ground := Go.Ground.phase }, { on := 6, ground := Go.Ground.phase }, { on := 7, ground := Go.Ground.phase }, { on := 8, ground := Go.Ground.phase }, { on := 9, ground := Go.Ground.phase }], guard := none }) (v := ?_) rfl (by kernel_rfl) (by kernel_rfl) (by kernel_rfl) (fun _ _ _ h => h) (Or.inl ⟨by rfl, ?_⟩) (by assumption) ?_
          rotate_left
          · intro w hSw; (try dsimp only at hSw); go_simp; (try with_reducible rfl)
          simp only [Act.put, List.setIfInBounds_toArray, List.set_cons_zero, List.set_cons_succ]
          refine wpAnyH_take (i := 11) (oi := { dst := some 7, op := Go.Op.assign (Go.Operand.const (Go.Value.bool true)), type := 4, pos := "l6_covers.go:153", after := #[{ on := 10, ground := Go.Ground.chain }, { on := 0, ground := Go.Ground.phase }, { on := 1, ground := Go.Ground.phase }, { on := 2, ground := Go.Ground.phase }, { on := 3, ground := Go.Ground.phase }, { on := 4, ground := Go.Ground.phase }, { on := 5, ground := Go.Ground.phase }, { on := 6, ground := Go.Ground.phase }, { on := 7, ground := Go.Ground.phase }, { on := 8, ground := Go.Ground.phase }, { on := 9, ground := Go.Ground.phase }, { on := 10, ground := Go.Ground.phase }], guard := none }) (v := ?_) rfl (by kernel_rfl) (by kernel_rfl) (by kernel_rfl) (fun _ _ _ h => h) (Or.inl ⟨by rfl, ?_⟩) (by assumption) ?_
          rotate_left
          · intro w hSw; (try dsimp only at hSw); go_simp; (try with_reducible rfl)
          simp only [Act.put, List.setIfInBounds_toArray, List.set_cons_zero, List.set_cons_succ]
          refine wpAnyH_done (by kernel_rfl) ?_ _
          have HQ := Lib.hid hq
          rename_i hHeld
          clear hHeld hq he
          go_wp2_with fail
          go_ret2
          exact ⟨by (have e := HR3.out; subst e; rfl), HQ.out.1.2.2⟩
        · have h5' : ¬ (z.length : Int) ≤ 5 := by omega
          have h5'' : (5 : Int) < (z.length : Int) := by omega
          have hd5 : decide ((z.length : Int) ≤ 5) = false := decide_eq_false h5'
          have HR3 := Lib.hid (show r = false by rw [HR2.out, decide_eq_false h5, Bool.false_and])
          clear he HL2 HR2
          go_wp2_with fail
          refine wp_region_held_drew (S := (fun U => Rv6 w p s z g cap U)) (by kernel_rfl) ?_ (fun hHeld => ?_)
          · (try dsimp only)
            exact hq
          refine wpAnyH_take (i := 0) (oi := { dst := some 47, op := Go.Op.move (Go.Operand.tmp 2), type := 25, pos := "l6_covers.go:153", after := #[], guard := none }) (v := ?_) rfl (by kernel_rfl) (by kernel_rfl) (by kernel_rfl) (fun _ _ _ h => h) (Or.inl ⟨by rfl, ?_⟩) (by assumption) ?_
          rotate_left
          · intro w hSw; (try dsimp only at hSw); go_simp; (try with_reducible rfl)
          simp only [Act.put, List.setIfInBounds_toArray, List.set_cons_zero, List.set_cons_succ]
          refine wpAnyH_take (i := 1) (oi := { dst := some 48, op := Go.Op.call { callee := Go.Callee.builtin Go.Builtin.len, args := #[Go.Operand.tmp 47], argTypes := #[25] }, type := 3, pos := "l6_covers.go:153", after := #[{ on := 0, ground := Go.Ground.data }], guard := none }) (v := ?_) rfl (by kernel_rfl) (by kernel_rfl) (by kernel_rfl) (fun _ _ _ h => h) (Or.inl ⟨by rfl, ?_⟩) (by assumption) ?_
          rotate_left
          · intro w hSw; (try dsimp only at hSw); go_simp; (try with_reducible rfl)
          simp only [Act.put, List.setIfInBounds_toArray, List.set_cons_zero, List.set_cons_succ]
          refine wpAnyH_take (i := 2) (oi := { dst := some 49, op := Go.Op.binOp Go.BinOp.leq 3 (Go.Operand.tmp 48) (Go.Operand.const (Go.Value.int Go.IntKind.i64 5)) 3, type := 4, pos := "l6_covers.go:153", after := #[{ on := 1, ground := Go.Ground.data }], guard := none }) (v := ?_) rfl (by kernel_rfl) (by kernel_rfl) (by kernel_rfl) (fun _ _ _ h => h) (Or.inl ⟨by rfl, ?_⟩) (by assumption) ?_
          rotate_left
          · intro w hSw; (try dsimp only at hSw); go_simp; (try with_reducible rfl)
          simp only [Act.put, List.setIfInBounds_toArray, List.set_cons_zero, List.set_cons_succ]
          refine wpAnyH_take (i := 3) (oi := { dst := some 50, op := Go.Op.move (Go.Operand.tmp 49), type := 4, pos := "l6_covers.go:153", after := #[{ on := 2, ground := Go.Ground.data }], guard := none }) (v := ?_) rfl (by kernel_rfl) (by kernel_rfl) (by kernel_rfl) (fun _ _ _ h => h) (Or.inl ⟨by rfl, ?_⟩) (by assumption) ?_
          rotate_left
          · intro w hSw; (try dsimp only at hSw); go_simp; (try with_reducible rfl)
          simp only [Act.put, List.setIfInBounds_toArray, List.set_cons_zero, List.set_cons_succ]
          refine wpAnyH_take (i := 4) (oi := { dst := some 51, op := Go.Op.load 28 (Go.Operand.tmp 3), type := 28, pos := "l6_covers.go:153", after := #[{ on := 3, ground := Go.Ground.guard }], guard := some (3, true) }) (v := undef) rfl (by kernel_rfl) (by kernel_rfl) (by kernel_rfl) (fun _ _ _ h => h) (Or.inr ⟨by rfl, rfl⟩) (by assumption) ?_
          simp only [Act.put, List.setIfInBounds_toArray, List.set_cons_zero, List.set_cons_succ]
          refine wpAnyH_take (i := 5) (oi := { dst := some 52, op := Go.Op.move (Go.Operand.tmp 2), type := 25, pos := "l6_covers.go:153", after := #[{ on := 3, ground := Go.Ground.guard }], guard := some (3, true) }) (v := undef) rfl (by kernel_rfl) (by kernel_rfl) (by kernel_rfl) (fun _ _ _ h => h) (Or.inr ⟨by rfl, rfl⟩) (by assumption) ?_
          simp only [Act.put, List.setIfInBounds_toArray, List.set_cons_zero, List.set_cons_succ]
          refine wpAnyH_take (i := 6) (oi := { dst := some 53, op := Go.Op.call { callee := Go.Callee.value (Go.Operand.func 129), args := #[Go.Operand.tmp 51, Go.Operand.tmp 52], argTypes := #[28, 25] }, type := 28, pos := "l6_covers.go:153", after := #[{ on := 4, ground := Go.Ground.data }, { on := 5, ground := Go.Ground.data }, { on := 3, ground := Go.Ground.chain }, { on := 3, ground := Go.Ground.guard }], guard := some (3, true) }) (v := undef) rfl (by kernel_rfl) (by kernel_rfl) (by kernel_rfl) (fun _ _ _ h => h) (Or.inr ⟨by rfl, rfl⟩) (by assumption) ?_
          simp only [Act.put, List.setIfInBounds_toArray, List.set_cons_zero, List.set_cons_succ]
          refine wpAnyH_take (i := 7) (oi := { dst := some 54, op := Go.Op.load 28 (Go.Operand.tmp 4), type := 28, pos := "l6_covers.go:153", after := #[{ on := 3, ground := Go.Ground.guard }], guard := some (3, true) }) (v := undef) rfl (by kernel_rfl) (by kernel_rfl) (by kernel_rfl) (fun _ _ _ h => h) (Or.inr ⟨by rfl, rfl⟩) (by assumption) ?_
          simp only [Act.put, List.setIfInBounds_toArray, List.set_cons_zero, List.set_cons_succ]
          refine wpAnyH_take (i := 8) (oi := { dst := some 55, op := Go.Op.binOp Go.BinOp.eql 28 (Go.Operand.tmp 53) (Go.Operand.tmp 54) 28, type := 4, pos := "l6_covers.go:153", after := #[{ on := 6, ground := Go.Ground.data }, { on := 7, ground := Go.Ground.data }, { on := 3, ground := Go.Ground.guard }], guard := some (3, true) }) (v := undef) rfl (by kernel_rfl) (by kernel_rfl) (by kernel_rfl) (fun _ _ _ h => h) (Or.inr ⟨by rfl, rfl⟩) (by assumption) ?_
          simp only [Act.put, List.setIfInBounds_toArray, List.set_cons_zero, List.set_cons_succ]
          refine wpAnyH_take (i := 9) (oi := { dst := some 56, op := Go.Op.pick (Go.Operand.tmp 50) (Go.Operand.tmp 55) (Go.Operand.const (Go.Value.bool false)), type := 4, pos := "l6_covers.go:153", after := #[{ on := 3, ground := Go.Ground.data }, { on := 8, ground := Go.Ground.data }], guard := none }) (v := ?_) rfl (by kernel_rfl) (by kernel_rfl) (by kernel_rfl) (fun _ _ _ h => h) (Or.inl ⟨by rfl, ?_⟩) (by assumption) ?_
          rotate_left
          · intro w hSw; (try dsimp only at hSw); go_simp; (try with_reducible rfl)
          simp only [Act.put, List.setIfInBounds_toArray, List.set_cons_zero, List.set_cons_succ]
          refine wpAnyH_take (i := 10) (oi := { dst := some 6, op := Go.Op.assign (Go.Operand.tmp 56), type := 4, pos := "l6_covers.go:153", after := #[{ on := 9, ground := Go.Ground.data }, { on := 6, ground := Go.Ground.chain }, { on := 0, ground := Go.Ground.phase }, { on := 1, ground := Go.Ground.phase }, { on := 2, ground := Go.Ground.phase }, { on := 3, ground := Go.Ground.phase }, { on := 4, ground := Go.Ground.phase }, { on := 5, ground := Go.Ground.phase }, { on := 6, ground := Go.Ground.phase }, { on := 7, ground := Go.Ground.phase }, { on := 8, ground := Go.Ground.phase }, { on := 9, ground := Go.Ground.phase }], guard := none }) (v := ?_) rfl (by kernel_rfl) (by kernel_rfl) (by kernel_rfl) (fun _ _ _ h => h) (Or.inl ⟨by rfl, ?_⟩) (by assumption) ?_
          rotate_left
          · intro w hSw; (try dsimp only at hSw); go_simp; (try with_reducible rfl)
          simp only [Act.put, List.setIfInBounds_toArray, List.set_cons_zero, List.set_cons_succ]
          refine wpAnyH_take (i := 11) (oi := { dst := some 7, op := Go.Op.assign (Go.Operand.const (Go.Value.bool true)), type := 4, pos := "l6_covers.go:153", after := #[{ on := 10, ground := Go.Ground.chain }, { on := 0, ground := Go.Ground.phase }, { on := 1, ground := Go.Ground.phase }, { on := 2, ground := Go.Ground.phase }, { on := 3, ground := Go.Ground.phase }, { on := 4, ground := Go.Ground.phase }, { on := 5, ground := Go.Ground.phase }, { on := 6, ground := Go.Ground.phase }, { on := 7, ground := Go.Ground.phase }, { on := 8, ground := Go.Ground.phase }, { on := 9, ground := Go.Ground.phase }, { on := 10, ground := Go.Ground.phase }], guard := none }) (v := ?_) rfl (by kernel_rfl) (by kernel_rfl) (by kernel_rfl) (fun _ _ _ h => h) (Or.inl ⟨by rfl, ?_⟩) (by assumption) ?_
          rotate_left
          · intro w hSw; (try dsimp only at hSw); go_simp; (try with_reducible rfl)
          simp only [Act.put, List.setIfInBounds_toArray, List.set_cons_zero, List.set_cons_succ]
          refine wpAnyH_done (by kernel_rfl) ?_ _
          have HQ := Lib.hid hq
          rename_i hHeld
          clear hHeld hq
          go_wp2_with fail
          go_ret2
          exact ⟨by (have e := HR3.out; subst e; rfl), HQ.out.1.2.2⟩
/- Cp6 -/
theorem irow (f : Fn6) (w : World) : Calls Try.prog 147 #[.agg #[.int .i64 (rowv (f 0)), .int .i64 (rowv (f 1)), .int .i64 (rowv (f 2)), .int .i64 (rowv (f 3)), .int .i64 (rowv (f 4)), .int .i64 (rowv (f 5))]] w fun e w' => e = .returned (.bool true) ∧ Below w.heap.size w w' := (sh_ai _ _ _ _ _ _ (show (ok (rowv (f 0)) && ok (rowv (f 1)) && ok (rowv (f 2)) && ok (rowv (f 3)) && ok (rowv (f 4)) && ok (rowv (f 5))) = true by simp only [rowv_ok, Bool.and_self])).out w
set_option maxRecDepth 8000 in
set_option maxHeartbeats 4000000 in
theorem icov_any (p s : Fn6) (z : List (Int × Int)) (hz : z.length ≤ 5) (M : Nat) (hM : M ≤ z.length - 1) (hP : ∀ i, i < M → ascQ z i = true) (hE : M < z.length - 1 → ascQ z M = false) (q0 q1 q2 q3 q4 q5 : Int) (t : Bool) (HF : Hid (∀ (w : World) (g cap : Nat), w.ownsRow 0 53 2 (.slice (some ⟨g, 0, none⟩) z.length cap) z.length (cw z) → Calls Try.prog 31 #[.agg #[.int .i64 (rowv (p 0)), .int .i64 (rowv (p 1)), .int .i64 (rowv (p 2)), .int .i64 (rowv (p 3)), .int .i64 (rowv (p 4)), .int .i64 (rowv (p 5))], .slice (some ⟨g, 0, none⟩) z.length cap] w fun e w' => e = .returned (.tuple #[.agg #[.int .i64 q0, .int .i64 q1, .int .i64 q2, .int .i64 q3, .int .i64 q4, .int .i64 q5], .bool t]) ∧ Below w.heap.size w w')) (r : Bool) (hr : r = (decide (M = z.length - 1) && (t && (q0 == rowv (s 0) && q1 == rowv (s 1) && q2 == rowv (s 2) && q3 == rowv (s 3) && q4 == rowv (s 4) && q5 == rowv (s 5))))) (g cap : Nat) (w : World) (hO : w.ownsRow 0 53 2 (.slice (some ⟨g, 0, none⟩) z.length cap) z.length (cw z)) : Calls Try.prog 42 #[.agg #[.int .i64 (rowv (p 0)), .int .i64 (rowv (p 1)), .int .i64 (rowv (p 2)), .int .i64 (rowv (p 3)), .int .i64 (rowv (p 4)), .int .i64 (rowv (p 5))], .agg #[.int .i64 (rowv (s 0)), .int .i64 (rowv (s 1)), .int .i64 (rowv (s 2)), .int .i64 (rowv (s 3)), .int .i64 (rowv (s 4)), .int .i64 (rowv (s 5))], .slice (some ⟨g, 0, none⟩) z.length cap] w fun e w' => e = .returned (.tuple #[.bool r, .bool true]) ∧ Below w.heap.size w w' := by
  have HO := Lib.hid hO
  have HK := Lib.hid hP
  have HE := Lib.hid hE
  have HR := Lib.hid hr
  have HV := Lib.hid (irow p)
  have HV2 := Lib.hid (irow s)
  have h5 : ¬ ((z.length : Int) > 5) := by omega
  have h5' : (z.length : Int) ≤ 5 := by omega
  clear hO hP hE hr
  go_enter Try.func42, Try.ntmps42
  go_wp2_with fail
  generalize hW : (World.alloc _ _ : World) = W0
  have hB0 : Below w.heap.size w W0 := by rw [← hW]; (repeat (first | exact Below.refl _ _ | assumption | refine Below.setCell ?_ (by first | (simp; done) | (simp; omega)) _ | refine Below.alloc ?_ (by first | (simp; done) | (simp; omega)) _ | refine Below.drew ?_))
  have S0 : Hid (Rv6 w p s z g cap W0) := Lib.hid ⟨two_boxes w _ _ hB0 (by rw [← hW]; exact alloc_past (alloc_at rfl)) (by rw [← hW]; exact alloc_at (by simp)) (by rw [← hW]; simp), HO.out.kept (grown_below hB0 rfl) (.inr (by simp [Value.ownBlock]))⟩
  clear hW hB0 HO
  have a_c := fun j => cell_of_row W0 _ j _ _ _ (S0.out.1.row (g := w.heap.size) (o := o6 p) (by simp))
  go_wp2_with fail
  refine (HV.out _).mono ?_
  rintro e W1 ⟨rfl, hb⟩
  have S1 := Lib.hid (S0.out.below hb rfl)
  clear hb S0 a_c HV
  have a_c := fun j => cell_of_row W1 _ j _ _ _ (S1.out.1.row (g := w.heap.size + 1) (o := o6 s) (by simp))
  go_wp2_with fail
  refine (HV2.out _).mono ?_
  rintro e W2 ⟨rfl, hb⟩
  have S2 := Lib.hid (S1.out.below hb rfl)
  clear hb S1 a_c HV2
  go_wp2_with fail
  go_loopw [8] (fun c wr => ∃ j : Nat, j ≤ M ∧ c = .int .i64 ((j : Int) + 1) ∧ Hid (Rv6 w p s z g cap wr)) (fun c _ => z.length + 1 - (intOf c).toNat)
  case atStart => exact ⟨0, by omega, rfl, S2⟩
  case round =>
    obtain ⟨j, hj, rfl, HS⟩ := hrel
    have hq := HS.out.drew
    by_cases hlt : j < M
    · have hj1 : j < z.length := by omega
      have hj2 : j + 1 < z.length := by omega
      have HD := Lib.hid (fun (U : World) (h : Rv6 w p s z g cap U) => Rv6_at h hj1)
      have HC := Lib.hid (fun (U : World) (h : Rv6 w p s z g cap U) => Rv6_at h hj2)
      have HL := Lib.hid (cmpcells_any (z[j]).1 (z[j]).2 (z[j + 1]).1 (z[j + 1]).2)
      have hj0 : (0 : Int) ≤ (j : Int) := by omega
      have hjl : (j : Int) < z.length := by omega
      have hjm : (j : Int) + 1 < z.length := by omega
      have hju : (0 : Int) ≤ (j : Int) + 1 := by omega
      have hjt : ((j : Int) + 1).toNat = j + 1 := by omega
      have hj5 : (j : Int) ≤ 5 := by omega
      have hng : lexc (z[j]).1 (z[j]).2 (z[j + 1]).1 (z[j + 1]).2 < 0 := by
        have h := HK.out j hlt
        rw [ascQ_at hj2, decide_eq_true_eq] at h
        exact h
      generalize lexc (z[j]).1 (z[j]).2 (z[j + 1]).1 (z[j + 1]).2 = L at HL hng
      clear HS HF
      generalize z[j + 1] = c at HC HL
      generalize z[j] = d at HD HL
      obtain ⟨c1, c2⟩ := c
      obtain ⟨d1, d2⟩ := d
      dsimp only at HC HD HL
      have hwj : IntKind.i64.wrap (j : Int) = j := by rw [IntKind.wrap_i64]; omega
      go_wp2_with fail
      refine wp_region_held_drew (S := (fun U => U.cell? ⟨g, (j + 1) * 2, none⟩ = some (.int .i64 c1) ∧ U.cell? ⟨g, (j + 1) * 2 + 1, none⟩ = some (.int .i64 c2) ∧ U.cell? ⟨g, j * 2, none⟩ = some (.int .i64 d1) ∧ U.cell? ⟨g, j * 2 + 1, none⟩ = some (.int .i64 d2) ∧ Rv6 w p s z g cap U)) (by kernel_rfl) ?_ (fun hHeld => ?_)
      · (try dsimp only)
        exact ⟨(HC.out _ hq).1, (HC.out _ hq).2, (HD.out _ hq).1, (HD.out _ hq).2, hq⟩
      refine wpAnyH_take (i := 0) (oi := { dst := some 28, op := Go.Op.move (Go.Operand.tmp 2), type := 25, pos := "l6_covers.go:239", after := #[], guard := none }) (v := ?_) rfl (by kernel_rfl) (by kernel_rfl) (by kernel_rfl) (fun _ _ _ h => h) (Or.inl ⟨by rfl, ?_⟩) (by assumption) ?_
      rotate_left
      · intro w hSw; (try dsimp only at hSw); go_simp; (try with_reducible rfl)
      simp only [Act.put, List.setIfInBounds_toArray, List.set_cons_zero, List.set_cons_succ]
      refine wpAnyH_take (i := 1) (oi := { dst := some 29, op := Go.Op.move (Go.Operand.tmp 8), type := 3, pos := "l6_covers.go:239", after := #[], guard := none }) (v := ?_) rfl (by kernel_rfl) (by kernel_rfl) (by kernel_rfl) (fun _ _ _ h => h) (Or.inl ⟨by rfl, ?_⟩) (by assumption) ?_
      rotate_left
      · intro w hSw; (try dsimp only at hSw); go_simp; (try with_reducible rfl)
      simp only [Act.put, List.setIfInBounds_toArray, List.set_cons_zero, List.set_cons_succ]
      refine wpAnyH_take (i := 2) (oi := { dst := some 30, op := Go.Op.binOp Go.BinOp.sub 3 (Go.Operand.tmp 29) (Go.Operand.const (Go.Value.int Go.IntKind.i64 1)) 3, type := 3, pos := "l6_covers.go:239", after := #[{ on := 1, ground := Go.Ground.data }], guard := none }) (v := ?_) rfl (by kernel_rfl) (by kernel_rfl) (by kernel_rfl) (fun _ _ _ h => h) (Or.inl ⟨by rfl, ?_⟩) (by assumption) ?_
      rotate_left
      · intro w hSw; (try dsimp only at hSw); go_simp; (try with_reducible rfl)
      simp only [Act.put, List.setIfInBounds_toArray, List.set_cons_zero, List.set_cons_succ]
      refine wpAnyH_take (i := 3) (oi := { dst := some 31, op := Go.Op.indexAddr 25 (Go.Operand.tmp 28) (Go.Operand.tmp 30), type := 0, pos := "l6_covers.go:239", after := #[{ on := 0, ground := Go.Ground.data }, { on := 2, ground := Go.Ground.data }], guard := none }) (v := ?_) rfl (by kernel_rfl) (by kernel_rfl) (by kernel_rfl) (fun _ _ _ h => h) (Or.inl ⟨by rfl, ?_⟩) (by assumption) ?_
      rotate_left
      · intro w hSw; (try dsimp only at hSw); go_simp; (try with_reducible rfl)
      simp only [Act.put, List.setIfInBounds_toArray, List.set_cons_zero, List.set_cons_succ]
      refine wpAnyH_take (i := 4) (oi := { dst := some 32, op := Go.Op.load 53 (Go.Operand.tmp 31), type := 53, pos := "l6_covers.go:239", after := #[{ on := 3, ground := Go.Ground.data }], guard := none }) (v := ?_) rfl (by kernel_rfl) (by kernel_rfl) (by kernel_rfl) (fun _ _ _ h => h) (Or.inl ⟨by rfl, ?_⟩) (by assumption) ?_
      rotate_left
      · intro w hSw; (try dsimp only at hSw); go_simp; (try with_reducible rfl)
      simp only [Act.put, List.setIfInBounds_toArray, List.set_cons_zero, List.set_cons_succ]
      refine wpAnyH_take (i := 5) (oi := { dst := some 33, op := Go.Op.move (Go.Operand.tmp 2), type := 25, pos := "l6_covers.go:239", after := #[], guard := none }) (v := ?_) rfl (by kernel_rfl) (by kernel_rfl) (by kernel_rfl) (fun _ _ _ h => h) (Or.inl ⟨by rfl, ?_⟩) (by assumption) ?_
      rotate_left
      · intro w hSw; (try dsimp only at hSw); go_simp; (try with_reducible rfl)
      simp only [Act.put, List.setIfInBounds_toArray, List.set_cons_zero, List.set_cons_succ]
      refine wpAnyH_take (i := 6) (oi := { dst := some 34, op := Go.Op.move (Go.Operand.tmp 8), type := 3, pos := "l6_covers.go:239", after := #[], guard := none }) (v := ?_) rfl (by kernel_rfl) (by kernel_rfl) (by kernel_rfl) (fun _ _ _ h => h) (Or.inl ⟨by rfl, ?_⟩) (by assumption) ?_
      rotate_left
      · intro w hSw; (try dsimp only at hSw); go_simp; (try with_reducible rfl)
      simp only [Act.put, List.setIfInBounds_toArray, List.set_cons_zero, List.set_cons_succ]
      refine wpAnyH_take (i := 7) (oi := { dst := some 35, op := Go.Op.indexAddr 25 (Go.Operand.tmp 33) (Go.Operand.tmp 34), type := 0, pos := "l6_covers.go:239", after := #[{ on := 5, ground := Go.Ground.data }, { on := 6, ground := Go.Ground.data }], guard := none }) (v := ?_) rfl (by kernel_rfl) (by kernel_rfl) (by kernel_rfl) (fun _ _ _ h => h) (Or.inl ⟨by rfl, ?_⟩) (by assumption) ?_
      rotate_left
      · intro w hSw; (try dsimp only at hSw); go_simp; (try with_reducible rfl)
      simp only [Act.put, List.setIfInBounds_toArray, List.set_cons_zero, List.set_cons_succ]
      refine wpAnyH_take (i := 8) (oi := { dst := some 36, op := Go.Op.load 53 (Go.Operand.tmp 35), type := 53, pos := "l6_covers.go:239", after := #[{ on := 7, ground := Go.Ground.data }], guard := none }) (v := ?_) rfl (by kernel_rfl) (by kernel_rfl) (by kernel_rfl) (fun _ _ _ h => h) (Or.inl ⟨by rfl, ?_⟩) (by assumption) ?_
      rotate_left
      · intro w hSw; (try dsimp only at hSw); go_simp; (try with_reducible rfl)
      simp only [Act.put, List.setIfInBounds_toArray, List.set_cons_zero, List.set_cons_succ]
      refine wpAnyH_ready (rs := [9]) (by kernel_rfl) (by simp) ?_
      refine AllReadyH.cons (o := { dst := some 37, op := Go.Op.call { callee := Go.Callee.value (Go.Operand.func 148), args := #[Go.Operand.tmp 32, Go.Operand.tmp 36], argTypes := #[53, 53] }, type := 3, pos := "l6_covers.go:239", after := #[{ on := 4, ground := Go.Ground.data }, { on := 8, ground := Go.Ground.data }], guard := none }) rfl (fun K hK => ?_) AllReadyH.nil
      go_simp
      (go_at_call 148; with_reducible refine (HL.out _).mono ?_; rintro e w' ⟨rfl, hb'⟩; have hq := hq.below hb' rfl; go_wp2_with fail)
      refine hK.out _ _ ?_ (fun hHeld => ?_)
      · (try dsimp only)
        exact ⟨(HC.out _ hq).1, (HC.out _ hq).2, (HD.out _ hq).1, (HD.out _ hq).2, hq⟩
      clear hK K
      (try simp only [Act.put, List.setIfInBounds_toArray, List.set_cons_zero, List.set_cons_succ])
      refine wpAnyH_take (i := 10) (oi := { dst := some 38, op := Go.Op.binOp Go.BinOp.geq 3 (Go.Operand.tmp 37) (Go.Operand.const (Go.Value.int Go.IntKind.i64 0)) 3, type := 4, pos := "l6_covers.go:239", after := #[{ on := 9, ground := Go.Ground.data }], guard := none }) (v := ?_) rfl (by kernel_rfl) (by kernel_rfl) (by kernel_rfl) (fun _ _ _ h => h) (Or.inl ⟨by rfl, ?_⟩) (by assumption) ?_
      rotate_left
      · intro w hSw; (try dsimp only at hSw); go_simp; (try with_reducible rfl)
      simp only [Act.put, List.setIfInBounds_toArray, List.set_cons_zero, List.set_cons_succ]
      refine wpAnyH_done (by kernel_rfl) ?_ _
      have HQ := Lib.hid hq
      rename_i hHeld
      clear hHeld hq hwj
      go_wp2_with fail
      go_roundw
      case rel => exact ⟨j + 1, by omega, by go_num, HQ⟩
      case measure => simp [intOf]; omega
    · obtain rfl : j = M := by omega
      by_cases hnz : j < z.length - 1
      · have HR2 := Lib.hid (show r = false by rw [HR.out, decide_eq_false (by omega), Bool.false_and])
        clear HR
        have hj1 : j < z.length := by omega
        have hj2 : j + 1 < z.length := by omega
        have HD := Lib.hid (fun (U : World) (h : Rv6 w p s z g cap U) => Rv6_at h hj1)
        have HC := Lib.hid (fun (U : World) (h : Rv6 w p s z g cap U) => Rv6_at h hj2)
        have HL := Lib.hid (cmpcells_any (z[j]).1 (z[j]).2 (z[j + 1]).1 (z[j + 1]).2)
        have hj0 : (0 : Int) ≤ (j : Int) := by omega
        have hjl : (j : Int) < z.length := by omega
        have hjm : (j : Int) + 1 < z.length := by omega
        have hju : (0 : Int) ≤ (j : Int) + 1 := by omega
        have hjt : ((j : Int) + 1).toNat = j + 1 := by omega
        have hj5 : (j : Int) ≤ 5 := by omega
        have hng : 0 ≤ lexc (z[j]).1 (z[j]).2 (z[j + 1]).1 (z[j + 1]).2 := by
          have h := HE.out hnz
          rw [ascQ_at hj2, decide_eq_false_iff_not] at h
          omega
        generalize lexc (z[j]).1 (z[j]).2 (z[j + 1]).1 (z[j + 1]).2 = L at HL hng
        clear HS HF
        generalize z[j + 1] = c at HC HL
        generalize z[j] = d at HD HL
        obtain ⟨c1, c2⟩ := c
        obtain ⟨d1, d2⟩ := d
        dsimp only at HC HD HL
        have hwj : IntKind.i64.wrap (j : Int) = j := by rw [IntKind.wrap_i64]; omega
        go_wp2_with fail
        refine wp_region_held_drew (S := (fun U => U.cell? ⟨g, (j + 1) * 2, none⟩ = some (.int .i64 c1) ∧ U.cell? ⟨g, (j + 1) * 2 + 1, none⟩ = some (.int .i64 c2) ∧ U.cell? ⟨g, j * 2, none⟩ = some (.int .i64 d1) ∧ U.cell? ⟨g, j * 2 + 1, none⟩ = some (.int .i64 d2) ∧ Rv6 w p s z g cap U)) (by kernel_rfl) ?_ (fun hHeld => ?_)
        · (try dsimp only)
          exact ⟨(HC.out _ hq).1, (HC.out _ hq).2, (HD.out _ hq).1, (HD.out _ hq).2, hq⟩
        refine wpAnyH_take (i := 0) (oi := { dst := some 28, op := Go.Op.move (Go.Operand.tmp 2), type := 25, pos := "l6_covers.go:239", after := #[], guard := none }) (v := ?_) rfl (by kernel_rfl) (by kernel_rfl) (by kernel_rfl) (fun _ _ _ h => h) (Or.inl ⟨by rfl, ?_⟩) (by assumption) ?_
        rotate_left
        · intro w hSw; (try dsimp only at hSw); go_simp; (try with_reducible rfl)
        simp only [Act.put, List.setIfInBounds_toArray, List.set_cons_zero, List.set_cons_succ]
        refine wpAnyH_take (i := 1) (oi := { dst := some 29, op := Go.Op.move (Go.Operand.tmp 8), type := 3, pos := "l6_covers.go:239", after := #[], guard := none }) (v := ?_) rfl (by kernel_rfl) (by kernel_rfl) (by kernel_rfl) (fun _ _ _ h => h) (Or.inl ⟨by rfl, ?_⟩) (by assumption) ?_
        rotate_left
        · intro w hSw; (try dsimp only at hSw); go_simp; (try with_reducible rfl)
        simp only [Act.put, List.setIfInBounds_toArray, List.set_cons_zero, List.set_cons_succ]
        refine wpAnyH_take (i := 2) (oi := { dst := some 30, op := Go.Op.binOp Go.BinOp.sub 3 (Go.Operand.tmp 29) (Go.Operand.const (Go.Value.int Go.IntKind.i64 1)) 3, type := 3, pos := "l6_covers.go:239", after := #[{ on := 1, ground := Go.Ground.data }], guard := none }) (v := ?_) rfl (by kernel_rfl) (by kernel_rfl) (by kernel_rfl) (fun _ _ _ h => h) (Or.inl ⟨by rfl, ?_⟩) (by assumption) ?_
        rotate_left
        · intro w hSw; (try dsimp only at hSw); go_simp; (try with_reducible rfl)
        simp only [Act.put, List.setIfInBounds_toArray, List.set_cons_zero, List.set_cons_succ]
        refine wpAnyH_take (i := 3) (oi := { dst := some 31, op := Go.Op.indexAddr 25 (Go.Operand.tmp 28) (Go.Operand.tmp 30), type := 0, pos := "l6_covers.go:239", after := #[{ on := 0, ground := Go.Ground.data }, { on := 2, ground := Go.Ground.data }], guard := none }) (v := ?_) rfl (by kernel_rfl) (by kernel_rfl) (by kernel_rfl) (fun _ _ _ h => h) (Or.inl ⟨by rfl, ?_⟩) (by assumption) ?_
        rotate_left
        · intro w hSw; (try dsimp only at hSw); go_simp; (try with_reducible rfl)
        simp only [Act.put, List.setIfInBounds_toArray, List.set_cons_zero, List.set_cons_succ]
        refine wpAnyH_take (i := 4) (oi := { dst := some 32, op := Go.Op.load 53 (Go.Operand.tmp 31), type := 53, pos := "l6_covers.go:239", after := #[{ on := 3, ground := Go.Ground.data }], guard := none }) (v := ?_) rfl (by kernel_rfl) (by kernel_rfl) (by kernel_rfl) (fun _ _ _ h => h) (Or.inl ⟨by rfl, ?_⟩) (by assumption) ?_
        rotate_left
        · intro w hSw; (try dsimp only at hSw); go_simp; (try with_reducible rfl)
        simp only [Act.put, List.setIfInBounds_toArray, List.set_cons_zero, List.set_cons_succ]
        refine wpAnyH_take (i := 5) (oi := { dst := some 33, op := Go.Op.move (Go.Operand.tmp 2), type := 25, pos := "l6_covers.go:239", after := #[], guard := none }) (v := ?_) rfl (by kernel_rfl) (by kernel_rfl) (by kernel_rfl) (fun _ _ _ h => h) (Or.inl ⟨by rfl, ?_⟩) (by assumption) ?_
        rotate_left
        · intro w hSw; (try dsimp only at hSw); go_simp; (try with_reducible rfl)
        simp only [Act.put, List.setIfInBounds_toArray, List.set_cons_zero, List.set_cons_succ]
        refine wpAnyH_take (i := 6) (oi := { dst := some 34, op := Go.Op.move (Go.Operand.tmp 8), type := 3, pos := "l6_covers.go:239", after := #[], guard := none }) (v := ?_) rfl (by kernel_rfl) (by kernel_rfl) (by kernel_rfl) (fun _ _ _ h => h) (Or.inl ⟨by rfl, ?_⟩) (by assumption) ?_
        rotate_left
        · intro w hSw; (try dsimp only at hSw); go_simp; (try with_reducible rfl)
        simp only [Act.put, List.setIfInBounds_toArray, List.set_cons_zero, List.set_cons_succ]
        refine wpAnyH_take (i := 7) (oi := { dst := some 35, op := Go.Op.indexAddr 25 (Go.Operand.tmp 33) (Go.Operand.tmp 34), type := 0, pos := "l6_covers.go:239", after := #[{ on := 5, ground := Go.Ground.data }, { on := 6, ground := Go.Ground.data }], guard := none }) (v := ?_) rfl (by kernel_rfl) (by kernel_rfl) (by kernel_rfl) (fun _ _ _ h => h) (Or.inl ⟨by rfl, ?_⟩) (by assumption) ?_
        rotate_left
        · intro w hSw; (try dsimp only at hSw); go_simp; (try with_reducible rfl)
        simp only [Act.put, List.setIfInBounds_toArray, List.set_cons_zero, List.set_cons_succ]
        refine wpAnyH_take (i := 8) (oi := { dst := some 36, op := Go.Op.load 53 (Go.Operand.tmp 35), type := 53, pos := "l6_covers.go:239", after := #[{ on := 7, ground := Go.Ground.data }], guard := none }) (v := ?_) rfl (by kernel_rfl) (by kernel_rfl) (by kernel_rfl) (fun _ _ _ h => h) (Or.inl ⟨by rfl, ?_⟩) (by assumption) ?_
        rotate_left
        · intro w hSw; (try dsimp only at hSw); go_simp; (try with_reducible rfl)
        simp only [Act.put, List.setIfInBounds_toArray, List.set_cons_zero, List.set_cons_succ]
        refine wpAnyH_ready (rs := [9]) (by kernel_rfl) (by simp) ?_
        refine AllReadyH.cons (o := { dst := some 37, op := Go.Op.call { callee := Go.Callee.value (Go.Operand.func 148), args := #[Go.Operand.tmp 32, Go.Operand.tmp 36], argTypes := #[53, 53] }, type := 3, pos := "l6_covers.go:239", after := #[{ on := 4, ground := Go.Ground.data }, { on := 8, ground := Go.Ground.data }], guard := none }) rfl (fun K hK => ?_) AllReadyH.nil
        go_simp
        (go_at_call 148; with_reducible refine (HL.out _).mono ?_; rintro e w' ⟨rfl, hb'⟩; have hq := hq.below hb' rfl; go_wp2_with fail)
        refine hK.out _ _ ?_ (fun hHeld => ?_)
        · (try dsimp only)
          exact ⟨(HC.out _ hq).1, (HC.out _ hq).2, (HD.out _ hq).1, (HD.out _ hq).2, hq⟩
        clear hK K
        (try simp only [Act.put, List.setIfInBounds_toArray, List.set_cons_zero, List.set_cons_succ])
        refine wpAnyH_take (i := 10) (oi := { dst := some 38, op := Go.Op.binOp Go.BinOp.geq 3 (Go.Operand.tmp 37) (Go.Operand.const (Go.Value.int Go.IntKind.i64 0)) 3, type := 4, pos := "l6_covers.go:239", after := #[{ on := 9, ground := Go.Ground.data }], guard := none }) (v := ?_) rfl (by kernel_rfl) (by kernel_rfl) (by kernel_rfl) (fun _ _ _ h => h) (Or.inl ⟨by rfl, ?_⟩) (by assumption) ?_
        rotate_left
        · intro w hSw; (try dsimp only at hSw); go_simp; (try with_reducible rfl)
        simp only [Act.put, List.setIfInBounds_toArray, List.set_cons_zero, List.set_cons_succ]
        refine wpAnyH_done (by kernel_rfl) ?_ _
        have HQ := Lib.hid hq
        rename_i hHeld
        clear hHeld hq hwj
        go_wp2_with fail
        go_ret2
        exact ⟨by (have e := HR2.out; subst e; rfl), HQ.out.1.2.2⟩
      · have HR2 := Lib.hid (show r = (t && (q0 == rowv (s 0) && q1 == rowv (s 1) && q2 == rowv (s 2) && q3 == rowv (s 3) && q4 == rowv (s 4) && q5 == rowv (s 5))) by rw [HR.out, decide_eq_true (by omega), Bool.true_and])
        have hge : ¬ ((j : Int) + 1 < z.length) := by omega
        have hge' : (z.length : Int) ≤ (j : Int) + 1 := by omega
        clear hq HR
        have a_c := fun k => cell_of_row wr _ k _ _ _ (HS.out.1.row (g := w.heap.size) (o := o6 p) (by simp))
        go_wp2_with fail
        refine (HF.out _ _ _ HS.out.2).mono ?_
        rintro e W3 ⟨rfl, hb⟩
        have K3 := HS.out.1.far hb rfl
        clear hb HS a_c HF
        have he := eq26 q0 q1 q2 q3 q4 q5 (rowv (s 0)) (rowv (s 1)) (rowv (s 2)) (rowv (s 3)) (rowv (s 4)) (rowv (s 5))
        have hl3 := K3.2.1
        have hne : w.heap.size + 1 ≠ W3.heap.size := by omega
        have hlt3 : w.heap.size + 1 < W3.heap.size := by omega
        have s_c := fun k => cell_of_row W3 _ k _ _ _ (K3.row (g := w.heap.size + 1) (o := o6 s) (by simp))
        cases t
        · go_wp2_with fail
          go_ret2
          exact ⟨by (have e := HR2.out; subst e; rfl), K3.2.2.alloc K3.2.2.size _⟩
        · go_wp2_with fail
          go_ret2
          exact ⟨by (have e := HR2.out; subst e; rfl), K3.2.2.alloc K3.2.2.size _⟩
/- Cq6 -/
set_option maxHeartbeats 1000000 in
theorem scov_no0 (a0 a1 a2 a3 a4 a5 : Int) (b0 b1 b2 b3 b4 b5 : Int) (V : Value) (H0 : Hid (∀ w, Calls Try.prog 121 #[.agg #[.int .i64 a0, .int .i64 a1, .int .i64 a2, .int .i64 a3, .int .i64 a4, .int .i64 a5]] w fun e w' => e = .returned (.bool false) ∧ Below w.heap.size w w')) (w : World) : Calls Try.prog 41 #[.agg #[.int .i64 a0, .int .i64 a1, .int .i64 a2, .int .i64 a3, .int .i64 a4, .int .i64 a5], .agg #[.int .i64 b0, .int .i64 b1, .int .i64 b2, .int .i64 b3, .int .i64 b4, .int .i64 b5], V] w fun e w' => e = .returned (.tuple #[.bool false, .bool false]) ∧ Below w.heap.size w w' := by
  go_enter Try.func41, Try.ntmps41
  go_wp2_with fail
  generalize hW : (World.alloc _ _ : World) = W0
  have K0 : KR 2 [(w.heap.size, os a0 a1 a2 a3 a4 a5), (w.heap.size + 1, os b0 b1 b2 b3 b4 b5)] w W0 := by
    rw [← hW]
    exact two_boxes w _ _ (by (repeat (first | exact Below.refl _ _ | assumption | refine Below.setCell ?_ (by first | (simp; done) | (simp; omega)) _ | refine Below.alloc ?_ (by first | (simp; done) | (simp; omega)) _ | refine Below.drew ?_))) (alloc_past (alloc_at rfl)) (alloc_at (by simp)) (by simp)
  clear hW
  have a_c := fun j => cell_of_row W0 _ j _ _ _ (K0.row (g := w.heap.size) (o := os a0 a1 a2 a3 a4 a5) (by simp))
  go_wp2_with fail
  refine (H0.out _).mono ?_
  rintro e W1 ⟨rfl, hb⟩
  have K1 := K0.far hb rfl
  clear hb K0 a_c
  go_wp2_with fail
  go_ret2
  exact ⟨rfl, K1.2.2⟩
set_option maxHeartbeats 1000000 in
theorem scov_no1 (a0 a1 a2 a3 a4 a5 : Int) (b0 b1 b2 b3 b4 b5 : Int) (V : Value) (H0 : Hid (∀ w, Calls Try.prog 121 #[.agg #[.int .i64 a0, .int .i64 a1, .int .i64 a2, .int .i64 a3, .int .i64 a4, .int .i64 a5]] w fun e w' => e = .returned (.bool true) ∧ Below w.heap.size w w')) (H1 : Hid (∀ w, Calls Try.prog 121 #[.agg #[.int .i64 b0, .int .i64 b1, .int .i64 b2, .int .i64 b3, .int .i64 b4, .int .i64 b5]] w fun e w' => e = .returned (.bool false) ∧ Below w.heap.size w w')) (w : World) : Calls Try.prog 41 #[.agg #[.int .i64 a0, .int .i64 a1, .int .i64 a2, .int .i64 a3, .int .i64 a4, .int .i64 a5], .agg #[.int .i64 b0, .int .i64 b1, .int .i64 b2, .int .i64 b3, .int .i64 b4, .int .i64 b5], V] w fun e w' => e = .returned (.tuple #[.bool false, .bool false]) ∧ Below w.heap.size w w' := by
  go_enter Try.func41, Try.ntmps41
  go_wp2_with fail
  generalize hW : (World.alloc _ _ : World) = W0
  have K0 : KR 2 [(w.heap.size, os a0 a1 a2 a3 a4 a5), (w.heap.size + 1, os b0 b1 b2 b3 b4 b5)] w W0 := by
    rw [← hW]
    exact two_boxes w _ _ (by (repeat (first | exact Below.refl _ _ | assumption | refine Below.setCell ?_ (by first | (simp; done) | (simp; omega)) _ | refine Below.alloc ?_ (by first | (simp; done) | (simp; omega)) _ | refine Below.drew ?_))) (alloc_past (alloc_at rfl)) (alloc_at (by simp)) (by simp)
  clear hW
  have a_c := fun j => cell_of_row W0 _ j _ _ _ (K0.row (g := w.heap.size) (o := os a0 a1 a2 a3 a4 a5) (by simp))
  go_wp2_with fail
  refine (H0.out _).mono ?_
  rintro e W1 ⟨rfl, hb⟩
  have K1 := K0.far hb rfl
  clear hb K0 a_c
  have a_c := fun j => cell_of_row W1 _ j _ _ _ (K1.row (g := w.heap.size + 1) (o := os b0 b1 b2 b3 b4 b5) (by simp))
  go_wp2_with fail
  refine (H1.out _).mono ?_
  rintro e W2 ⟨rfl, hb⟩
  have K2 := K1.far hb rfl
  clear hb K1 a_c
  go_wp2_with fail
  go_ret2
  exact ⟨rfl, K2.2.2⟩
set_option maxHeartbeats 1000000 in
theorem icov_no0 (a0 a1 a2 a3 a4 a5 : Int) (b0 b1 b2 b3 b4 b5 : Int) (V : Value) (H0 : Hid (∀ w, Calls Try.prog 147 #[.agg #[.int .i64 a0, .int .i64 a1, .int .i64 a2, .int .i64 a3, .int .i64 a4, .int .i64 a5]] w fun e w' => e = .returned (.bool false) ∧ Below w.heap.size w w')) (w : World) : Calls Try.prog 42 #[.agg #[.int .i64 a0, .int .i64 a1, .int .i64 a2, .int .i64 a3, .int .i64 a4, .int .i64 a5], .agg #[.int .i64 b0, .int .i64 b1, .int .i64 b2, .int .i64 b3, .int .i64 b4, .int .i64 b5], V] w fun e w' => e = .returned (.tuple #[.bool false, .bool false]) ∧ Below w.heap.size w w' := by
  go_enter Try.func42, Try.ntmps42
  go_wp2_with fail
  generalize hW : (World.alloc _ _ : World) = W0
  have K0 : KR 2 [(w.heap.size, os a0 a1 a2 a3 a4 a5), (w.heap.size + 1, os b0 b1 b2 b3 b4 b5)] w W0 := by
    rw [← hW]
    exact two_boxes w _ _ (by (repeat (first | exact Below.refl _ _ | assumption | refine Below.setCell ?_ (by first | (simp; done) | (simp; omega)) _ | refine Below.alloc ?_ (by first | (simp; done) | (simp; omega)) _ | refine Below.drew ?_))) (alloc_past (alloc_at rfl)) (alloc_at (by simp)) (by simp)
  clear hW
  have a_c := fun j => cell_of_row W0 _ j _ _ _ (K0.row (g := w.heap.size) (o := os a0 a1 a2 a3 a4 a5) (by simp))
  go_wp2_with fail
  refine (H0.out _).mono ?_
  rintro e W1 ⟨rfl, hb⟩
  have K1 := K0.far hb rfl
  clear hb K0 a_c
  go_wp2_with fail
  go_ret2
  exact ⟨rfl, K1.2.2⟩
set_option maxHeartbeats 1000000 in
theorem icov_no1 (a0 a1 a2 a3 a4 a5 : Int) (b0 b1 b2 b3 b4 b5 : Int) (V : Value) (H0 : Hid (∀ w, Calls Try.prog 147 #[.agg #[.int .i64 a0, .int .i64 a1, .int .i64 a2, .int .i64 a3, .int .i64 a4, .int .i64 a5]] w fun e w' => e = .returned (.bool true) ∧ Below w.heap.size w w')) (H1 : Hid (∀ w, Calls Try.prog 147 #[.agg #[.int .i64 b0, .int .i64 b1, .int .i64 b2, .int .i64 b3, .int .i64 b4, .int .i64 b5]] w fun e w' => e = .returned (.bool false) ∧ Below w.heap.size w w')) (w : World) : Calls Try.prog 42 #[.agg #[.int .i64 a0, .int .i64 a1, .int .i64 a2, .int .i64 a3, .int .i64 a4, .int .i64 a5], .agg #[.int .i64 b0, .int .i64 b1, .int .i64 b2, .int .i64 b3, .int .i64 b4, .int .i64 b5], V] w fun e w' => e = .returned (.tuple #[.bool false, .bool false]) ∧ Below w.heap.size w w' := by
  go_enter Try.func42, Try.ntmps42
  go_wp2_with fail
  generalize hW : (World.alloc _ _ : World) = W0
  have K0 : KR 2 [(w.heap.size, os a0 a1 a2 a3 a4 a5), (w.heap.size + 1, os b0 b1 b2 b3 b4 b5)] w W0 := by
    rw [← hW]
    exact two_boxes w _ _ (by (repeat (first | exact Below.refl _ _ | assumption | refine Below.setCell ?_ (by first | (simp; done) | (simp; omega)) _ | refine Below.alloc ?_ (by first | (simp; done) | (simp; omega)) _ | refine Below.drew ?_))) (alloc_past (alloc_at rfl)) (alloc_at (by simp)) (by simp)
  clear hW
  have a_c := fun j => cell_of_row W0 _ j _ _ _ (K0.row (g := w.heap.size) (o := os a0 a1 a2 a3 a4 a5) (by simp))
  go_wp2_with fail
  refine (H0.out _).mono ?_
  rintro e W1 ⟨rfl, hb⟩
  have K1 := K0.far hb rfl
  clear hb K0 a_c
  have a_c := fun j => cell_of_row W1 _ j _ _ _ (K1.row (g := w.heap.size + 1) (o := os b0 b1 b2 b3 b4 b5) (by simp))
  go_wp2_with fail
  refine (H1.out _).mono ?_
  rintro e W2 ⟨rfl, hb⟩
  have K2 := K1.far hb rfl
  clear hb K1 a_c
  go_wp2_with fail
  go_ret2
  exact ⟨rfl, K2.2.2⟩
set_option maxHeartbeats 1000000 in
theorem icov_big (p s : Fn6) (a : Option Addr) (n cap : Nat) (hn : n ≤ 1048576) (h5 : 5 < n) (w : World) : Calls Try.prog 42 #[.agg #[.int .i64 (rowv (p 0)), .int .i64 (rowv (p 1)), .int .i64 (rowv (p 2)), .int .i64 (rowv (p 3)), .int .i64 (rowv (p 4)), .int .i64 (rowv (p 5))], .agg #[.int .i64 (rowv (s 0)), .int .i64 (rowv (s 1)), .int .i64 (rowv (s 2)), .int .i64 (rowv (s 3)), .int .i64 (rowv (s 4)), .int .i64 (rowv (s 5))], .slice a n cap] w fun e w' => e = .returned (.tuple #[.bool false, .bool true]) ∧ Below w.heap.size w w' := by
  have HV := Lib.hid (irow p)
  have HV2 := Lib.hid (irow s)
  have h5' : (n : Int) > 5 := by omega
  have h5'' : (5 : Int) < n := by omega
  go_enter Try.func42, Try.ntmps42
  go_wp2_with fail
  generalize hW : (World.alloc _ _ : World) = W0
  have K0 : KR 2 [(w.heap.size, o6 p), (w.heap.size + 1, o6 s)] w W0 := by
    rw [← hW]
    exact two_boxes w _ _ (by (repeat (first | exact Below.refl _ _ | assumption | refine Below.setCell ?_ (by first | (simp; done) | (simp; omega)) _ | refine Below.alloc ?_ (by first | (simp; done) | (simp; omega)) _ | refine Below.drew ?_))) (alloc_past (alloc_at rfl)) (alloc_at (by simp)) (by simp)
  clear hW
  have a_c := fun j => cell_of_row W0 _ j _ _ _ (K0.row (g := w.heap.size) (o := o6 p) (by simp))
  go_wp2_with fail
  refine (HV.out _).mono ?_
  rintro e W1 ⟨rfl, hb⟩
  have K1 := K0.far hb rfl
  clear hb K0 a_c HV
  have a_c := fun j => cell_of_row W1 _ j _ _ _ (K1.row (g := w.heap.size + 1) (o := o6 s) (by simp))
  go_wp2_with fail
  refine (HV2.out _).mono ?_
  rintro e W2 ⟨rfl, hb⟩
  have K2 := K1.far hb rfl
  clear hb K1 a_c HV2
  go_wp2_with fail
  go_ret2
  exact ⟨rfl, K2.2.2⟩
theorem keepz {z : List (Int × Int)} {w W : World} {g cap : Nat} (hO : w.ownsRow 0 53 2 (.slice (some ⟨g, 0, none⟩) z.length cap) z.length (cw z)) (hb : Below w.heap.size w W) : W.ownsRow 0 53 2 (.slice (some ⟨g, 0, none⟩) z.length cap) z.length (cw z) := hO.kept (grown_below hb rfl) (.inr (by simp [Value.ownBlock]))
theorem iink_yes (p : Fn6) (z : List (Int × Int)) (hz : z.length ≤ 1048576) (hwf : ∀ c ∈ z, (Lit.int .i64 c.1).wf = true ∧ (Lit.int .i64 c.2).wf = true) (h : ∀ i (h : i < z.length), okc (z[i]).1 (z[i]).2 = true) (w : World) (g cap : Nat) (hO : w.ownsRow 0 53 2 (.slice (some ⟨g, 0, none⟩) z.length cap) z.length (cw z)) : Calls Try.prog 31 #[.agg #[.int .i64 (rowv (p 0)), .int .i64 (rowv (p 1)), .int .i64 (rowv (p 2)), .int .i64 (rowv (p 3)), .int .i64 (rowv (p 4)), .int .i64 (rowv (p 5))], .slice (some ⟨g, 0, none⟩) z.length cap] w fun e w' => e = .returned (.tuple #[.agg #[.int .i64 (rowv (spo p (nz z) zf 0)), .int .i64 (rowv (spo p (nz z) zf 1)), .int .i64 (rowv (spo p (nz z) zf 2)), .int .i64 (rowv (spo p (nz z) zf 3)), .int .i64 (rowv (spo p (nz z) zf 4)), .int .i64 (rowv (spo p (nz z) zf 5))], .bool true]) ∧ Below w.heap.size w w' := by
  have ha := ink_ag p z (nz_cv z h).2
  have H := iia_any (rowv (p 0)) (rowv (p 1)) (rowv (p 2)) (rowv (p 3)) (rowv (p 4)) (rowv (p 5)) (.slice (some ⟨g, 0, none⟩) z.length cap) (rowv (fz z z.length 0)) (rowv (fz z z.length 1)) (rowv (fz z z.length 2)) (rowv (fz z z.length 3)) (rowv (fz z z.length 4)) (rowv (fz z z.length 5)) (rowv (spd (fz z z.length) p 0)) (rowv (spd (fz z z.length) p 1)) (rowv (spd (fz z z.length) p 2)) (rowv (spd (fz z z.length) p 3)) (rowv (spd (fz z z.length) p 4)) (rowv (spd (fz z z.length) p 5)) true w (Lib.hid fun W hW => isf_yes z hz hwf h g cap W (keepz hO hW)) (Lib.hid (ispread_c (fz z z.length) p))
  rw [ag_row ha (show 0 < 6 by decide), ag_row ha (show 1 < 6 by decide), ag_row ha (show 2 < 6 by decide), ag_row ha (show 3 < 6 by decide), ag_row ha (show 4 < 6 by decide), ag_row ha (show 5 < 6 by decide)] at H
  exact H
theorem iink_no (p : Fn6) (z : List (Int × Int)) (hz : z.length ≤ 1048576) (hwf : ∀ c ∈ z, (Lit.int .i64 c.1).wf = true ∧ (Lit.int .i64 c.2).wf = true) (N : Nat) (hN : N < z.length) (h : ∀ i (h : i < N), okc (z[i]'(by omega)).1 (z[i]'(by omega)).2 = true) (hb : okc (z[N]).1 (z[N]).2 = false) (w : World) (g cap : Nat) (hO : w.ownsRow 0 53 2 (.slice (some ⟨g, 0, none⟩) z.length cap) z.length (cw z)) : Calls Try.prog 31 #[.agg #[.int .i64 (rowv (p 0)), .int .i64 (rowv (p 1)), .int .i64 (rowv (p 2)), .int .i64 (rowv (p 3)), .int .i64 (rowv (p 4)), .int .i64 (rowv (p 5))], .slice (some ⟨g, 0, none⟩) z.length cap] w fun e w' => e = .returned (.tuple #[.agg #[.int .i64 0, .int .i64 0, .int .i64 0, .int .i64 0, .int .i64 0, .int .i64 0], .bool false]) ∧ Below w.heap.size w w' :=
  iia_no (rowv (p 0)) (rowv (p 1)) (rowv (p 2)) (rowv (p 3)) (rowv (p 4)) (rowv (p 5)) _ 0 0 0 0 0 0 w (Lib.hid fun W hW => isf_no z hz hwf N hN h hb g cap W (keepz hO hW))
theorem iscover_pair (a0 a1 a2 a3 a4 a5 : Int) (b0 b1 b2 b3 b4 b5 : Int) (z : List (Int × Int)) (hz : z.length ≤ 1048576) (hwf : ∀ c ∈ z, (Lit.int .i64 c.1).wf = true ∧ (Lit.int .i64 c.2).wf = true) : ∃ (r t : Bool), (∀ (w : World) (g cap : Nat), w.ownsRow 0 53 2 (.slice (some ⟨g, 0, none⟩) z.length cap) z.length (cw z) → Calls Try.prog 41 #[.agg #[.int .i64 a0, .int .i64 a1, .int .i64 a2, .int .i64 a3, .int .i64 a4, .int .i64 a5], .agg #[.int .i64 b0, .int .i64 b1, .int .i64 b2, .int .i64 b3, .int .i64 b4, .int .i64 b5], .slice (some ⟨g, 0, none⟩) z.length cap] w fun e w' => e = .returned (.tuple #[.bool r, .bool t]) ∧ Below w.heap.size w w') ∧ (∀ (w : World) (g cap : Nat), w.ownsRow 0 53 2 (.slice (some ⟨g, 0, none⟩) z.length cap) z.length (cw z) → Calls Try.prog 42 #[.agg #[.int .i64 a0, .int .i64 a1, .int .i64 a2, .int .i64 a3, .int .i64 a4, .int .i64 a5], .agg #[.int .i64 b0, .int .i64 b1, .int .i64 b2, .int .i64 b3, .int .i64 b4, .int .i64 b5], .slice (some ⟨g, 0, none⟩) z.length cap] w fun e w' => e = .returned (.tuple #[.bool r, .bool t]) ∧ Below w.heap.size w w') := by
  cases hv : (ok a0 && ok a1 && ok a2 && ok a3 && ok a4 && ok a5)
  · exact ⟨false, false, fun w g cap _ => scov_no0 a0 a1 a2 a3 a4 a5 b0 b1 b2 b3 b4 b5 _ (sh_as a0 a1 a2 a3 a4 a5 hv) w, fun w g cap _ => icov_no0 a0 a1 a2 a3 a4 a5 b0 b1 b2 b3 b4 b5 _ (sh_ai a0 a1 a2 a3 a4 a5 hv) w⟩
  · cases hc : (ok b0 && ok b1 && ok b2 && ok b3 && ok b4 && ok b5)
    · exact ⟨false, false, fun w g cap _ => scov_no1 a0 a1 a2 a3 a4 a5 b0 b1 b2 b3 b4 b5 _ (sh_as a0 a1 a2 a3 a4 a5 hv) (sh_as b0 b1 b2 b3 b4 b5 hc) w, fun w g cap _ => icov_no1 a0 a1 a2 a3 a4 a5 b0 b1 b2 b3 b4 b5 _ (sh_ai a0 a1 a2 a3 a4 a5 hv) (sh_ai b0 b1 b2 b3 b4 b5 hc) w⟩
    · obtain ⟨p, rfl, rfl, rfl, rfl, rfl, rfl⟩ := sheet_bits a0 a1 a2 a3 a4 a5 hv
      obtain ⟨s, rfl, rfl, rfl, rfl, rfl, rfl⟩ := sheet_bits b0 b1 b2 b3 b4 b5 hc
      rcases first_false (ascP z) z.length with h | ⟨N, hN, h1, h2⟩
      · obtain ⟨hk, hq⟩ := asc_both z h
        by_cases h5 : z.length ≤ 5
        · refine ⟨eqf (spo p (nz z) zf) s, true, fun w g cap hO => scov_any p s z hz z.length (Nat.le_refl _) h (fun h => absurd h (Nat.lt_irrefl _)) _ ?_ g cap w hO, fun w g cap hO => icov_any p s z h5 (z.length - 1) (Nat.le_refl _) (fun i hi => hq i (by omega)) (fun h => absurd h (Nat.lt_irrefl _)) (rowv (spo p (nz z) zf 0)) (rowv (spo p (nz z) zf 1)) (rowv (spo p (nz z) zf 2)) (rowv (spo p (nz z) zf 3)) (rowv (spo p (nz z) zf 4)) (rowv (spo p (nz z) zf 5)) true (Lib.hid (iink_yes p z hz hwf hk)) _ ?_ g cap w hO⟩
          · rw [decide_eq_true rfl, decide_eq_true h5]; rfl
          · rw [decide_eq_true rfl]; rfl
        · refine ⟨false, true, fun w g cap hO => scov_any p s z hz z.length (Nat.le_refl _) h (fun h => absurd h (Nat.lt_irrefl _)) _ ?_ g cap w hO, fun w g cap hO => icov_big p s _ z.length cap hz (by omega) w⟩
          rw [decide_eq_false h5, Bool.false_and, Bool.and_false]
      · have hd : false = (decide (N = z.length) && (decide (z.length ≤ 5) && eqf (spo p (nz z) zf) s)) := by rw [decide_eq_false (by omega), Bool.false_and]
        by_cases h5 : z.length ≤ 5
        · rcases asc_not z hN h1 h2 with ⟨M, hM, hq, hb⟩ | ⟨hq, M, hM, hk, hb⟩
          · refine ⟨false, true, fun w g cap hO => scov_any p s z hz N (by omega) h1 (fun _ => h2) _ hd g cap w hO, fun w g cap hO => ?_⟩
            rcases first_bad z with hk | ⟨K, hK, hk, hkb⟩
            · exact icov_any p s z h5 M (by omega) hq (fun _ => hb) (rowv (spo p (nz z) zf 0)) (rowv (spo p (nz z) zf 1)) (rowv (spo p (nz z) zf 2)) (rowv (spo p (nz z) zf 3)) (rowv (spo p (nz z) zf 4)) (rowv (spo p (nz z) zf 5)) true (Lib.hid (iink_yes p z hz hwf hk)) _ (by rw [decide_eq_false (by omega), Bool.false_and]) g cap w hO
            · exact icov_any p s z h5 M (by omega) hq (fun _ => hb) 0 0 0 0 0 0 false (Lib.hid (iink_no p z hz hwf K hK hk hkb)) _ (by rw [decide_eq_false (by omega), Bool.false_and]) g cap w hO
          · exact ⟨false, true, fun w g cap hO => scov_any p s z hz N (by omega) h1 (fun _ => h2) _ hd g cap w hO, fun w g cap hO => icov_any p s z h5 (z.length - 1) (Nat.le_refl _) (fun i hi => hq i (by omega)) (fun h => absurd h (Nat.lt_irrefl _)) 0 0 0 0 0 0 false (Lib.hid (iink_no p z hz hwf M hM hk hb)) _ (by rw [Bool.false_and, Bool.and_false]) g cap w hO⟩
        · exact ⟨false, true, fun w g cap hO => scov_any p s z hz N (by omega) h1 (fun _ => h2) _ hd g cap w hO, fun w g cap hO => icov_big p s _ z.length cap hz (by omega) w⟩
/- Ob6 -/
/-- A row of pairs that the call owns, in block g. -/
def Ow (g c : Nat) (n : Nat) (xs : List Value) (W : World) : Prop := W.ownsRow 0 53 2 (.slice (some ⟨g, 0, none⟩) n c) n xs
theorem Ow.below {g c n : Nat} {xs : List Value} {W W' : World} {N : Nat} (h : Ow g c n xs W) (hb : Below N W W') (hN : N = W.heap.size) : Ow g c n xs W' := h.kept (grown_below hb hN) (.inr (by simp [Value.ownBlock]))
theorem Ow.grown {g c n g2 : Nat} {xs : List Value} {W W' : World} (h : Ow g c n xs W) (hg : W.grownBy W' (some g2)) (hne : g ≠ g2) : Ow g c n xs W' := h.kept hg (.inr (by simp [Value.ownBlock, hne]))
abbrev OwT : Type := Nat × Nat × Nat × List Value
def Ob (n : Nat) (R : List (Nat × Obj)) (w : World) (ows : List OwT) (U : World) : Prop :=
  KR n R w U ∧ (∀ o ∈ ows, w.heap.size + n ≤ o.1 ∧ Ow o.1 o.2.1 o.2.2.1 o.2.2.2 U) ∧ ows.Pairwise (fun a b => a.1 ≠ b.1)
theorem Ob.below {n : Nat} {R : List (Nat × Obj)} {w U U' : World} {ows : List OwT} {M : Nat} (h : Ob n R w ows U) (hb : Below M U U') (hM : M = U.heap.size) : Ob n R w ows U' := ⟨h.1.far hb hM, fun o ho => ⟨(h.2.1 o ho).1, (h.2.1 o ho).2.below hb hM⟩, h.2.2⟩
theorem Ob.drew {n : Nat} {R : List (Nat × Obj)} {w U : World} {ows : List OwT} (h : Ob n R w ows U) : Ob n R w ows U.drew := h.below (M := U.heap.size) (Below.refl _ _).drew rfl
theorem Ob.al {n : Nat} {R : List (Nat × Obj)} {w U : World} {ows : List OwT} (h : Ob n R w ows U) (o : Obj) : Ob n R w ows (U.alloc o) := h.below (M := U.heap.size) ((Below.refl _ _).alloc (Nat.le_refl _) o) rfl
theorem Ob.call {n : Nat} {R : List (Nat × Obj)} {w U U' : World} {ows : List OwT} {g c m M : Nat} {xs : List Value} (h : Ob n R w ows U) (ho : U'.ownsRow M 53 2 (.slice (some ⟨g, 0, none⟩) m c) m xs) (hb : Below M U U') (hM : M = U.heap.size) : Ob n R w ((g, c, m, xs) :: ows) U' := by
  have hg := (ho.lt g rfl).1
  refine ⟨h.1.far hb hM, ?_, ?_⟩
  · intro o hm
    rcases List.mem_cons.mp hm with rfl | hm
    · exact ⟨by have := h.1.2.1; dsimp only; omega, own_mono ho (Nat.zero_le _)⟩
    · exact ⟨(h.2.1 o hm).1, (h.2.1 o hm).2.below hb hM⟩
  · refine List.pairwise_cons.mpr ⟨fun o hm => ?_, h.2.2⟩
    have := ((h.2.1 o hm).2.lt o.1 rfl).2
    dsimp only
    omega
theorem Ob.mark {n : Nat} {R : List (Nat × Obj)} {w U U' : World} {ows : List OwT} {g c m : Nat} {xs ys : List Value} (h : Ob n R w ((g, c, m, xs) :: ows) U) (ho : Ow g c m ys U') (hg : U.grownBy U' (some g)) : Ob n R w ((g, c, m, ys) :: ows) U' := by
  have hgl := (h.2.1 _ (List.mem_cons_self ..)).1
  have hp := List.pairwise_cons.mp h.2.2
  refine ⟨h.1.grown hg (fun k hk => by cases hk; exact hgl), ?_, List.pairwise_cons.mpr ⟨hp.1, hp.2⟩⟩
  intro o hm
  rcases List.mem_cons.mp hm with rfl | hm
  · exact ⟨hgl, ho⟩
  · exact ⟨(h.2.1 o (List.mem_cons_of_mem _ hm)).1, (h.2.1 o (List.mem_cons_of_mem _ hm)).2.grown hg (fun e => hp.1 o hm e.symm)⟩
theorem Ob.get {n : Nat} {R : List (Nat × Obj)} {w U : World} {ows : List OwT} (h : Ob n R w ows U) {o : OwT} (hm : o ∈ ows) : Ow o.1 o.2.1 o.2.2.1 o.2.2.2 U := (h.2.1 o hm).2
theorem Ob.hd {n : Nat} {R : List (Nat × Obj)} {w U : World} {ows : List OwT} {g c m : Nat} {xs : List Value} (h : Ob n R w ((g, c, m, xs) :: ows) U) : Ow g c m xs U := (h.2.1 _ (List.mem_cons_self ..)).2
theorem Ob.hd2 {n : Nat} {R : List (Nat × Obj)} {w U : World} {ows : List OwT} {o : OwT} {g c m : Nat} {xs : List Value} (h : Ob n R w (o :: (g, c, m, xs) :: ows) U) : Ow g c m xs U := (h.2.1 _ (List.mem_cons_of_mem _ (List.mem_cons_self ..))).2
theorem Ob.hd3 {n : Nat} {R : List (Nat × Obj)} {w U : World} {ows : List OwT} {o o2 : OwT} {g c m : Nat} {xs : List Value} (h : Ob n R w (o :: o2 :: (g, c, m, xs) :: ows) U) : Ow g c m xs U := (h.2.1 _ (List.mem_cons_of_mem _ (List.mem_cons_of_mem _ (List.mem_cons_self ..)))).2
theorem Ob.below0 {n : Nat} {R : List (Nat × Obj)} {w U : World} {ows : List OwT} (h : Ob n R w ows U) : Below w.heap.size w U := h.1.2.2
/-- The law's boxes of a sheet. -/
def ol (a0 a1 a2 a3 a4 a5 : Int) : Obj := .cells #[.int .i64 a0, .int .i64 a1, .int .i64 a2, .int .i64 a3, .int .i64 a4, .int .i64 a5] 24 (0, 0)
theorem SKb {w U : World} (a0 a1 a2 a3 a4 a5 : Int) (b0 b1 b2 b3 b4 b5 : Int) {ows : List OwT} (h : Ob 2 [(w.heap.size, ol a0 a1 a2 a3 a4 a5), (w.heap.size + 1, ol b0 b1 b2 b3 b4 b5)] w ows U) : U.cell? ⟨w.heap.size, 0, none⟩ = some (.int .i64 a0) ∧ U.cell? ⟨w.heap.size, 1, none⟩ = some (.int .i64 a1) ∧ U.cell? ⟨w.heap.size, 2, none⟩ = some (.int .i64 a2) ∧ U.cell? ⟨w.heap.size, 3, none⟩ = some (.int .i64 a3) ∧ U.cell? ⟨w.heap.size, 4, none⟩ = some (.int .i64 a4) ∧ U.cell? ⟨w.heap.size, 5, none⟩ = some (.int .i64 a5) ∧ U.cell? ⟨w.heap.size + 1, 0, none⟩ = some (.int .i64 b0) ∧ U.cell? ⟨w.heap.size + 1, 1, none⟩ = some (.int .i64 b1) ∧ U.cell? ⟨w.heap.size + 1, 2, none⟩ = some (.int .i64 b2) ∧ U.cell? ⟨w.heap.size + 1, 3, none⟩ = some (.int .i64 b3) ∧ U.cell? ⟨w.heap.size + 1, 4, none⟩ = some (.int .i64 b4) ∧ U.cell? ⟨w.heap.size + 1, 5, none⟩ = some (.int .i64 b5) ∧ Ob 2 [(w.heap.size, ol a0 a1 a2 a3 a4 a5), (w.heap.size + 1, ol b0 b1 b2 b3 b4 b5)] w ows U :=
  have h0 := fun j => cell_of_row U _ j _ _ _ (h.1.row (g := w.heap.size) (o := ol a0 a1 a2 a3 a4 a5) (List.mem_cons_self ..))
  have h1 := fun j => cell_of_row U _ j _ _ _ (h.1.row (g := w.heap.size + 1) (o := ol b0 b1 b2 b3 b4 b5) (List.mem_cons_of_mem _ (List.mem_cons_self ..)))
  ⟨h0 0, h0 1, h0 2, h0 3, h0 4, h0 5, h1 0, h1 1, h1 2, h1 3, h1 4, h1 5, h⟩
/- Co -/
theorem gtr {W W' W2 : World} {g : Nat} (h : W.grownBy W' (some g)) (h' : W'.grownBy W2 (some g)) : W.grownBy W2 (some g) := ⟨h'.os.trans h.os, h'.tape.trans h.tape, h'.output.trans h.output, Nat.le_trans h.size h'.size, fun k hk hne => (h'.block k (Nat.lt_of_lt_of_le hk h.size) hne).trans (h.block k hk hne)⟩
/-- A row of cells whose first i have been marked by 1, 2 and so on. -/
def mks (xs : List Value) (i : Nat) : List Value := (List.range i).map (fun j : Nat => Value.int .i64 ((j : Int) + 1)) ++ xs.drop i
theorem mks_zero (xs : List Value) : mks xs 0 = xs := by simp [mks]
theorem mks_set {xs : List Value} {i : Nat} (h : i < xs.length) : (mks xs i).set i (.int .i64 ((i : Int) + 1)) = mks xs (i + 1) := by
  unfold mks
  rw [List.set_append_right _ _ (by simp), List.length_map, List.length_range, Nat.sub_self, List.drop_eq_getElem_cons h, List.set_cons_zero, List.range_succ, List.map_append, List.append_assoc]
  rfl
theorem mks_at (xs : List Value) {i j : Nat} (h : j < i) : (mks xs i)[j]? = some (.int .i64 ((j : Int) + 1)) := by
  unfold mks
  rw [List.getElem?_append_left (by simpa using h)]
  simp [h]
theorem mks_len (xs : List Value) {i : Nat} (h : i ≤ xs.length) : (mks xs i).length = xs.length := by simp [mks]; omega
theorem own_store {W : World} {B g n cap i : Nat} {xs : List Value} (h : W.ownsRow B 53 2 (.slice (some ⟨g, 0, none⟩) n cap) n (mks xs i)) (hx : xs.length = n * 2) (hi : i < n * 2) : (∃ u, W.cell? ⟨g, i, none⟩ = some u) ∧ W.frozen? ⟨g, i, none⟩ = false ∧ (W.setCell ⟨g, i, none⟩ (.int .i64 ((i : Int) + 1))).ownsRow B 53 2 (.slice (some ⟨g, 0, none⟩) n cap) n (mks xs (i + 1)) ∧ W.grownBy (W.setCell ⟨g, i, none⟩ (.int .i64 ((i : Int) + 1))) (some g) := by
  have hs := h.stored i (.int .i64 ((i : Int) + 1))
  rw [mks_set (by omega)] at hs
  refine ⟨⟨(mks xs i)[i]'(by rw [mks_len xs (by omega)]; omega), ?_⟩, h.frozenAt i, hs.1, hs.2⟩
  rw [h.cellAt i hi]
  exact List.getElem?_eq_getElem _
set_option maxHeartbeats 4000000 in
theorem mark_cells (g cap B n : Nat) (xs : List Value) (hn : n ≤ 100) (w : World) (hown : w.ownsRow B 53 2 (.slice (some ⟨g, 0, none⟩) n cap) n xs) : Calls Try.prog 24 #[.slice (some ⟨g, 0, none⟩) n cap, .int .i64 1] w fun e w' => e = .returned (.int .i64 ((n : Int) * 2 + 1)) ∧ w'.ownsRow B 53 2 (.slice (some ⟨g, 0, none⟩) n cap) n (mks xs (n * 2)) ∧ w.grownBy w' (some g) := by
  have HO := Lib.hid hown
  have hx : xs.length = n * 2 := hown.1
  clear hown
  go_enter Try.func24, Try.ntmps24
  go_wp2_with fail
  go_loopw [1, 5] (fun a b wr => ∃ i : Nat, i ≤ n ∧ a = .int .i64 ((i : Int) * 2 + 1) ∧ b = .int .i64 i ∧ Hid (wr.ownsRow B 53 2 (.slice (some ⟨g, 0, none⟩) n cap) n (mks xs (i * 2)) ∧ w.grownBy wr (some g))) (fun _ b _ => n - (intOf b).toNat)
  case atStart => exact ⟨0, Nat.zero_le _, rfl, rfl, Lib.hid ⟨by rw [Nat.zero_mul, mks_zero]; exact HO.out, ⟨rfl, rfl, rfl, Nat.le_refl _, fun _ _ _ => rfl⟩⟩⟩
  case round =>
    obtain ⟨i, hi, rfl, rfl, HS⟩ := hrel
    by_cases hlt : i < n
    · have hlt' : (i : Int) < n := by omega
      have hi0 : (0 : Int) ≤ i := by omega
      obtain ⟨⟨u, hu⟩, hf, hs⟩ := own_store HS.out.1 hx (show i * 2 < n * 2 by omega)
      have H1 := Lib.hid (show _ ∧ w.grownBy _ (some g) from ⟨hs.1, gtr HS.out.2 hs.2⟩)
      obtain ⟨⟨u2, hu2⟩, hf2, hs2⟩ := own_store H1.out.1 hx (show i * 2 + 1 < n * 2 by omega)
      have H2 := Lib.hid (show _ ∧ w.grownBy _ (some g) from ⟨hs2.1, gtr H1.out.2 hs2.2⟩)
      clear hs hs2 HO H1 HS
      rw [show ((i * 2 + 1 : Nat) : Int) + 1 = ((i : Int) * 2 + 1) + 1 by omega, show ((i * 2 : Nat) : Int) + 1 = (i : Int) * 2 + 1 by omega] at H2
      rw [show ((i * 2 : Nat) : Int) + 1 = (i : Int) * 2 + 1 by omega] at hu2 hf2
      obtain ⟨M, hM⟩ : ∃ M : Int, M = (i : Int) * 2 + 1 := ⟨_, rfl⟩
      have hM1 : 1 ≤ M := by omega
      have hM2 : M ≤ 201 := by omega
      have HM := Lib.hid hM
      rw [← hM] at H2 hu2 hf2 ⊢
      clear hM
      have e1 : wrap64 (M + 1) = M + 1 := by unfold wrap64; omega
      have e2 : wrap64 (M + 1 + 1) = M + 1 + 1 := by unfold wrap64; omega
      go_wp2_with fail
      refine wp_loop_rounds 3 ?_
      rw [rounds_succ]
      go_wp2_with fail
      generalize hW1 : (World.setCell _ _ _ : World) = W1 at hu2 hf2 H2 ⊢
      try rw [rounds_succ]
      go_wp2_with fail
      generalize hW2 : (World.setCell _ _ _ : World) = W2 at H2 ⊢
      clear hW1 hW2 hu hf hu2 hf2
      try rw [rounds_succ]
      go_wp2_with fail
      go_roundw
      case rel => exact ⟨i + 1, by omega, by have := HM.out; simp; omega, by go_num, by rw [show (i + 1) * 2 = i * 2 + 1 + 1 by omega]; exact H2⟩
      case measure => simp [intOf]; omega
    · obtain rfl : i = n := by omega
      go_wp2_with fail
      go_ret
      exact ⟨rfl, HS.out.1, HS.out.2⟩
theorem held_cells (g cap B n : Nat) (xs : List Value) (hn : n ≤ 100) (w : World) (hx : xs.length = n * 2) (hown : w.ownsRow B 53 2 (.slice (some ⟨g, 0, none⟩) n cap) n (mks xs (n * 2))) : Calls Try.prog 25 #[.slice (some ⟨g, 0, none⟩) n cap, .int .i64 1] w fun e w' => e = .returned (.int .i64 ((n : Int) * 2 + 1)) ∧ w' = w := by
  have HO := Lib.hid hown
  clear hown
  go_enter Try.func25, Try.ntmps25
  go_wp2_with fail
  go_loopw [1, 5] (fun a b wr => ∃ i : Nat, i ≤ n ∧ a = .int .i64 ((i : Int) * 2 + 1) ∧ b = .int .i64 i ∧ wr = w) (fun _ b _ => n - (intOf b).toNat)
  case atStart => exact ⟨0, Nat.zero_le _, rfl, rfl, rfl⟩
  case round =>
    obtain ⟨i, hi, rfl, rfl, rfl⟩ := hrel
    by_cases hlt : i < n
    · have hlt' : (i : Int) < n := by omega
      have hi0 : (0 : Int) ≤ i := by omega
      have c0 := own_at HO.out (mks_at xs (show i * 2 < n * 2 by omega))
      have c1 := own_at HO.out (mks_at xs (show i * 2 + 1 < n * 2 by omega))
      rw [show ((i * 2 + 1 : Nat) : Int) + 1 = ((i : Int) * 2 + 1) + 1 by omega] at c1
      rw [show ((i * 2 : Nat) : Int) + 1 = (i : Int) * 2 + 1 by omega] at c0
      obtain ⟨M, hM⟩ : ∃ M : Int, M = (i : Int) * 2 + 1 := ⟨_, rfl⟩
      have hM1 : 1 ≤ M := by omega
      have hM2 : M ≤ 201 := by omega
      have HM := Lib.hid hM
      rw [← hM] at c0 c1 ⊢
      clear hM HO
      have e1 : wrap64 (M + 1) = M + 1 := by unfold wrap64; omega
      have e2 : wrap64 (M + 1 + 1) = M + 1 + 1 := by unfold wrap64; omega
      go_wp2_with fail
      refine wp_loop_rounds 3 ?_
      rw [rounds_succ]
      go_wp2_with fail
      try rw [rounds_succ]
      try go_wp2_with fail
      try rw [rounds_succ]
      try go_wp2_with fail
      go_roundw
      case rel => exact ⟨i + 1, by omega, by have := HM.out; simp; omega, by go_num, by first | rfl | trivial⟩
      case measure => simp [intOf]; omega
    · obtain rfl : i = n := by omega
      go_wp2_with fail
      go_ret
      exact ⟨rfl, rfl⟩
/- Zl -/
theorem cell_lt {w : World} {a : Addr} {v : Value} (h : w.cell? a = some v) : a.block < w.heap.size := by
  by_cases hl : a.block < w.heap.size
  · exact hl
  · have : w.heap[a.block]? = none := Array.getElem?_eq_none (by omega)
    simp [World.cell?, this] at h
section
variable {H : Type} {enc : TypeId × Value → H} {P : Program} {w : World} {base : Nat} {spare : Nat → Bool} {held : Bool}
theorem open_pairs {t e i : TypeId} {fuel : Nat} {a : Option Addr} {len cap : Nat} {x : DataW H × List MemPlace} (ht : P.underlying t = some (.slice e)) (he : P.underlying e = some (.array 2 i)) (hi : P.underlying i = some (.int .i64)) (hci : P.cellsOf i = 1) (hce : P.cellsOf e = 2)
    (h : DataW.trod enc P w base spare held fuel t [.slice a len cap] = some x) : ∃ z : List (Int × Int), z.length = len ∧ len ≤ maxLen ∧ IsPairs w a z ∧ ∀ c ∈ z, (Lit.int .i64 c.1).wf = true ∧ (Lit.int .i64 c.2).wf = true := by
  rcases Go.Deep.open_slice ht h with ⟨hcs, _⟩ | ⟨x', l, c, m, n, D, Pl, hcs, hb, hl, hm, hmm, _, hx⟩
  · simp only [List.cons.injEq, Value.slice.injEq, and_true] at hcs
    obtain ⟨rfl, rfl, rfl⟩ := hcs
    exact ⟨[], rfl, Nat.zero_le _, .inl ⟨rfl, rfl⟩, fun c hc => by simp at hc⟩
  · simp only [List.cons.injEq, Value.slice.injEq, and_true] at hcs
    obtain ⟨rfl, rfl, rfl⟩ := hcs
    have hlm : len ≤ m := by rw [hmm]; split <;> omega
    have each : ∀ j, j < len → ∃ q : Int × Int, w.cell? (x'.add (j * 2)) = some (.int .i64 q.1) ∧ w.cell? (x'.add (j * 2 + 1)) = some (.int .i64 q.2) ∧ (Lit.int .i64 q.1).wf = true ∧ (Lit.int .i64 q.2).wf = true := by
      intro j hj
      obtain ⟨cs', h1, h2⟩ := hx j (by omega)
      rw [hce] at h1
      obtain ⟨_, hlen, hcell⟩ := World.cells?_some h1
      obtain ⟨zs, hzl, hzc, hw⟩ := arr_cells (n := 2) he hi hci hlen h2
      obtain ⟨a1, b1, rfl⟩ := list2 hzl
      subst hzc
      have e0 := hcell 0 (by omega)
      have e1 := hcell 1 (by omega)
      rw [add_one3] at e1
      exact ⟨(a1, b1), by simpa [Addr.add] using e0, by simpa using e1, hw a1 (by simp), hw b1 (by simp)⟩
    obtain ⟨q, hq⟩ := Go.Deep.choose_lt each
    refine ⟨(List.range len).map q, by simp, by omega, .inr ⟨x', rfl, fun j hj => ?_⟩, fun c hc => ?_⟩
    · have hj' : j < len := by simpa using hj
      have hb : (x'.add (j * 2)).block = x'.block := by unfold Addr.add; split <;> rfl
      simp only [List.getElem_map, List.getElem_range]
      exact ⟨by rw [← hb]; exact cell_lt (hq j hj').1, (hq j hj').1, (hq j hj').2.1⟩
    · simp only [List.mem_map, List.mem_range] at hc
      obtain ⟨j, hj, rfl⟩ := hc
      exact ⟨(hq j hj).2.2.1, (hq j hj).2.2.2⟩
end
theorem size_pairs (a : Option Addr) (n cap : Nat) (hn : n ≤ maxLen) (w : World) : Calls Try.prog 28 #[.slice a n cap, .int .i64 1048576] w fun e w' => e = .returned (.int .i64 (if 1048576 < n then -1 else 1048576 - (n : Int))) ∧ w' = w := by
  have hm : n ≤ 9223372036854775807 := by unfold maxLen at hn; omega
  have c1 : IntKind.i64.wrap ((1048576 : Int) - (n : Int)) = 1048576 - (n : Int) := by rw [IntKind.wrap_i64]; omega
  by_cases h : 1048576 < n
  · have h1 : (1048576 : Int) - (n : Int) < 0 := by omega
    go_enter Try.func28, Try.ntmps28
    go_wp2_with fail
    go_ret
    exact ⟨by simp, rfl⟩
  · have h1 : ¬ ((1048576 : Int) - (n : Int) < 0) := by omega
    go_enter Try.func28, Try.ntmps28
    go_wp2_with fail
    go_ret
    exact ⟨by simp, rfl⟩
set_option maxHeartbeats 4000000 in
theorem eqpairs_same (l : List (Int × Int)) (hl : l.length ≤ 1048576) (B C g1 c1 g2 c2 : Nat) (w : World) (h1 : w.ownsRow B 53 2 (.slice (some ⟨g1, 0, none⟩) l.length c1) l.length (cw l)) (h2 : w.ownsRow C 53 2 (.slice (some ⟨g2, 0, none⟩) l.length c2) l.length (cw l)) : Calls Try.prog 23 #[.slice (some ⟨g1, 0, none⟩) l.length c1, .slice (some ⟨g2, 0, none⟩) l.length c2] w fun e w' => e = .returned (.bool true) ∧ Below w.heap.size w w' := by
  have H1 := Lib.hid h1
  have H2 := Lib.hid h2
  clear h1 h2
  go_enter Try.func23, Try.ntmps23
  go_wp2_with fail
  go_loopw [5] (fun i wr => ∃ k : Nat, k ≤ l.length ∧ i = .int .i64 k ∧ Hid (Below w.heap.size w wr)) (fun i _ => l.length - (intOf i).toNat)
  case atStart => exact ⟨0, by omega, rfl, Lib.hid (Below.refl _ _)⟩
  case round =>
    obtain ⟨k, hk, rfl, HB⟩ := hrel
    by_cases hlt : k < l.length
    · have hlt' : (k : Int) < l.length := by omega
      have hk0 : (0 : Int) ≤ k := by omega
      have hk2 : k ≤ 1048576 := by omega
      have O1 := H1.out.kept (grown_below HB.out rfl) (.inr (by simp [Value.ownBlock]))
      have O2 := H2.out.kept (grown_below HB.out rfl) (.inr (by simp [Value.ownBlock]))
      obtain ⟨p1, p2⟩ := cw_at l k hlt
      have a1 := own_at O1 p1
      have a2 := own_at O1 p2
      have b1 := own_at O2 p1
      have b2 := own_at O2 p2
      clear O1 O2 p1 p2
      generalize l[k].1 = X at a1 b1
      generalize l[k].2 = Y at a2 b2
      have HE := Lib.hid (eqa2_same X Y)
      have k0 : (fun U => U.cell? ⟨g1, k * 2, none⟩ = some (.int .i64 X) ∧ U.cell? ⟨g1, k * 2 + 1, none⟩ = some (.int .i64 Y) ∧ U.cell? ⟨g2, k * 2, none⟩ = some (.int .i64 X) ∧ U.cell? ⟨g2, k * 2 + 1, none⟩ = some (.int .i64 Y) ∧ Below w.heap.size w U) wr := ⟨a1, a2, b1, b2, HB.out⟩
      dsimp only at k0
      clear a1 a2 b1 b2
      go_wp2_with fail
      go_region_held3 (fun U => U.cell? ⟨g1, k * 2, none⟩ = some (.int .i64 X) ∧ U.cell? ⟨g1, k * 2 + 1, none⟩ = some (.int .i64 Y) ∧ U.cell? ⟨g2, k * 2, none⟩ = some (.int .i64 X) ∧ U.cell? ⟨g2, k * 2 + 1, none⟩ = some (.int .i64 Y) ∧ Below w.heap.size w U) (first | with_reducible exact drewc4 k0 | with_reducible assumption) (first | (go_at_call 126; with_reducible refine (HE.out _).mono ?_; rintro e w' ⟨rfl, hb'⟩; have hk := keepc4 (by with_reducible assumption) hb' rfl))
      all_goals
        have HB2 := Lib.hid hk.2.2.2.2
        clear hk k0 HB
        go_wp2_with fail
        go_roundw
        case rel => exact ⟨k + 1, by omega, by go_num, HB2⟩
        case measure => simp [intOf]; omega
    · obtain rfl : k = l.length := by omega
      go_wp2_with fail
      go_ret
      exact ⟨rfl, HB.out⟩
/-- The pairs in a row of their own. -/
def Oz (z : List (Int × Int)) (g : Nat) (W : World) : Prop := W.ownsRow 0 53 2 (.slice (some ⟨g, 0, none⟩) z.length z.length) z.length (cw z)
theorem Oz.below {z : List (Int × Int)} {g M : Nat} {W W' : World} (h : Oz z g W) (hb : Below M W W') (hM : M = W.heap.size) : Oz z g W' := h.kept (grown_below hb hM) (.inr (by simp [Value.ownBlock]))
theorem Oz.alloc {z : List (Int × Int)} {g : Nat} {W : World} (h : Oz z g W) (o : Obj) : Oz z g (W.alloc o) := h.below (M := W.heap.size) ((Below.refl _ _).alloc (Nat.le_refl _) o) rfl
/- Cr6 -/
theorem ZPost.out {z : List (Int × Int)} {w w' : World} {e : Ending} (h : ZPost z w e w') : ∃ g, e = .returned (.slice (some ⟨g, 0, none⟩) z.length z.length) ∧ w'.ownsRow w.heap.size 53 2 (.slice (some ⟨g, 0, none⟩) z.length z.length) z.length (cw z) ∧ Below w.heap.size w w' := h
set_option maxHeartbeats 4000000 in
theorem iscover_core (a0 a1 a2 a3 a4 a5 : Int) (b0 b1 b2 b3 b4 b5 : Int) (z : List (Int × Int)) (a : Option Addr) (cap : Nat) (hm : z.length ≤ maxLen) (r t : Bool) (HS : Hid (z.length ≤ 1048576 → ∀ (w : World) (g : Nat), Ow g z.length z.length (cw z) w → Calls Try.prog 41 #[.agg #[.int .i64 a0, .int .i64 a1, .int .i64 a2, .int .i64 a3, .int .i64 a4, .int .i64 a5], .agg #[.int .i64 b0, .int .i64 b1, .int .i64 b2, .int .i64 b3, .int .i64 b4, .int .i64 b5], .slice (some ⟨g, 0, none⟩) z.length z.length] w fun e w' => e = .returned (.tuple #[.bool r, .bool t]) ∧ Below w.heap.size w w')) (HI : Hid (z.length ≤ 1048576 → ∀ (w : World) (g : Nat), Ow g z.length z.length (cw z) w → Calls Try.prog 42 #[.agg #[.int .i64 a0, .int .i64 a1, .int .i64 a2, .int .i64 a3, .int .i64 a4, .int .i64 a5], .agg #[.int .i64 b0, .int .i64 b1, .int .i64 b2, .int .i64 b3, .int .i64 b4, .int .i64 b5], .slice (some ⟨g, 0, none⟩) z.length z.length] w fun e w' => e = .returned (.tuple #[.bool r, .bool t]) ∧ Below w.heap.size w w')) (w : World) (hP : IsPairs w a z) : Calls Try.prog 10 #[.agg #[.int .i64 a0, .int .i64 a1, .int .i64 a2, .int .i64 a3, .int .i64 a4, .int .i64 a5], .agg #[.int .i64 b0, .int .i64 b1, .int .i64 b2, .int .i64 b3, .int .i64 b4, .int .i64 b5], .slice a z.length cap] w fun e w' => e = .returned (.bool true) ∧ Below w.heap.size w w' := by
  have HZ := Lib.hid (size_pairs a z.length cap hm)
  have HP := Lib.hid hP
  clear hP
  by_cases hbig : 1048576 < z.length
  · simp only [hbig, if_true] at HZ
    clear HS HI
    go_enter Try.func10, Try.ntmps10
    go_wp2_with fail
    refine (HZ.out _).mono ?_
    rintro e w' ⟨rfl, hw⟩
    subst hw
    go_wp2_with fail
    go_ret
    exact ⟨rfl, by (repeat (first | exact Below.refl _ _ | assumption | refine Below.setCell ?_ (by first | (simp; done) | (simp; omega)) _ | refine Below.alloc ?_ (by first | (simp; done) | (simp; omega)) _ | refine Below.drew ?_))⟩
  · have hz : z.length ≤ 1048576 := by omega
    have hge : ¬ ((1048576 : Int) - (z.length : Int) < 0) := by omega
    simp only [hbig, if_false] at HZ
    have HT := Lib.hid (fun (W : World) (hW : Below w.heap.size w W) => topairs_any z hz a cap W (HP.out.below hW))
    have HS := Lib.hid (HS.out hz)
    have HI := Lib.hid (HI.out hz)
    have HQ := Lib.hid (eqpairs_same z hz 0 0)
    go_enter Try.func10, Try.ntmps10
    go_wp2_with fail
    generalize hW : (World.alloc _ _ : World) = W0
    have hk : Ob 2 [(w.heap.size, ol a0 a1 a2 a3 a4 a5), (w.heap.size + 1, ol b0 b1 b2 b3 b4 b5)] w [] W0 := by
      refine ⟨?_, by simp, List.Pairwise.nil⟩
      rw [← hW]
      exact two_boxes w _ _ (by (repeat (first | exact Below.refl _ _ | assumption | refine Below.setCell ?_ (by first | (simp; done) | (simp; omega)) _ | refine Below.alloc ?_ (by first | (simp; done) | (simp; omega)) _ | refine Below.drew ?_))) (alloc_past (alloc_at rfl)) (alloc_at (by simp)) (by simp)
    clear hW
    refine (HZ.out _).mono ?_
    rintro e w' ⟨rfl, hw⟩
    subst hw
    go_wp2_with fail
    set_option maxRecDepth 8000 in
    go_region_held3 (fun U => U.cell? ⟨w.heap.size, 0, none⟩ = some (.int .i64 a0) ∧ U.cell? ⟨w.heap.size, 1, none⟩ = some (.int .i64 a1) ∧ U.cell? ⟨w.heap.size, 2, none⟩ = some (.int .i64 a2) ∧ U.cell? ⟨w.heap.size, 3, none⟩ = some (.int .i64 a3) ∧ U.cell? ⟨w.heap.size, 4, none⟩ = some (.int .i64 a4) ∧ U.cell? ⟨w.heap.size, 5, none⟩ = some (.int .i64 a5) ∧ U.cell? ⟨w.heap.size + 1, 0, none⟩ = some (.int .i64 b0) ∧ U.cell? ⟨w.heap.size + 1, 1, none⟩ = some (.int .i64 b1) ∧ U.cell? ⟨w.heap.size + 1, 2, none⟩ = some (.int .i64 b2) ∧ U.cell? ⟨w.heap.size + 1, 3, none⟩ = some (.int .i64 b3) ∧ U.cell? ⟨w.heap.size + 1, 4, none⟩ = some (.int .i64 b4) ∧ U.cell? ⟨w.heap.size + 1, 5, none⟩ = some (.int .i64 b5) ∧ Ob 2 [(w.heap.size, ol a0 a1 a2 a3 a4 a5), (w.heap.size + 1, ol b0 b1 b2 b3 b4 b5)] w [] U) (with_reducible refine SKb a0 a1 a2 a3 a4 a5 b0 b1 b2 b3 b4 b5 ?_; (first | with_reducible assumption | (with_reducible refine Ob.drew ?_; with_reducible assumption))) (first | (go_at_call 21; with_reducible refine (to_sheet _ _ _ _ _ _ _).mono ?_; rintro e w' ⟨rfl, hb'⟩; have hk : Ob 2 [(w.heap.size, ol a0 a1 a2 a3 a4 a5), (w.heap.size + 1, ol b0 b1 b2 b3 b4 b5)] w [] w' := Ob.below (by (first | with_reducible assumption | (with_reducible refine Ob.drew ?_; with_reducible assumption))) hb' rfl) | (go_at_call 30; with_reducible refine (HT.out _ (Ob.below0 (by (first | with_reducible assumption | (with_reducible refine Ob.drew ?_; with_reducible assumption))))).mono ?_; rintro e w' hp; obtain ⟨g1, rfl, ho, hb'⟩ := ZPost.out hp; have hn1 : Ob 2 [(w.heap.size, ol a0 a1 a2 a3 a4 a5), (w.heap.size + 1, ol b0 b1 b2 b3 b4 b5)] w [(g1, z.length, z.length, cw z)] w' := Ob.call (by (first | with_reducible assumption | (with_reducible refine Ob.drew ?_; with_reducible assumption))) ho hb' rfl; have hk : Ob 2 [(w.heap.size, ol a0 a1 a2 a3 a4 a5), (w.heap.size + 1, ol b0 b1 b2 b3 b4 b5)] w [] w' := Ob.below (by (first | with_reducible assumption | (with_reducible refine Ob.drew ?_; with_reducible assumption))) hb' rfl) | (go_at_call 41; with_reducible refine (HS.out _ _ (Ob.hd hn1)).mono ?_; rintro e w' ⟨rfl, hb'⟩; have hk : Ob 2 [(w.heap.size, ol a0 a1 a2 a3 a4 a5), (w.heap.size + 1, ol b0 b1 b2 b3 b4 b5)] w [] w' := Ob.below (by (first | with_reducible assumption | (with_reducible refine Ob.drew ?_; with_reducible assumption))) hb' rfl))
    have HK := Lib.hid hk
    rename_i hHeld
    clear hHeld hk hn1 ho
    go_wp2_with fail
    refine (HT.out _ HK.out.below0).mono ?_
    rintro e W2 ⟨g2, rfl, ho, hb⟩
    have hk : Ob 2 [(w.heap.size, ol a0 a1 a2 a3 a4 a5), (w.heap.size + 1, ol b0 b1 b2 b3 b4 b5)] w [(g2, z.length, z.length, cw z)] W2 := HK.out.call ho hb rfl
    clear HK ho hb
    go_wp2_with fail
    set_option maxRecDepth 8000 in
    go_region_held3 (fun U => U.cell? ⟨w.heap.size, 0, none⟩ = some (.int .i64 a0) ∧ U.cell? ⟨w.heap.size, 1, none⟩ = some (.int .i64 a1) ∧ U.cell? ⟨w.heap.size, 2, none⟩ = some (.int .i64 a2) ∧ U.cell? ⟨w.heap.size, 3, none⟩ = some (.int .i64 a3) ∧ U.cell? ⟨w.heap.size, 4, none⟩ = some (.int .i64 a4) ∧ U.cell? ⟨w.heap.size, 5, none⟩ = some (.int .i64 a5) ∧ U.cell? ⟨w.heap.size + 1, 0, none⟩ = some (.int .i64 b0) ∧ U.cell? ⟨w.heap.size + 1, 1, none⟩ = some (.int .i64 b1) ∧ U.cell? ⟨w.heap.size + 1, 2, none⟩ = some (.int .i64 b2) ∧ U.cell? ⟨w.heap.size + 1, 3, none⟩ = some (.int .i64 b3) ∧ U.cell? ⟨w.heap.size + 1, 4, none⟩ = some (.int .i64 b4) ∧ U.cell? ⟨w.heap.size + 1, 5, none⟩ = some (.int .i64 b5) ∧ Ob 2 [(w.heap.size, ol a0 a1 a2 a3 a4 a5), (w.heap.size + 1, ol b0 b1 b2 b3 b4 b5)] w [(g2, z.length, z.length, cw z)] U) (with_reducible refine SKb a0 a1 a2 a3 a4 a5 b0 b1 b2 b3 b4 b5 ?_; (first | with_reducible assumption | (with_reducible refine Ob.drew ?_; with_reducible assumption))) (first | (go_at_call 21; with_reducible refine (to_sheet _ _ _ _ _ _ _).mono ?_; rintro e w' ⟨rfl, hb'⟩; have hk : Ob 2 [(w.heap.size, ol a0 a1 a2 a3 a4 a5), (w.heap.size + 1, ol b0 b1 b2 b3 b4 b5)] w [(g2, z.length, z.length, cw z)] w' := Ob.below (by (first | with_reducible assumption | (with_reducible refine Ob.drew ?_; with_reducible assumption))) hb' rfl) | (go_at_call 42; with_reducible refine (HI.out _ _ (Ob.hd hk)).mono ?_; rintro e w' ⟨rfl, hb'⟩; have hk : Ob 2 [(w.heap.size, ol a0 a1 a2 a3 a4 a5), (w.heap.size + 1, ol b0 b1 b2 b3 b4 b5)] w [(g2, z.length, z.length, cw z)] w' := Ob.below (by (first | with_reducible assumption | (with_reducible refine Ob.drew ?_; with_reducible assumption))) hb' rfl))
    have HK := Lib.hid hk
    rename_i hHeld
    clear hHeld hk
    go_wp2_with fail
    refine (HT.out _ HK.out.below0).mono ?_
    rintro e W5 ⟨g3, rfl, ho, hb⟩
    have HK5 := Lib.hid (HK.out.call ho hb rfl)
    clear HK ho hb
    go_wp2_with fail
    refine (HQ.out _ _ _ _ _ HK5.out.hd2 HK5.out.hd).mono ?_
    rintro e W6 ⟨rfl, hb⟩
    have HK6 := Lib.hid (HK5.out.below hb rfl)
    clear hb HK5
    go_wp2_with fail
    go_ret
    exact ⟨rfl, HK6.out.below0⟩
theorem iscover_law (a0 a1 a2 a3 a4 a5 : Int) (b0 b1 b2 b3 b4 b5 : Int) (z : List (Int × Int)) (a : Option Addr) (cap : Nat) (hm : z.length ≤ maxLen) (hwf : ∀ c ∈ z, (Lit.int .i64 c.1).wf = true ∧ (Lit.int .i64 c.2).wf = true) (w : World) (hP : IsPairs w a z) : Calls Try.prog 10 #[.agg #[.int .i64 a0, .int .i64 a1, .int .i64 a2, .int .i64 a3, .int .i64 a4, .int .i64 a5], .agg #[.int .i64 b0, .int .i64 b1, .int .i64 b2, .int .i64 b3, .int .i64 b4, .int .i64 b5], .slice a z.length cap] w fun e w' => e = .returned (.bool true) ∧ Below w.heap.size w w' := by
  by_cases hz : z.length ≤ 1048576
  · obtain ⟨r, t, h1, h2⟩ := iscover_pair a0 a1 a2 a3 a4 a5 b0 b1 b2 b3 b4 b5 z hz hwf
    exact iscover_core a0 a1 a2 a3 a4 a5 b0 b1 b2 b3 b4 b5 z a cap hm r t (Lib.hid fun _ w g hO => h1 w g _ hO) (Lib.hid fun _ w g hO => h2 w g _ hO) w hP
  · exact iscover_core a0 a1 a2 a3 a4 a5 b0 b1 b2 b3 b4 b5 z a cap hm false false (Lib.hid fun h => absurd h hz) (Lib.hid fun h => absurd h hz) w hP
end Go.Proofs.Ytbmfjcmlgndofaa
