/- MERGED, for one claim's sake: Ci6, Cj6, Ob6, Co, Zl, Lk6. -/
import Derived.Test.YtbmfjcmlgndofaaCc6
import Derived.Test.YtbmfjcmlgndofaaZo
import Derived.Test.YtbmfjcmlgndofaaZs
import Derived.Test.YtbmfjcmlgndofaaRl6
import Derived.Test.YtbmfjcmlgndofaaSc
import Derived.Test.YtbmfjcmlgndofaaCn
import Derived.Test.YtbmfjcmlgndofaaShp
import Derived.WalkKit
import Derived.ProofKit
import Derived.OpenShut
import Derived.Lib.Hide
import Derived.WalkSpells
import Derived.Below
import Derived.BigQuiet
import Derived.LoopN
import Derived.Laws.OwnMore
import Derived.Deep.Slices
import Derived.DataReads
namespace Go.Proofs.Ytbmfjcmlgndofaa
open Go.ChangeShapes Go.WideShapes Go.ChangeAt Go.RowKit
set_option linter.unusedVariables false
/- Ci6 -/
/-- The valid cells of a list as natural numbers. -/
def nz (z : List (Int × Int)) : List (Nat × Nat) := z.map fun c => (c.1.toNat, c.2.toNat)
theorem nz_len (z : List (Int × Int)) : (nz z).length = z.length := by simp [nz]
theorem nz_cv (z : List (Int × Int)) (h : ∀ i (h : i < z.length), okc (z[i]).1 (z[i]).2 = true) : cw z = cv (nz z) ∧ ∀ c ∈ nz z, c.1 < 6 ∧ c.2 < 6 := by
  have h' : ∀ c ∈ z, okc c.1 c.2 = true := fun c hc => by
    obtain ⟨i, hi, rfl⟩ := List.mem_iff_getElem.mp hc
    exact h i hi
  clear h
  induction z with
  | nil => exact ⟨rfl, by simp [nz]⟩
  | cons a z ih =>
    obtain ⟨i1, i2⟩ := ih (fun c hc => h' c (List.mem_cons_of_mem _ hc))
    obtain ⟨a1, a2⟩ := a
    obtain ⟨x, y, hx, hy, e1, e2⟩ := okc_nat (h' (a1, a2) (List.mem_cons_self ..))
    dsimp only at e1 e2
    subst e1 e2
    have e : nz (((x : Int), (y : Int)) :: z) = (x, y) :: nz z := by simp [nz]
    refine ⟨?_, ?_⟩
    · rw [e]
      have e1 : cw (((x : Int), (y : Int)) :: z) = [.int .i64 (x : Int), .int .i64 (y : Int)] ++ cw z := rfl
      have e2 : cv ((x, y) :: nz z) = [.int .i64 (x : Int), .int .i64 (y : Int)] ++ cv (nz z) := rfl
      rw [e1, e2, i1]
    · rw [e]
      intro c hc
      rcases List.mem_cons.mp hc with rfl | hc
      · exact ⟨hx, hy⟩
      · exact i2 c hc
theorem fz_iff (z : List (Int × Int)) (j i : Nat) : fz z z.length j i = true ↔ (i, j) ∈ nz z := by
  have key : ∀ (z : List (Int × Int)) (F : Fn6), z.foldl (fun F c => orf c.1.toNat c.2.toNat F) F j i = true ↔ F j i = true ∨ (i, j) ∈ nz z := by
    intro z
    induction z with
    | nil => intro F; simp [nz]
    | cons a z ih =>
      intro F
      rw [List.foldl_cons, ih]
      have e : nz (a :: z) = (a.1.toNat, a.2.toNat) :: nz z := rfl
      rw [e, List.mem_cons, Prod.mk.injEq]
      simp only [orf, Bool.or_eq_true, Bool.and_eq_true, beq_iff_eq, or_assoc]
      constructor
      · rintro (h | ⟨h1, h2⟩ | h)
        · exact .inl h
        · exact .inr (.inl ⟨h2, h1⟩)
        · exact .inr (.inr h)
      · rintro (h | ⟨h1, h2⟩ | h)
        · exact .inl h
        · exact .inr (.inl ⟨h2, h1⟩)
        · exact .inr (.inr h)
  rw [fz, List.take_length, key]
  simp [zf]
theorem ink_ag (p : Fn6) (z : List (Int × Int)) (h : ∀ c ∈ nz z, c.1 < 6 ∧ c.2 < 6) : Ag (spd (fz z z.length) p) (spo p (nz z) zf) := by
  refine (spd_comm _ _).trans fun j i hj hi => ?_
  rw [Bool.eq_iff_iff, spd_iff, spo_iff]
  constructor
  · rintro ⟨b, a, hb, ha, hf, hp⟩
    exact .inr ⟨(a, b), (fz_iff z b a).mp hf, hp⟩
  · rintro (h0 | ⟨c, hc, hp⟩)
    · simp [zf] at h0
    · exact ⟨c.2, c.1, (h c hc).2, (h c hc).1, (fz_iff z c.2 c.1).mpr hc, hp⟩
theorem ag_row {f g : Fn6} (h : Ag f g) {j : Nat} (hj : j < 6) : rowv (f j) = rowv (g j) := rowv_congr fun i hi => h j i hj hi
/-- Midway: rows known, and a row of pairs. -/
def Ri6 (n : Nat) (R : List (Nat × Obj)) (w : World) (z : List (Int × Int)) (g cap : Nat) (W : World) : Prop := KR n R w W ∧ W.ownsRow 0 53 2 (.slice (some ⟨g, 0, none⟩) z.length cap) z.length (cw z)
theorem Ri6.below {n : Nat} {R : List (Nat × Obj)} {w W W' : World} {z : List (Int × Int)} {g cap M : Nat} (h : Ri6 n R w z g cap W) (hb : Below M W W') (hM : M = W.heap.size) : Ri6 n R w z g cap W' := ⟨h.1.far hb hM, h.2.kept (grown_below hb hM) (.inr (by simp [Value.ownBlock]))⟩
set_option maxRecDepth 8000 in
set_option maxHeartbeats 2000000 in
theorem sia_yes (p : Fn6) (z : List (Int × Int)) (hz : z.length ≤ 1048576) (hok : ∀ i (h : i < z.length), okc (z[i]).1 (z[i]).2 = true) (g cap : Nat) (w : World) (hO : w.ownsRow 0 53 2 (.slice (some ⟨g, 0, none⟩) z.length cap) z.length (cw z)) : Calls Try.prog 29 #[.agg #[.int .i64 (rowv (p 0)), .int .i64 (rowv (p 1)), .int .i64 (rowv (p 2)), .int .i64 (rowv (p 3)), .int .i64 (rowv (p 4)), .int .i64 (rowv (p 5))], .slice (some ⟨g, 0, none⟩) z.length cap] w fun e w' => e = .returned (.tuple #[.agg #[.int .i64 (rowv (spo p (nz z) zf 0)), .int .i64 (rowv (spo p (nz z) zf 1)), .int .i64 (rowv (spo p (nz z) zf 2)), .int .i64 (rowv (spo p (nz z) zf 3)), .int .i64 (rowv (spo p (nz z) zf 4)), .int .i64 (rowv (spo p (nz z) zf 5))], .bool true]) ∧ Below w.heap.size w w' := by
  have HO := Lib.hid hO
  have HK := Lib.hid hok
  have HV := Lib.hid (row_as p)
  obtain ⟨ec, hlm⟩ := nz_cv z hok
  have hn := nz_len z
  have HL := Lib.hid (link6_f p (nz z) hlm (by omega))
  rw [← ec, hn] at HL
  clear hO hok ec hlm hn
  generalize spo p (nz z) zf = F at HL ⊢
  go_enter Try.func29, Try.ntmps29
  go_wp2_with fail
  generalize hW : (World.alloc _ _ : World) = W0
  have hB0 : Below w.heap.size w W0 := by rw [← hW]; (repeat (first | exact Below.refl _ _ | assumption | refine Below.setCell ?_ (by first | (simp; done) | (simp; omega)) _ | refine Below.alloc ?_ (by first | (simp; done) | (simp; omega)) _ | refine Below.drew ?_))
  have S0 : Hid (Ri6 2 [(w.heap.size, o6 p), (w.heap.size + 1, oz)] w z g cap W0) := Lib.hid ⟨two_boxes w _ _ hB0 (by rw [← hW]; exact alloc_past (alloc_at rfl)) (by rw [← hW]; exact alloc_at (by simp)) (by rw [← hW]; simp), HO.out.kept (grown_below hB0 rfl) (.inr (by simp [Value.ownBlock]))⟩
  clear hW hB0 HO
  have a_c := fun j => cell_of_row W0 _ j _ _ _ (S0.out.1.row (g := w.heap.size) (o := o6 p) (by simp))
  go_wp2_with fail
  refine (HV.out _).mono ?_
  rintro e W1 ⟨rfl, hb⟩
  have S1 := Lib.hid (S0.out.below hb rfl)
  clear hb S0 a_c HV
  go_wp2_with fail
  go_loopw [6] (fun c wr => ∃ i : Nat, i ≤ z.length ∧ c = .int .i64 i ∧ Hid (Ri6 2 [(w.heap.size, o6 p), (w.heap.size + 1, oz)] w z g cap wr)) (fun c _ => z.length - (intOf c).toNat)
  case atStart => exact ⟨0, by omega, rfl, S1⟩
  case round =>
    obtain ⟨i, hi, rfl, HS⟩ := hrel
    by_cases hlt : i < z.length
    · have hlt' : (i : Int) < z.length := by omega
      have hi0 : (0 : Int) ≤ i := by omega
      obtain ⟨p1, p2⟩ := cw_at z i hlt
      have a1 := own_at HS.out.2 p1
      have a2 := own_at HS.out.2 p2
      clear p1 p2
      have HI : Hid (∀ w, Calls Try.prog 128 #[.agg #[.int .i64 (z[i]).1, .int .i64 (z[i]).2]] w fun e w' => e = .returned (.bool true) ∧ Below w.heap.size w w') := Lib.hid (fun w => by
        have h := l2cell_any (z[i]).1 (z[i]).2 w
        rw [HK.out i hlt] at h
        exact h)
      generalize z[i] = c at a1 a2 HI
      obtain ⟨c1, c2⟩ := c
      dsimp only at a1 a2 HI
      go_wp2_with fail
      refine (HI.out _).mono ?_
      rintro e Y ⟨rfl, hb⟩
      have HY := Lib.hid (HS.out.below hb rfl)
      clear hb HS a1 a2 HI
      go_wp2_with fail
      go_roundw
      case rel => exact ⟨i + 1, by omega, by go_num, HY⟩
      case measure => simp [intOf]; omega
    · obtain rfl : i = z.length := by omega
      have b_c := fun j => cell_of_row wr _ j _ _ _ (HS.out.1.row (g := w.heap.size) (o := o6 p) (by simp))
      go_wp2_with fail
      refine (HL.out _ _ _ HS.out.2).mono ?_
      rintro e Y ⟨rfl, hb⟩
      have HY := Lib.hid (HS.out.below hb rfl)
      clear hb HS HL b_c
      have z_c : ∀ j, Y.cell? ⟨w.heap.size + 1, j, none⟩ = (#[.int .i64 0, .int .i64 0, .int .i64 0, .int .i64 0, .int .i64 0, .int .i64 0] : Array Value)[j]? := fun j => cell_of_row Y _ j _ _ _ (HY.out.1.row (g := w.heap.size + 1) (o := oz) (by simp))
      have z_f : ∀ j, Y.frozen? ⟨w.heap.size + 1, j, none⟩ = false := fun j => frozen_of_row Y _ j _ _ (HY.out.1.row (g := w.heap.size + 1) (o := oz) (by simp))
      go_wp2_with fail
      refine bodyPost_ret (v := .tuple #[.agg #[.int .i64 (rowv (F 0)), .int .i64 (rowv (F 1)), .int .i64 (rowv (F 2)), .int .i64 (rowv (F 3)), .int .i64 (rowv (F 4)), .int .i64 (rowv (F 5))], .bool true]) (by simp [results, Try.results29, go_sem, z_c]) rfl ⟨rfl, ?_⟩
      exact below6 HY.out.1.2.2 (by omega)
set_option maxRecDepth 8000 in
set_option maxHeartbeats 2000000 in
theorem sia_no (p : Fn6) (z : List (Int × Int)) (hz : z.length ≤ 1048576) (N : Nat) (hN : N < z.length) (hok : ∀ i (h : i < N), okc (z[i]'(by omega)).1 (z[i]'(by omega)).2 = true) (hbad : okc (z[N]).1 (z[N]).2 = false) (g cap : Nat) (w : World) (hO : w.ownsRow 0 53 2 (.slice (some ⟨g, 0, none⟩) z.length cap) z.length (cw z)) : Calls Try.prog 29 #[.agg #[.int .i64 (rowv (p 0)), .int .i64 (rowv (p 1)), .int .i64 (rowv (p 2)), .int .i64 (rowv (p 3)), .int .i64 (rowv (p 4)), .int .i64 (rowv (p 5))], .slice (some ⟨g, 0, none⟩) z.length cap] w fun e w' => e = .returned (.tuple #[.agg #[.int .i64 0, .int .i64 0, .int .i64 0, .int .i64 0, .int .i64 0, .int .i64 0], .bool false]) ∧ Below w.heap.size w w' := by
  have HO := Lib.hid hO
  have HK := Lib.hid hok
  have HV := Lib.hid (row_as p)
  clear hO hok
  go_enter Try.func29, Try.ntmps29
  go_wp2_with fail
  generalize hW : (World.alloc _ _ : World) = W0
  have hB0 : Below w.heap.size w W0 := by rw [← hW]; (repeat (first | exact Below.refl _ _ | assumption | refine Below.setCell ?_ (by first | (simp; done) | (simp; omega)) _ | refine Below.alloc ?_ (by first | (simp; done) | (simp; omega)) _ | refine Below.drew ?_))
  have S0 : Hid (Ri6 2 [(w.heap.size, o6 p), (w.heap.size + 1, oz)] w z g cap W0) := Lib.hid ⟨two_boxes w _ _ hB0 (by rw [← hW]; exact alloc_past (alloc_at rfl)) (by rw [← hW]; exact alloc_at (by simp)) (by rw [← hW]; simp), HO.out.kept (grown_below hB0 rfl) (.inr (by simp [Value.ownBlock]))⟩
  clear hW hB0 HO
  have a_c := fun j => cell_of_row W0 _ j _ _ _ (S0.out.1.row (g := w.heap.size) (o := o6 p) (by simp))
  go_wp2_with fail
  refine (HV.out _).mono ?_
  rintro e W1 ⟨rfl, hb⟩
  have S1 := Lib.hid (S0.out.below hb rfl)
  clear hb S0 a_c HV
  go_wp2_with fail
  go_loopw [6] (fun c wr => ∃ i : Nat, i ≤ N ∧ c = .int .i64 i ∧ Hid (Ri6 2 [(w.heap.size, o6 p), (w.heap.size + 1, oz)] w z g cap wr)) (fun c _ => z.length - (intOf c).toNat)
  case atStart => exact ⟨0, by omega, rfl, S1⟩
  case round =>
    obtain ⟨i, hi, rfl, HS⟩ := hrel
    by_cases hlt : i < N
    · have hltz : i < z.length := by omega
      have hlt' : (i : Int) < z.length := by omega
      have hi0 : (0 : Int) ≤ i := by omega
      obtain ⟨p1, p2⟩ := cw_at z i hltz
      have a1 := own_at HS.out.2 p1
      have a2 := own_at HS.out.2 p2
      clear p1 p2
      have HI : Hid (∀ w, Calls Try.prog 128 #[.agg #[.int .i64 (z[i]).1, .int .i64 (z[i]).2]] w fun e w' => e = .returned (.bool true) ∧ Below w.heap.size w w') := Lib.hid (fun w => by
        have h := l2cell_any (z[i]).1 (z[i]).2 w
        rw [HK.out i hlt] at h
        exact h)
      generalize z[i] = c at a1 a2 HI
      obtain ⟨c1, c2⟩ := c
      dsimp only at a1 a2 HI
      go_wp2_with fail
      refine (HI.out _).mono ?_
      rintro e Y ⟨rfl, hb⟩
      have HY := Lib.hid (HS.out.below hb rfl)
      clear hb HS a1 a2 HI
      go_wp2_with fail
      go_roundw
      case rel => exact ⟨i + 1, by omega, by go_num, HY⟩
      case measure => simp [intOf]; omega
    · obtain rfl : i = N := by omega
      have hlt' : (i : Int) < z.length := by omega
      have hi0 : (0 : Int) ≤ i := by omega
      obtain ⟨p1, p2⟩ := cw_at z i hN
      have a1 := own_at HS.out.2 p1
      have a2 := own_at HS.out.2 p2
      clear p1 p2
      have HI : Hid (∀ w, Calls Try.prog 128 #[.agg #[.int .i64 (z[i]).1, .int .i64 (z[i]).2]] w fun e w' => e = .returned (.bool false) ∧ Below w.heap.size w w') := Lib.hid (fun w => by
        have h := l2cell_any (z[i]).1 (z[i]).2 w
        rw [hbad] at h
        exact h)
      clear hbad
      generalize z[i] = c at a1 a2 HI
      obtain ⟨c1, c2⟩ := c
      dsimp only at a1 a2 HI
      go_wp2_with fail
      refine (HI.out _).mono ?_
      rintro e Y ⟨rfl, hb⟩
      have HY := Lib.hid (HS.out.below hb rfl)
      clear hb HS a1 a2 HI
      have z_c : ∀ j, Y.cell? ⟨w.heap.size + 1, j, none⟩ = (#[.int .i64 0, .int .i64 0, .int .i64 0, .int .i64 0, .int .i64 0, .int .i64 0] : Array Value)[j]? := fun j => cell_of_row Y _ j _ _ _ (HY.out.1.row (g := w.heap.size + 1) (o := oz) (by simp))
      have z_f : ∀ j, Y.frozen? ⟨w.heap.size + 1, j, none⟩ = false := fun j => frozen_of_row Y _ j _ _ (HY.out.1.row (g := w.heap.size + 1) (o := oz) (by simp))
      go_wp2_with fail
      refine bodyPost_ret (v := .tuple #[.agg #[.int .i64 0, .int .i64 0, .int .i64 0, .int .i64 0, .int .i64 0, .int .i64 0], .bool false]) (by simp [results, Try.results29, go_sem, z_c]) rfl ⟨rfl, ?_⟩
      exact below6 HY.out.1.2.2 (by omega)
set_option maxHeartbeats 1000000 in
theorem sia_ns (a0 a1 a2 a3 a4 a5 : Int) (V : Value) (H0 : Hid (∀ w, Calls Try.prog 121 #[.agg #[.int .i64 a0, .int .i64 a1, .int .i64 a2, .int .i64 a3, .int .i64 a4, .int .i64 a5]] w fun e w' => e = .returned (.bool false) ∧ Below w.heap.size w w')) (w : World) : Calls Try.prog 29 #[.agg #[.int .i64 a0, .int .i64 a1, .int .i64 a2, .int .i64 a3, .int .i64 a4, .int .i64 a5], V] w fun e w' => e = .returned (.tuple #[.agg #[.int .i64 0, .int .i64 0, .int .i64 0, .int .i64 0, .int .i64 0, .int .i64 0], .bool false]) ∧ Below w.heap.size w w' := by
  go_enter Try.func29, Try.ntmps29
  go_wp2_with fail
  generalize hW : (World.alloc _ _ : World) = W0
  have K0 : KR 2 [(w.heap.size, os a0 a1 a2 a3 a4 a5), (w.heap.size + 1, oz)] w W0 := by
    rw [← hW]
    exact two_boxes w _ _ (by (repeat (first | exact Below.refl _ _ | assumption | refine Below.setCell ?_ (by first | (simp; done) | (simp; omega)) _ | refine Below.alloc ?_ (by first | (simp; done) | (simp; omega)) _ | refine Below.drew ?_))) (alloc_past (alloc_at rfl)) (alloc_at (by simp)) (by simp)
  clear hW
  have a_c := fun j => cell_of_row W0 _ j _ _ _ (K0.row (g := w.heap.size) (o := os a0 a1 a2 a3 a4 a5) (by simp))
  go_wp2_with fail
  refine (H0.out _).mono ?_
  rintro e W1 ⟨rfl, hb⟩
  have K1 := K0.far hb rfl
  clear hb K0 a_c
  have z_c : ∀ j, W1.cell? ⟨w.heap.size + 1, j, none⟩ = (#[.int .i64 0, .int .i64 0, .int .i64 0, .int .i64 0, .int .i64 0, .int .i64 0] : Array Value)[j]? := fun j => cell_of_row W1 _ j _ _ _ (K1.row (g := w.heap.size + 1) (o := oz) (by simp))
  have z_f : ∀ j, W1.frozen? ⟨w.heap.size + 1, j, none⟩ = false := fun j => frozen_of_row W1 _ j _ _ (K1.row (g := w.heap.size + 1) (o := oz) (by simp))
  go_wp2_with fail
  refine bodyPost_ret (v := .tuple #[.agg #[.int .i64 0, .int .i64 0, .int .i64 0, .int .i64 0, .int .i64 0, .int .i64 0], .bool false]) (by simp [results, Try.results29, go_sem, z_c]) rfl ⟨rfl, ?_⟩
  exact below6 K1.2.2 (by omega)
set_option maxHeartbeats 1000000 in
/-- The code's: the sheet of the cells, spread by the stamp. -/
theorem iia_any (a0 a1 a2 a3 a4 a5 : Int) (V : Value) (b0 b1 b2 b3 b4 b5 : Int) (r0 r1 r2 r3 r4 r5 : Int) (t : Bool) (w : World) (HS : Hid (∀ W : World, Below w.heap.size w W → Calls Try.prog 131 #[V] W fun e w' => e = .returned (.tuple #[.agg #[.int .i64 b0, .int .i64 b1, .int .i64 b2, .int .i64 b3, .int .i64 b4, .int .i64 b5], .bool true]) ∧ Below W.heap.size W w')) (HF : Hid (∀ w, Calls Try.prog 84 #[.agg #[.int .i64 b0, .int .i64 b1, .int .i64 b2, .int .i64 b3, .int .i64 b4, .int .i64 b5], .agg #[.int .i64 a0, .int .i64 a1, .int .i64 a2, .int .i64 a3, .int .i64 a4, .int .i64 a5]] w fun e w' => e = .returned (.tuple #[.agg #[.int .i64 r0, .int .i64 r1, .int .i64 r2, .int .i64 r3, .int .i64 r4, .int .i64 r5], .bool t]) ∧ Below w.heap.size w w')) : Calls Try.prog 31 #[.agg #[.int .i64 a0, .int .i64 a1, .int .i64 a2, .int .i64 a3, .int .i64 a4, .int .i64 a5], V] w fun e w' => e = .returned (.tuple #[.agg #[.int .i64 r0, .int .i64 r1, .int .i64 r2, .int .i64 r3, .int .i64 r4, .int .i64 r5], .bool t]) ∧ Below w.heap.size w w' := by
  go_enter Try.func31, Try.ntmps31
  go_wp2_with fail
  generalize hW : (World.alloc _ _ : World) = W0
  have K0 : KR 2 [(w.heap.size, os a0 a1 a2 a3 a4 a5), (w.heap.size + 1, oz)] w W0 := by
    rw [← hW]
    exact two_boxes w _ _ (by (repeat (first | exact Below.refl _ _ | assumption | refine Below.setCell ?_ (by first | (simp; done) | (simp; omega)) _ | refine Below.alloc ?_ (by first | (simp; done) | (simp; omega)) _ | refine Below.drew ?_))) (alloc_past (alloc_at rfl)) (alloc_at (by simp)) (by simp)
  clear hW
  refine (HS.out _ K0.2.2).mono ?_
  rintro e W1 ⟨rfl, hb⟩
  have K1 := K0.far hb rfl
  clear hb K0
  have hl1 := K1.2.1
  have a_c := fun j => cell_of_row (W1.alloc (.cells #[.int .i64 b0, .int .i64 b1, .int .i64 b2, .int .i64 b3, .int .i64 b4, .int .i64 b5] 28)) _ j _ _ _ (K1.al.row (g := w.heap.size) (o := os a0 a1 a2 a3 a4 a5) (by simp))
  have K2 := K1.al (o := .cells #[.int .i64 b0, .int .i64 b1, .int .i64 b2, .int .i64 b3, .int .i64 b4, .int .i64 b5] 28)
  go_wp2_with fail
  refine (HF.out _).mono ?_
  rintro e W3 ⟨rfl, hb⟩
  have K3 := K2.far hb rfl
  clear hb K1 K2 a_c
  have z_c : ∀ j, W3.cell? ⟨w.heap.size + 1, j, none⟩ = (#[.int .i64 0, .int .i64 0, .int .i64 0, .int .i64 0, .int .i64 0, .int .i64 0] : Array Value)[j]? := fun j => cell_of_row W3 _ j _ _ _ (K3.row (g := w.heap.size + 1) (o := oz) (by simp))
  have z_f : ∀ j, W3.frozen? ⟨w.heap.size + 1, j, none⟩ = false := fun j => frozen_of_row W3 _ j _ _ (K3.row (g := w.heap.size + 1) (o := oz) (by simp))
  go_wp2_with fail
  refine bodyPost_ret (v := .tuple #[.agg #[.int .i64 r0, .int .i64 r1, .int .i64 r2, .int .i64 r3, .int .i64 r4, .int .i64 r5], .bool t]) (by simp [results, Try.results31, go_sem, z_c]) rfl ⟨rfl, ?_⟩
  exact below6 K3.2.2 (by omega)
set_option maxHeartbeats 1000000 in
theorem iia_no (a0 a1 a2 a3 a4 a5 : Int) (V : Value) (b0 b1 b2 b3 b4 b5 : Int) (w : World) (HS : Hid (∀ W : World, Below w.heap.size w W → Calls Try.prog 131 #[V] W fun e w' => e = .returned (.tuple #[.agg #[.int .i64 b0, .int .i64 b1, .int .i64 b2, .int .i64 b3, .int .i64 b4, .int .i64 b5], .bool false]) ∧ Below W.heap.size W w')) : Calls Try.prog 31 #[.agg #[.int .i64 a0, .int .i64 a1, .int .i64 a2, .int .i64 a3, .int .i64 a4, .int .i64 a5], V] w fun e w' => e = .returned (.tuple #[.agg #[.int .i64 0, .int .i64 0, .int .i64 0, .int .i64 0, .int .i64 0, .int .i64 0], .bool false]) ∧ Below w.heap.size w w' := by
  go_enter Try.func31, Try.ntmps31
  go_wp2_with fail
  generalize hW : (World.alloc _ _ : World) = W0
  have K0 : KR 2 [(w.heap.size, os a0 a1 a2 a3 a4 a5), (w.heap.size + 1, oz)] w W0 := by
    rw [← hW]
    exact two_boxes w _ _ (by (repeat (first | exact Below.refl _ _ | assumption | refine Below.setCell ?_ (by first | (simp; done) | (simp; omega)) _ | refine Below.alloc ?_ (by first | (simp; done) | (simp; omega)) _ | refine Below.drew ?_))) (alloc_past (alloc_at rfl)) (alloc_at (by simp)) (by simp)
  clear hW
  refine (HS.out _ K0.2.2).mono ?_
  rintro e W1 ⟨rfl, hb⟩
  have K1 := K0.far hb rfl
  clear hb K0
  have K3 := K1.al (o := .cells #[.int .i64 b0, .int .i64 b1, .int .i64 b2, .int .i64 b3, .int .i64 b4, .int .i64 b5] 28)
  have hl1 := K1.2.1
  have z_c : ∀ j, W1.cell? ⟨w.heap.size + 1, j, none⟩ = (#[.int .i64 0, .int .i64 0, .int .i64 0, .int .i64 0, .int .i64 0, .int .i64 0] : Array Value)[j]? := fun j => cell_of_row W1 _ j _ _ _ (K1.row (g := w.heap.size + 1) (o := oz) (by simp))
  have z_f : ∀ j, W1.frozen? ⟨w.heap.size + 1, j, none⟩ = false := fun j => frozen_of_row W1 _ j _ _ (K1.row (g := w.heap.size + 1) (o := oz) (by simp))
  have y_c : ∀ j, (W1.alloc (.cells #[.int .i64 b0, .int .i64 b1, .int .i64 b2, .int .i64 b3, .int .i64 b4, .int .i64 b5] 28)).cell? ⟨w.heap.size + 1, j, none⟩ = (#[.int .i64 0, .int .i64 0, .int .i64 0, .int .i64 0, .int .i64 0, .int .i64 0] : Array Value)[j]? := fun j => cell_of_row _ _ j _ _ _ (K3.row (g := w.heap.size + 1) (o := oz) (by simp))
  have y_f : ∀ j, (W1.alloc (.cells #[.int .i64 b0, .int .i64 b1, .int .i64 b2, .int .i64 b3, .int .i64 b4, .int .i64 b5] 28)).frozen? ⟨w.heap.size + 1, j, none⟩ = false := fun j => frozen_of_row _ _ j _ _ (K3.row (g := w.heap.size + 1) (o := oz) (by simp))
  have gne : w.heap.size + 1 ≠ W1.heap.size := by omega
  have glt : w.heap.size + 1 < W1.heap.size := by omega
  go_wp2_with fail
  have qx := alloc_past (o := .cells #[.int .i64 b0, .int .i64 b1, .int .i64 b2, .int .i64 b3, .int .i64 b4, .int .i64 b5] 28) (set6a (.int .i64 0) (.int .i64 0) (.int .i64 0) (.int .i64 0) (.int .i64 0) (.int .i64 0) (K1.row (g := w.heap.size + 1) (o := oz) (by simp)))
  have hB := (below6 (g := w.heap.size + 1) (v0 := .int .i64 0) (v1 := .int .i64 0) (v2 := .int .i64 0) (v3 := .int .i64 0) (v4 := .int .i64 0) (v5 := .int .i64 0) K1.2.2 (by omega)).alloc (by simp; omega) (.cells #[.int .i64 b0, .int .i64 b1, .int .i64 b2, .int .i64 b3, .int .i64 b4, .int .i64 b5] 28)
  generalize (World.alloc _ _ : World) = X at qx hB ⊢
  have x_c := fun j => cell_of_row X _ j _ _ _ qx
  exact bodyPost_ret (v := .tuple #[.agg #[.int .i64 0, .int .i64 0, .int .i64 0, .int .i64 0, .int .i64 0, .int .i64 0], .bool false]) (by simp [results, Try.results31, go_sem, x_c]) rfl ⟨rfl, hB⟩
/- Cj6 -/
theorem inkall_pair (a0 a1 a2 a3 a4 a5 : Int) (z : List (Int × Int)) (hz : z.length ≤ 1048576) (hwf : ∀ c ∈ z, (Lit.int .i64 c.1).wf = true ∧ (Lit.int .i64 c.2).wf = true) : ∃ (r0 r1 r2 r3 r4 r5 : Int) (t : Bool), (∀ (w : World) (g cap : Nat), w.ownsRow 0 53 2 (.slice (some ⟨g, 0, none⟩) z.length cap) z.length (cw z) → Calls Try.prog 29 #[.agg #[.int .i64 a0, .int .i64 a1, .int .i64 a2, .int .i64 a3, .int .i64 a4, .int .i64 a5], .slice (some ⟨g, 0, none⟩) z.length cap] w fun e w' => e = .returned (.tuple #[.agg #[.int .i64 r0, .int .i64 r1, .int .i64 r2, .int .i64 r3, .int .i64 r4, .int .i64 r5], .bool t]) ∧ Below w.heap.size w w') ∧ (∀ (w : World) (g cap : Nat), w.ownsRow 0 53 2 (.slice (some ⟨g, 0, none⟩) z.length cap) z.length (cw z) → Calls Try.prog 31 #[.agg #[.int .i64 a0, .int .i64 a1, .int .i64 a2, .int .i64 a3, .int .i64 a4, .int .i64 a5], .slice (some ⟨g, 0, none⟩) z.length cap] w fun e w' => e = .returned (.tuple #[.agg #[.int .i64 r0, .int .i64 r1, .int .i64 r2, .int .i64 r3, .int .i64 r4, .int .i64 r5], .bool t]) ∧ Below w.heap.size w w') := by
  have keep : ∀ {w W : World} {g cap : Nat}, w.ownsRow 0 53 2 (.slice (some ⟨g, 0, none⟩) z.length cap) z.length (cw z) → Below w.heap.size w W → W.ownsRow 0 53 2 (.slice (some ⟨g, 0, none⟩) z.length cap) z.length (cw z) := fun hO hb => hO.kept (grown_below hb rfl) (.inr (by simp [Value.ownBlock]))
  cases hv : (ok a0 && ok a1 && ok a2 && ok a3 && ok a4 && ok a5)
  · rcases first_bad z with h | ⟨N, hN, h, hb⟩
    · refine ⟨0, 0, 0, 0, 0, 0, false, fun w g cap hO => sia_ns a0 a1 a2 a3 a4 a5 _ (sh_as a0 a1 a2 a3 a4 a5 hv) w, fun w g cap hO => ?_⟩
      exact iia_any a0 a1 a2 a3 a4 a5 _ (rowv (fz z z.length 0)) (rowv (fz z z.length 1)) (rowv (fz z z.length 2)) (rowv (fz z z.length 3)) (rowv (fz z z.length 4)) (rowv (fz z z.length 5)) 0 0 0 0 0 0 false w (Lib.hid fun W hW => isf_yes z hz hwf h g cap W (keep hO hW)) (Lib.hid (ispread_n1 (rowv (fz z z.length 0)) (rowv (fz z z.length 1)) (rowv (fz z z.length 2)) (rowv (fz z z.length 3)) (rowv (fz z z.length 4)) (rowv (fz z z.length 5)) a0 a1 a2 a3 a4 a5 (by simp only [rowv_ok, Bool.and_self]) hv))
    · exact ⟨0, 0, 0, 0, 0, 0, false, fun w g cap hO => sia_ns a0 a1 a2 a3 a4 a5 _ (sh_as a0 a1 a2 a3 a4 a5 hv) w, fun w g cap hO => iia_no a0 a1 a2 a3 a4 a5 _ 0 0 0 0 0 0 w (Lib.hid fun W hW => isf_no z hz hwf N hN h hb g cap W (keep hO hW))⟩
  · obtain ⟨p, rfl, rfl, rfl, rfl, rfl, rfl⟩ := sheet_bits a0 a1 a2 a3 a4 a5 hv
    rcases first_bad z with h | ⟨N, hN, h, hb⟩
    · refine ⟨_, _, _, _, _, _, true, fun w g cap hO => sia_yes p z hz h g cap w hO, fun w g cap hO => ?_⟩
      have ha := ink_ag p z (nz_cv z h).2
      have H := iia_any (rowv (p 0)) (rowv (p 1)) (rowv (p 2)) (rowv (p 3)) (rowv (p 4)) (rowv (p 5)) (.slice (some ⟨g, 0, none⟩) z.length cap) (rowv (fz z z.length 0)) (rowv (fz z z.length 1)) (rowv (fz z z.length 2)) (rowv (fz z z.length 3)) (rowv (fz z z.length 4)) (rowv (fz z z.length 5)) (rowv (spd (fz z z.length) p 0)) (rowv (spd (fz z z.length) p 1)) (rowv (spd (fz z z.length) p 2)) (rowv (spd (fz z z.length) p 3)) (rowv (spd (fz z z.length) p 4)) (rowv (spd (fz z z.length) p 5)) true w (Lib.hid fun W hW => isf_yes z hz hwf h g cap W (keep hO hW)) (Lib.hid (ispread_c (fz z z.length) p))
      rw [ag_row ha (show 0 < 6 by decide), ag_row ha (show 1 < 6 by decide), ag_row ha (show 2 < 6 by decide), ag_row ha (show 3 < 6 by decide), ag_row ha (show 4 < 6 by decide), ag_row ha (show 5 < 6 by decide)] at H
      exact H
    · exact ⟨0, 0, 0, 0, 0, 0, false, fun w g cap hO => sia_no p z hz N hN h hb g cap w hO, fun w g cap hO => iia_no (rowv (p 0)) (rowv (p 1)) (rowv (p 2)) (rowv (p 3)) (rowv (p 4)) (rowv (p 5)) _ 0 0 0 0 0 0 w (Lib.hid fun W hW => isf_no z hz hwf N hN h hb g cap W (keep hO hW))⟩
/- Ob6 -/
/-- A row of pairs that the call owns, in block g. -/
def Ow (g c : Nat) (n : Nat) (xs : List Value) (W : World) : Prop := W.ownsRow 0 53 2 (.slice (some ⟨g, 0, none⟩) n c) n xs
theorem Ow.below {g c n : Nat} {xs : List Value} {W W' : World} {N : Nat} (h : Ow g c n xs W) (hb : Below N W W') (hN : N = W.heap.size) : Ow g c n xs W' := h.kept (grown_below hb hN) (.inr (by simp [Value.ownBlock]))
theorem Ow.grown {g c n g2 : Nat} {xs : List Value} {W W' : World} (h : Ow g c n xs W) (hg : W.grownBy W' (some g2)) (hne : g ≠ g2) : Ow g c n xs W' := h.kept hg (.inr (by simp [Value.ownBlock, hne]))
abbrev OwT : Type := Nat × Nat × Nat × List Value
def Ob (n : Nat) (R : List (Nat × Obj)) (w : World) (ows : List OwT) (U : World) : Prop :=
  KR n R w U ∧ (∀ o ∈ ows, w.heap.size + n ≤ o.1 ∧ Ow o.1 o.2.1 o.2.2.1 o.2.2.2 U) ∧ ows.Pairwise (fun a b => a.1 ≠ b.1)
theorem Ob.below {n : Nat} {R : List (Nat × Obj)} {w U U' : World} {ows : List OwT} {M : Nat} (h : Ob n R w ows U) (hb : Below M U U') (hM : M = U.heap.size) : Ob n R w ows U' := ⟨h.1.far hb hM, fun o ho => ⟨(h.2.1 o ho).1, (h.2.1 o ho).2.below hb hM⟩, h.2.2⟩
theorem Ob.drew {n : Nat} {R : List (Nat × Obj)} {w U : World} {ows : List OwT} (h : Ob n R w ows U) : Ob n R w ows U.drew := h.below (M := U.heap.size) (Below.refl _ _).drew rfl
theorem Ob.al {n : Nat} {R : List (Nat × Obj)} {w U : World} {ows : List OwT} (h : Ob n R w ows U) (o : Obj) : Ob n R w ows (U.alloc o) := h.below (M := U.heap.size) ((Below.refl _ _).alloc (Nat.le_refl _) o) rfl
theorem Ob.call {n : Nat} {R : List (Nat × Obj)} {w U U' : World} {ows : List OwT} {g c m M : Nat} {xs : List Value} (h : Ob n R w ows U) (ho : U'.ownsRow M 53 2 (.slice (some ⟨g, 0, none⟩) m c) m xs) (hb : Below M U U') (hM : M = U.heap.size) : Ob n R w ((g, c, m, xs) :: ows) U' := by
  have hg := (ho.lt g rfl).1
  refine ⟨h.1.far hb hM, ?_, ?_⟩
  · intro o hm
    rcases List.mem_cons.mp hm with rfl | hm
    · exact ⟨by have := h.1.2.1; dsimp only; omega, own_mono ho (Nat.zero_le _)⟩
    · exact ⟨(h.2.1 o hm).1, (h.2.1 o hm).2.below hb hM⟩
  · refine List.pairwise_cons.mpr ⟨fun o hm => ?_, h.2.2⟩
    have := ((h.2.1 o hm).2.lt o.1 rfl).2
    dsimp only
    omega
theorem Ob.mark {n : Nat} {R : List (Nat × Obj)} {w U U' : World} {ows : List OwT} {g c m : Nat} {xs ys : List Value} (h : Ob n R w ((g, c, m, xs) :: ows) U) (ho : Ow g c m ys U') (hg : U.grownBy U' (some g)) : Ob n R w ((g, c, m, ys) :: ows) U' := by
  have hgl := (h.2.1 _ (List.mem_cons_self ..)).1
  have hp := List.pairwise_cons.mp h.2.2
  refine ⟨h.1.grown hg (fun k hk => by cases hk; exact hgl), ?_, List.pairwise_cons.mpr ⟨hp.1, hp.2⟩⟩
  intro o hm
  rcases List.mem_cons.mp hm with rfl | hm
  · exact ⟨hgl, ho⟩
  · exact ⟨(h.2.1 o (List.mem_cons_of_mem _ hm)).1, (h.2.1 o (List.mem_cons_of_mem _ hm)).2.grown hg (fun e => hp.1 o hm e.symm)⟩
theorem Ob.get {n : Nat} {R : List (Nat × Obj)} {w U : World} {ows : List OwT} (h : Ob n R w ows U) {o : OwT} (hm : o ∈ ows) : Ow o.1 o.2.1 o.2.2.1 o.2.2.2 U := (h.2.1 o hm).2
theorem Ob.hd {n : Nat} {R : List (Nat × Obj)} {w U : World} {ows : List OwT} {g c m : Nat} {xs : List Value} (h : Ob n R w ((g, c, m, xs) :: ows) U) : Ow g c m xs U := (h.2.1 _ (List.mem_cons_self ..)).2
theorem Ob.hd2 {n : Nat} {R : List (Nat × Obj)} {w U : World} {ows : List OwT} {o : OwT} {g c m : Nat} {xs : List Value} (h : Ob n R w (o :: (g, c, m, xs) :: ows) U) : Ow g c m xs U := (h.2.1 _ (List.mem_cons_of_mem _ (List.mem_cons_self ..))).2
theorem Ob.hd3 {n : Nat} {R : List (Nat × Obj)} {w U : World} {ows : List OwT} {o o2 : OwT} {g c m : Nat} {xs : List Value} (h : Ob n R w (o :: o2 :: (g, c, m, xs) :: ows) U) : Ow g c m xs U := (h.2.1 _ (List.mem_cons_of_mem _ (List.mem_cons_of_mem _ (List.mem_cons_self ..)))).2
theorem Ob.below0 {n : Nat} {R : List (Nat × Obj)} {w U : World} {ows : List OwT} (h : Ob n R w ows U) : Below w.heap.size w U := h.1.2.2
/-- The law's boxes of a sheet. -/
def ol (a0 a1 a2 a3 a4 a5 : Int) : Obj := .cells #[.int .i64 a0, .int .i64 a1, .int .i64 a2, .int .i64 a3, .int .i64 a4, .int .i64 a5] 24 (0, 0)
theorem SKb {w U : World} (a0 a1 a2 a3 a4 a5 : Int) (b0 b1 b2 b3 b4 b5 : Int) {ows : List OwT} (h : Ob 2 [(w.heap.size, ol a0 a1 a2 a3 a4 a5), (w.heap.size + 1, ol b0 b1 b2 b3 b4 b5)] w ows U) : U.cell? ⟨w.heap.size, 0, none⟩ = some (.int .i64 a0) ∧ U.cell? ⟨w.heap.size, 1, none⟩ = some (.int .i64 a1) ∧ U.cell? ⟨w.heap.size, 2, none⟩ = some (.int .i64 a2) ∧ U.cell? ⟨w.heap.size, 3, none⟩ = some (.int .i64 a3) ∧ U.cell? ⟨w.heap.size, 4, none⟩ = some (.int .i64 a4) ∧ U.cell? ⟨w.heap.size, 5, none⟩ = some (.int .i64 a5) ∧ U.cell? ⟨w.heap.size + 1, 0, none⟩ = some (.int .i64 b0) ∧ U.cell? ⟨w.heap.size + 1, 1, none⟩ = some (.int .i64 b1) ∧ U.cell? ⟨w.heap.size + 1, 2, none⟩ = some (.int .i64 b2) ∧ U.cell? ⟨w.heap.size + 1, 3, none⟩ = some (.int .i64 b3) ∧ U.cell? ⟨w.heap.size + 1, 4, none⟩ = some (.int .i64 b4) ∧ U.cell? ⟨w.heap.size + 1, 5, none⟩ = some (.int .i64 b5) ∧ Ob 2 [(w.heap.size, ol a0 a1 a2 a3 a4 a5), (w.heap.size + 1, ol b0 b1 b2 b3 b4 b5)] w ows U :=
  have h0 := fun j => cell_of_row U _ j _ _ _ (h.1.row (g := w.heap.size) (o := ol a0 a1 a2 a3 a4 a5) (List.mem_cons_self ..))
  have h1 := fun j => cell_of_row U _ j _ _ _ (h.1.row (g := w.heap.size + 1) (o := ol b0 b1 b2 b3 b4 b5) (List.mem_cons_of_mem _ (List.mem_cons_self ..)))
  ⟨h0 0, h0 1, h0 2, h0 3, h0 4, h0 5, h1 0, h1 1, h1 2, h1 3, h1 4, h1 5, h⟩
/- Co -/
theorem gtr {W W' W2 : World} {g : Nat} (h : W.grownBy W' (some g)) (h' : W'.grownBy W2 (some g)) : W.grownBy W2 (some g) := ⟨h'.os.trans h.os, h'.tape.trans h.tape, h'.output.trans h.output, Nat.le_trans h.size h'.size, fun k hk hne => (h'.block k (Nat.lt_of_lt_of_le hk h.size) hne).trans (h.block k hk hne)⟩
/-- A row of cells whose first i have been marked by 1, 2 and so on. -/
def mks (xs : List Value) (i : Nat) : List Value := (List.range i).map (fun j : Nat => Value.int .i64 ((j : Int) + 1)) ++ xs.drop i
theorem mks_zero (xs : List Value) : mks xs 0 = xs := by simp [mks]
theorem mks_set {xs : List Value} {i : Nat} (h : i < xs.length) : (mks xs i).set i (.int .i64 ((i : Int) + 1)) = mks xs (i + 1) := by
  unfold mks
  rw [List.set_append_right _ _ (by simp), List.length_map, List.length_range, Nat.sub_self, List.drop_eq_getElem_cons h, List.set_cons_zero, List.range_succ, List.map_append, List.append_assoc]
  rfl
theorem mks_at (xs : List Value) {i j : Nat} (h : j < i) : (mks xs i)[j]? = some (.int .i64 ((j : Int) + 1)) := by
  unfold mks
  rw [List.getElem?_append_left (by simpa using h)]
  simp [h]
theorem mks_len (xs : List Value) {i : Nat} (h : i ≤ xs.length) : (mks xs i).length = xs.length := by simp [mks]; omega
theorem own_store {W : World} {B g n cap i : Nat} {xs : List Value} (h : W.ownsRow B 53 2 (.slice (some ⟨g, 0, none⟩) n cap) n (mks xs i)) (hx : xs.length = n * 2) (hi : i < n * 2) : (∃ u, W.cell? ⟨g, i, none⟩ = some u) ∧ W.frozen? ⟨g, i, none⟩ = false ∧ (W.setCell ⟨g, i, none⟩ (.int .i64 ((i : Int) + 1))).ownsRow B 53 2 (.slice (some ⟨g, 0, none⟩) n cap) n (mks xs (i + 1)) ∧ W.grownBy (W.setCell ⟨g, i, none⟩ (.int .i64 ((i : Int) + 1))) (some g) := by
  have hs := h.stored i (.int .i64 ((i : Int) + 1))
  rw [mks_set (by omega)] at hs
  refine ⟨⟨(mks xs i)[i]'(by rw [mks_len xs (by omega)]; omega), ?_⟩, h.frozenAt i, hs.1, hs.2⟩
  rw [h.cellAt i hi]
  exact List.getElem?_eq_getElem _
set_option maxHeartbeats 4000000 in
theorem mark_cells (g cap B n : Nat) (xs : List Value) (hn : n ≤ 100) (w : World) (hown : w.ownsRow B 53 2 (.slice (some ⟨g, 0, none⟩) n cap) n xs) : Calls Try.prog 24 #[.slice (some ⟨g, 0, none⟩) n cap, .int .i64 1] w fun e w' => e = .returned (.int .i64 ((n : Int) * 2 + 1)) ∧ w'.ownsRow B 53 2 (.slice (some ⟨g, 0, none⟩) n cap) n (mks xs (n * 2)) ∧ w.grownBy w' (some g) := by
  have HO := Lib.hid hown
  have hx : xs.length = n * 2 := hown.1
  clear hown
  go_enter Try.func24, Try.ntmps24
  go_wp2_with fail
  go_loopw [1, 5] (fun a b wr => ∃ i : Nat, i ≤ n ∧ a = .int .i64 ((i : Int) * 2 + 1) ∧ b = .int .i64 i ∧ Hid (wr.ownsRow B 53 2 (.slice (some ⟨g, 0, none⟩) n cap) n (mks xs (i * 2)) ∧ w.grownBy wr (some g))) (fun _ b _ => n - (intOf b).toNat)
  case atStart => exact ⟨0, Nat.zero_le _, rfl, rfl, Lib.hid ⟨by rw [Nat.zero_mul, mks_zero]; exact HO.out, ⟨rfl, rfl, rfl, Nat.le_refl _, fun _ _ _ => rfl⟩⟩⟩
  case round =>
    obtain ⟨i, hi, rfl, rfl, HS⟩ := hrel
    by_cases hlt : i < n
    · have hlt' : (i : Int) < n := by omega
      have hi0 : (0 : Int) ≤ i := by omega
      obtain ⟨⟨u, hu⟩, hf, hs⟩ := own_store HS.out.1 hx (show i * 2 < n * 2 by omega)
      have H1 := Lib.hid (show _ ∧ w.grownBy _ (some g) from ⟨hs.1, gtr HS.out.2 hs.2⟩)
      obtain ⟨⟨u2, hu2⟩, hf2, hs2⟩ := own_store H1.out.1 hx (show i * 2 + 1 < n * 2 by omega)
      have H2 := Lib.hid (show _ ∧ w.grownBy _ (some g) from ⟨hs2.1, gtr H1.out.2 hs2.2⟩)
      clear hs hs2 HO H1 HS
      rw [show ((i * 2 + 1 : Nat) : Int) + 1 = ((i : Int) * 2 + 1) + 1 by omega, show ((i * 2 : Nat) : Int) + 1 = (i : Int) * 2 + 1 by omega] at H2
      rw [show ((i * 2 : Nat) : Int) + 1 = (i : Int) * 2 + 1 by omega] at hu2 hf2
      obtain ⟨M, hM⟩ : ∃ M : Int, M = (i : Int) * 2 + 1 := ⟨_, rfl⟩
      have hM1 : 1 ≤ M := by omega
      have hM2 : M ≤ 201 := by omega
      have HM := Lib.hid hM
      rw [← hM] at H2 hu2 hf2 ⊢
      clear hM
      have e1 : wrap64 (M + 1) = M + 1 := by unfold wrap64; omega
      have e2 : wrap64 (M + 1 + 1) = M + 1 + 1 := by unfold wrap64; omega
      go_wp2_with fail
      refine wp_loop_rounds 3 ?_
      rw [rounds_succ]
      go_wp2_with fail
      generalize hW1 : (World.setCell _ _ _ : World) = W1 at hu2 hf2 H2 ⊢
      try rw [rounds_succ]
      go_wp2_with fail
      generalize hW2 : (World.setCell _ _ _ : World) = W2 at H2 ⊢
      clear hW1 hW2 hu hf hu2 hf2
      try rw [rounds_succ]
      go_wp2_with fail
      go_roundw
      case rel => exact ⟨i + 1, by omega, by have := HM.out; simp; omega, by go_num, by rw [show (i + 1) * 2 = i * 2 + 1 + 1 by omega]; exact H2⟩
      case measure => simp [intOf]; omega
    · obtain rfl : i = n := by omega
      go_wp2_with fail
      go_ret
      exact ⟨rfl, HS.out.1, HS.out.2⟩
theorem held_cells (g cap B n : Nat) (xs : List Value) (hn : n ≤ 100) (w : World) (hx : xs.length = n * 2) (hown : w.ownsRow B 53 2 (.slice (some ⟨g, 0, none⟩) n cap) n (mks xs (n * 2))) : Calls Try.prog 25 #[.slice (some ⟨g, 0, none⟩) n cap, .int .i64 1] w fun e w' => e = .returned (.int .i64 ((n : Int) * 2 + 1)) ∧ w' = w := by
  have HO := Lib.hid hown
  clear hown
  go_enter Try.func25, Try.ntmps25
  go_wp2_with fail
  go_loopw [1, 5] (fun a b wr => ∃ i : Nat, i ≤ n ∧ a = .int .i64 ((i : Int) * 2 + 1) ∧ b = .int .i64 i ∧ wr = w) (fun _ b _ => n - (intOf b).toNat)
  case atStart => exact ⟨0, Nat.zero_le _, rfl, rfl, rfl⟩
  case round =>
    obtain ⟨i, hi, rfl, rfl, rfl⟩ := hrel
    by_cases hlt : i < n
    · have hlt' : (i : Int) < n := by omega
      have hi0 : (0 : Int) ≤ i := by omega
      have c0 := own_at HO.out (mks_at xs (show i * 2 < n * 2 by omega))
      have c1 := own_at HO.out (mks_at xs (show i * 2 + 1 < n * 2 by omega))
      rw [show ((i * 2 + 1 : Nat) : Int) + 1 = ((i : Int) * 2 + 1) + 1 by omega] at c1
      rw [show ((i * 2 : Nat) : Int) + 1 = (i : Int) * 2 + 1 by omega] at c0
      obtain ⟨M, hM⟩ : ∃ M : Int, M = (i : Int) * 2 + 1 := ⟨_, rfl⟩
      have hM1 : 1 ≤ M := by omega
      have hM2 : M ≤ 201 := by omega
      have HM := Lib.hid hM
      rw [← hM] at c0 c1 ⊢
      clear hM HO
      have e1 : wrap64 (M + 1) = M + 1 := by unfold wrap64; omega
      have e2 : wrap64 (M + 1 + 1) = M + 1 + 1 := by unfold wrap64; omega
      go_wp2_with fail
      refine wp_loop_rounds 3 ?_
      rw [rounds_succ]
      go_wp2_with fail
      try rw [rounds_succ]
      try go_wp2_with fail
      try rw [rounds_succ]
      try go_wp2_with fail
      go_roundw
      case rel => exact ⟨i + 1, by omega, by have := HM.out; simp; omega, by go_num, by first | rfl | trivial⟩
      case measure => simp [intOf]; omega
    · obtain rfl : i = n := by omega
      go_wp2_with fail
      go_ret
      exact ⟨rfl, rfl⟩
/- Zl -/
theorem cell_lt {w : World} {a : Addr} {v : Value} (h : w.cell? a = some v) : a.block < w.heap.size := by
  by_cases hl : a.block < w.heap.size
  · exact hl
  · have : w.heap[a.block]? = none := Array.getElem?_eq_none (by omega)
    simp [World.cell?, this] at h
section
variable {H : Type} {enc : TypeId × Value → H} {P : Program} {w : World} {base : Nat} {spare : Nat → Bool} {held : Bool}
theorem open_pairs {t e i : TypeId} {fuel : Nat} {a : Option Addr} {len cap : Nat} {x : DataW H × List MemPlace} (ht : P.underlying t = some (.slice e)) (he : P.underlying e = some (.array 2 i)) (hi : P.underlying i = some (.int .i64)) (hci : P.cellsOf i = 1) (hce : P.cellsOf e = 2)
    (h : DataW.trod enc P w base spare held fuel t [.slice a len cap] = some x) : ∃ z : List (Int × Int), z.length = len ∧ len ≤ maxLen ∧ IsPairs w a z ∧ ∀ c ∈ z, (Lit.int .i64 c.1).wf = true ∧ (Lit.int .i64 c.2).wf = true := by
  rcases Go.Deep.open_slice ht h with ⟨hcs, _⟩ | ⟨x', l, c, m, n, D, Pl, hcs, hb, hl, hm, hmm, _, hx⟩
  · simp only [List.cons.injEq, Value.slice.injEq, and_true] at hcs
    obtain ⟨rfl, rfl, rfl⟩ := hcs
    exact ⟨[], rfl, Nat.zero_le _, .inl ⟨rfl, rfl⟩, fun c hc => by simp at hc⟩
  · simp only [List.cons.injEq, Value.slice.injEq, and_true] at hcs
    obtain ⟨rfl, rfl, rfl⟩ := hcs
    have hlm : len ≤ m := by rw [hmm]; split <;> omega
    have each : ∀ j, j < len → ∃ q : Int × Int, w.cell? (x'.add (j * 2)) = some (.int .i64 q.1) ∧ w.cell? (x'.add (j * 2 + 1)) = some (.int .i64 q.2) ∧ (Lit.int .i64 q.1).wf = true ∧ (Lit.int .i64 q.2).wf = true := by
      intro j hj
      obtain ⟨cs', h1, h2⟩ := hx j (by omega)
      rw [hce] at h1
      obtain ⟨_, hlen, hcell⟩ := World.cells?_some h1
      obtain ⟨zs, hzl, hzc, hw⟩ := arr_cells (n := 2) he hi hci hlen h2
      obtain ⟨a1, b1, rfl⟩ := list2 hzl
      subst hzc
      have e0 := hcell 0 (by omega)
      have e1 := hcell 1 (by omega)
      rw [add_one3] at e1
      exact ⟨(a1, b1), by simpa [Addr.add] using e0, by simpa using e1, hw a1 (by simp), hw b1 (by simp)⟩
    obtain ⟨q, hq⟩ := Go.Deep.choose_lt each
    refine ⟨(List.range len).map q, by simp, by omega, .inr ⟨x', rfl, fun j hj => ?_⟩, fun c hc => ?_⟩
    · have hj' : j < len := by simpa using hj
      have hb : (x'.add (j * 2)).block = x'.block := by unfold Addr.add; split <;> rfl
      simp only [List.getElem_map, List.getElem_range]
      exact ⟨by rw [← hb]; exact cell_lt (hq j hj').1, (hq j hj').1, (hq j hj').2.1⟩
    · simp only [List.mem_map, List.mem_range] at hc
      obtain ⟨j, hj, rfl⟩ := hc
      exact ⟨(hq j hj).2.2.1, (hq j hj).2.2.2⟩
end
theorem size_pairs (a : Option Addr) (n cap : Nat) (hn : n ≤ maxLen) (w : World) : Calls Try.prog 28 #[.slice a n cap, .int .i64 1048576] w fun e w' => e = .returned (.int .i64 (if 1048576 < n then -1 else 1048576 - (n : Int))) ∧ w' = w := by
  have hm : n ≤ 9223372036854775807 := by unfold maxLen at hn; omega
  have c1 : IntKind.i64.wrap ((1048576 : Int) - (n : Int)) = 1048576 - (n : Int) := by rw [IntKind.wrap_i64]; omega
  by_cases h : 1048576 < n
  · have h1 : (1048576 : Int) - (n : Int) < 0 := by omega
    go_enter Try.func28, Try.ntmps28
    go_wp2_with fail
    go_ret
    exact ⟨by simp, rfl⟩
  · have h1 : ¬ ((1048576 : Int) - (n : Int) < 0) := by omega
    go_enter Try.func28, Try.ntmps28
    go_wp2_with fail
    go_ret
    exact ⟨by simp, rfl⟩
set_option maxHeartbeats 4000000 in
theorem eqpairs_same (l : List (Int × Int)) (hl : l.length ≤ 1048576) (B C g1 c1 g2 c2 : Nat) (w : World) (h1 : w.ownsRow B 53 2 (.slice (some ⟨g1, 0, none⟩) l.length c1) l.length (cw l)) (h2 : w.ownsRow C 53 2 (.slice (some ⟨g2, 0, none⟩) l.length c2) l.length (cw l)) : Calls Try.prog 23 #[.slice (some ⟨g1, 0, none⟩) l.length c1, .slice (some ⟨g2, 0, none⟩) l.length c2] w fun e w' => e = .returned (.bool true) ∧ Below w.heap.size w w' := by
  have H1 := Lib.hid h1
  have H2 := Lib.hid h2
  clear h1 h2
  go_enter Try.func23, Try.ntmps23
  go_wp2_with fail
  go_loopw [5] (fun i wr => ∃ k : Nat, k ≤ l.length ∧ i = .int .i64 k ∧ Hid (Below w.heap.size w wr)) (fun i _ => l.length - (intOf i).toNat)
  case atStart => exact ⟨0, by omega, rfl, Lib.hid (Below.refl _ _)⟩
  case round =>
    obtain ⟨k, hk, rfl, HB⟩ := hrel
    by_cases hlt : k < l.length
    · have hlt' : (k : Int) < l.length := by omega
      have hk0 : (0 : Int) ≤ k := by omega
      have hk2 : k ≤ 1048576 := by omega
      have O1 := H1.out.kept (grown_below HB.out rfl) (.inr (by simp [Value.ownBlock]))
      have O2 := H2.out.kept (grown_below HB.out rfl) (.inr (by simp [Value.ownBlock]))
      obtain ⟨p1, p2⟩ := cw_at l k hlt
      have a1 := own_at O1 p1
      have a2 := own_at O1 p2
      have b1 := own_at O2 p1
      have b2 := own_at O2 p2
      clear O1 O2 p1 p2
      generalize l[k].1 = X at a1 b1
      generalize l[k].2 = Y at a2 b2
      have HE := Lib.hid (eqa2_same X Y)
      have k0 : (fun U => U.cell? ⟨g1, k * 2, none⟩ = some (.int .i64 X) ∧ U.cell? ⟨g1, k * 2 + 1, none⟩ = some (.int .i64 Y) ∧ U.cell? ⟨g2, k * 2, none⟩ = some (.int .i64 X) ∧ U.cell? ⟨g2, k * 2 + 1, none⟩ = some (.int .i64 Y) ∧ Below w.heap.size w U) wr := ⟨a1, a2, b1, b2, HB.out⟩
      dsimp only at k0
      clear a1 a2 b1 b2
      go_wp2_with fail
      go_region_held3 (fun U => U.cell? ⟨g1, k * 2, none⟩ = some (.int .i64 X) ∧ U.cell? ⟨g1, k * 2 + 1, none⟩ = some (.int .i64 Y) ∧ U.cell? ⟨g2, k * 2, none⟩ = some (.int .i64 X) ∧ U.cell? ⟨g2, k * 2 + 1, none⟩ = some (.int .i64 Y) ∧ Below w.heap.size w U) (first | with_reducible exact drewc4 k0 | with_reducible assumption) (first | (go_at_call 126; with_reducible refine (HE.out _).mono ?_; rintro e w' ⟨rfl, hb'⟩; have hk := keepc4 (by with_reducible assumption) hb' rfl))
      all_goals
        have HB2 := Lib.hid hk.2.2.2.2
        clear hk k0 HB
        go_wp2_with fail
        go_roundw
        case rel => exact ⟨k + 1, by omega, by go_num, HB2⟩
        case measure => simp [intOf]; omega
    · obtain rfl : k = l.length := by omega
      go_wp2_with fail
      go_ret
      exact ⟨rfl, HB.out⟩
/-- The pairs in a row of their own. -/
def Oz (z : List (Int × Int)) (g : Nat) (W : World) : Prop := W.ownsRow 0 53 2 (.slice (some ⟨g, 0, none⟩) z.length z.length) z.length (cw z)
theorem Oz.below {z : List (Int × Int)} {g M : Nat} {W W' : World} (h : Oz z g W) (hb : Below M W W') (hM : M = W.heap.size) : Oz z g W' := h.kept (grown_below hb hM) (.inr (by simp [Value.ownBlock]))
theorem Oz.alloc {z : List (Int × Int)} {g : Nat} {W : World} (h : Oz z g W) (o : Obj) : Oz z g (W.alloc o) := h.below (M := W.heap.size) ((Below.refl _ _).alloc (Nat.le_refl _) o) rfl
/- Lk6 -/
set_option maxRecDepth 8000 in
set_option maxHeartbeats 4000000 in
theorem inkall_core (a0 a1 a2 a3 a4 a5 : Int) (z : List (Int × Int)) (a : Option Addr) (cap : Nat) (hm : z.length ≤ maxLen) (r0 r1 r2 r3 r4 r5 : Int) (t : Bool) (HS : Hid (z.length ≤ 1048576 → ∀ (w : World) (g : Nat), Oz z g w → Calls Try.prog 29 #[.agg #[.int .i64 a0, .int .i64 a1, .int .i64 a2, .int .i64 a3, .int .i64 a4, .int .i64 a5], .slice (some ⟨g, 0, none⟩) z.length z.length] w fun e w' => e = .returned (.tuple #[.agg #[.int .i64 r0, .int .i64 r1, .int .i64 r2, .int .i64 r3, .int .i64 r4, .int .i64 r5], .bool t]) ∧ Below w.heap.size w w')) (HI : Hid (z.length ≤ 1048576 → ∀ (w : World) (g : Nat), Oz z g w → Calls Try.prog 31 #[.agg #[.int .i64 a0, .int .i64 a1, .int .i64 a2, .int .i64 a3, .int .i64 a4, .int .i64 a5], .slice (some ⟨g, 0, none⟩) z.length z.length] w fun e w' => e = .returned (.tuple #[.agg #[.int .i64 r0, .int .i64 r1, .int .i64 r2, .int .i64 r3, .int .i64 r4, .int .i64 r5], .bool t]) ∧ Below w.heap.size w w')) (w : World) (hP : IsPairs w a z) : Calls Try.prog 5 #[.agg #[.int .i64 a0, .int .i64 a1, .int .i64 a2, .int .i64 a3, .int .i64 a4, .int .i64 a5], .slice a z.length cap] w fun e w' => e = .returned (.bool true) ∧ Below w.heap.size w w' := by
  have HZ := Lib.hid (size_pairs a z.length cap hm)
  have HP := Lib.hid hP
  have HU := Lib.hid (to_sheet a0 a1 a2 a3 a4 a5)
  clear hP
  by_cases hbig : 1048576 < z.length
  · simp only [hbig, if_true] at HZ
    clear HS HI
    go_enter Try.func5, Try.ntmps5
    go_wp2_with fail
    refine (HZ.out _).mono ?_
    rintro e w' ⟨rfl, hw⟩
    subst hw
    go_wp2_with fail
    go_ret
    exact ⟨rfl, by (repeat (first | exact Below.refl _ _ | assumption | refine Below.setCell ?_ (by first | (simp; done) | (simp; omega)) _ | refine Below.alloc ?_ (by first | (simp; done) | (simp; omega)) _ | refine Below.drew ?_))⟩
  · have hz : z.length ≤ 1048576 := by omega
    have hge : ¬ ((1048576 : Int) - (z.length : Int) < 0) := by omega
    simp only [hbig, if_false] at HZ
    have HT := Lib.hid (fun (W : World) (hW : Below w.heap.size w W) => topairs_any z hz a cap W (HP.out.below hW))
    have HS := Lib.hid (HS.out hz)
    have HI := Lib.hid (HI.out hz)
    have HQ := Lib.hid (eqpairs_same z hz 0 0)
    go_enter Try.func5, Try.ntmps5
    go_wp2_with fail
    generalize hW : (World.alloc _ _ : World) = W0
    have K0 : KR 1 [(w.heap.size, ol a0 a1 a2 a3 a4 a5)] w W0 := by
      rw [← hW]
      refine ⟨?_, by simp, by (repeat (first | exact Below.refl _ _ | assumption | refine Below.setCell ?_ (by first | (simp; done) | (simp; omega)) _ | refine Below.alloc ?_ (by first | (simp; done) | (simp; omega)) _ | refine Below.drew ?_))⟩
      intro p hp
      simp only [List.mem_cons, List.not_mem_nil, or_false] at hp
      subst hp
      exact ⟨by simp, alloc_at rfl⟩
    clear hW
    refine (HZ.out _).mono ?_
    rintro e w' ⟨rfl, hw⟩
    subst hw
    have a_c := fun j => cell_of_row _ _ j _ _ _ (K0.row (g := w.heap.size) (o := ol a0 a1 a2 a3 a4 a5) (by simp))
    go_wp2_with fail
    refine (HU.out _).mono ?_
    rintro e W1 ⟨rfl, hb⟩
    have K1 := K0.far hb rfl
    clear hb K0 a_c
    go_wp2_with fail
    refine (HT.out _ K1.2.2).mono ?_
    rintro e W2 ⟨g1, rfl, ho, hb⟩
    have o1 : Hid (Oz z g1 W2) := Lib.hid (own_mono ho (Nat.zero_le _))
    have K2 := K1.far hb rfl
    clear ho hb K1
    go_wp2_with fail
    refine (HS.out _ _ o1.out).mono ?_
    rintro e W3 ⟨rfl, hb⟩
    have K3 := K2.far hb rfl
    clear hb K2 o1
    go_wp2_with fail
    have hA : (W3.alloc (.cells #[.int .i64 r0, .int .i64 r1, .int .i64 r2, .int .i64 r3, .int .i64 r4, .int .i64 r5] 28)).heap[W3.heap.size]? = some (.cells #[.int .i64 r0, .int .i64 r1, .int .i64 r2, .int .i64 r3, .int .i64 r4, .int .i64 r5] 28 (0, 0)) := alloc_at rfl
    have K4 := K3.al (o := .cells #[.int .i64 r0, .int .i64 r1, .int .i64 r2, .int .i64 r3, .int .i64 r4, .int .i64 r5] 28)
    clear K3
    generalize (World.alloc _ _ : World) = X4 at hA K4 ⊢
    generalize W3.heap.size = G at hA ⊢
    refine (HT.out _ K4.2.2).mono ?_
    rintro e W5 ⟨g2, rfl, ho, hb⟩
    have o5 : Hid (Oz z g2 W5) := Lib.hid (own_mono ho (Nat.zero_le _))
    have hA5 := rowk hA hb rfl
    have K5 := K4.far hb rfl
    clear ho hb K4 hA
    have a_c := fun j => cell_of_row _ _ j _ _ _ (K5.row (g := w.heap.size) (o := ol a0 a1 a2 a3 a4 a5) (by simp))
    go_wp2_with fail
    refine (HU.out _).mono ?_
    rintro e W6 ⟨rfl, hb⟩
    have o6 := Lib.hid (o5.out.below hb rfl)
    have hA6 := rowk hA5 hb rfl
    have K6 := K5.far hb rfl
    clear hb K5 hA5 o5 a_c
    go_wp2_with fail
    refine (HI.out _ _ o6.out).mono ?_
    rintro e W7 ⟨rfl, hb⟩
    have o7 := Lib.hid (o6.out.below hb rfl)
    have hA7 := rowk hA6 hb rfl
    have hB7 := Lib.hid (K6.far hb rfl).2.2
    clear hb K6 hA6 o6
    have glt := row_lt hA7
    have gne := Nat.ne_of_lt glt
    have a_c := fun j => cell_of_row W7 _ j _ _ _ hA7
    go_wp2_with fail
    have o8 := Lib.hid (o7.out.alloc (.cells #[.int .i64 r0, .int .i64 r1, .int .i64 r2, .int .i64 r3, .int .i64 r4, .int .i64 r5] 28))
    have hB8 := Lib.hid (hB7.out.alloc hB7.out.size (.cells #[.int .i64 r0, .int .i64 r1, .int .i64 r2, .int .i64 r3, .int .i64 r4, .int .i64 r5] 28))
    clear hB7 o7 hA7 glt gne a_c
    generalize (World.alloc _ _ : World) = X8 at o8 hB8 ⊢
    refine (eq_same r0 r1 r2 r3 r4 r5 _).mono ?_
    rintro e W9 ⟨rfl, hb⟩
    have o9 := Lib.hid (o8.out.below hb rfl)
    have hB9 := Lib.hid (below_of hB8.out hb hB8.out.size)
    clear hb hB8 o8
    go_wp2_with fail
    refine (HT.out _ hB9.out).mono ?_
    rintro e W10 ⟨g3, rfl, ho, hb⟩
    have q3 : Hid (Oz z g3 W10) := Lib.hid (own_mono ho (Nat.zero_le _))
    have o10 := Lib.hid (o9.out.below hb rfl)
    have hB10 := Lib.hid (below_of hB9.out hb hB9.out.size)
    clear ho hb hB9 o9
    go_wp2_with fail
    refine (HQ.out _ _ _ _ _ o10.out q3.out).mono ?_
    rintro e W11 ⟨rfl, hb⟩
    have hB11 := Lib.hid (below_of hB10.out hb hB10.out.size)
    clear hb hB10 o10 q3
    go_wp2_with fail
    go_ret
    exact ⟨rfl, hB11.out⟩
theorem inkall_law (a0 a1 a2 a3 a4 a5 : Int) (z : List (Int × Int)) (a : Option Addr) (cap : Nat) (hm : z.length ≤ maxLen) (hwf : ∀ c ∈ z, (Lit.int .i64 c.1).wf = true ∧ (Lit.int .i64 c.2).wf = true) (w : World) (hP : IsPairs w a z) : Calls Try.prog 5 #[.agg #[.int .i64 a0, .int .i64 a1, .int .i64 a2, .int .i64 a3, .int .i64 a4, .int .i64 a5], .slice a z.length cap] w fun e w' => e = .returned (.bool true) ∧ Below w.heap.size w w' := by
  by_cases hz : z.length ≤ 1048576
  · obtain ⟨r0, r1, r2, r3, r4, r5, t, h1, h2⟩ := inkall_pair a0 a1 a2 a3 a4 a5 z hz hwf
    exact inkall_core a0 a1 a2 a3 a4 a5 z a cap hm r0 r1 r2 r3 r4 r5 t (Lib.hid fun _ w g hO => h1 w g _ hO) (Lib.hid fun _ w g hO => h2 w g _ hO) w hP
  · exact inkall_core a0 a1 a2 a3 a4 a5 z a cap hm 0 0 0 0 0 0 false (Lib.hid fun h => absurd h hz) (Lib.hid fun h => absurd h hz) w hP
end Go.Proofs.Ytbmfjcmlgndofaa
