/- Digits of numbers of 64 bits, and of the difference of two products; which way one turns, by the document. -/
import Derived.Test.YtjfdlamfklhodaaF14
import Derived.Test.YtjfdlamfklhodaaD2
import Derived.Test.YtjfdlamfklhodaaG
set_option linter.unusedVariables false
namespace Go.Proofs.Ytjfdlamfklhodaa
open Go.ChangeShapes Go.WideShapes Go.ChangeAt Go.RowKit
set_option maxHeartbeats 2000000 in
theorem long_pos (a d0 d1 d2 d3 d4 d5 d6 d7 d8 : Int) (ha : 0 ≤ a) (a0 : -9223372036854775808 ≤ a) (a1 : a ≤ 9223372036854775807) (HR : Hid (∀ w : World, Calls Try.prog 38 #[.agg #[.int .i64 0, .int .u64 a]] w fun e w' => e = .returned (.agg #[.int .u64 d0, .int .u64 d1, .int .u64 d2, .int .u64 d3, .int .u64 d4, .int .u64 d5, .int .u64 d6, .int .u64 d7, .int .u64 d8]) ∧ Below w.heap.size w w')) (w : World) :
    Calls Try.prog 30 #[.int .i64 a] w fun e w' => e = .returned (.agg #[.int .u64 d0, .int .u64 d1, .int .u64 d2, .int .u64 d3, .int .u64 d4, .int .u64 d5, .int .u64 d6, .int .u64 d7, .int .u64 d8]) ∧ Below w.heap.size w w' := by
  have hw : IntKind.u64.wrap a = a := by rw [wrapu]; omega
  have hn : ¬ a < 0 := by omega
  clear a0 a1
  go_enter Try.func30, Try.ntmps30
  go_wp2_with fail
  refine (HR.out _).mono ?_
  rintro e w1 ⟨rfl, hb⟩
  obtain ⟨hc, hf⟩ := bcell hb
  have hz : w.heap.size + 1 < w1.heap.size := by have := hb.size; simp at this; omega
  have hz0 : w.heap.size < w1.heap.size := by omega
  have cc : ∀ o, o < 9 → w1.cell? ⟨w.heap.size, o, none⟩ = some (.int .u64 0) := by
    intro o ho
    rw [hc _ _ (by simp <;> omega)]
    rcases (by omega : o = 0 ∨ o = 1 ∨ o = 2 ∨ o = 3 ∨ o = 4 ∨ o = 5 ∨ o = 6 ∨ o = 7 ∨ o = 8) with rfl | rfl | rfl | rfl | rfl | rfl | rfl | rfl | rfl <;> go_simp
  have c0 := cc 0 (by omega)
  have c1 := cc 1 (by omega)
  have c2 := cc 2 (by omega)
  have c3 := cc 3 (by omega)
  have c4 := cc 4 (by omega)
  have c5 := cc 5 (by omega)
  have c6 := cc 6 (by omega)
  have c7 := cc 7 (by omega)
  have c8 := cc 8 (by omega)
  have hk : Below w.heap.size w w1 := below_below (by simp) hb (by repeat (first | with_reducible exact Below.refl _ _ | with_reducible assumption | with_reducible refine Below.setCell ?_ (by first | omega | (simp <;> omega)) _ | with_reducible refine below_drewN ?_ _ | with_reducible refine Below.drew ?_ | with_reducible refine Below.alloc ?_ (by first | omega | (simp <;> omega)) _))
  go_wp2_with fail
  exact bodyPost_ret (v := .agg #[.int .u64 d0, .int .u64 d1, .int .u64 d2, .int .u64 d3, .int .u64 d4, .int .u64 d5, .int .u64 d6, .int .u64 d7, .int .u64 d8]) (by simp [results, Try.results30, go_sem, hz, hz0, c0, c1, c2, c3, c4, c5, c6, c7, c8]) rfl ⟨rfl, (by repeat (first | with_reducible exact Below.refl _ _ | with_reducible assumption | with_reducible refine Below.setCell ?_ (by first | omega | (simp <;> omega)) _ | with_reducible refine below_drewN ?_ _ | with_reducible refine Below.drew ?_ | with_reducible refine Below.alloc ?_ (by first | omega | (simp <;> omega)) _))⟩
set_option maxHeartbeats 2000000 in
theorem long_neg (a d0 d1 d2 d3 d4 d5 d6 d7 d8 : Int) (ha : a < 0) (a0 : -9223372036854775808 ≤ a) (a1 : a ≤ 9223372036854775807) (HR : Hid (∀ w : World, Calls Try.prog 38 #[.agg #[.int .i64 (-1), .int .u64 (a + 18446744073709551616)]] w fun e w' => e = .returned (.agg #[.int .u64 d0, .int .u64 d1, .int .u64 d2, .int .u64 d3, .int .u64 d4, .int .u64 d5, .int .u64 d6, .int .u64 d7, .int .u64 d8]) ∧ Below w.heap.size w w')) (w : World) :
    Calls Try.prog 30 #[.int .i64 a] w fun e w' => e = .returned (.agg #[.int .u64 d0, .int .u64 d1, .int .u64 d2, .int .u64 d3, .int .u64 d4, .int .u64 d5, .int .u64 d6, .int .u64 d7, .int .u64 d8]) ∧ Below w.heap.size w w' := by
  have hw : IntKind.u64.wrap a = a + 18446744073709551616 := by rw [wrapu]; omega
  skip
  clear a0 a1
  go_enter Try.func30, Try.ntmps30
  go_wp2_with fail
  refine (HR.out _).mono ?_
  rintro e w1 ⟨rfl, hb⟩
  obtain ⟨hc, hf⟩ := bcell hb
  have hz : w.heap.size + 1 < w1.heap.size := by have := hb.size; simp at this; omega
  have hz0 : w.heap.size < w1.heap.size := by omega
  have cc : ∀ o, o < 9 → w1.cell? ⟨w.heap.size, o, none⟩ = some (.int .u64 0) := by
    intro o ho
    rw [hc _ _ (by simp <;> omega)]
    rcases (by omega : o = 0 ∨ o = 1 ∨ o = 2 ∨ o = 3 ∨ o = 4 ∨ o = 5 ∨ o = 6 ∨ o = 7 ∨ o = 8) with rfl | rfl | rfl | rfl | rfl | rfl | rfl | rfl | rfl <;> go_simp
  have c0 := cc 0 (by omega)
  have c1 := cc 1 (by omega)
  have c2 := cc 2 (by omega)
  have c3 := cc 3 (by omega)
  have c4 := cc 4 (by omega)
  have c5 := cc 5 (by omega)
  have c6 := cc 6 (by omega)
  have c7 := cc 7 (by omega)
  have c8 := cc 8 (by omega)
  have hk : Below w.heap.size w w1 := below_below (by simp) hb (by repeat (first | with_reducible exact Below.refl _ _ | with_reducible assumption | with_reducible refine Below.setCell ?_ (by first | omega | (simp <;> omega)) _ | with_reducible refine below_drewN ?_ _ | with_reducible refine Below.drew ?_ | with_reducible refine Below.alloc ?_ (by first | omega | (simp <;> omega)) _))
  go_wp2_with fail
  exact bodyPost_ret (v := .agg #[.int .u64 d0, .int .u64 d1, .int .u64 d2, .int .u64 d3, .int .u64 d4, .int .u64 d5, .int .u64 d6, .int .u64 d7, .int .u64 d8]) (by simp [results, Try.results30, go_sem, hz, hz0, c0, c1, c2, c3, c4, c5, c6, c7, c8]) rfl ⟨rfl, (by repeat (first | with_reducible exact Below.refl _ _ | with_reducible assumption | with_reducible refine Below.setCell ?_ (by first | omega | (simp <;> omega)) _ | with_reducible refine below_drewN ?_ _ | with_reducible refine Below.drew ?_ | with_reducible refine Below.alloc ?_ (by first | omega | (simp <;> omega)) _))⟩
theorem long_dg (a : Int) (a0 : -9223372036854775808 ≤ a) (a1 : a ≤ 9223372036854775807) (w : World) : Calls Try.prog 30 #[.int .i64 a] w fun e w' => e = .returned (dg a) ∧ Below w.heap.size w w' := by
  obtain ⟨d0, d1, d2, d3, d4, d5, d6, d7, d8, q, -, -, ea, -⟩ := dg_nine a
  rw [ea]
  by_cases c : a < 0
  · refine long_neg a d0 d1 d2 d3 d4 d5 d6 d7 d8 c a0 a1 (Lib.hid fun w => ?_) w
    have h := of_dg (-1) (a + 18446744073709551616) (by omega) (by omega) (by omega) (by omega) w
    rw [show -1 * 18446744073709551616 + (a + 18446744073709551616) = a by omega, ea] at h
    exact h
  · refine long_pos a d0 d1 d2 d3 d4 d5 d6 d7 d8 (by omega) a0 a1 (Lib.hid fun w => ?_) w
    have h := of_dg 0 a (by omega) (by omega) (by omega) (by omega) w
    rw [show 0 * 18446744073709551616 + a = a by omega, ea] at h
    exact h
set_option maxHeartbeats 4000000 in
theorem cross_dg (a b c d : Int) (a0 : -9223372036854775808 ≤ a) (a1 : a ≤ 9223372036854775807) (b0 : -9223372036854775808 ≤ b) (b1 : b ≤ 9223372036854775807) (c0 : -9223372036854775808 ≤ c) (c1 : c ≤ 9223372036854775807) (d0' : -9223372036854775808 ≤ d) (d1' : d ≤ 9223372036854775807) (w : World) :
    Calls Try.prog 74 #[.int .i64 a, .int .i64 b, .int .i64 c, .int .i64 d] w fun e w' => e = .returned (dg (a * b + -(c * d))) ∧ Below w.heap.size w w' := by
  obtain ⟨d0, d1, d2, d3, d4, d5, d6, d7, d8, q, -, -, ea, -⟩ := dg_nine (a * b + -(c * d))
  have La : ∀ w : World, Calls Try.prog 30 #[.int .i64 a] w fun e w' => e = .returned (dg a) ∧ Below w.heap.size w w' := fun w => long_dg a a0 a1 w
  have HLa := Lib.hid La
  clear La
  have Lb : ∀ w : World, Calls Try.prog 30 #[.int .i64 b] w fun e w' => e = .returned (dg b) ∧ Below w.heap.size w w' := fun w => long_dg b b0 b1 w
  have HLb := Lib.hid Lb
  clear Lb
  have Lc : ∀ w : World, Calls Try.prog 30 #[.int .i64 c] w fun e w' => e = .returned (dg c) ∧ Below w.heap.size w w' := fun w => long_dg c c0 c1 w
  have HLc := Lib.hid Lc
  clear Lc
  have Ld : ∀ w : World, Calls Try.prog 30 #[.int .i64 d] w fun e w' => e = .returned (dg d) ∧ Below w.heap.size w w' := fun w => long_dg d d0' d1' w
  have HLd := Lib.hid Ld
  clear Ld
  have M1 : ∀ w : World, Calls Try.prog 29 #[dg a, dg b] w fun e w' => e = .returned (dg (a * b)) ∧ Below w.heap.size w w' := fun w => mul_dg a b w
  have HM1 := Lib.hid M1
  clear M1
  have M2 : ∀ w : World, Calls Try.prog 29 #[dg c, dg d] w fun e w' => e = .returned (dg (c * d)) ∧ Below w.heap.size w w' := fun w => mul_dg c d w
  have HM2 := Lib.hid M2
  clear M2
  have N1 : ∀ w : World, Calls Try.prog 39 #[dg (c * d)] w fun e w' => e = .returned (dg (-(c * d))) ∧ Below w.heap.size w w' := fun w => neg_dg _ w
  have HN1 := Lib.hid N1
  clear N1
  have A1 : ∀ w : World, Calls Try.prog 37 #[dg (a * b), dg (-(c * d))] w fun e w' => e = .returned (.agg #[.int .u64 d0, .int .u64 d1, .int .u64 d2, .int .u64 d3, .int .u64 d4, .int .u64 d5, .int .u64 d6, .int .u64 d7, .int .u64 d8]) ∧ Below w.heap.size w w' := fun w => by rw [← ea]; exact add_dg _ _ w
  have HA1 := Lib.hid A1
  clear A1
  rw [ea]
  clear ea a0 a1 b0 b1 c0 c1 d0' d1'
  generalize dg a = vA at *
  generalize dg b = vB at *
  generalize dg c = vC at *
  generalize dg d = vD at *
  generalize dg (a * b) = vM at *
  generalize dg (c * d) = vN at *
  generalize dg (-(c * d)) = vO at *
  go_enter Try.func74, Try.ntmps74
  go_wp2_with fail
  have B0 : Hid (Blk (w.alloc (.cells #[.int .u64 0, .int .u64 0, .int .u64 0, .int .u64 0, .int .u64 0, .int .u64 0, .int .u64 0, .int .u64 0, .int .u64 0] 39)) w.heap.size 39 #[.int .u64 0, .int .u64 0, .int .u64 0, .int .u64 0, .int .u64 0, .int .u64 0, .int .u64 0, .int .u64 0, .int .u64 0]) := Lib.hid (Blk.new w 39 #[.int .u64 0, .int .u64 0, .int .u64 0, .int .u64 0, .int .u64 0, .int .u64 0, .int .u64 0, .int .u64 0, .int .u64 0])
  have K0 : Below w.heap.size w (w.alloc (.cells #[.int .u64 0, .int .u64 0, .int .u64 0, .int .u64 0, .int .u64 0, .int .u64 0, .int .u64 0, .int .u64 0, .int .u64 0] 39)) := (Below.refl _ _).alloc (Nat.le_refl _) _
  refine (HLa.out _).mono ?_
  rintro e w1 ⟨rfl, hx1⟩
  have B1 : Hid (Blk w1 w.heap.size 39 #[.int .u64 0, .int .u64 0, .int .u64 0, .int .u64 0, .int .u64 0, .int .u64 0, .int .u64 0, .int .u64 0, .int .u64 0]) := Lib.hid (B0.out.below hx1 B0.out.lt)
  have K1 : Below w.heap.size w w1 := K0.trans (hx1.mono K0.size)
  clear hx1 B0 K0
  go_wp2_with fail
  refine (HLb.out _).mono ?_
  rintro e w2 ⟨rfl, hx2⟩
  have B2 : Hid (Blk w2 w.heap.size 39 #[.int .u64 0, .int .u64 0, .int .u64 0, .int .u64 0, .int .u64 0, .int .u64 0, .int .u64 0, .int .u64 0, .int .u64 0]) := Lib.hid (B1.out.below hx2 B1.out.lt)
  have K2 : Below w.heap.size w w2 := K1.trans (hx2.mono K1.size)
  clear hx2 B1 K1
  go_wp2_with fail
  refine (HM1.out _).mono ?_
  rintro e w3 ⟨rfl, hx3⟩
  have B3 : Hid (Blk w3 w.heap.size 39 #[.int .u64 0, .int .u64 0, .int .u64 0, .int .u64 0, .int .u64 0, .int .u64 0, .int .u64 0, .int .u64 0, .int .u64 0]) := Lib.hid (B2.out.below hx3 B2.out.lt)
  have K3 : Below w.heap.size w w3 := K2.trans (hx3.mono K2.size)
  clear hx3 B2 K2
  go_wp2_with fail
  refine (HLc.out _).mono ?_
  rintro e w4 ⟨rfl, hx4⟩
  have B4 : Hid (Blk w4 w.heap.size 39 #[.int .u64 0, .int .u64 0, .int .u64 0, .int .u64 0, .int .u64 0, .int .u64 0, .int .u64 0, .int .u64 0, .int .u64 0]) := Lib.hid (B3.out.below hx4 B3.out.lt)
  have K4 : Below w.heap.size w w4 := K3.trans (hx4.mono K3.size)
  clear hx4 B3 K3
  go_wp2_with fail
  refine (HLd.out _).mono ?_
  rintro e w5 ⟨rfl, hx5⟩
  have B5 : Hid (Blk w5 w.heap.size 39 #[.int .u64 0, .int .u64 0, .int .u64 0, .int .u64 0, .int .u64 0, .int .u64 0, .int .u64 0, .int .u64 0, .int .u64 0]) := Lib.hid (B4.out.below hx5 B4.out.lt)
  have K5 : Below w.heap.size w w5 := K4.trans (hx5.mono K4.size)
  clear hx5 B4 K4
  go_wp2_with fail
  refine (HM2.out _).mono ?_
  rintro e w6 ⟨rfl, hx6⟩
  have B6 : Hid (Blk w6 w.heap.size 39 #[.int .u64 0, .int .u64 0, .int .u64 0, .int .u64 0, .int .u64 0, .int .u64 0, .int .u64 0, .int .u64 0, .int .u64 0]) := Lib.hid (B5.out.below hx6 B5.out.lt)
  have K6 : Below w.heap.size w w6 := K5.trans (hx6.mono K5.size)
  clear hx6 B5 K5
  go_wp2_with fail
  refine (HN1.out _).mono ?_
  rintro e w7 ⟨rfl, hx7⟩
  have B7 : Hid (Blk w7 w.heap.size 39 #[.int .u64 0, .int .u64 0, .int .u64 0, .int .u64 0, .int .u64 0, .int .u64 0, .int .u64 0, .int .u64 0, .int .u64 0]) := Lib.hid (B6.out.below hx7 B6.out.lt)
  have K7 : Below w.heap.size w w7 := K6.trans (hx7.mono K6.size)
  clear hx7 B6 K6
  go_wp2_with fail
  refine (HA1.out _).mono ?_
  rintro e w8 ⟨rfl, hx8⟩
  have B8 : Hid (Blk w8 w.heap.size 39 #[.int .u64 0, .int .u64 0, .int .u64 0, .int .u64 0, .int .u64 0, .int .u64 0, .int .u64 0, .int .u64 0, .int .u64 0]) := Lib.hid (B7.out.below hx8 B7.out.lt)
  have K8 : Below w.heap.size w w8 := K7.trans (hx8.mono K7.size)
  clear hx8 B7 K7
  have q0 : w8.cell? ⟨w.heap.size, 0, none⟩ = some (.int .u64 0) := by rw [B8.out.cell]; rfl
  have f0 : w8.frozen? ⟨w.heap.size, 0, none⟩ = false := B8.out.frozen 0
  have q1 : w8.cell? ⟨w.heap.size, 1, none⟩ = some (.int .u64 0) := by rw [B8.out.cell]; rfl
  have f1 : w8.frozen? ⟨w.heap.size, 1, none⟩ = false := B8.out.frozen 1
  have q2 : w8.cell? ⟨w.heap.size, 2, none⟩ = some (.int .u64 0) := by rw [B8.out.cell]; rfl
  have f2 : w8.frozen? ⟨w.heap.size, 2, none⟩ = false := B8.out.frozen 2
  have q3 : w8.cell? ⟨w.heap.size, 3, none⟩ = some (.int .u64 0) := by rw [B8.out.cell]; rfl
  have f3 : w8.frozen? ⟨w.heap.size, 3, none⟩ = false := B8.out.frozen 3
  have q4 : w8.cell? ⟨w.heap.size, 4, none⟩ = some (.int .u64 0) := by rw [B8.out.cell]; rfl
  have f4 : w8.frozen? ⟨w.heap.size, 4, none⟩ = false := B8.out.frozen 4
  have q5 : w8.cell? ⟨w.heap.size, 5, none⟩ = some (.int .u64 0) := by rw [B8.out.cell]; rfl
  have f5 : w8.frozen? ⟨w.heap.size, 5, none⟩ = false := B8.out.frozen 5
  have q6 : w8.cell? ⟨w.heap.size, 6, none⟩ = some (.int .u64 0) := by rw [B8.out.cell]; rfl
  have f6 : w8.frozen? ⟨w.heap.size, 6, none⟩ = false := B8.out.frozen 6
  have q7 : w8.cell? ⟨w.heap.size, 7, none⟩ = some (.int .u64 0) := by rw [B8.out.cell]; rfl
  have f7 : w8.frozen? ⟨w.heap.size, 7, none⟩ = false := B8.out.frozen 7
  have q8 : w8.cell? ⟨w.heap.size, 8, none⟩ = some (.int .u64 0) := by rw [B8.out.cell]; rfl
  have f8 : w8.frozen? ⟨w.heap.size, 8, none⟩ = false := B8.out.frozen 8
  have hzr := B8.out.lt
  go_wp2_with fail
  exact bodyPost_ret (v := .agg #[.int .u64 d0, .int .u64 d1, .int .u64 d2, .int .u64 d3, .int .u64 d4, .int .u64 d5, .int .u64 d6, .int .u64 d7, .int .u64 d8]) (by simp [results, Try.results74, go_sem, hzr, q0, q1, q2, q3, q4, q5, q6, q7, q8]) rfl ⟨rfl, (by repeat (first | with_reducible exact Below.refl _ _ | with_reducible assumption | with_reducible refine Below.setCell ?_ (by first | omega | (simp <;> omega)) _ | with_reducible refine below_drewN ?_ _ | with_reducible refine Below.drew ?_ | with_reducible refine Below.alloc ?_ (by first | omega | (simp <;> omega)) _))⟩
end Go.Proofs.Ytjfdlamfklhodaa
