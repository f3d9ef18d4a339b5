/- Which way one turns by three points, and whether one lies between two, by the document and by the code. -/
import Derived.Test.YtjfdlamfklhodaaF15
import Derived.Deep.DeepCutAuto
set_option linter.unusedVariables false
namespace Go.Proofs.Ytjfdlamfklhodaa
open Go.ChangeShapes Go.WideShapes Go.ChangeAt Go.RowKit
def tuK (x1 y1 x2 y2 x3 y3 : Int) : Int := if (plK x1 y1 && (plK x2 y2 && plK x3 y3)) = true then sg (crK x1 y1 x2 y2 x3 y3) else 0
theorem tuK_yes {x1 y1 x2 y2 x3 y3 : Int} (h1 : plK x1 y1 = true) (h2 : plK x2 y2 = true) (h3 : plK x3 y3 = true) : sg (crK x1 y1 x2 y2 x3 y3) = tuK x1 y1 x2 y2 x3 y3 := by
  unfold tuK; rw [h1, h2, h3]; rfl
theorem tuK_no {x1 y1 x2 y2 x3 y3 : Int} (h : (plK x1 y1 && (plK x2 y2 && plK x3 y3)) = false) : 0 = tuK x1 y1 x2 y2 x3 y3 := by
  unfold tuK; rw [h]; rfl
theorem turn_any (i1 x1 y1 i2 x2 y2 i3 x3 y3 : Int) (w : World) : Calls Try.prog 54 #[.agg #[.int .i64 i1, .int .i64 x1, .int .i64 y1], .agg #[.int .i64 i2, .int .i64 x2, .int .i64 y2], .agg #[.int .i64 i3, .int .i64 x3, .int .i64 y3]] w fun e w' => e = .returned (.int .i64 (tuK x1 y1 x2 y2 x3 y3)) ∧ Below w.heap.size w w' := by
  cases h : (plK x1 y1 && (plK x2 y2 && plK x3 y3))
  · exact as_int (turn_no i1 x1 y1 i2 x2 y2 i3 x3 y3 h w) (tuK_no h)
  · obtain ⟨h1, h23⟩ := Bool.and_eq_true_iff.1 h
    obtain ⟨h2, h3⟩ := Bool.and_eq_true_iff.1 h23
    exact as_int (turn_yes i1 x1 y1 i2 x2 y2 i3 x3 y3 h1 h2 h3 w) (tuK_yes h1 h2 h3)
theorem crK_turn (x1 y1 x2 y2 x3 y3 : Int) : crK x2 y2 x3 y3 x1 y1 = crK x1 y1 x2 y2 x3 y3 := by unfold crK; grind
theorem crK_back (x1 y1 x2 y2 x3 y3 : Int) : crK x1 y1 x3 y3 x2 y2 = -(crK x1 y1 x2 y2 x3 y3) := by unfold crK; grind
theorem sg_neg (n : Int) : sg (-n) = -sg n := by
  unfold sg
  by_cases h : n < 0
  · rw [if_pos h, if_neg (by omega), if_pos (by omega)]; rfl
  · by_cases h' : 0 < n
    · rw [if_neg h, if_pos h', if_pos (by omega)]
    · rw [if_neg h, if_neg h', if_neg (by omega), if_neg (by omega)]; rfl
theorem tuK_turn (x1 y1 x2 y2 x3 y3 : Int) : tuK x2 y2 x3 y3 x1 y1 = tuK x1 y1 x2 y2 x3 y3 := by
  unfold tuK; rw [crK_turn]
  cases plK x1 y1 <;> cases plK x2 y2 <;> cases plK x3 y3 <;> rfl
theorem tuK_back (x1 y1 x2 y2 x3 y3 : Int) : tuK x1 y1 x3 y3 x2 y2 = -tuK x1 y1 x2 y2 x3 y3 := by
  unfold tuK; rw [crK_back, sg_neg]
  cases plK x1 y1 <;> cases plK x2 y2 <;> cases plK x3 y3 <;> simp
theorem tuK_bd (x1 y1 x2 y2 x3 y3 : Int) : -1 ≤ tuK x1 y1 x2 y2 x3 y3 ∧ tuK x1 y1 x2 y2 x3 y3 ≤ 1 := by
  unfold tuK sg; split <;> (try split) <;> (try split) <;> omega
theorem pr_bd {a b : Int} (a0 : -2199023255552 ≤ a) (a1 : a ≤ 2199023255552) (b0 : -2199023255552 ≤ b) (b1 : b ≤ 2199023255552) : -4835703278458516698824704 ≤ a * b ∧ a * b ≤ 4835703278458516698824704 := by
  have h1 : (a * b).natAbs ≤ 2199023255552 * 2199023255552 := by rw [Int.natAbs_mul]; exact Nat.mul_le_mul (by omega) (by omega)
  omega
set_option maxRecDepth 100000 in
set_option maxHeartbeats 8000000 in
theorem rturn_yes (i1 x1 y1 i2 x2 y2 i3 x3 y3 : Int) (h1 : plK x1 y1 = true) (h2 : plK x2 y2 = true) (h3 : plK x3 y3 = true) (w : World) :
    Calls Try.prog 55 #[.agg #[.int .i64 i1, .int .i64 x1, .int .i64 y1], .agg #[.int .i64 i2, .int .i64 x2, .int .i64 y2], .agg #[.int .i64 i3, .int .i64 x3, .int .i64 y3]] w fun e w' => e = .returned (.int .i64 (sg (crK x1 y1 x2 y2 x3 y3))) ∧ Below w.heap.size w w' := by
  obtain ⟨a1, a2⟩ := coK_bd (Bool.and_eq_true_iff.1 h1).1
  obtain ⟨a3, a4⟩ := coK_bd (Bool.and_eq_true_iff.1 h1).2
  obtain ⟨b1, b2⟩ := coK_bd (Bool.and_eq_true_iff.1 h2).1
  obtain ⟨b3, b4⟩ := coK_bd (Bool.and_eq_true_iff.1 h2).2
  obtain ⟨c1, c2⟩ := coK_bd (Bool.and_eq_true_iff.1 h3).1
  obtain ⟨c3, c4⟩ := coK_bd (Bool.and_eq_true_iff.1 h3).2
  obtain ⟨e1, e2⟩ := pr_bd (a := x2 - x1) (b := y3 - y1) (by omega) (by omega) (by omega) (by omega)
  obtain ⟨e3, e4⟩ := pr_bd (a := y2 - y1) (b := x3 - x1) (by omega) (by omega) (by omega) (by omega)
  have L1 : ∀ w : World, Calls Try.prog 66 #[.agg #[.int .i64 i1, .int .i64 x1, .int .i64 y1]] w fun e w' => e = .returned (.bool true) ∧ Below w.heap.size w w' := fun w => by rw [← h1]; exact klies _ _ _ w
  have HL1 := Lib.hid L1
  clear L1
  have L2 : ∀ w : World, Calls Try.prog 66 #[.agg #[.int .i64 i2, .int .i64 x2, .int .i64 y2]] w fun e w' => e = .returned (.bool true) ∧ Below w.heap.size w w' := fun w => by rw [← h2]; exact klies _ _ _ w
  have HL2 := Lib.hid L2
  clear L2
  have L3 : ∀ w : World, Calls Try.prog 66 #[.agg #[.int .i64 i3, .int .i64 x3, .int .i64 y3]] w fun e w' => e = .returned (.bool true) ∧ Below w.heap.size w w' := fun w => by rw [← h3]; exact klies _ _ _ w
  have HL3 := Lib.hid L3
  clear L3
  have X : ∀ w : World, Calls Try.prog 74 #[.int .i64 (x2 - x1), .int .i64 (y3 - y1), .int .i64 (y2 - y1), .int .i64 (x3 - x1)] w fun e w' => e = .returned (dg (((x2 - x1) * (y3 - y1)) + -((y2 - y1) * (x3 - x1)))) ∧ Below w.heap.size w w' := fun w => cross_dg _ _ _ _ (by omega) (by omega) (by omega) (by omega) (by omega) (by omega) (by omega) (by omega) w
  have HX := Lib.hid X
  clear X
  have Z : ∀ w : World, Calls Try.prog 30 #[.int .i64 0] w fun e w' => e = .returned (dg 0) ∧ Below w.heap.size w w' := fun w => long_dg 0 (by omega) (by omega) w
  have HZ := Lib.hid Z
  clear Z
  have C : ∀ w : World, Calls Try.prog 41 #[dg (((x2 - x1) * (y3 - y1)) + -((y2 - y1) * (x3 - x1))), dg 0] w fun e w' => e = .returned (.int .i64 (sg (crK x1 y1 x2 y2 x3 y3))) ∧ Below w.heap.size w w' := fun w => as_int (cmp_dg (((x2 - x1) * (y3 - y1)) + -((y2 - y1) * (x3 - x1))) 0 (by omega) (by omega) (by omega) (by omega) w) (congrArg sg (by unfold crK; omega))
  have HC := Lib.hid C
  clear C
  clear e1 e2 e3 e4 h1 h2 h3
  generalize dg (((x2 - x1) * (y3 - y1)) + -((y2 - y1) * (x3 - x1))) = vX at *
  generalize dg 0 = vZ at *
  generalize sg (crK x1 y1 x2 y2 x3 y3) = t at *
  go_enter Try.func55, Try.ntmps55
  go_wp2_with fail
  refine (HL1.out _).mono ?_
  rintro e w1 ⟨rfl, hx1⟩
  have K1 : Below w.heap.size w w1 ∧ w1.cell? ⟨w.heap.size, 0, none⟩ = some (.int .i64 i1) ∧ w1.cell? ⟨w.heap.size, 1, none⟩ = some (.int .i64 x1) ∧ w1.cell? ⟨w.heap.size, 2, none⟩ = some (.int .i64 y1) ∧ w1.cell? ⟨w.heap.size + 1, 0, none⟩ = some (.int .i64 i2) ∧ w1.cell? ⟨w.heap.size + 1, 1, none⟩ = some (.int .i64 x2) ∧ w1.cell? ⟨w.heap.size + 1, 2, none⟩ = some (.int .i64 y2) ∧ w1.cell? ⟨w.heap.size + 1 + 1, 0, none⟩ = some (.int .i64 i3) ∧ w1.cell? ⟨w.heap.size + 1 + 1, 1, none⟩ = some (.int .i64 x3) ∧ w1.cell? ⟨w.heap.size + 1 + 1, 2, none⟩ = some (.int .i64 y3) := by
    refine keep9 (Nat.le_refl _) hx1 ?_
    ((repeat' apply And.intro) <;> first | (go_keep; done) | (go_simp; done) | (repeat (first | exact Below.refl _ _ | assumption | refine Below.drew ?_ | refine Below.alloc ?_ (by first | omega | (simp <;> omega)) _ | refine Below.setCell ?_ (by first | omega | (simp <;> omega)) _)))
  have zp0_1 : w.heap.size < w1.heap.size := by have hq := hx1.size; first | omega | (simp at hq; omega)
  have zp1_1 : w.heap.size + 1 < w1.heap.size := by have hq := hx1.size; first | omega | (simp at hq; omega)
  have zp2_1 : w.heap.size + 2 < w1.heap.size := by have hq := hx1.size; first | omega | (simp at hq; omega)
  obtain ⟨kb, q0, q1, q2, q3, q4, q5, q6, q7, q8⟩ := K1
  have zs1 := kb.size
  clear hx1
  go_wp2_with fail
  refine (HL2.out _).mono ?_
  rintro e w2 ⟨rfl, hx2⟩
  have K2 : Below w.heap.size w w2 ∧ w2.cell? ⟨w.heap.size, 0, none⟩ = some (.int .i64 i1) ∧ w2.cell? ⟨w.heap.size, 1, none⟩ = some (.int .i64 x1) ∧ w2.cell? ⟨w.heap.size, 2, none⟩ = some (.int .i64 y1) ∧ w2.cell? ⟨w.heap.size + 1, 0, none⟩ = some (.int .i64 i2) ∧ w2.cell? ⟨w.heap.size + 1, 1, none⟩ = some (.int .i64 x2) ∧ w2.cell? ⟨w.heap.size + 1, 2, none⟩ = some (.int .i64 y2) ∧ w2.cell? ⟨w.heap.size + 1 + 1, 0, none⟩ = some (.int .i64 i3) ∧ w2.cell? ⟨w.heap.size + 1 + 1, 1, none⟩ = some (.int .i64 x3) ∧ w2.cell? ⟨w.heap.size + 1 + 1, 2, none⟩ = some (.int .i64 y3) := by
    refine keep9 (Nat.le_refl _) hx2 ?_
    ((repeat' apply And.intro) <;> first | (go_keep; done) | (go_simp; done) | (repeat (first | exact Below.refl _ _ | assumption | refine Below.drew ?_ | refine Below.alloc ?_ (by first | omega | (simp <;> omega)) _ | refine Below.setCell ?_ (by first | omega | (simp <;> omega)) _)))
  have zp0_2 : w.heap.size < w2.heap.size := by have hq := hx2.size; first | omega | (simp at hq; omega)
  have zp1_2 : w.heap.size + 1 < w2.heap.size := by have hq := hx2.size; first | omega | (simp at hq; omega)
  have zp2_2 : w.heap.size + 2 < w2.heap.size := by have hq := hx2.size; first | omega | (simp at hq; omega)
  clear kb q0 q1 q2 q3 q4 q5 q6 q7 q8
  obtain ⟨kb, q0, q1, q2, q3, q4, q5, q6, q7, q8⟩ := K2
  have zs2 := kb.size
  clear hx2
  go_wp2_with fail
  refine (HL3.out _).mono ?_
  rintro e w3 ⟨rfl, hx3⟩
  have K3 : Below w.heap.size w w3 ∧ w3.cell? ⟨w.heap.size, 0, none⟩ = some (.int .i64 i1) ∧ w3.cell? ⟨w.heap.size, 1, none⟩ = some (.int .i64 x1) ∧ w3.cell? ⟨w.heap.size, 2, none⟩ = some (.int .i64 y1) ∧ w3.cell? ⟨w.heap.size + 1, 0, none⟩ = some (.int .i64 i2) ∧ w3.cell? ⟨w.heap.size + 1, 1, none⟩ = some (.int .i64 x2) ∧ w3.cell? ⟨w.heap.size + 1, 2, none⟩ = some (.int .i64 y2) ∧ w3.cell? ⟨w.heap.size + 1 + 1, 0, none⟩ = some (.int .i64 i3) ∧ w3.cell? ⟨w.heap.size + 1 + 1, 1, none⟩ = some (.int .i64 x3) ∧ w3.cell? ⟨w.heap.size + 1 + 1, 2, none⟩ = some (.int .i64 y3) := by
    refine keep9 (Nat.le_refl _) hx3 ?_
    ((repeat' apply And.intro) <;> first | (go_keep; done) | (go_simp; done) | (repeat (first | exact Below.refl _ _ | assumption | refine Below.drew ?_ | refine Below.alloc ?_ (by first | omega | (simp <;> omega)) _ | refine Below.setCell ?_ (by first | omega | (simp <;> omega)) _)))
  have zp0_3 : w.heap.size < w3.heap.size := by have hq := hx3.size; first | omega | (simp at hq; omega)
  have zp1_3 : w.heap.size + 1 < w3.heap.size := by have hq := hx3.size; first | omega | (simp at hq; omega)
  have zp2_3 : w.heap.size + 2 < w3.heap.size := by have hq := hx3.size; first | omega | (simp at hq; omega)
  clear kb q0 q1 q2 q3 q4 q5 q6 q7 q8
  obtain ⟨kb, q0, q1, q2, q3, q4, q5, q6, q7, q8⟩ := K3
  have zs3 := kb.size
  clear hx3
  go_wp2_with fail
  refine (HX.out _).mono ?_
  rintro e w4 ⟨rfl, hx4⟩
  have K4 : Below w.heap.size w w4 ∧ w4.cell? ⟨w.heap.size, 0, none⟩ = some (.int .i64 i1) ∧ w4.cell? ⟨w.heap.size, 1, none⟩ = some (.int .i64 x1) ∧ w4.cell? ⟨w.heap.size, 2, none⟩ = some (.int .i64 y1) ∧ w4.cell? ⟨w.heap.size + 1, 0, none⟩ = some (.int .i64 i2) ∧ w4.cell? ⟨w.heap.size + 1, 1, none⟩ = some (.int .i64 x2) ∧ w4.cell? ⟨w.heap.size + 1, 2, none⟩ = some (.int .i64 y2) ∧ w4.cell? ⟨w.heap.size + 1 + 1, 0, none⟩ = some (.int .i64 i3) ∧ w4.cell? ⟨w.heap.size + 1 + 1, 1, none⟩ = some (.int .i64 x3) ∧ w4.cell? ⟨w.heap.size + 1 + 1, 2, none⟩ = some (.int .i64 y3) := by
    refine keep9 (Nat.le_refl _) hx4 ?_
    ((repeat' apply And.intro) <;> first | (go_keep; done) | (go_simp; done) | (repeat (first | exact Below.refl _ _ | assumption | refine Below.drew ?_ | refine Below.alloc ?_ (by first | omega | (simp <;> omega)) _ | refine Below.setCell ?_ (by first | omega | (simp <;> omega)) _)))
  have zp0_4 : w.heap.size < w4.heap.size := by have hq := hx4.size; first | omega | (simp at hq; omega)
  have zp1_4 : w.heap.size + 1 < w4.heap.size := by have hq := hx4.size; first | omega | (simp at hq; omega)
  have zp2_4 : w.heap.size + 2 < w4.heap.size := by have hq := hx4.size; first | omega | (simp at hq; omega)
  clear kb q0 q1 q2 q3 q4 q5 q6 q7 q8
  obtain ⟨kb, q0, q1, q2, q3, q4, q5, q6, q7, q8⟩ := K4
  have zs4 := kb.size
  clear hx4
  go_wp2_with fail
  refine (HZ.out _).mono ?_
  rintro e w5 ⟨rfl, hx5⟩
  have K5 : Below w.heap.size w w5 ∧ w5.cell? ⟨w.heap.size, 0, none⟩ = some (.int .i64 i1) ∧ w5.cell? ⟨w.heap.size, 1, none⟩ = some (.int .i64 x1) ∧ w5.cell? ⟨w.heap.size, 2, none⟩ = some (.int .i64 y1) ∧ w5.cell? ⟨w.heap.size + 1, 0, none⟩ = some (.int .i64 i2) ∧ w5.cell? ⟨w.heap.size + 1, 1, none⟩ = some (.int .i64 x2) ∧ w5.cell? ⟨w.heap.size + 1, 2, none⟩ = some (.int .i64 y2) ∧ w5.cell? ⟨w.heap.size + 1 + 1, 0, none⟩ = some (.int .i64 i3) ∧ w5.cell? ⟨w.heap.size + 1 + 1, 1, none⟩ = some (.int .i64 x3) ∧ w5.cell? ⟨w.heap.size + 1 + 1, 2, none⟩ = some (.int .i64 y3) := by
    refine keep9 (Nat.le_refl _) hx5 ?_
    ((repeat' apply And.intro) <;> first | (go_keep; done) | (go_simp; done) | (repeat (first | exact Below.refl _ _ | assumption | refine Below.drew ?_ | refine Below.alloc ?_ (by first | omega | (simp <;> omega)) _ | refine Below.setCell ?_ (by first | omega | (simp <;> omega)) _)))
  have zp0_5 : w.heap.size < w5.heap.size := by have hq := hx5.size; first | omega | (simp at hq; omega)
  have zp1_5 : w.heap.size + 1 < w5.heap.size := by have hq := hx5.size; first | omega | (simp at hq; omega)
  have zp2_5 : w.heap.size + 2 < w5.heap.size := by have hq := hx5.size; first | omega | (simp at hq; omega)
  clear kb q0 q1 q2 q3 q4 q5 q6 q7 q8
  obtain ⟨kb, q0, q1, q2, q3, q4, q5, q6, q7, q8⟩ := K5
  have zs5 := kb.size
  clear hx5
  go_wp2_with fail
  refine (HC.out _).mono ?_
  rintro e w6 ⟨rfl, hx6⟩
  have K6 : Below w.heap.size w w6 ∧ w6.cell? ⟨w.heap.size, 0, none⟩ = some (.int .i64 i1) ∧ w6.cell? ⟨w.heap.size, 1, none⟩ = some (.int .i64 x1) ∧ w6.cell? ⟨w.heap.size, 2, none⟩ = some (.int .i64 y1) ∧ w6.cell? ⟨w.heap.size + 1, 0, none⟩ = some (.int .i64 i2) ∧ w6.cell? ⟨w.heap.size + 1, 1, none⟩ = some (.int .i64 x2) ∧ w6.cell? ⟨w.heap.size + 1, 2, none⟩ = some (.int .i64 y2) ∧ w6.cell? ⟨w.heap.size + 1 + 1, 0, none⟩ = some (.int .i64 i3) ∧ w6.cell? ⟨w.heap.size + 1 + 1, 1, none⟩ = some (.int .i64 x3) ∧ w6.cell? ⟨w.heap.size + 1 + 1, 2, none⟩ = some (.int .i64 y3) := by
    refine keep9 (Nat.le_refl _) hx6 ?_
    ((repeat' apply And.intro) <;> first | (go_keep; done) | (go_simp; done) | (repeat (first | exact Below.refl _ _ | assumption | refine Below.drew ?_ | refine Below.alloc ?_ (by first | omega | (simp <;> omega)) _ | refine Below.setCell ?_ (by first | omega | (simp <;> omega)) _)))
  have zp0_6 : w.heap.size < w6.heap.size := by have hq := hx6.size; first | omega | (simp at hq; omega)
  have zp1_6 : w.heap.size + 1 < w6.heap.size := by have hq := hx6.size; first | omega | (simp at hq; omega)
  have zp2_6 : w.heap.size + 2 < w6.heap.size := by have hq := hx6.size; first | omega | (simp at hq; omega)
  clear kb q0 q1 q2 q3 q4 q5 q6 q7 q8
  obtain ⟨kb, q0, q1, q2, q3, q4, q5, q6, q7, q8⟩ := K6
  have zs6 := kb.size
  clear hx6
  go_wp2_with fail
  go_ret
  exact ⟨rfl, kb⟩
set_option maxRecDepth 100000 in
set_option maxHeartbeats 8000000 in
theorem rturn_no (i1 x1 y1 i2 x2 y2 i3 x3 y3 : Int) (h : (plK x1 y1 && (plK x2 y2 && plK x3 y3)) = false) (w : World) :
    Calls Try.prog 55 #[.agg #[.int .i64 i1, .int .i64 x1, .int .i64 y1], .agg #[.int .i64 i2, .int .i64 x2, .int .i64 y2], .agg #[.int .i64 i3, .int .i64 x3, .int .i64 y3]] w fun e w' => e = .returned (.int .i64 0) ∧ Below w.heap.size w w' := by
  obtain ⟨b1, h1⟩ : ∃ b, plK x1 y1 = b := ⟨_, rfl⟩
  obtain ⟨b2, h2⟩ : ∃ b, plK x2 y2 = b := ⟨_, rfl⟩
  obtain ⟨b3, h3⟩ : ∃ b, plK x3 y3 = b := ⟨_, rfl⟩
  have L1 : ∀ w : World, Calls Try.prog 66 #[.agg #[.int .i64 i1, .int .i64 x1, .int .i64 y1]] w fun e w' => e = .returned (.bool b1) ∧ Below w.heap.size w w' := fun w => by rw [← h1]; exact klies _ _ _ w
  have HL1 := Lib.hid L1
  clear L1
  have L2 : ∀ w : World, Calls Try.prog 66 #[.agg #[.int .i64 i2, .int .i64 x2, .int .i64 y2]] w fun e w' => e = .returned (.bool b2) ∧ Below w.heap.size w w' := fun w => by rw [← h2]; exact klies _ _ _ w
  have HL2 := Lib.hid L2
  clear L2
  have L3 : ∀ w : World, Calls Try.prog 66 #[.agg #[.int .i64 i3, .int .i64 x3, .int .i64 y3]] w fun e w' => e = .returned (.bool b3) ∧ Below w.heap.size w w' := fun w => by rw [← h3]; exact klies _ _ _ w
  have HL3 := Lib.hid L3
  clear L3
  rw [h1, h2, h3] at h
  clear h1 h2 h3
  cases b1
  · clear h
    go_enter Try.func55, Try.ntmps55
    go_wp2_with fail
    refine (HL1.out _).mono ?_
    rintro e w1 ⟨rfl, hx1⟩
    have K1 : Below w.heap.size w w1 ∧ w1.cell? ⟨w.heap.size, 0, none⟩ = some (.int .i64 i1) ∧ w1.cell? ⟨w.heap.size, 1, none⟩ = some (.int .i64 x1) ∧ w1.cell? ⟨w.heap.size, 2, none⟩ = some (.int .i64 y1) ∧ w1.cell? ⟨w.heap.size + 1, 0, none⟩ = some (.int .i64 i2) ∧ w1.cell? ⟨w.heap.size + 1, 1, none⟩ = some (.int .i64 x2) ∧ w1.cell? ⟨w.heap.size + 1, 2, none⟩ = some (.int .i64 y2) ∧ w1.cell? ⟨w.heap.size + 1 + 1, 0, none⟩ = some (.int .i64 i3) ∧ w1.cell? ⟨w.heap.size + 1 + 1, 1, none⟩ = some (.int .i64 x3) ∧ w1.cell? ⟨w.heap.size + 1 + 1, 2, none⟩ = some (.int .i64 y3) := by
      refine keep9 (Nat.le_refl _) hx1 ?_
      ((repeat' apply And.intro) <;> first | (go_keep; done) | (go_simp; done) | (repeat (first | exact Below.refl _ _ | assumption | refine Below.drew ?_ | refine Below.alloc ?_ (by first | omega | (simp <;> omega)) _ | refine Below.setCell ?_ (by first | omega | (simp <;> omega)) _)))
    have zp0_1 : w.heap.size < w1.heap.size := by have hq := hx1.size; first | omega | (simp at hq; omega)
    have zp1_1 : w.heap.size + 1 < w1.heap.size := by have hq := hx1.size; first | omega | (simp at hq; omega)
    have zp2_1 : w.heap.size + 2 < w1.heap.size := by have hq := hx1.size; first | omega | (simp at hq; omega)
    obtain ⟨kb, q0, q1, q2, q3, q4, q5, q6, q7, q8⟩ := K1
    have zs1 := kb.size
    clear hx1
    go_wp2_with fail
    go_ret
    exact ⟨rfl, kb⟩
  · cases b2
    · clear h
      go_enter Try.func55, Try.ntmps55
      go_wp2_with fail
      refine (HL1.out _).mono ?_
      rintro e w1 ⟨rfl, hx1⟩
      have K1 : Below w.heap.size w w1 ∧ w1.cell? ⟨w.heap.size, 0, none⟩ = some (.int .i64 i1) ∧ w1.cell? ⟨w.heap.size, 1, none⟩ = some (.int .i64 x1) ∧ w1.cell? ⟨w.heap.size, 2, none⟩ = some (.int .i64 y1) ∧ w1.cell? ⟨w.heap.size + 1, 0, none⟩ = some (.int .i64 i2) ∧ w1.cell? ⟨w.heap.size + 1, 1, none⟩ = some (.int .i64 x2) ∧ w1.cell? ⟨w.heap.size + 1, 2, none⟩ = some (.int .i64 y2) ∧ w1.cell? ⟨w.heap.size + 1 + 1, 0, none⟩ = some (.int .i64 i3) ∧ w1.cell? ⟨w.heap.size + 1 + 1, 1, none⟩ = some (.int .i64 x3) ∧ w1.cell? ⟨w.heap.size + 1 + 1, 2, none⟩ = some (.int .i64 y3) := by
        refine keep9 (Nat.le_refl _) hx1 ?_
        ((repeat' apply And.intro) <;> first | (go_keep; done) | (go_simp; done) | (repeat (first | exact Below.refl _ _ | assumption | refine Below.drew ?_ | refine Below.alloc ?_ (by first | omega | (simp <;> omega)) _ | refine Below.setCell ?_ (by first | omega | (simp <;> omega)) _)))
      have zp0_1 : w.heap.size < w1.heap.size := by have hq := hx1.size; first | omega | (simp at hq; omega)
      have zp1_1 : w.heap.size + 1 < w1.heap.size := by have hq := hx1.size; first | omega | (simp at hq; omega)
      have zp2_1 : w.heap.size + 2 < w1.heap.size := by have hq := hx1.size; first | omega | (simp at hq; omega)
      obtain ⟨kb, q0, q1, q2, q3, q4, q5, q6, q7, q8⟩ := K1
      have zs1 := kb.size
      clear hx1
      go_wp2_with fail
      refine (HL2.out _).mono ?_
      rintro e w2 ⟨rfl, hx2⟩
      have K2 : Below w.heap.size w w2 ∧ w2.cell? ⟨w.heap.size, 0, none⟩ = some (.int .i64 i1) ∧ w2.cell? ⟨w.heap.size, 1, none⟩ = some (.int .i64 x1) ∧ w2.cell? ⟨w.heap.size, 2, none⟩ = some (.int .i64 y1) ∧ w2.cell? ⟨w.heap.size + 1, 0, none⟩ = some (.int .i64 i2) ∧ w2.cell? ⟨w.heap.size + 1, 1, none⟩ = some (.int .i64 x2) ∧ w2.cell? ⟨w.heap.size + 1, 2, none⟩ = some (.int .i64 y2) ∧ w2.cell? ⟨w.heap.size + 1 + 1, 0, none⟩ = some (.int .i64 i3) ∧ w2.cell? ⟨w.heap.size + 1 + 1, 1, none⟩ = some (.int .i64 x3) ∧ w2.cell? ⟨w.heap.size + 1 + 1, 2, none⟩ = some (.int .i64 y3) := by
        refine keep9 (Nat.le_refl _) hx2 ?_
        ((repeat' apply And.intro) <;> first | (go_keep; done) | (go_simp; done) | (repeat (first | exact Below.refl _ _ | assumption | refine Below.drew ?_ | refine Below.alloc ?_ (by first | omega | (simp <;> omega)) _ | refine Below.setCell ?_ (by first | omega | (simp <;> omega)) _)))
      have zp0_2 : w.heap.size < w2.heap.size := by have hq := hx2.size; first | omega | (simp at hq; omega)
      have zp1_2 : w.heap.size + 1 < w2.heap.size := by have hq := hx2.size; first | omega | (simp at hq; omega)
      have zp2_2 : w.heap.size + 2 < w2.heap.size := by have hq := hx2.size; first | omega | (simp at hq; omega)
      clear kb q0 q1 q2 q3 q4 q5 q6 q7 q8
      obtain ⟨kb, q0, q1, q2, q3, q4, q5, q6, q7, q8⟩ := K2
      have zs2 := kb.size
      clear hx2
      go_wp2_with fail
      go_ret
      exact ⟨rfl, kb⟩
    · cases b3
      · clear h
        go_enter Try.func55, Try.ntmps55
        go_wp2_with fail
        refine (HL1.out _).mono ?_
        rintro e w1 ⟨rfl, hx1⟩
        have K1 : Below w.heap.size w w1 ∧ w1.cell? ⟨w.heap.size, 0, none⟩ = some (.int .i64 i1) ∧ w1.cell? ⟨w.heap.size, 1, none⟩ = some (.int .i64 x1) ∧ w1.cell? ⟨w.heap.size, 2, none⟩ = some (.int .i64 y1) ∧ w1.cell? ⟨w.heap.size + 1, 0, none⟩ = some (.int .i64 i2) ∧ w1.cell? ⟨w.heap.size + 1, 1, none⟩ = some (.int .i64 x2) ∧ w1.cell? ⟨w.heap.size + 1, 2, none⟩ = some (.int .i64 y2) ∧ w1.cell? ⟨w.heap.size + 1 + 1, 0, none⟩ = some (.int .i64 i3) ∧ w1.cell? ⟨w.heap.size + 1 + 1, 1, none⟩ = some (.int .i64 x3) ∧ w1.cell? ⟨w.heap.size + 1 + 1, 2, none⟩ = some (.int .i64 y3) := by
          refine keep9 (Nat.le_refl _) hx1 ?_
          ((repeat' apply And.intro) <;> first | (go_keep; done) | (go_simp; done) | (repeat (first | exact Below.refl _ _ | assumption | refine Below.drew ?_ | refine Below.alloc ?_ (by first | omega | (simp <;> omega)) _ | refine Below.setCell ?_ (by first | omega | (simp <;> omega)) _)))
        have zp0_1 : w.heap.size < w1.heap.size := by have hq := hx1.size; first | omega | (simp at hq; omega)
        have zp1_1 : w.heap.size + 1 < w1.heap.size := by have hq := hx1.size; first | omega | (simp at hq; omega)
        have zp2_1 : w.heap.size + 2 < w1.heap.size := by have hq := hx1.size; first | omega | (simp at hq; omega)
        obtain ⟨kb, q0, q1, q2, q3, q4, q5, q6, q7, q8⟩ := K1
        have zs1 := kb.size
        clear hx1
        go_wp2_with fail
        refine (HL2.out _).mono ?_
        rintro e w2 ⟨rfl, hx2⟩
        have K2 : Below w.heap.size w w2 ∧ w2.cell? ⟨w.heap.size, 0, none⟩ = some (.int .i64 i1) ∧ w2.cell? ⟨w.heap.size, 1, none⟩ = some (.int .i64 x1) ∧ w2.cell? ⟨w.heap.size, 2, none⟩ = some (.int .i64 y1) ∧ w2.cell? ⟨w.heap.size + 1, 0, none⟩ = some (.int .i64 i2) ∧ w2.cell? ⟨w.heap.size + 1, 1, none⟩ = some (.int .i64 x2) ∧ w2.cell? ⟨w.heap.size + 1, 2, none⟩ = some (.int .i64 y2) ∧ w2.cell? ⟨w.heap.size + 1 + 1, 0, none⟩ = some (.int .i64 i3) ∧ w2.cell? ⟨w.heap.size + 1 + 1, 1, none⟩ = some (.int .i64 x3) ∧ w2.cell? ⟨w.heap.size + 1 + 1, 2, none⟩ = some (.int .i64 y3) := by
          refine keep9 (Nat.le_refl _) hx2 ?_
          ((repeat' apply And.intro) <;> first | (go_keep; done) | (go_simp; done) | (repeat (first | exact Below.refl _ _ | assumption | refine Below.drew ?_ | refine Below.alloc ?_ (by first | omega | (simp <;> omega)) _ | refine Below.setCell ?_ (by first | omega | (simp <;> omega)) _)))
        have zp0_2 : w.heap.size < w2.heap.size := by have hq := hx2.size; first | omega | (simp at hq; omega)
        have zp1_2 : w.heap.size + 1 < w2.heap.size := by have hq := hx2.size; first | omega | (simp at hq; omega)
        have zp2_2 : w.heap.size + 2 < w2.heap.size := by have hq := hx2.size; first | omega | (simp at hq; omega)
        clear kb q0 q1 q2 q3 q4 q5 q6 q7 q8
        obtain ⟨kb, q0, q1, q2, q3, q4, q5, q6, q7, q8⟩ := K2
        have zs2 := kb.size
        clear hx2
        go_wp2_with fail
        refine (HL3.out _).mono ?_
        rintro e w3 ⟨rfl, hx3⟩
        have K3 : Below w.heap.size w w3 ∧ w3.cell? ⟨w.heap.size, 0, none⟩ = some (.int .i64 i1) ∧ w3.cell? ⟨w.heap.size, 1, none⟩ = some (.int .i64 x1) ∧ w3.cell? ⟨w.heap.size, 2, none⟩ = some (.int .i64 y1) ∧ w3.cell? ⟨w.heap.size + 1, 0, none⟩ = some (.int .i64 i2) ∧ w3.cell? ⟨w.heap.size + 1, 1, none⟩ = some (.int .i64 x2) ∧ w3.cell? ⟨w.heap.size + 1, 2, none⟩ = some (.int .i64 y2) ∧ w3.cell? ⟨w.heap.size + 1 + 1, 0, none⟩ = some (.int .i64 i3) ∧ w3.cell? ⟨w.heap.size + 1 + 1, 1, none⟩ = some (.int .i64 x3) ∧ w3.cell? ⟨w.heap.size + 1 + 1, 2, none⟩ = some (.int .i64 y3) := by
          refine keep9 (Nat.le_refl _) hx3 ?_
          ((repeat' apply And.intro) <;> first | (go_keep; done) | (go_simp; done) | (repeat (first | exact Below.refl _ _ | assumption | refine Below.drew ?_ | refine Below.alloc ?_ (by first | omega | (simp <;> omega)) _ | refine Below.setCell ?_ (by first | omega | (simp <;> omega)) _)))
        have zp0_3 : w.heap.size < w3.heap.size := by have hq := hx3.size; first | omega | (simp at hq; omega)
        have zp1_3 : w.heap.size + 1 < w3.heap.size := by have hq := hx3.size; first | omega | (simp at hq; omega)
        have zp2_3 : w.heap.size + 2 < w3.heap.size := by have hq := hx3.size; first | omega | (simp at hq; omega)
        clear kb q0 q1 q2 q3 q4 q5 q6 q7 q8
        obtain ⟨kb, q0, q1, q2, q3, q4, q5, q6, q7, q8⟩ := K3
        have zs3 := kb.size
        clear hx3
        go_wp2_with fail
        go_ret
        exact ⟨rfl, kb⟩
      · simp at h
theorem rturn_any (i1 x1 y1 i2 x2 y2 i3 x3 y3 : Int) (w : World) : Calls Try.prog 55 #[.agg #[.int .i64 i1, .int .i64 x1, .int .i64 y1], .agg #[.int .i64 i2, .int .i64 x2, .int .i64 y2], .agg #[.int .i64 i3, .int .i64 x3, .int .i64 y3]] w fun e w' => e = .returned (.int .i64 (tuK x1 y1 x2 y2 x3 y3)) ∧ Below w.heap.size w w' := by
  cases h : (plK x1 y1 && (plK x2 y2 && plK x3 y3))
  · exact as_int (rturn_no i1 x1 y1 i2 x2 y2 i3 x3 y3 h w) (tuK_no h)
  · obtain ⟨h1, h23⟩ := Bool.and_eq_true_iff.1 h
    obtain ⟨h2, h3⟩ := Bool.and_eq_true_iff.1 h23
    exact as_int (rturn_yes i1 x1 y1 i2 x2 y2 i3 x3 y3 h1 h2 h3 w) (tuK_yes h1 h2 h3)
end Go.Proofs.Ytjfdlamfklhodaa
