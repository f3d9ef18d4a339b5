/- Contracts of what lies between; the small living call of layer 3. -/
import Derived.Test.YtjfdlamfklhodaaD1
set_option linter.unusedVariables false
namespace Go.Proofs.Ytjfdlamfklhodaa
open Go.ChangeShapes Go.WideShapes Go.ChangeAt Go.RowKit
def btK (x1 y1 x2 y2 x3 y3 : Int) : Bool := plK x1 y1 && (plK x2 y2 && (plK x3 y3 && (decide (crK x1 y1 x2 y2 x3 y3 = 0) && (wiK x1 x2 x3 && wiK y1 y2 y3))))
theorem sg_zero {n : Int} : sg n = 0 ↔ n = 0 := by
  unfold sg
  by_cases h : n < 0
  · rw [if_pos h]; omega
  · rw [if_neg h]
    by_cases h2 : 0 < n
    · rw [if_pos h2]; omega
    · rw [if_neg h2]; omega
set_option maxHeartbeats 8000000 in
theorem kbetween (i1 x1 y1 i2 x2 y2 i3 x3 y3 : Int) (w : World) : Calls Try.prog 56 #[.agg #[.int .i64 i1, .int .i64 x1, .int .i64 y1], .agg #[.int .i64 i2, .int .i64 x2, .int .i64 y2], .agg #[.int .i64 i3, .int .i64 x3, .int .i64 y3]] w fun e w' => e = .returned (.bool (btK x1 y1 x2 y2 x3 y3)) ∧ Below w.heap.size w w' := by
  obtain ⟨b1, h1⟩ : ∃ b, plK x1 y1 = b := ⟨_, rfl⟩
  obtain ⟨b2, h2⟩ : ∃ b, plK x2 y2 = b := ⟨_, rfl⟩
  obtain ⟨b3, h3⟩ : ∃ b, plK x3 y3 = b := ⟨_, rfl⟩
  obtain ⟨bx, hx⟩ : ∃ b, wiK x1 x2 x3 = b := ⟨_, rfl⟩
  obtain ⟨bv, hv⟩ : ∃ b, btK x1 y1 x2 y2 x3 y3 = b := ⟨_, rfl⟩
  have Q1 : ∀ w : World, Calls Try.prog 64 #[.agg #[.int .i64 i1, .int .i64 x1, .int .i64 y1]] w fun e w' => e = .returned (.bool b1) ∧ Below w.heap.size w w' := fun w => by rw [← h1]; exact kplaced _ _ _ w
  have Q2 : ∀ w : World, Calls Try.prog 64 #[.agg #[.int .i64 i2, .int .i64 x2, .int .i64 y2]] w fun e w' => e = .returned (.bool b2) ∧ Below w.heap.size w w' := fun w => by rw [← h2]; exact kplaced _ _ _ w
  have Q3 : ∀ w : World, Calls Try.prog 64 #[.agg #[.int .i64 i3, .int .i64 x3, .int .i64 y3]] w fun e w' => e = .returned (.bool b3) ∧ Below w.heap.size w w' := fun w => by rw [← h3]; exact kplaced _ _ _ w
  have W1 : ∀ w : World, Calls Try.prog 75 #[.int .i64 x1, .int .i64 x2, .int .i64 x3] w fun e w' => e = .returned (.bool bx) ∧ w = w' := fun w => by rw [← hx]; exact kwithin _ _ _ w
  have W2 : ∀ w : World, Calls Try.prog 75 #[.int .i64 y1, .int .i64 y2, .int .i64 y3] w fun e w' => e = .returned (.bool (wiK y1 y2 y3)) ∧ w = w' := fun w => kwithin _ _ _ w
  have hv2 := hv
  unfold btK at hv2
  rw [h1, h2, h3, hx] at hv2
  rw [hv]
  have HQ1 := Lib.hid Q1
  clear Q1
  have HQ2 := Lib.hid Q2
  clear Q2
  have HQ3 := Lib.hid Q3
  clear Q3
  have HW1 := Lib.hid W1
  clear W1
  have HW2 := Lib.hid W2
  clear W2
  cases b1
  · have HV : Hid (false = bv) := hv2
    clear hv2 hv h1 h2 h3 hx
    go_enter Try.func56, Try.ntmps56
    go_wp2_with fail
    refine (HQ1.out _).mono ?_
    rintro e w1 ⟨rfl, hx1⟩
    have K1 : Below w.heap.size w w1 ∧ w1.cell? ⟨w.heap.size, 0, none⟩ = some (.int .i64 i1) ∧ w1.cell? ⟨w.heap.size, 1, none⟩ = some (.int .i64 x1) ∧ w1.cell? ⟨w.heap.size, 2, none⟩ = some (.int .i64 y1) ∧ w1.cell? ⟨w.heap.size + 1, 0, none⟩ = some (.int .i64 i2) ∧ w1.cell? ⟨w.heap.size + 1, 1, none⟩ = some (.int .i64 x2) ∧ w1.cell? ⟨w.heap.size + 1, 2, none⟩ = some (.int .i64 y2) ∧ w1.cell? ⟨w.heap.size + 1 + 1, 0, none⟩ = some (.int .i64 i3) ∧ w1.cell? ⟨w.heap.size + 1 + 1, 1, none⟩ = some (.int .i64 x3) ∧ w1.cell? ⟨w.heap.size + 1 + 1, 2, none⟩ = some (.int .i64 y3) := by
      refine keep9 (Nat.le_refl _) hx1 ?_
      ((repeat' apply And.intro) <;> first | go_keep | (go_simp; done) | (repeat (first | exact Below.refl _ _ | assumption | refine Below.drew ?_ | refine Below.alloc ?_ (by first | omega | (simp <;> omega)) _ | refine Below.setCell ?_ (by first | omega | (simp <;> omega)) _)))
    obtain ⟨kb, q0, q1, q2, q3, q4, q5, q6, q7, q8⟩ := K1
    have zs1 := kb.size
    clear hx1
    go_wp2_with fail
    go_ret
    exact ⟨ret_boolK HV.out, kb⟩
  · cases b2
    · have HV : Hid (false = bv) := hv2
      clear hv2 hv h1 h2 h3 hx
      go_enter Try.func56, Try.ntmps56
      go_wp2_with fail
      refine (HQ1.out _).mono ?_
      rintro e w1 ⟨rfl, hx1⟩
      have K1 : Below w.heap.size w w1 ∧ w1.cell? ⟨w.heap.size, 0, none⟩ = some (.int .i64 i1) ∧ w1.cell? ⟨w.heap.size, 1, none⟩ = some (.int .i64 x1) ∧ w1.cell? ⟨w.heap.size, 2, none⟩ = some (.int .i64 y1) ∧ w1.cell? ⟨w.heap.size + 1, 0, none⟩ = some (.int .i64 i2) ∧ w1.cell? ⟨w.heap.size + 1, 1, none⟩ = some (.int .i64 x2) ∧ w1.cell? ⟨w.heap.size + 1, 2, none⟩ = some (.int .i64 y2) ∧ w1.cell? ⟨w.heap.size + 1 + 1, 0, none⟩ = some (.int .i64 i3) ∧ w1.cell? ⟨w.heap.size + 1 + 1, 1, none⟩ = some (.int .i64 x3) ∧ w1.cell? ⟨w.heap.size + 1 + 1, 2, none⟩ = some (.int .i64 y3) := by
        refine keep9 (Nat.le_refl _) hx1 ?_
        ((repeat' apply And.intro) <;> first | go_keep | (go_simp; done) | (repeat (first | exact Below.refl _ _ | assumption | refine Below.drew ?_ | refine Below.alloc ?_ (by first | omega | (simp <;> omega)) _ | refine Below.setCell ?_ (by first | omega | (simp <;> omega)) _)))
      obtain ⟨kb, q0, q1, q2, q3, q4, q5, q6, q7, q8⟩ := K1
      have zs1 := kb.size
      clear hx1
      go_wp2_with fail
      refine (HQ2.out _).mono ?_
      rintro e w2 ⟨rfl, hx2⟩
      have K2 : Below w.heap.size w w2 ∧ w2.cell? ⟨w.heap.size, 0, none⟩ = some (.int .i64 i1) ∧ w2.cell? ⟨w.heap.size, 1, none⟩ = some (.int .i64 x1) ∧ w2.cell? ⟨w.heap.size, 2, none⟩ = some (.int .i64 y1) ∧ w2.cell? ⟨w.heap.size + 1, 0, none⟩ = some (.int .i64 i2) ∧ w2.cell? ⟨w.heap.size + 1, 1, none⟩ = some (.int .i64 x2) ∧ w2.cell? ⟨w.heap.size + 1, 2, none⟩ = some (.int .i64 y2) ∧ w2.cell? ⟨w.heap.size + 1 + 1, 0, none⟩ = some (.int .i64 i3) ∧ w2.cell? ⟨w.heap.size + 1 + 1, 1, none⟩ = some (.int .i64 x3) ∧ w2.cell? ⟨w.heap.size + 1 + 1, 2, none⟩ = some (.int .i64 y3) := by
        refine keep9 (Nat.le_refl _) hx2 ?_
        ((repeat' apply And.intro) <;> first | go_keep | (go_simp; done) | (repeat (first | exact Below.refl _ _ | assumption | refine Below.drew ?_ | refine Below.alloc ?_ (by first | omega | (simp <;> omega)) _ | refine Below.setCell ?_ (by first | omega | (simp <;> omega)) _)))
      clear kb q0 q1 q2 q3 q4 q5 q6 q7 q8
      obtain ⟨kb, q0, q1, q2, q3, q4, q5, q6, q7, q8⟩ := K2
      have zs2 := kb.size
      clear hx2
      go_wp2_with fail
      go_ret
      exact ⟨ret_boolK HV.out, kb⟩
    · cases b3
      · have HV : Hid (false = bv) := hv2
        clear hv2 hv h1 h2 h3 hx
        go_enter Try.func56, Try.ntmps56
        go_wp2_with fail
        refine (HQ1.out _).mono ?_
        rintro e w1 ⟨rfl, hx1⟩
        have K1 : Below w.heap.size w w1 ∧ w1.cell? ⟨w.heap.size, 0, none⟩ = some (.int .i64 i1) ∧ w1.cell? ⟨w.heap.size, 1, none⟩ = some (.int .i64 x1) ∧ w1.cell? ⟨w.heap.size, 2, none⟩ = some (.int .i64 y1) ∧ w1.cell? ⟨w.heap.size + 1, 0, none⟩ = some (.int .i64 i2) ∧ w1.cell? ⟨w.heap.size + 1, 1, none⟩ = some (.int .i64 x2) ∧ w1.cell? ⟨w.heap.size + 1, 2, none⟩ = some (.int .i64 y2) ∧ w1.cell? ⟨w.heap.size + 1 + 1, 0, none⟩ = some (.int .i64 i3) ∧ w1.cell? ⟨w.heap.size + 1 + 1, 1, none⟩ = some (.int .i64 x3) ∧ w1.cell? ⟨w.heap.size + 1 + 1, 2, none⟩ = some (.int .i64 y3) := by
          refine keep9 (Nat.le_refl _) hx1 ?_
          ((repeat' apply And.intro) <;> first | go_keep | (go_simp; done) | (repeat (first | exact Below.refl _ _ | assumption | refine Below.drew ?_ | refine Below.alloc ?_ (by first | omega | (simp <;> omega)) _ | refine Below.setCell ?_ (by first | omega | (simp <;> omega)) _)))
        obtain ⟨kb, q0, q1, q2, q3, q4, q5, q6, q7, q8⟩ := K1
        have zs1 := kb.size
        clear hx1
        go_wp2_with fail
        refine (HQ2.out _).mono ?_
        rintro e w2 ⟨rfl, hx2⟩
        have K2 : Below w.heap.size w w2 ∧ w2.cell? ⟨w.heap.size, 0, none⟩ = some (.int .i64 i1) ∧ w2.cell? ⟨w.heap.size, 1, none⟩ = some (.int .i64 x1) ∧ w2.cell? ⟨w.heap.size, 2, none⟩ = some (.int .i64 y1) ∧ w2.cell? ⟨w.heap.size + 1, 0, none⟩ = some (.int .i64 i2) ∧ w2.cell? ⟨w.heap.size + 1, 1, none⟩ = some (.int .i64 x2) ∧ w2.cell? ⟨w.heap.size + 1, 2, none⟩ = some (.int .i64 y2) ∧ w2.cell? ⟨w.heap.size + 1 + 1, 0, none⟩ = some (.int .i64 i3) ∧ w2.cell? ⟨w.heap.size + 1 + 1, 1, none⟩ = some (.int .i64 x3) ∧ w2.cell? ⟨w.heap.size + 1 + 1, 2, none⟩ = some (.int .i64 y3) := by
          refine keep9 (Nat.le_refl _) hx2 ?_
          ((repeat' apply And.intro) <;> first | go_keep | (go_simp; done) | (repeat (first | exact Below.refl _ _ | assumption | refine Below.drew ?_ | refine Below.alloc ?_ (by first | omega | (simp <;> omega)) _ | refine Below.setCell ?_ (by first | omega | (simp <;> omega)) _)))
        clear kb q0 q1 q2 q3 q4 q5 q6 q7 q8
        obtain ⟨kb, q0, q1, q2, q3, q4, q5, q6, q7, q8⟩ := K2
        have zs2 := kb.size
        clear hx2
        go_wp2_with fail
        refine (HQ3.out _).mono ?_
        rintro e w3 ⟨rfl, hx3⟩
        have K3 : Below w.heap.size w w3 ∧ w3.cell? ⟨w.heap.size, 0, none⟩ = some (.int .i64 i1) ∧ w3.cell? ⟨w.heap.size, 1, none⟩ = some (.int .i64 x1) ∧ w3.cell? ⟨w.heap.size, 2, none⟩ = some (.int .i64 y1) ∧ w3.cell? ⟨w.heap.size + 1, 0, none⟩ = some (.int .i64 i2) ∧ w3.cell? ⟨w.heap.size + 1, 1, none⟩ = some (.int .i64 x2) ∧ w3.cell? ⟨w.heap.size + 1, 2, none⟩ = some (.int .i64 y2) ∧ w3.cell? ⟨w.heap.size + 1 + 1, 0, none⟩ = some (.int .i64 i3) ∧ w3.cell? ⟨w.heap.size + 1 + 1, 1, none⟩ = some (.int .i64 x3) ∧ w3.cell? ⟨w.heap.size + 1 + 1, 2, none⟩ = some (.int .i64 y3) := by
          refine keep9 (Nat.le_refl _) hx3 ?_
          ((repeat' apply And.intro) <;> first | go_keep | (go_simp; done) | (repeat (first | exact Below.refl _ _ | assumption | refine Below.drew ?_ | refine Below.alloc ?_ (by first | omega | (simp <;> omega)) _ | refine Below.setCell ?_ (by first | omega | (simp <;> omega)) _)))
        clear kb q0 q1 q2 q3 q4 q5 q6 q7 q8
        obtain ⟨kb, q0, q1, q2, q3, q4, q5, q6, q7, q8⟩ := K3
        have zs3 := kb.size
        clear hx3
        go_wp2_with fail
        go_ret
        exact ⟨ret_boolK HV.out, kb⟩
      · by_cases hc : crK x1 y1 x2 y2 x3 y3 = 0
        · have T : ∀ w : World, Calls Try.prog 54 #[.agg #[.int .i64 i1, .int .i64 x1, .int .i64 y1], .agg #[.int .i64 i2, .int .i64 x2, .int .i64 y2], .agg #[.int .i64 i3, .int .i64 x3, .int .i64 y3]] w fun e w' => e = .returned (.int .i64 0) ∧ Below w.heap.size w w' := fun w => by have := turn_yes i1 x1 y1 i2 x2 y2 i3 x3 y3 h1 h2 h3 w; rwa [sg_zero.2 hc] at this
          have HT := Lib.hid T
          rw [decide_eq_true hc] at hv2
          clear T hc
          cases bx
          · have HV : Hid (false = bv) := hv2
            clear hv2 hv h1 h2 h3 hx
            go_enter Try.func56, Try.ntmps56
            go_wp2_with fail
            refine (HQ1.out _).mono ?_
            rintro e w1 ⟨rfl, hx1⟩
            have K1 : Below w.heap.size w w1 ∧ w1.cell? ⟨w.heap.size, 0, none⟩ = some (.int .i64 i1) ∧ w1.cell? ⟨w.heap.size, 1, none⟩ = some (.int .i64 x1) ∧ w1.cell? ⟨w.heap.size, 2, none⟩ = some (.int .i64 y1) ∧ w1.cell? ⟨w.heap.size + 1, 0, none⟩ = some (.int .i64 i2) ∧ w1.cell? ⟨w.heap.size + 1, 1, none⟩ = some (.int .i64 x2) ∧ w1.cell? ⟨w.heap.size + 1, 2, none⟩ = some (.int .i64 y2) ∧ w1.cell? ⟨w.heap.size + 1 + 1, 0, none⟩ = some (.int .i64 i3) ∧ w1.cell? ⟨w.heap.size + 1 + 1, 1, none⟩ = some (.int .i64 x3) ∧ w1.cell? ⟨w.heap.size + 1 + 1, 2, none⟩ = some (.int .i64 y3) := by
              refine keep9 (Nat.le_refl _) hx1 ?_
              ((repeat' apply And.intro) <;> first | go_keep | (go_simp; done) | (repeat (first | exact Below.refl _ _ | assumption | refine Below.drew ?_ | refine Below.alloc ?_ (by first | omega | (simp <;> omega)) _ | refine Below.setCell ?_ (by first | omega | (simp <;> omega)) _)))
            obtain ⟨kb, q0, q1, q2, q3, q4, q5, q6, q7, q8⟩ := K1
            have zs1 := kb.size
            clear hx1
            go_wp2_with fail
            refine (HQ2.out _).mono ?_
            rintro e w2 ⟨rfl, hx2⟩
            have K2 : Below w.heap.size w w2 ∧ w2.cell? ⟨w.heap.size, 0, none⟩ = some (.int .i64 i1) ∧ w2.cell? ⟨w.heap.size, 1, none⟩ = some (.int .i64 x1) ∧ w2.cell? ⟨w.heap.size, 2, none⟩ = some (.int .i64 y1) ∧ w2.cell? ⟨w.heap.size + 1, 0, none⟩ = some (.int .i64 i2) ∧ w2.cell? ⟨w.heap.size + 1, 1, none⟩ = some (.int .i64 x2) ∧ w2.cell? ⟨w.heap.size + 1, 2, none⟩ = some (.int .i64 y2) ∧ w2.cell? ⟨w.heap.size + 1 + 1, 0, none⟩ = some (.int .i64 i3) ∧ w2.cell? ⟨w.heap.size + 1 + 1, 1, none⟩ = some (.int .i64 x3) ∧ w2.cell? ⟨w.heap.size + 1 + 1, 2, none⟩ = some (.int .i64 y3) := by
              refine keep9 (Nat.le_refl _) hx2 ?_
              ((repeat' apply And.intro) <;> first | go_keep | (go_simp; done) | (repeat (first | exact Below.refl _ _ | assumption | refine Below.drew ?_ | refine Below.alloc ?_ (by first | omega | (simp <;> omega)) _ | refine Below.setCell ?_ (by first | omega | (simp <;> omega)) _)))
            clear kb q0 q1 q2 q3 q4 q5 q6 q7 q8
            obtain ⟨kb, q0, q1, q2, q3, q4, q5, q6, q7, q8⟩ := K2
            have zs2 := kb.size
            clear hx2
            go_wp2_with fail
            refine (HQ3.out _).mono ?_
            rintro e w3 ⟨rfl, hx3⟩
            have K3 : Below w.heap.size w w3 ∧ w3.cell? ⟨w.heap.size, 0, none⟩ = some (.int .i64 i1) ∧ w3.cell? ⟨w.heap.size, 1, none⟩ = some (.int .i64 x1) ∧ w3.cell? ⟨w.heap.size, 2, none⟩ = some (.int .i64 y1) ∧ w3.cell? ⟨w.heap.size + 1, 0, none⟩ = some (.int .i64 i2) ∧ w3.cell? ⟨w.heap.size + 1, 1, none⟩ = some (.int .i64 x2) ∧ w3.cell? ⟨w.heap.size + 1, 2, none⟩ = some (.int .i64 y2) ∧ w3.cell? ⟨w.heap.size + 1 + 1, 0, none⟩ = some (.int .i64 i3) ∧ w3.cell? ⟨w.heap.size + 1 + 1, 1, none⟩ = some (.int .i64 x3) ∧ w3.cell? ⟨w.heap.size + 1 + 1, 2, none⟩ = some (.int .i64 y3) := by
              refine keep9 (Nat.le_refl _) hx3 ?_
              ((repeat' apply And.intro) <;> first | go_keep | (go_simp; done) | (repeat (first | exact Below.refl _ _ | assumption | refine Below.drew ?_ | refine Below.alloc ?_ (by first | omega | (simp <;> omega)) _ | refine Below.setCell ?_ (by first | omega | (simp <;> omega)) _)))
            clear kb q0 q1 q2 q3 q4 q5 q6 q7 q8
            obtain ⟨kb, q0, q1, q2, q3, q4, q5, q6, q7, q8⟩ := K3
            have zs3 := kb.size
            clear hx3
            go_wp2_with fail
            refine (HT.out _).mono ?_
            rintro e w4 ⟨rfl, hx4⟩
            have K4 : Below w.heap.size w w4 ∧ w4.cell? ⟨w.heap.size, 0, none⟩ = some (.int .i64 i1) ∧ w4.cell? ⟨w.heap.size, 1, none⟩ = some (.int .i64 x1) ∧ w4.cell? ⟨w.heap.size, 2, none⟩ = some (.int .i64 y1) ∧ w4.cell? ⟨w.heap.size + 1, 0, none⟩ = some (.int .i64 i2) ∧ w4.cell? ⟨w.heap.size + 1, 1, none⟩ = some (.int .i64 x2) ∧ w4.cell? ⟨w.heap.size + 1, 2, none⟩ = some (.int .i64 y2) ∧ w4.cell? ⟨w.heap.size + 1 + 1, 0, none⟩ = some (.int .i64 i3) ∧ w4.cell? ⟨w.heap.size + 1 + 1, 1, none⟩ = some (.int .i64 x3) ∧ w4.cell? ⟨w.heap.size + 1 + 1, 2, none⟩ = some (.int .i64 y3) := by
              refine keep9 (Nat.le_refl _) hx4 ?_
              ((repeat' apply And.intro) <;> first | go_keep | (go_simp; done) | (repeat (first | exact Below.refl _ _ | assumption | refine Below.drew ?_ | refine Below.alloc ?_ (by first | omega | (simp <;> omega)) _ | refine Below.setCell ?_ (by first | omega | (simp <;> omega)) _)))
            clear kb q0 q1 q2 q3 q4 q5 q6 q7 q8
            obtain ⟨kb, q0, q1, q2, q3, q4, q5, q6, q7, q8⟩ := K4
            have zs4 := kb.size
            clear hx4
            go_wp2_with fail
            refine (HW1.out _).mono ?_
            rintro e wq ⟨rfl, rfl⟩
            go_wp2_with fail
            go_ret
            exact ⟨ret_boolK HV.out, kb⟩
          · have HV : Hid (wiK y1 y2 y3 = bv) := hv2
            clear hv2 hv h1 h2 h3 hx
            go_enter Try.func56, Try.ntmps56
            go_wp2_with fail
            refine (HQ1.out _).mono ?_
            rintro e w1 ⟨rfl, hx1⟩
            have K1 : Below w.heap.size w w1 ∧ w1.cell? ⟨w.heap.size, 0, none⟩ = some (.int .i64 i1) ∧ w1.cell? ⟨w.heap.size, 1, none⟩ = some (.int .i64 x1) ∧ w1.cell? ⟨w.heap.size, 2, none⟩ = some (.int .i64 y1) ∧ w1.cell? ⟨w.heap.size + 1, 0, none⟩ = some (.int .i64 i2) ∧ w1.cell? ⟨w.heap.size + 1, 1, none⟩ = some (.int .i64 x2) ∧ w1.cell? ⟨w.heap.size + 1, 2, none⟩ = some (.int .i64 y2) ∧ w1.cell? ⟨w.heap.size + 1 + 1, 0, none⟩ = some (.int .i64 i3) ∧ w1.cell? ⟨w.heap.size + 1 + 1, 1, none⟩ = some (.int .i64 x3) ∧ w1.cell? ⟨w.heap.size + 1 + 1, 2, none⟩ = some (.int .i64 y3) := by
              refine keep9 (Nat.le_refl _) hx1 ?_
              ((repeat' apply And.intro) <;> first | go_keep | (go_simp; done) | (repeat (first | exact Below.refl _ _ | assumption | refine Below.drew ?_ | refine Below.alloc ?_ (by first | omega | (simp <;> omega)) _ | refine Below.setCell ?_ (by first | omega | (simp <;> omega)) _)))
            obtain ⟨kb, q0, q1, q2, q3, q4, q5, q6, q7, q8⟩ := K1
            have zs1 := kb.size
            clear hx1
            go_wp2_with fail
            refine (HQ2.out _).mono ?_
            rintro e w2 ⟨rfl, hx2⟩
            have K2 : Below w.heap.size w w2 ∧ w2.cell? ⟨w.heap.size, 0, none⟩ = some (.int .i64 i1) ∧ w2.cell? ⟨w.heap.size, 1, none⟩ = some (.int .i64 x1) ∧ w2.cell? ⟨w.heap.size, 2, none⟩ = some (.int .i64 y1) ∧ w2.cell? ⟨w.heap.size + 1, 0, none⟩ = some (.int .i64 i2) ∧ w2.cell? ⟨w.heap.size + 1, 1, none⟩ = some (.int .i64 x2) ∧ w2.cell? ⟨w.heap.size + 1, 2, none⟩ = some (.int .i64 y2) ∧ w2.cell? ⟨w.heap.size + 1 + 1, 0, none⟩ = some (.int .i64 i3) ∧ w2.cell? ⟨w.heap.size + 1 + 1, 1, none⟩ = some (.int .i64 x3) ∧ w2.cell? ⟨w.heap.size + 1 + 1, 2, none⟩ = some (.int .i64 y3) := by
              refine keep9 (Nat.le_refl _) hx2 ?_
              ((repeat' apply And.intro) <;> first | go_keep | (go_simp; done) | (repeat (first | exact Below.refl _ _ | assumption | refine Below.drew ?_ | refine Below.alloc ?_ (by first | omega | (simp <;> omega)) _ | refine Below.setCell ?_ (by first | omega | (simp <;> omega)) _)))
            clear kb q0 q1 q2 q3 q4 q5 q6 q7 q8
            obtain ⟨kb, q0, q1, q2, q3, q4, q5, q6, q7, q8⟩ := K2
            have zs2 := kb.size
            clear hx2
            go_wp2_with fail
            refine (HQ3.out _).mono ?_
            rintro e w3 ⟨rfl, hx3⟩
            have K3 : Below w.heap.size w w3 ∧ w3.cell? ⟨w.heap.size, 0, none⟩ = some (.int .i64 i1) ∧ w3.cell? ⟨w.heap.size, 1, none⟩ = some (.int .i64 x1) ∧ w3.cell? ⟨w.heap.size, 2, none⟩ = some (.int .i64 y1) ∧ w3.cell? ⟨w.heap.size + 1, 0, none⟩ = some (.int .i64 i2) ∧ w3.cell? ⟨w.heap.size + 1, 1, none⟩ = some (.int .i64 x2) ∧ w3.cell? ⟨w.heap.size + 1, 2, none⟩ = some (.int .i64 y2) ∧ w3.cell? ⟨w.heap.size + 1 + 1, 0, none⟩ = some (.int .i64 i3) ∧ w3.cell? ⟨w.heap.size + 1 + 1, 1, none⟩ = some (.int .i64 x3) ∧ w3.cell? ⟨w.heap.size + 1 + 1, 2, none⟩ = some (.int .i64 y3) := by
              refine keep9 (Nat.le_refl _) hx3 ?_
              ((repeat' apply And.intro) <;> first | go_keep | (go_simp; done) | (repeat (first | exact Below.refl _ _ | assumption | refine Below.drew ?_ | refine Below.alloc ?_ (by first | omega | (simp <;> omega)) _ | refine Below.setCell ?_ (by first | omega | (simp <;> omega)) _)))
            clear kb q0 q1 q2 q3 q4 q5 q6 q7 q8
            obtain ⟨kb, q0, q1, q2, q3, q4, q5, q6, q7, q8⟩ := K3
            have zs3 := kb.size
            clear hx3
            go_wp2_with fail
            refine (HT.out _).mono ?_
            rintro e w4 ⟨rfl, hx4⟩
            have K4 : Below w.heap.size w w4 ∧ w4.cell? ⟨w.heap.size, 0, none⟩ = some (.int .i64 i1) ∧ w4.cell? ⟨w.heap.size, 1, none⟩ = some (.int .i64 x1) ∧ w4.cell? ⟨w.heap.size, 2, none⟩ = some (.int .i64 y1) ∧ w4.cell? ⟨w.heap.size + 1, 0, none⟩ = some (.int .i64 i2) ∧ w4.cell? ⟨w.heap.size + 1, 1, none⟩ = some (.int .i64 x2) ∧ w4.cell? ⟨w.heap.size + 1, 2, none⟩ = some (.int .i64 y2) ∧ w4.cell? ⟨w.heap.size + 1 + 1, 0, none⟩ = some (.int .i64 i3) ∧ w4.cell? ⟨w.heap.size + 1 + 1, 1, none⟩ = some (.int .i64 x3) ∧ w4.cell? ⟨w.heap.size + 1 + 1, 2, none⟩ = some (.int .i64 y3) := by
              refine keep9 (Nat.le_refl _) hx4 ?_
              ((repeat' apply And.intro) <;> first | go_keep | (go_simp; done) | (repeat (first | exact Below.refl _ _ | assumption | refine Below.drew ?_ | refine Below.alloc ?_ (by first | omega | (simp <;> omega)) _ | refine Below.setCell ?_ (by first | omega | (simp <;> omega)) _)))
            clear kb q0 q1 q2 q3 q4 q5 q6 q7 q8
            obtain ⟨kb, q0, q1, q2, q3, q4, q5, q6, q7, q8⟩ := K4
            have zs4 := kb.size
            clear hx4
            go_wp2_with fail
            refine (HW1.out _).mono ?_
            rintro e wq ⟨rfl, rfl⟩
            go_wp2_with fail
            refine (HW2.out _).mono ?_
            rintro e wq ⟨rfl, rfl⟩
            go_wp2_with fail
            go_ret
            exact ⟨ret_boolK HV.out, kb⟩
        · have hs : (sg (crK x1 y1 x2 y2 x3 y3) != 0) = true := by simpa using fun h => hc (sg_zero.1 h)
          have T : ∀ w : World, Calls Try.prog 54 #[.agg #[.int .i64 i1, .int .i64 x1, .int .i64 y1], .agg #[.int .i64 i2, .int .i64 x2, .int .i64 y2], .agg #[.int .i64 i3, .int .i64 x3, .int .i64 y3]] w fun e w' => e = .returned (.int .i64 (sg (crK x1 y1 x2 y2 x3 y3))) ∧ Below w.heap.size w w' := fun w => turn_yes i1 x1 y1 i2 x2 y2 i3 x3 y3 h1 h2 h3 w
          have HT := Lib.hid T
          rw [decide_eq_false hc] at hv2
          have HV : Hid (false = bv) := hv2
          generalize sg (crK x1 y1 x2 y2 x3 y3) = s at *
          clear T hc hv2 hv h1 h2 h3 hx
          go_enter Try.func56, Try.ntmps56
          go_wp2_with fail
          refine (HQ1.out _).mono ?_
          rintro e w1 ⟨rfl, hx1⟩
          have K1 : Below w.heap.size w w1 ∧ w1.cell? ⟨w.heap.size, 0, none⟩ = some (.int .i64 i1) ∧ w1.cell? ⟨w.heap.size, 1, none⟩ = some (.int .i64 x1) ∧ w1.cell? ⟨w.heap.size, 2, none⟩ = some (.int .i64 y1) ∧ w1.cell? ⟨w.heap.size + 1, 0, none⟩ = some (.int .i64 i2) ∧ w1.cell? ⟨w.heap.size + 1, 1, none⟩ = some (.int .i64 x2) ∧ w1.cell? ⟨w.heap.size + 1, 2, none⟩ = some (.int .i64 y2) ∧ w1.cell? ⟨w.heap.size + 1 + 1, 0, none⟩ = some (.int .i64 i3) ∧ w1.cell? ⟨w.heap.size + 1 + 1, 1, none⟩ = some (.int .i64 x3) ∧ w1.cell? ⟨w.heap.size + 1 + 1, 2, none⟩ = some (.int .i64 y3) := by
            refine keep9 (Nat.le_refl _) hx1 ?_
            ((repeat' apply And.intro) <;> first | go_keep | (go_simp; done) | (repeat (first | exact Below.refl _ _ | assumption | refine Below.drew ?_ | refine Below.alloc ?_ (by first | omega | (simp <;> omega)) _ | refine Below.setCell ?_ (by first | omega | (simp <;> omega)) _)))
          obtain ⟨kb, q0, q1, q2, q3, q4, q5, q6, q7, q8⟩ := K1
          have zs1 := kb.size
          clear hx1
          go_wp2_with fail
          refine (HQ2.out _).mono ?_
          rintro e w2 ⟨rfl, hx2⟩
          have K2 : Below w.heap.size w w2 ∧ w2.cell? ⟨w.heap.size, 0, none⟩ = some (.int .i64 i1) ∧ w2.cell? ⟨w.heap.size, 1, none⟩ = some (.int .i64 x1) ∧ w2.cell? ⟨w.heap.size, 2, none⟩ = some (.int .i64 y1) ∧ w2.cell? ⟨w.heap.size + 1, 0, none⟩ = some (.int .i64 i2) ∧ w2.cell? ⟨w.heap.size + 1, 1, none⟩ = some (.int .i64 x2) ∧ w2.cell? ⟨w.heap.size + 1, 2, none⟩ = some (.int .i64 y2) ∧ w2.cell? ⟨w.heap.size + 1 + 1, 0, none⟩ = some (.int .i64 i3) ∧ w2.cell? ⟨w.heap.size + 1 + 1, 1, none⟩ = some (.int .i64 x3) ∧ w2.cell? ⟨w.heap.size + 1 + 1, 2, none⟩ = some (.int .i64 y3) := by
            refine keep9 (Nat.le_refl _) hx2 ?_
            ((repeat' apply And.intro) <;> first | go_keep | (go_simp; done) | (repeat (first | exact Below.refl _ _ | assumption | refine Below.drew ?_ | refine Below.alloc ?_ (by first | omega | (simp <;> omega)) _ | refine Below.setCell ?_ (by first | omega | (simp <;> omega)) _)))
          clear kb q0 q1 q2 q3 q4 q5 q6 q7 q8
          obtain ⟨kb, q0, q1, q2, q3, q4, q5, q6, q7, q8⟩ := K2
          have zs2 := kb.size
          clear hx2
          go_wp2_with fail
          refine (HQ3.out _).mono ?_
          rintro e w3 ⟨rfl, hx3⟩
          have K3 : Below w.heap.size w w3 ∧ w3.cell? ⟨w.heap.size, 0, none⟩ = some (.int .i64 i1) ∧ w3.cell? ⟨w.heap.size, 1, none⟩ = some (.int .i64 x1) ∧ w3.cell? ⟨w.heap.size, 2, none⟩ = some (.int .i64 y1) ∧ w3.cell? ⟨w.heap.size + 1, 0, none⟩ = some (.int .i64 i2) ∧ w3.cell? ⟨w.heap.size + 1, 1, none⟩ = some (.int .i64 x2) ∧ w3.cell? ⟨w.heap.size + 1, 2, none⟩ = some (.int .i64 y2) ∧ w3.cell? ⟨w.heap.size + 1 + 1, 0, none⟩ = some (.int .i64 i3) ∧ w3.cell? ⟨w.heap.size + 1 + 1, 1, none⟩ = some (.int .i64 x3) ∧ w3.cell? ⟨w.heap.size + 1 + 1, 2, none⟩ = some (.int .i64 y3) := by
            refine keep9 (Nat.le_refl _) hx3 ?_
            ((repeat' apply And.intro) <;> first | go_keep | (go_simp; done) | (repeat (first | exact Below.refl _ _ | assumption | refine Below.drew ?_ | refine Below.alloc ?_ (by first | omega | (simp <;> omega)) _ | refine Below.setCell ?_ (by first | omega | (simp <;> omega)) _)))
          clear kb q0 q1 q2 q3 q4 q5 q6 q7 q8
          obtain ⟨kb, q0, q1, q2, q3, q4, q5, q6, q7, q8⟩ := K3
          have zs3 := kb.size
          clear hx3
          go_wp2_with fail
          refine (HT.out _).mono ?_
          rintro e w4 ⟨rfl, hx4⟩
          have K4 : Below w.heap.size w w4 ∧ w4.cell? ⟨w.heap.size, 0, none⟩ = some (.int .i64 i1) ∧ w4.cell? ⟨w.heap.size, 1, none⟩ = some (.int .i64 x1) ∧ w4.cell? ⟨w.heap.size, 2, none⟩ = some (.int .i64 y1) ∧ w4.cell? ⟨w.heap.size + 1, 0, none⟩ = some (.int .i64 i2) ∧ w4.cell? ⟨w.heap.size + 1, 1, none⟩ = some (.int .i64 x2) ∧ w4.cell? ⟨w.heap.size + 1, 2, none⟩ = some (.int .i64 y2) ∧ w4.cell? ⟨w.heap.size + 1 + 1, 0, none⟩ = some (.int .i64 i3) ∧ w4.cell? ⟨w.heap.size + 1 + 1, 1, none⟩ = some (.int .i64 x3) ∧ w4.cell? ⟨w.heap.size + 1 + 1, 2, none⟩ = some (.int .i64 y3) := by
            refine keep9 (Nat.le_refl _) hx4 ?_
            ((repeat' apply And.intro) <;> first | go_keep | (go_simp; done) | (repeat (first | exact Below.refl _ _ | assumption | refine Below.drew ?_ | refine Below.alloc ?_ (by first | omega | (simp <;> omega)) _ | refine Below.setCell ?_ (by first | omega | (simp <;> omega)) _)))
          clear kb q0 q1 q2 q3 q4 q5 q6 q7 q8
          obtain ⟨kb, q0, q1, q2, q3, q4, q5, q6, q7, q8⟩ := K4
          have zs4 := kb.size
          clear hx4
          go_wp2_with fail
          go_ret
          exact ⟨ret_boolK HV.out, kb⟩
theorem kknown (i : Int) (h1 : 1 ≤ i) (h2 : i ≤ 2147483647) (w : World) : Calls Try.prog 63 #[.int .i64 i] w fun e w' => e = .returned (.bool true) ∧ w = w' := by
  go_enter Try.func63, Try.ntmps63
  go_wp2
  go_ret
  exact ⟨rfl, rfl⟩
theorem kgood1 (w : World) : Calls Try.prog 44 #[.agg #[.int .i64 1, .int .i64 0, .int .i64 0]] w fun e w' => e = .returned (.bool true) ∧ Below w.heap.size w w' := by
  have P : ∀ w : World, Calls Try.prog 64 #[.agg #[.int .i64 1, .int .i64 0, .int .i64 0]] w fun e w' => e = .returned (.bool true) ∧ Below w.heap.size w w' := fun w => by have := kplaced 1 0 0 w; rwa [show plK 0 0 = true from by decide] at this
  have HP := Lib.hid P
  clear P
  go_enter Try.func44, Try.ntmps44
  go_wp2_with fail
  refine (kknown 1 (by omega) (by omega) _).mono ?_
  rintro e wq ⟨rfl, rfl⟩
  go_wp2_with fail
  refine (HP.out _).mono ?_
  rintro e w1 ⟨rfl, hx1⟩
  have K1 : Below w.heap.size w w1 ∧ w1.cell? ⟨w.heap.size, 0, none⟩ = some (.int .i64 1) ∧ w1.cell? ⟨w.heap.size, 1, none⟩ = some (.int .i64 0) ∧ w1.cell? ⟨w.heap.size, 2, none⟩ = some (.int .i64 0) := by
    refine keep3 (Nat.le_refl _) hx1 ?_
    ((repeat' apply And.intro) <;> first | go_keep | (go_simp; done) | (repeat (first | exact Below.refl _ _ | assumption | refine Below.drew ?_ | refine Below.alloc ?_ (by first | omega | (simp <;> omega)) _ | refine Below.setCell ?_ (by first | omega | (simp <;> omega)) _)))
  obtain ⟨kb, q0, q1, q2⟩ := K1
  have zs1 := kb.size
  clear hx1
  go_wp2_with fail
  go_ret
  exact ⟨rfl, kb⟩
theorem lives3 (w : World) : Calls Try.prog 53 #[] w fun e w' => e = .returned (.bool true) ∧ Below w.heap.size w w' := by
  have T : ∀ w : World, Calls Try.prog 54 #[.agg #[.int .i64 0, .int .i64 0, .int .i64 0], .agg #[.int .i64 0, .int .i64 1099511627776, .int .i64 0], .agg #[.int .i64 0, .int .i64 0, .int .i64 1]] w fun e w' => e = .returned (.int .i64 1) ∧ Below w.heap.size w w' := fun w => as_int (turn_yes 0 0 0 0 1099511627776 0 0 0 1 (by decide) (by decide) (by decide) w) (by decide)
  have HT := Lib.hid T
  clear T
  go_enter Try.func53, Try.ntmps53
  go_wp2_with fail
  refine (HT.out _).mono ?_
  rintro e w1 ⟨rfl, hx1⟩
  have K1 : Below w.heap.size w w1 := below_below (Nat.le_refl _) hx1 (by first | exact kb | (repeat (first | exact Below.refl _ _ | assumption | refine Below.alloc ?_ (by first | omega | (simp <;> omega)) _)))
  have kb := K1
  have zs1 := kb.size
  clear hx1
  go_wp2_with fail
  refine (kgood1 _).mono ?_
  rintro e w2 ⟨rfl, hx2⟩
  have K2 : Below w.heap.size w w2 := below_below (Nat.le_refl _) hx2 (by first | exact kb | (repeat (first | exact Below.refl _ _ | assumption | refine Below.alloc ?_ (by first | omega | (simp <;> omega)) _)))
  clear kb
  have kb := K2
  have zs2 := kb.size
  clear hx2
  go_wp2_with fail
  go_ret
  exact ⟨rfl, kb⟩
end Go.Proofs.Ytjfdlamfklhodaa
