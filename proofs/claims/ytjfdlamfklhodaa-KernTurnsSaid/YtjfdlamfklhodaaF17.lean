/- Whether a point lies on a straight piece, by the document. -/
import Derived.Test.YtjfdlamfklhodaaF16
set_option linter.unusedVariables false
namespace Go.Proofs.Ytjfdlamfklhodaa
open Go.ChangeShapes Go.WideShapes Go.ChangeAt Go.RowKit
def inK (a b c : Int) : Bool := (decide (a ≤ c) && decide (c ≤ b)) || (decide (b ≤ c) && decide (c ≤ a))
theorem wi_in (a b c : Int) : inK a b c = wiK a b c := by rw [Bool.eq_iff_iff]; simp [inK, wiK]; omega
set_option maxRecDepth 100000 in
set_option maxHeartbeats 8000000 in
theorem rbetween (i1 x1 y1 i2 x2 y2 i3 x3 y3 : Int) (w : World) :
    Calls Try.prog 57 #[.agg #[.int .i64 i1, .int .i64 x1, .int .i64 y1], .agg #[.int .i64 i2, .int .i64 x2, .int .i64 y2], .agg #[.int .i64 i3, .int .i64 x3, .int .i64 y3]] w fun e w' => e = .returned (.bool (btK x1 y1 x2 y2 x3 y3)) ∧ Below w.heap.size w w' := by
  obtain ⟨b1, h1⟩ : ∃ b, plK x1 y1 = b := ⟨_, rfl⟩
  obtain ⟨b2, h2⟩ : ∃ b, plK x2 y2 = b := ⟨_, rfl⟩
  obtain ⟨b3, h3⟩ : ∃ b, plK x3 y3 = b := ⟨_, rfl⟩
  obtain ⟨bv, hv⟩ : ∃ b, btK x1 y1 x2 y2 x3 y3 = b := ⟨_, rfl⟩
  have L1 : ∀ w : World, Calls Try.prog 66 #[.agg #[.int .i64 i1, .int .i64 x1, .int .i64 y1]] w fun e w' => e = .returned (.bool b1) ∧ Below w.heap.size w w' := fun w => by rw [← h1]; exact klies _ _ _ w
  have HL1 := Lib.hid L1
  clear L1
  have L2 : ∀ w : World, Calls Try.prog 66 #[.agg #[.int .i64 i2, .int .i64 x2, .int .i64 y2]] w fun e w' => e = .returned (.bool b2) ∧ Below w.heap.size w w' := fun w => by rw [← h2]; exact klies _ _ _ w
  have HL2 := Lib.hid L2
  clear L2
  have L3 : ∀ w : World, Calls Try.prog 66 #[.agg #[.int .i64 i3, .int .i64 x3, .int .i64 y3]] w fun e w' => e = .returned (.bool b3) ∧ Below w.heap.size w w' := fun w => by rw [← h3]; exact klies _ _ _ w
  have HL3 := Lib.hid L3
  clear L3
  have hv2 := hv
  unfold btK at hv2
  rw [h1, h2, h3, ← wi_in, ← wi_in] at hv2
  rw [hv]
  cases b1
  · skip
    have HV : Hid (false = bv) := hv2
    clear hv2 hv h1 h2 h3
    go_enter Try.func57, Try.ntmps57
    go_wp2_with fail
    refine (HL1.out _).mono ?_
    rintro e w1 ⟨rfl, hx1⟩
    have K1 : Below w.heap.size w w1 ∧ w1.cell? ⟨w.heap.size, 0, none⟩ = some (.int .i64 i1) ∧ w1.cell? ⟨w.heap.size, 1, none⟩ = some (.int .i64 x1) ∧ w1.cell? ⟨w.heap.size, 2, none⟩ = some (.int .i64 y1) ∧ w1.cell? ⟨w.heap.size + 1, 0, none⟩ = some (.int .i64 i2) ∧ w1.cell? ⟨w.heap.size + 1, 1, none⟩ = some (.int .i64 x2) ∧ w1.cell? ⟨w.heap.size + 1, 2, none⟩ = some (.int .i64 y2) ∧ w1.cell? ⟨w.heap.size + 1 + 1, 0, none⟩ = some (.int .i64 i3) ∧ w1.cell? ⟨w.heap.size + 1 + 1, 1, none⟩ = some (.int .i64 x3) ∧ w1.cell? ⟨w.heap.size + 1 + 1, 2, none⟩ = some (.int .i64 y3) := by
      refine keep9 (Nat.le_refl _) hx1 ?_
      ((repeat' apply And.intro) <;> first | (go_keep; done) | (go_simp; done) | (repeat (first | exact Below.refl _ _ | assumption | refine Below.drew ?_ | refine Below.alloc ?_ (by first | omega | (simp <;> omega)) _ | refine Below.setCell ?_ (by first | omega | (simp <;> omega)) _)))
    have zp0_1 : w.heap.size < w1.heap.size := by have hq := hx1.size; first | omega | (simp at hq; omega)
    have zp1_1 : w.heap.size + 1 < w1.heap.size := by have hq := hx1.size; first | omega | (simp at hq; omega)
    have zp2_1 : w.heap.size + 2 < w1.heap.size := by have hq := hx1.size; first | omega | (simp at hq; omega)
    obtain ⟨kb, q0, q1, q2, q3, q4, q5, q6, q7, q8⟩ := K1
    have zs1 := kb.size
    clear hx1
    go_wp2_with fail
    go_ret
    exact ⟨ret_boolK HV.out, kb⟩
  · cases b2
    · skip
      have HV : Hid (false = bv) := hv2
      clear hv2 hv h1 h2 h3
      go_enter Try.func57, Try.ntmps57
      go_wp2_with fail
      refine (HL1.out _).mono ?_
      rintro e w1 ⟨rfl, hx1⟩
      have K1 : Below w.heap.size w w1 ∧ w1.cell? ⟨w.heap.size, 0, none⟩ = some (.int .i64 i1) ∧ w1.cell? ⟨w.heap.size, 1, none⟩ = some (.int .i64 x1) ∧ w1.cell? ⟨w.heap.size, 2, none⟩ = some (.int .i64 y1) ∧ w1.cell? ⟨w.heap.size + 1, 0, none⟩ = some (.int .i64 i2) ∧ w1.cell? ⟨w.heap.size + 1, 1, none⟩ = some (.int .i64 x2) ∧ w1.cell? ⟨w.heap.size + 1, 2, none⟩ = some (.int .i64 y2) ∧ w1.cell? ⟨w.heap.size + 1 + 1, 0, none⟩ = some (.int .i64 i3) ∧ w1.cell? ⟨w.heap.size + 1 + 1, 1, none⟩ = some (.int .i64 x3) ∧ w1.cell? ⟨w.heap.size + 1 + 1, 2, none⟩ = some (.int .i64 y3) := by
        refine keep9 (Nat.le_refl _) hx1 ?_
        ((repeat' apply And.intro) <;> first | (go_keep; done) | (go_simp; done) | (repeat (first | exact Below.refl _ _ | assumption | refine Below.drew ?_ | refine Below.alloc ?_ (by first | omega | (simp <;> omega)) _ | refine Below.setCell ?_ (by first | omega | (simp <;> omega)) _)))
      have zp0_1 : w.heap.size < w1.heap.size := by have hq := hx1.size; first | omega | (simp at hq; omega)
      have zp1_1 : w.heap.size + 1 < w1.heap.size := by have hq := hx1.size; first | omega | (simp at hq; omega)
      have zp2_1 : w.heap.size + 2 < w1.heap.size := by have hq := hx1.size; first | omega | (simp at hq; omega)
      obtain ⟨kb, q0, q1, q2, q3, q4, q5, q6, q7, q8⟩ := K1
      have zs1 := kb.size
      clear hx1
      go_wp2_with fail
      refine (HL2.out _).mono ?_
      rintro e w2 ⟨rfl, hx2⟩
      have K2 : Below w.heap.size w w2 ∧ w2.cell? ⟨w.heap.size, 0, none⟩ = some (.int .i64 i1) ∧ w2.cell? ⟨w.heap.size, 1, none⟩ = some (.int .i64 x1) ∧ w2.cell? ⟨w.heap.size, 2, none⟩ = some (.int .i64 y1) ∧ w2.cell? ⟨w.heap.size + 1, 0, none⟩ = some (.int .i64 i2) ∧ w2.cell? ⟨w.heap.size + 1, 1, none⟩ = some (.int .i64 x2) ∧ w2.cell? ⟨w.heap.size + 1, 2, none⟩ = some (.int .i64 y2) ∧ w2.cell? ⟨w.heap.size + 1 + 1, 0, none⟩ = some (.int .i64 i3) ∧ w2.cell? ⟨w.heap.size + 1 + 1, 1, none⟩ = some (.int .i64 x3) ∧ w2.cell? ⟨w.heap.size + 1 + 1, 2, none⟩ = some (.int .i64 y3) := by
        refine keep9 (Nat.le_refl _) hx2 ?_
        ((repeat' apply And.intro) <;> first | (go_keep; done) | (go_simp; done) | (repeat (first | exact Below.refl _ _ | assumption | refine Below.drew ?_ | refine Below.alloc ?_ (by first | omega | (simp <;> omega)) _ | refine Below.setCell ?_ (by first | omega | (simp <;> omega)) _)))
      have zp0_2 : w.heap.size < w2.heap.size := by have hq := hx2.size; first | omega | (simp at hq; omega)
      have zp1_2 : w.heap.size + 1 < w2.heap.size := by have hq := hx2.size; first | omega | (simp at hq; omega)
      have zp2_2 : w.heap.size + 2 < w2.heap.size := by have hq := hx2.size; first | omega | (simp at hq; omega)
      clear kb q0 q1 q2 q3 q4 q5 q6 q7 q8
      obtain ⟨kb, q0, q1, q2, q3, q4, q5, q6, q7, q8⟩ := K2
      have zs2 := kb.size
      clear hx2
      go_wp2_with fail
      go_ret
      exact ⟨ret_boolK HV.out, kb⟩
    · cases b3
      · skip
        have HV : Hid (false = bv) := hv2
        clear hv2 hv h1 h2 h3
        go_enter Try.func57, Try.ntmps57
        go_wp2_with fail
        refine (HL1.out _).mono ?_
        rintro e w1 ⟨rfl, hx1⟩
        have K1 : Below w.heap.size w w1 ∧ w1.cell? ⟨w.heap.size, 0, none⟩ = some (.int .i64 i1) ∧ w1.cell? ⟨w.heap.size, 1, none⟩ = some (.int .i64 x1) ∧ w1.cell? ⟨w.heap.size, 2, none⟩ = some (.int .i64 y1) ∧ w1.cell? ⟨w.heap.size + 1, 0, none⟩ = some (.int .i64 i2) ∧ w1.cell? ⟨w.heap.size + 1, 1, none⟩ = some (.int .i64 x2) ∧ w1.cell? ⟨w.heap.size + 1, 2, none⟩ = some (.int .i64 y2) ∧ w1.cell? ⟨w.heap.size + 1 + 1, 0, none⟩ = some (.int .i64 i3) ∧ w1.cell? ⟨w.heap.size + 1 + 1, 1, none⟩ = some (.int .i64 x3) ∧ w1.cell? ⟨w.heap.size + 1 + 1, 2, none⟩ = some (.int .i64 y3) := by
          refine keep9 (Nat.le_refl _) hx1 ?_
          ((repeat' apply And.intro) <;> first | (go_keep; done) | (go_simp; done) | (repeat (first | exact Below.refl _ _ | assumption | refine Below.drew ?_ | refine Below.alloc ?_ (by first | omega | (simp <;> omega)) _ | refine Below.setCell ?_ (by first | omega | (simp <;> omega)) _)))
        have zp0_1 : w.heap.size < w1.heap.size := by have hq := hx1.size; first | omega | (simp at hq; omega)
        have zp1_1 : w.heap.size + 1 < w1.heap.size := by have hq := hx1.size; first | omega | (simp at hq; omega)
        have zp2_1 : w.heap.size + 2 < w1.heap.size := by have hq := hx1.size; first | omega | (simp at hq; omega)
        obtain ⟨kb, q0, q1, q2, q3, q4, q5, q6, q7, q8⟩ := K1
        have zs1 := kb.size
        clear hx1
        go_wp2_with fail
        refine (HL2.out _).mono ?_
        rintro e w2 ⟨rfl, hx2⟩
        have K2 : Below w.heap.size w w2 ∧ w2.cell? ⟨w.heap.size, 0, none⟩ = some (.int .i64 i1) ∧ w2.cell? ⟨w.heap.size, 1, none⟩ = some (.int .i64 x1) ∧ w2.cell? ⟨w.heap.size, 2, none⟩ = some (.int .i64 y1) ∧ w2.cell? ⟨w.heap.size + 1, 0, none⟩ = some (.int .i64 i2) ∧ w2.cell? ⟨w.heap.size + 1, 1, none⟩ = some (.int .i64 x2) ∧ w2.cell? ⟨w.heap.size + 1, 2, none⟩ = some (.int .i64 y2) ∧ w2.cell? ⟨w.heap.size + 1 + 1, 0, none⟩ = some (.int .i64 i3) ∧ w2.cell? ⟨w.heap.size + 1 + 1, 1, none⟩ = some (.int .i64 x3) ∧ w2.cell? ⟨w.heap.size + 1 + 1, 2, none⟩ = some (.int .i64 y3) := by
          refine keep9 (Nat.le_refl _) hx2 ?_
          ((repeat' apply And.intro) <;> first | (go_keep; done) | (go_simp; done) | (repeat (first | exact Below.refl _ _ | assumption | refine Below.drew ?_ | refine Below.alloc ?_ (by first | omega | (simp <;> omega)) _ | refine Below.setCell ?_ (by first | omega | (simp <;> omega)) _)))
        have zp0_2 : w.heap.size < w2.heap.size := by have hq := hx2.size; first | omega | (simp at hq; omega)
        have zp1_2 : w.heap.size + 1 < w2.heap.size := by have hq := hx2.size; first | omega | (simp at hq; omega)
        have zp2_2 : w.heap.size + 2 < w2.heap.size := by have hq := hx2.size; first | omega | (simp at hq; omega)
        clear kb q0 q1 q2 q3 q4 q5 q6 q7 q8
        obtain ⟨kb, q0, q1, q2, q3, q4, q5, q6, q7, q8⟩ := K2
        have zs2 := kb.size
        clear hx2
        go_wp2_with fail
        refine (HL3.out _).mono ?_
        rintro e w3 ⟨rfl, hx3⟩
        have K3 : Below w.heap.size w w3 ∧ w3.cell? ⟨w.heap.size, 0, none⟩ = some (.int .i64 i1) ∧ w3.cell? ⟨w.heap.size, 1, none⟩ = some (.int .i64 x1) ∧ w3.cell? ⟨w.heap.size, 2, none⟩ = some (.int .i64 y1) ∧ w3.cell? ⟨w.heap.size + 1, 0, none⟩ = some (.int .i64 i2) ∧ w3.cell? ⟨w.heap.size + 1, 1, none⟩ = some (.int .i64 x2) ∧ w3.cell? ⟨w.heap.size + 1, 2, none⟩ = some (.int .i64 y2) ∧ w3.cell? ⟨w.heap.size + 1 + 1, 0, none⟩ = some (.int .i64 i3) ∧ w3.cell? ⟨w.heap.size + 1 + 1, 1, none⟩ = some (.int .i64 x3) ∧ w3.cell? ⟨w.heap.size + 1 + 1, 2, none⟩ = some (.int .i64 y3) := by
          refine keep9 (Nat.le_refl _) hx3 ?_
          ((repeat' apply And.intro) <;> first | (go_keep; done) | (go_simp; done) | (repeat (first | exact Below.refl _ _ | assumption | refine Below.drew ?_ | refine Below.alloc ?_ (by first | omega | (simp <;> omega)) _ | refine Below.setCell ?_ (by first | omega | (simp <;> omega)) _)))
        have zp0_3 : w.heap.size < w3.heap.size := by have hq := hx3.size; first | omega | (simp at hq; omega)
        have zp1_3 : w.heap.size + 1 < w3.heap.size := by have hq := hx3.size; first | omega | (simp at hq; omega)
        have zp2_3 : w.heap.size + 2 < w3.heap.size := by have hq := hx3.size; first | omega | (simp at hq; omega)
        clear kb q0 q1 q2 q3 q4 q5 q6 q7 q8
        obtain ⟨kb, q0, q1, q2, q3, q4, q5, q6, q7, q8⟩ := K3
        have zs3 := kb.size
        clear hx3
        go_wp2_with fail
        go_ret
        exact ⟨ret_boolK HV.out, kb⟩
      · skip
        have hT : ∀ w : World, Calls Try.prog 55 #[.agg #[.int .i64 i1, .int .i64 x1, .int .i64 y1], .agg #[.int .i64 i2, .int .i64 x2, .int .i64 y2], .agg #[.int .i64 i3, .int .i64 x3, .int .i64 y3]] w fun e w' => e = .returned (.int .i64 (sg (crK x1 y1 x2 y2 x3 y3))) ∧ Below w.heap.size w w' := fun w => rturn_yes i1 x1 y1 i2 x2 y2 i3 x3 y3 h1 h2 h3 w
        have HT := Lib.hid hT
        clear hT
        obtain ⟨t, ht⟩ : ∃ t, sg (crK x1 y1 x2 y2 x3 y3) = t := ⟨_, rfl⟩
        rw [ht] at HT
        by_cases hz : t = 0
        · have hc : crK x1 y1 x2 y2 x3 y3 = 0 := sg_zero.1 (ht.trans hz)
          subst hz
          rw [hc] at hv2
          have HV : Hid ((inK x1 x2 x3 && inK y1 y2 y3) = bv) := Lib.hid (by simpa using hv2)
          clear hv2 hv h1 h2 h3 hc ht
          go_enter Try.func57, Try.ntmps57
          go_wp2_with fail
          refine (HL1.out _).mono ?_
          rintro e w1 ⟨rfl, hx1⟩
          have K1 : Below w.heap.size w w1 ∧ w1.cell? ⟨w.heap.size, 0, none⟩ = some (.int .i64 i1) ∧ w1.cell? ⟨w.heap.size, 1, none⟩ = some (.int .i64 x1) ∧ w1.cell? ⟨w.heap.size, 2, none⟩ = some (.int .i64 y1) ∧ w1.cell? ⟨w.heap.size + 1, 0, none⟩ = some (.int .i64 i2) ∧ w1.cell? ⟨w.heap.size + 1, 1, none⟩ = some (.int .i64 x2) ∧ w1.cell? ⟨w.heap.size + 1, 2, none⟩ = some (.int .i64 y2) ∧ w1.cell? ⟨w.heap.size + 1 + 1, 0, none⟩ = some (.int .i64 i3) ∧ w1.cell? ⟨w.heap.size + 1 + 1, 1, none⟩ = some (.int .i64 x3) ∧ w1.cell? ⟨w.heap.size + 1 + 1, 2, none⟩ = some (.int .i64 y3) := by
            refine keep9 (Nat.le_refl _) hx1 ?_
            ((repeat' apply And.intro) <;> first | (go_keep; done) | (go_simp; done) | (repeat (first | exact Below.refl _ _ | assumption | refine Below.drew ?_ | refine Below.alloc ?_ (by first | omega | (simp <;> omega)) _ | refine Below.setCell ?_ (by first | omega | (simp <;> omega)) _)))
          have zp0_1 : w.heap.size < w1.heap.size := by have hq := hx1.size; first | omega | (simp at hq; omega)
          have zp1_1 : w.heap.size + 1 < w1.heap.size := by have hq := hx1.size; first | omega | (simp at hq; omega)
          have zp2_1 : w.heap.size + 2 < w1.heap.size := by have hq := hx1.size; first | omega | (simp at hq; omega)
          obtain ⟨kb, q0, q1, q2, q3, q4, q5, q6, q7, q8⟩ := K1
          have zs1 := kb.size
          clear hx1
          go_wp2_with fail
          refine (HL2.out _).mono ?_
          rintro e w2 ⟨rfl, hx2⟩
          have K2 : Below w.heap.size w w2 ∧ w2.cell? ⟨w.heap.size, 0, none⟩ = some (.int .i64 i1) ∧ w2.cell? ⟨w.heap.size, 1, none⟩ = some (.int .i64 x1) ∧ w2.cell? ⟨w.heap.size, 2, none⟩ = some (.int .i64 y1) ∧ w2.cell? ⟨w.heap.size + 1, 0, none⟩ = some (.int .i64 i2) ∧ w2.cell? ⟨w.heap.size + 1, 1, none⟩ = some (.int .i64 x2) ∧ w2.cell? ⟨w.heap.size + 1, 2, none⟩ = some (.int .i64 y2) ∧ w2.cell? ⟨w.heap.size + 1 + 1, 0, none⟩ = some (.int .i64 i3) ∧ w2.cell? ⟨w.heap.size + 1 + 1, 1, none⟩ = some (.int .i64 x3) ∧ w2.cell? ⟨w.heap.size + 1 + 1, 2, none⟩ = some (.int .i64 y3) := by
            refine keep9 (Nat.le_refl _) hx2 ?_
            ((repeat' apply And.intro) <;> first | (go_keep; done) | (go_simp; done) | (repeat (first | exact Below.refl _ _ | assumption | refine Below.drew ?_ | refine Below.alloc ?_ (by first | omega | (simp <;> omega)) _ | refine Below.setCell ?_ (by first | omega | (simp <;> omega)) _)))
          have zp0_2 : w.heap.size < w2.heap.size := by have hq := hx2.size; first | omega | (simp at hq; omega)
          have zp1_2 : w.heap.size + 1 < w2.heap.size := by have hq := hx2.size; first | omega | (simp at hq; omega)
          have zp2_2 : w.heap.size + 2 < w2.heap.size := by have hq := hx2.size; first | omega | (simp at hq; omega)
          clear kb q0 q1 q2 q3 q4 q5 q6 q7 q8
          obtain ⟨kb, q0, q1, q2, q3, q4, q5, q6, q7, q8⟩ := K2
          have zs2 := kb.size
          clear hx2
          go_wp2_with fail
          refine (HL3.out _).mono ?_
          rintro e w3 ⟨rfl, hx3⟩
          have K3 : Below w.heap.size w w3 ∧ w3.cell? ⟨w.heap.size, 0, none⟩ = some (.int .i64 i1) ∧ w3.cell? ⟨w.heap.size, 1, none⟩ = some (.int .i64 x1) ∧ w3.cell? ⟨w.heap.size, 2, none⟩ = some (.int .i64 y1) ∧ w3.cell? ⟨w.heap.size + 1, 0, none⟩ = some (.int .i64 i2) ∧ w3.cell? ⟨w.heap.size + 1, 1, none⟩ = some (.int .i64 x2) ∧ w3.cell? ⟨w.heap.size + 1, 2, none⟩ = some (.int .i64 y2) ∧ w3.cell? ⟨w.heap.size + 1 + 1, 0, none⟩ = some (.int .i64 i3) ∧ w3.cell? ⟨w.heap.size + 1 + 1, 1, none⟩ = some (.int .i64 x3) ∧ w3.cell? ⟨w.heap.size + 1 + 1, 2, none⟩ = some (.int .i64 y3) := by
            refine keep9 (Nat.le_refl _) hx3 ?_
            ((repeat' apply And.intro) <;> first | (go_keep; done) | (go_simp; done) | (repeat (first | exact Below.refl _ _ | assumption | refine Below.drew ?_ | refine Below.alloc ?_ (by first | omega | (simp <;> omega)) _ | refine Below.setCell ?_ (by first | omega | (simp <;> omega)) _)))
          have zp0_3 : w.heap.size < w3.heap.size := by have hq := hx3.size; first | omega | (simp at hq; omega)
          have zp1_3 : w.heap.size + 1 < w3.heap.size := by have hq := hx3.size; first | omega | (simp at hq; omega)
          have zp2_3 : w.heap.size + 2 < w3.heap.size := by have hq := hx3.size; first | omega | (simp at hq; omega)
          clear kb q0 q1 q2 q3 q4 q5 q6 q7 q8
          obtain ⟨kb, q0, q1, q2, q3, q4, q5, q6, q7, q8⟩ := K3
          have zs3 := kb.size
          clear hx3
          go_wp2_with fail
          refine (HT.out _).mono ?_
          rintro e w4 ⟨rfl, hx4⟩
          have K4 : Below w.heap.size w w4 ∧ w4.cell? ⟨w.heap.size, 0, none⟩ = some (.int .i64 i1) ∧ w4.cell? ⟨w.heap.size, 1, none⟩ = some (.int .i64 x1) ∧ w4.cell? ⟨w.heap.size, 2, none⟩ = some (.int .i64 y1) ∧ w4.cell? ⟨w.heap.size + 1, 0, none⟩ = some (.int .i64 i2) ∧ w4.cell? ⟨w.heap.size + 1, 1, none⟩ = some (.int .i64 x2) ∧ w4.cell? ⟨w.heap.size + 1, 2, none⟩ = some (.int .i64 y2) ∧ w4.cell? ⟨w.heap.size + 1 + 1, 0, none⟩ = some (.int .i64 i3) ∧ w4.cell? ⟨w.heap.size + 1 + 1, 1, none⟩ = some (.int .i64 x3) ∧ w4.cell? ⟨w.heap.size + 1 + 1, 2, none⟩ = some (.int .i64 y3) := by
            refine keep9 (Nat.le_refl _) hx4 ?_
            ((repeat' apply And.intro) <;> first | (go_keep; done) | (go_simp; done) | (repeat (first | exact Below.refl _ _ | assumption | refine Below.drew ?_ | refine Below.alloc ?_ (by first | omega | (simp <;> omega)) _ | refine Below.setCell ?_ (by first | omega | (simp <;> omega)) _)))
          have zp0_4 : w.heap.size < w4.heap.size := by have hq := hx4.size; first | omega | (simp at hq; omega)
          have zp1_4 : w.heap.size + 1 < w4.heap.size := by have hq := hx4.size; first | omega | (simp at hq; omega)
          have zp2_4 : w.heap.size + 2 < w4.heap.size := by have hq := hx4.size; first | omega | (simp at hq; omega)
          clear kb q0 q1 q2 q3 q4 q5 q6 q7 q8
          obtain ⟨kb, q0, q1, q2, q3, q4, q5, q6, q7, q8⟩ := K4
          have zs4 := kb.size
          clear hx4
          go_upto_region 3 with fail
          go_cut [7] (fun s7 wx => s7 = .bool (inK x1 x2 x3) ∧ wx = w4)
          case first =>
            by_cases c1 : x1 ≤ x3 <;> by_cases c2 : x3 ≤ x2 <;> by_cases c3 : x2 ≤ x3 <;> by_cases c4 : x3 ≤ x1 <;> try (exfalso; omega)
            all_goals (go_wp2_with fail; go_meet; exact ⟨congrArg Value.bool (by rw [Bool.eq_iff_iff]; simp [inK] <;> omega), rfl⟩)
          obtain ⟨rfl, rfl⟩ := hcut
          have HV' := HV.out
          clear HV
          cases hin : inK x1 x2 x3
          · rw [hin] at HV'
            have HV : Hid (false = bv) := HV'
            clear HV' hin
            go_wp2_with fail
            go_ret
            exact ⟨ret_boolK HV.out, kb⟩
          · rw [hin] at HV'
            have HV : Hid (inK y1 y2 y3 = bv) := Lib.hid (by simpa using HV')
            clear HV' hin
            by_cases c1 : y1 ≤ y3 <;> by_cases c2 : y3 ≤ y2 <;> by_cases c3 : y2 ≤ y3 <;> by_cases c4 : y3 ≤ y1 <;> try (exfalso; omega)
            all_goals (go_wp2_with fail; go_ret; exact ⟨ret_boolK (by rw [← HV.out, Bool.eq_iff_iff]; simp [inK] <;> omega), kb⟩)
        · have hc : ¬ crK x1 y1 x2 y2 x3 y3 = 0 := fun h => hz (ht.symm.trans (sg_zero.2 h))
          have HV : Hid (false = bv) := Lib.hid (by rw [← hv2, decide_eq_false hc]; rfl)
          have hn : ((t : Int) != 0) = true := by rw [bne_iff_ne]; exact hz
          clear hv2 hv h1 h2 h3 hc ht hz
          go_enter Try.func57, Try.ntmps57
          go_wp2_with fail
          refine (HL1.out _).mono ?_
          rintro e w1 ⟨rfl, hx1⟩
          have K1 : Below w.heap.size w w1 ∧ w1.cell? ⟨w.heap.size, 0, none⟩ = some (.int .i64 i1) ∧ w1.cell? ⟨w.heap.size, 1, none⟩ = some (.int .i64 x1) ∧ w1.cell? ⟨w.heap.size, 2, none⟩ = some (.int .i64 y1) ∧ w1.cell? ⟨w.heap.size + 1, 0, none⟩ = some (.int .i64 i2) ∧ w1.cell? ⟨w.heap.size + 1, 1, none⟩ = some (.int .i64 x2) ∧ w1.cell? ⟨w.heap.size + 1, 2, none⟩ = some (.int .i64 y2) ∧ w1.cell? ⟨w.heap.size + 1 + 1, 0, none⟩ = some (.int .i64 i3) ∧ w1.cell? ⟨w.heap.size + 1 + 1, 1, none⟩ = some (.int .i64 x3) ∧ w1.cell? ⟨w.heap.size + 1 + 1, 2, none⟩ = some (.int .i64 y3) := by
            refine keep9 (Nat.le_refl _) hx1 ?_
            ((repeat' apply And.intro) <;> first | (go_keep; done) | (go_simp; done) | (repeat (first | exact Below.refl _ _ | assumption | refine Below.drew ?_ | refine Below.alloc ?_ (by first | omega | (simp <;> omega)) _ | refine Below.setCell ?_ (by first | omega | (simp <;> omega)) _)))
          have zp0_1 : w.heap.size < w1.heap.size := by have hq := hx1.size; first | omega | (simp at hq; omega)
          have zp1_1 : w.heap.size + 1 < w1.heap.size := by have hq := hx1.size; first | omega | (simp at hq; omega)
          have zp2_1 : w.heap.size + 2 < w1.heap.size := by have hq := hx1.size; first | omega | (simp at hq; omega)
          obtain ⟨kb, q0, q1, q2, q3, q4, q5, q6, q7, q8⟩ := K1
          have zs1 := kb.size
          clear hx1
          go_wp2_with fail
          refine (HL2.out _).mono ?_
          rintro e w2 ⟨rfl, hx2⟩
          have K2 : Below w.heap.size w w2 ∧ w2.cell? ⟨w.heap.size, 0, none⟩ = some (.int .i64 i1) ∧ w2.cell? ⟨w.heap.size, 1, none⟩ = some (.int .i64 x1) ∧ w2.cell? ⟨w.heap.size, 2, none⟩ = some (.int .i64 y1) ∧ w2.cell? ⟨w.heap.size + 1, 0, none⟩ = some (.int .i64 i2) ∧ w2.cell? ⟨w.heap.size + 1, 1, none⟩ = some (.int .i64 x2) ∧ w2.cell? ⟨w.heap.size + 1, 2, none⟩ = some (.int .i64 y2) ∧ w2.cell? ⟨w.heap.size + 1 + 1, 0, none⟩ = some (.int .i64 i3) ∧ w2.cell? ⟨w.heap.size + 1 + 1, 1, none⟩ = some (.int .i64 x3) ∧ w2.cell? ⟨w.heap.size + 1 + 1, 2, none⟩ = some (.int .i64 y3) := by
            refine keep9 (Nat.le_refl _) hx2 ?_
            ((repeat' apply And.intro) <;> first | (go_keep; done) | (go_simp; done) | (repeat (first | exact Below.refl _ _ | assumption | refine Below.drew ?_ | refine Below.alloc ?_ (by first | omega | (simp <;> omega)) _ | refine Below.setCell ?_ (by first | omega | (simp <;> omega)) _)))
          have zp0_2 : w.heap.size < w2.heap.size := by have hq := hx2.size; first | omega | (simp at hq; omega)
          have zp1_2 : w.heap.size + 1 < w2.heap.size := by have hq := hx2.size; first | omega | (simp at hq; omega)
          have zp2_2 : w.heap.size + 2 < w2.heap.size := by have hq := hx2.size; first | omega | (simp at hq; omega)
          clear kb q0 q1 q2 q3 q4 q5 q6 q7 q8
          obtain ⟨kb, q0, q1, q2, q3, q4, q5, q6, q7, q8⟩ := K2
          have zs2 := kb.size
          clear hx2
          go_wp2_with fail
          refine (HL3.out _).mono ?_
          rintro e w3 ⟨rfl, hx3⟩
          have K3 : Below w.heap.size w w3 ∧ w3.cell? ⟨w.heap.size, 0, none⟩ = some (.int .i64 i1) ∧ w3.cell? ⟨w.heap.size, 1, none⟩ = some (.int .i64 x1) ∧ w3.cell? ⟨w.heap.size, 2, none⟩ = some (.int .i64 y1) ∧ w3.cell? ⟨w.heap.size + 1, 0, none⟩ = some (.int .i64 i2) ∧ w3.cell? ⟨w.heap.size + 1, 1, none⟩ = some (.int .i64 x2) ∧ w3.cell? ⟨w.heap.size + 1, 2, none⟩ = some (.int .i64 y2) ∧ w3.cell? ⟨w.heap.size + 1 + 1, 0, none⟩ = some (.int .i64 i3) ∧ w3.cell? ⟨w.heap.size + 1 + 1, 1, none⟩ = some (.int .i64 x3) ∧ w3.cell? ⟨w.heap.size + 1 + 1, 2, none⟩ = some (.int .i64 y3) := by
            refine keep9 (Nat.le_refl _) hx3 ?_
            ((repeat' apply And.intro) <;> first | (go_keep; done) | (go_simp; done) | (repeat (first | exact Below.refl _ _ | assumption | refine Below.drew ?_ | refine Below.alloc ?_ (by first | omega | (simp <;> omega)) _ | refine Below.setCell ?_ (by first | omega | (simp <;> omega)) _)))
          have zp0_3 : w.heap.size < w3.heap.size := by have hq := hx3.size; first | omega | (simp at hq; omega)
          have zp1_3 : w.heap.size + 1 < w3.heap.size := by have hq := hx3.size; first | omega | (simp at hq; omega)
          have zp2_3 : w.heap.size + 2 < w3.heap.size := by have hq := hx3.size; first | omega | (simp at hq; omega)
          clear kb q0 q1 q2 q3 q4 q5 q6 q7 q8
          obtain ⟨kb, q0, q1, q2, q3, q4, q5, q6, q7, q8⟩ := K3
          have zs3 := kb.size
          clear hx3
          go_wp2_with fail
          refine (HT.out _).mono ?_
          rintro e w4 ⟨rfl, hx4⟩
          have K4 : Below w.heap.size w w4 ∧ w4.cell? ⟨w.heap.size, 0, none⟩ = some (.int .i64 i1) ∧ w4.cell? ⟨w.heap.size, 1, none⟩ = some (.int .i64 x1) ∧ w4.cell? ⟨w.heap.size, 2, none⟩ = some (.int .i64 y1) ∧ w4.cell? ⟨w.heap.size + 1, 0, none⟩ = some (.int .i64 i2) ∧ w4.cell? ⟨w.heap.size + 1, 1, none⟩ = some (.int .i64 x2) ∧ w4.cell? ⟨w.heap.size + 1, 2, none⟩ = some (.int .i64 y2) ∧ w4.cell? ⟨w.heap.size + 1 + 1, 0, none⟩ = some (.int .i64 i3) ∧ w4.cell? ⟨w.heap.size + 1 + 1, 1, none⟩ = some (.int .i64 x3) ∧ w4.cell? ⟨w.heap.size + 1 + 1, 2, none⟩ = some (.int .i64 y3) := by
            refine keep9 (Nat.le_refl _) hx4 ?_
            ((repeat' apply And.intro) <;> first | (go_keep; done) | (go_simp; done) | (repeat (first | exact Below.refl _ _ | assumption | refine Below.drew ?_ | refine Below.alloc ?_ (by first | omega | (simp <;> omega)) _ | refine Below.setCell ?_ (by first | omega | (simp <;> omega)) _)))
          have zp0_4 : w.heap.size < w4.heap.size := by have hq := hx4.size; first | omega | (simp at hq; omega)
          have zp1_4 : w.heap.size + 1 < w4.heap.size := by have hq := hx4.size; first | omega | (simp at hq; omega)
          have zp2_4 : w.heap.size + 2 < w4.heap.size := by have hq := hx4.size; first | omega | (simp at hq; omega)
          clear kb q0 q1 q2 q3 q4 q5 q6 q7 q8
          obtain ⟨kb, q0, q1, q2, q3, q4, q5, q6, q7, q8⟩ := K4
          have zs4 := kb.size
          clear hx4
          go_wp2_with fail
          go_ret
          exact ⟨ret_boolK HV.out, kb⟩
end Go.Proofs.Ytjfdlamfklhodaa
