/- Each of a straight piece's ends lies on it, one that lies on it makes no turn, and one that lies on a piece of one place is at that place, for any three points. No condition. -/
import Derived.Test.YtjfdlamfklhodabRows
import Derived.WalkKit
import Derived.ProofKit
import Derived.OpenShut
import Derived.ChangeOld
import Derived.Below
import Derived.Outline
import Derived.Lib.SmallJoins
import Derived.Test.YtjfdlamfklhodabD2
set_option linter.unusedVariables false
namespace Go.Proofs.Ytjfdlamfklhodab.kernBetween
open Go.ChangeShapes Go.WideShapes Go.ChangeAt Go.RowKit Go.Joins

theorem own : ownKnob Try.prog.godebug = none := by kernel_rfl
theorem laidOut : laidOutB Try.prog = true := by kernel_rfl
theorem bt_ends {x1 y1 x2 y2 : Int} (h1 : plK x1 y1 = true) (h2 : plK x2 y2 = true) : btK x1 y1 x2 y2 x1 y1 = true ∧ btK x1 y1 x2 y2 x2 y2 = true := by
  unfold btK
  rw [h1, h2]
  have e1 : crK x1 y1 x2 y2 x1 y1 = 0 := by unfold crK; simp
  have e2 : crK x1 y1 x2 y2 x2 y2 = 0 := by unfold crK; rw [Int.mul_comm]; omega
  rw [e1, e2]
  simp [wiK]
theorem bt_no {x1 y1 x2 y2 x3 y3 : Int} (h : (plK x1 y1 && (plK x2 y2 && plK x3 y3)) = false) : btK x1 y1 x2 y2 x3 y3 = false := by
  unfold btK
  cases h1 : plK x1 y1 <;> cases h2 : plK x2 y2 <;> cases h3 : plK x3 y3 <;> simp_all
theorem bt_line {x1 y1 x2 y2 x3 y3 : Int} (h : btK x1 y1 x2 y2 x3 y3 = true) : crK x1 y1 x2 y2 x3 y3 = 0 := by
  unfold btK at h
  simp only [Bool.and_eq_true, decide_eq_true_eq] at h
  exact h.2.2.2.1
theorem bt_same {x1 y1 x3 y3 : Int} (h : btK x1 y1 x1 y1 x3 y3 = true) : x3 = x1 ∧ y3 = y1 := by
  unfold btK at h
  simp only [Bool.and_eq_true, wiK, Bool.or_self, decide_eq_true_eq] at h
  omega

set_option maxHeartbeats 16000000 in
theorem walk (a0_0 a0_1 a0_2 : Int) (a1_0 a1_1 a1_2 : Int) (a2_0 a2_1 a2_2 : Int) (w : World) (w0_0 : (Lit.int .i64 a0_0).wf = true) (w0_1 : (Lit.int .i64 a0_1).wf = true) (w0_2 : (Lit.int .i64 a0_2).wf = true) (w1_0 : (Lit.int .i64 a1_0).wf = true) (w1_1 : (Lit.int .i64 a1_1).wf = true) (w1_2 : (Lit.int .i64 a1_2).wf = true) (w2_0 : (Lit.int .i64 a2_0).wf = true) (w2_1 : (Lit.int .i64 a2_1).wf = true) (w2_2 : (Lit.int .i64 a2_2).wf = true) :
    Calls Try.prog 4 #[.agg #[.int .i64 a0_0, .int .i64 a0_1, .int .i64 a0_2], .agg #[.int .i64 a1_0, .int .i64 a1_1, .int .i64 a1_2], .agg #[.int .i64 a2_0, .int .i64 a2_1, .int .i64 a2_2]] w fun e w' => e = .returned (.bool true) ∧ Below w.heap.size w w' := by
  cases pa0 : plK a0_1 a0_2
  · skip
    have L0 : ∀ w : World, Calls Try.prog 11 #[.agg #[.int .i64 a0_0, .int .i64 a0_1, .int .i64 a0_2]] w fun e w' => e = .returned (.bool false) ∧ Below w.heap.size w w' := fun w => by have q := klies a0_0 a0_1 a0_2 w; rwa [pa0] at q
    have B : ∀ w : World, Calls Try.prog 18 #[.agg #[.int .i64 a0_0, .int .i64 a0_1, .int .i64 a0_2], .agg #[.int .i64 a1_0, .int .i64 a1_1, .int .i64 a1_2], .agg #[.int .i64 a2_0, .int .i64 a2_1, .int .i64 a2_2]] w fun e w' => e = .returned (.bool false) ∧ Below w.heap.size w w' := fun w => by have q := kbetween a0_0 a0_1 a0_2 a1_0 a1_1 a1_2 a2_0 a2_1 a2_2 w; rwa [bt_no (by rw [pa0]; rfl)] at q
    have HL0 := Lib.hid L0
    clear L0
    have HB := Lib.hid B
    clear B
    clear pa0
    go_enter Try.func4, Try.ntmps4
    go_wp2_with fail
    refine (HL0.out _).mono ?_
    rintro e w1 ⟨rfl, hx1⟩
    have K1 : Below w.heap.size w w1 ∧ w1.cell? ⟨w.heap.size, 0, none⟩ = some (.int .i64 a0_0) ∧ w1.cell? ⟨w.heap.size, 1, none⟩ = some (.int .i64 a0_1) ∧ w1.cell? ⟨w.heap.size, 2, none⟩ = some (.int .i64 a0_2) ∧ w1.cell? ⟨w.heap.size + 1, 0, none⟩ = some (.int .i64 a1_0) ∧ w1.cell? ⟨w.heap.size + 1, 1, none⟩ = some (.int .i64 a1_1) ∧ w1.cell? ⟨w.heap.size + 1, 2, none⟩ = some (.int .i64 a1_2) ∧ w1.cell? ⟨w.heap.size + 1 + 1, 0, none⟩ = some (.int .i64 a2_0) ∧ w1.cell? ⟨w.heap.size + 1 + 1, 1, none⟩ = some (.int .i64 a2_1) ∧ w1.cell? ⟨w.heap.size + 1 + 1, 2, none⟩ = some (.int .i64 a2_2) := by
      refine keep9 (Nat.le_refl _) hx1 ?_
      ((repeat' apply And.intro) <;> first | go_keep | (go_simp; done) | (repeat (first | exact Below.refl _ _ | assumption | refine Below.drew ?_ | refine Below.alloc ?_ (by first | omega | (simp <;> omega)) _ | refine Below.setCell ?_ (by first | omega | (simp <;> omega)) _)))
    obtain ⟨kb, q0, q1, q2, q3, q4, q5, q6, q7, q8⟩ := K1
    have zs1 := kb.size
    clear hx1
    go_wp2_with fail
    refine (HB.out _).mono ?_
    rintro e w2 ⟨rfl, hx2⟩
    have K2 : Below w.heap.size w w2 ∧ w2.cell? ⟨w.heap.size, 0, none⟩ = some (.int .i64 a0_0) ∧ w2.cell? ⟨w.heap.size, 1, none⟩ = some (.int .i64 a0_1) ∧ w2.cell? ⟨w.heap.size, 2, none⟩ = some (.int .i64 a0_2) ∧ w2.cell? ⟨w.heap.size + 1, 0, none⟩ = some (.int .i64 a1_0) ∧ w2.cell? ⟨w.heap.size + 1, 1, none⟩ = some (.int .i64 a1_1) ∧ w2.cell? ⟨w.heap.size + 1, 2, none⟩ = some (.int .i64 a1_2) ∧ w2.cell? ⟨w.heap.size + 1 + 1, 0, none⟩ = some (.int .i64 a2_0) ∧ w2.cell? ⟨w.heap.size + 1 + 1, 1, none⟩ = some (.int .i64 a2_1) ∧ w2.cell? ⟨w.heap.size + 1 + 1, 2, none⟩ = some (.int .i64 a2_2) := by
      refine keep9 (Nat.le_refl _) hx2 ?_
      ((repeat' apply And.intro) <;> first | go_keep | (go_simp; done) | (repeat (first | exact Below.refl _ _ | assumption | refine Below.drew ?_ | refine Below.alloc ?_ (by first | omega | (simp <;> omega)) _ | refine Below.setCell ?_ (by first | omega | (simp <;> omega)) _)))
    clear kb q0 q1 q2 q3 q4 q5 q6 q7 q8
    obtain ⟨kb, q0, q1, q2, q3, q4, q5, q6, q7, q8⟩ := K2
    have zs2 := kb.size
    clear hx2
    go_wp2_with fail
    refine (lives3 _).mono ?_
    rintro e w3 ⟨rfl, hx3⟩
    have K3 : Below w.heap.size w w3 ∧ w3.cell? ⟨w.heap.size, 0, none⟩ = some (.int .i64 a0_0) ∧ w3.cell? ⟨w.heap.size, 1, none⟩ = some (.int .i64 a0_1) ∧ w3.cell? ⟨w.heap.size, 2, none⟩ = some (.int .i64 a0_2) ∧ w3.cell? ⟨w.heap.size + 1, 0, none⟩ = some (.int .i64 a1_0) ∧ w3.cell? ⟨w.heap.size + 1, 1, none⟩ = some (.int .i64 a1_1) ∧ w3.cell? ⟨w.heap.size + 1, 2, none⟩ = some (.int .i64 a1_2) ∧ w3.cell? ⟨w.heap.size + 1 + 1, 0, none⟩ = some (.int .i64 a2_0) ∧ w3.cell? ⟨w.heap.size + 1 + 1, 1, none⟩ = some (.int .i64 a2_1) ∧ w3.cell? ⟨w.heap.size + 1 + 1, 2, none⟩ = some (.int .i64 a2_2) := by
      refine keep9 (Nat.le_refl _) hx3 ?_
      ((repeat' apply And.intro) <;> first | go_keep | (go_simp; done) | (repeat (first | exact Below.refl _ _ | assumption | refine Below.drew ?_ | refine Below.alloc ?_ (by first | omega | (simp <;> omega)) _ | refine Below.setCell ?_ (by first | omega | (simp <;> omega)) _)))
    clear kb q0 q1 q2 q3 q4 q5 q6 q7 q8
    obtain ⟨kb, q0, q1, q2, q3, q4, q5, q6, q7, q8⟩ := K3
    have zs3 := kb.size
    clear hx3
    go_wp2_with fail
    go_ret
    exact ⟨rfl, kb⟩
  · cases pa1 : plK a1_1 a1_2
    · skip
      have L0 : ∀ w : World, Calls Try.prog 11 #[.agg #[.int .i64 a0_0, .int .i64 a0_1, .int .i64 a0_2]] w fun e w' => e = .returned (.bool true) ∧ Below w.heap.size w w' := fun w => by have q := klies a0_0 a0_1 a0_2 w; rwa [pa0] at q
      have L1 : ∀ w : World, Calls Try.prog 11 #[.agg #[.int .i64 a1_0, .int .i64 a1_1, .int .i64 a1_2]] w fun e w' => e = .returned (.bool false) ∧ Below w.heap.size w w' := fun w => by have q := klies a1_0 a1_1 a1_2 w; rwa [pa1] at q
      have B : ∀ w : World, Calls Try.prog 18 #[.agg #[.int .i64 a0_0, .int .i64 a0_1, .int .i64 a0_2], .agg #[.int .i64 a1_0, .int .i64 a1_1, .int .i64 a1_2], .agg #[.int .i64 a2_0, .int .i64 a2_1, .int .i64 a2_2]] w fun e w' => e = .returned (.bool false) ∧ Below w.heap.size w w' := fun w => by have q := kbetween a0_0 a0_1 a0_2 a1_0 a1_1 a1_2 a2_0 a2_1 a2_2 w; rwa [bt_no (by rw [pa0, pa1]; rfl)] at q
      have HL0 := Lib.hid L0
      clear L0
      have HL1 := Lib.hid L1
      clear L1
      have HB := Lib.hid B
      clear B
      clear pa0 pa1
      go_enter Try.func4, Try.ntmps4
      go_wp2_with fail
      refine (HL0.out _).mono ?_
      rintro e w1 ⟨rfl, hx1⟩
      have K1 : Below w.heap.size w w1 ∧ w1.cell? ⟨w.heap.size, 0, none⟩ = some (.int .i64 a0_0) ∧ w1.cell? ⟨w.heap.size, 1, none⟩ = some (.int .i64 a0_1) ∧ w1.cell? ⟨w.heap.size, 2, none⟩ = some (.int .i64 a0_2) ∧ w1.cell? ⟨w.heap.size + 1, 0, none⟩ = some (.int .i64 a1_0) ∧ w1.cell? ⟨w.heap.size + 1, 1, none⟩ = some (.int .i64 a1_1) ∧ w1.cell? ⟨w.heap.size + 1, 2, none⟩ = some (.int .i64 a1_2) ∧ w1.cell? ⟨w.heap.size + 1 + 1, 0, none⟩ = some (.int .i64 a2_0) ∧ w1.cell? ⟨w.heap.size + 1 + 1, 1, none⟩ = some (.int .i64 a2_1) ∧ w1.cell? ⟨w.heap.size + 1 + 1, 2, none⟩ = some (.int .i64 a2_2) := by
        refine keep9 (Nat.le_refl _) hx1 ?_
        ((repeat' apply And.intro) <;> first | go_keep | (go_simp; done) | (repeat (first | exact Below.refl _ _ | assumption | refine Below.drew ?_ | refine Below.alloc ?_ (by first | omega | (simp <;> omega)) _ | refine Below.setCell ?_ (by first | omega | (simp <;> omega)) _)))
      obtain ⟨kb, q0, q1, q2, q3, q4, q5, q6, q7, q8⟩ := K1
      have zs1 := kb.size
      clear hx1
      go_wp2_with fail
      refine (HL1.out _).mono ?_
      rintro e w2 ⟨rfl, hx2⟩
      have K2 : Below w.heap.size w w2 ∧ w2.cell? ⟨w.heap.size, 0, none⟩ = some (.int .i64 a0_0) ∧ w2.cell? ⟨w.heap.size, 1, none⟩ = some (.int .i64 a0_1) ∧ w2.cell? ⟨w.heap.size, 2, none⟩ = some (.int .i64 a0_2) ∧ w2.cell? ⟨w.heap.size + 1, 0, none⟩ = some (.int .i64 a1_0) ∧ w2.cell? ⟨w.heap.size + 1, 1, none⟩ = some (.int .i64 a1_1) ∧ w2.cell? ⟨w.heap.size + 1, 2, none⟩ = some (.int .i64 a1_2) ∧ w2.cell? ⟨w.heap.size + 1 + 1, 0, none⟩ = some (.int .i64 a2_0) ∧ w2.cell? ⟨w.heap.size + 1 + 1, 1, none⟩ = some (.int .i64 a2_1) ∧ w2.cell? ⟨w.heap.size + 1 + 1, 2, none⟩ = some (.int .i64 a2_2) := by
        refine keep9 (Nat.le_refl _) hx2 ?_
        ((repeat' apply And.intro) <;> first | go_keep | (go_simp; done) | (repeat (first | exact Below.refl _ _ | assumption | refine Below.drew ?_ | refine Below.alloc ?_ (by first | omega | (simp <;> omega)) _ | refine Below.setCell ?_ (by first | omega | (simp <;> omega)) _)))
      clear kb q0 q1 q2 q3 q4 q5 q6 q7 q8
      obtain ⟨kb, q0, q1, q2, q3, q4, q5, q6, q7, q8⟩ := K2
      have zs2 := kb.size
      clear hx2
      go_wp2_with fail
      refine (HB.out _).mono ?_
      rintro e w3 ⟨rfl, hx3⟩
      have K3 : Below w.heap.size w w3 ∧ w3.cell? ⟨w.heap.size, 0, none⟩ = some (.int .i64 a0_0) ∧ w3.cell? ⟨w.heap.size, 1, none⟩ = some (.int .i64 a0_1) ∧ w3.cell? ⟨w.heap.size, 2, none⟩ = some (.int .i64 a0_2) ∧ w3.cell? ⟨w.heap.size + 1, 0, none⟩ = some (.int .i64 a1_0) ∧ w3.cell? ⟨w.heap.size + 1, 1, none⟩ = some (.int .i64 a1_1) ∧ w3.cell? ⟨w.heap.size + 1, 2, none⟩ = some (.int .i64 a1_2) ∧ w3.cell? ⟨w.heap.size + 1 + 1, 0, none⟩ = some (.int .i64 a2_0) ∧ w3.cell? ⟨w.heap.size + 1 + 1, 1, none⟩ = some (.int .i64 a2_1) ∧ w3.cell? ⟨w.heap.size + 1 + 1, 2, none⟩ = some (.int .i64 a2_2) := by
        refine keep9 (Nat.le_refl _) hx3 ?_
        ((repeat' apply And.intro) <;> first | go_keep | (go_simp; done) | (repeat (first | exact Below.refl _ _ | assumption | refine Below.drew ?_ | refine Below.alloc ?_ (by first | omega | (simp <;> omega)) _ | refine Below.setCell ?_ (by first | omega | (simp <;> omega)) _)))
      clear kb q0 q1 q2 q3 q4 q5 q6 q7 q8
      obtain ⟨kb, q0, q1, q2, q3, q4, q5, q6, q7, q8⟩ := K3
      have zs3 := kb.size
      clear hx3
      go_wp2_with fail
      refine (lives3 _).mono ?_
      rintro e w4 ⟨rfl, hx4⟩
      have K4 : Below w.heap.size w w4 ∧ w4.cell? ⟨w.heap.size, 0, none⟩ = some (.int .i64 a0_0) ∧ w4.cell? ⟨w.heap.size, 1, none⟩ = some (.int .i64 a0_1) ∧ w4.cell? ⟨w.heap.size, 2, none⟩ = some (.int .i64 a0_2) ∧ w4.cell? ⟨w.heap.size + 1, 0, none⟩ = some (.int .i64 a1_0) ∧ w4.cell? ⟨w.heap.size + 1, 1, none⟩ = some (.int .i64 a1_1) ∧ w4.cell? ⟨w.heap.size + 1, 2, none⟩ = some (.int .i64 a1_2) ∧ w4.cell? ⟨w.heap.size + 1 + 1, 0, none⟩ = some (.int .i64 a2_0) ∧ w4.cell? ⟨w.heap.size + 1 + 1, 1, none⟩ = some (.int .i64 a2_1) ∧ w4.cell? ⟨w.heap.size + 1 + 1, 2, none⟩ = some (.int .i64 a2_2) := by
        refine keep9 (Nat.le_refl _) hx4 ?_
        ((repeat' apply And.intro) <;> first | go_keep | (go_simp; done) | (repeat (first | exact Below.refl _ _ | assumption | refine Below.drew ?_ | refine Below.alloc ?_ (by first | omega | (simp <;> omega)) _ | refine Below.setCell ?_ (by first | omega | (simp <;> omega)) _)))
      clear kb q0 q1 q2 q3 q4 q5 q6 q7 q8
      obtain ⟨kb, q0, q1, q2, q3, q4, q5, q6, q7, q8⟩ := K4
      have zs4 := kb.size
      clear hx4
      go_wp2_with fail
      go_ret
      exact ⟨rfl, kb⟩
    · cases pa2 : plK a2_1 a2_2
      · skip
        have L0 : ∀ w : World, Calls Try.prog 11 #[.agg #[.int .i64 a0_0, .int .i64 a0_1, .int .i64 a0_2]] w fun e w' => e = .returned (.bool true) ∧ Below w.heap.size w w' := fun w => by have q := klies a0_0 a0_1 a0_2 w; rwa [pa0] at q
        have L1 : ∀ w : World, Calls Try.prog 11 #[.agg #[.int .i64 a1_0, .int .i64 a1_1, .int .i64 a1_2]] w fun e w' => e = .returned (.bool true) ∧ Below w.heap.size w w' := fun w => by have q := klies a1_0 a1_1 a1_2 w; rwa [pa1] at q
        have L2 : ∀ w : World, Calls Try.prog 11 #[.agg #[.int .i64 a2_0, .int .i64 a2_1, .int .i64 a2_2]] w fun e w' => e = .returned (.bool false) ∧ Below w.heap.size w w' := fun w => by have q := klies a2_0 a2_1 a2_2 w; rwa [pa2] at q
        have B : ∀ w : World, Calls Try.prog 18 #[.agg #[.int .i64 a0_0, .int .i64 a0_1, .int .i64 a0_2], .agg #[.int .i64 a1_0, .int .i64 a1_1, .int .i64 a1_2], .agg #[.int .i64 a2_0, .int .i64 a2_1, .int .i64 a2_2]] w fun e w' => e = .returned (.bool false) ∧ Below w.heap.size w w' := fun w => by have q := kbetween a0_0 a0_1 a0_2 a1_0 a1_1 a1_2 a2_0 a2_1 a2_2 w; rwa [bt_no (by rw [pa0, pa1, pa2]; rfl)] at q
        have HL0 := Lib.hid L0
        clear L0
        have HL1 := Lib.hid L1
        clear L1
        have HL2 := Lib.hid L2
        clear L2
        have HB := Lib.hid B
        clear B
        clear pa0 pa1 pa2
        go_enter Try.func4, Try.ntmps4
        go_wp2_with fail
        refine (HL0.out _).mono ?_
        rintro e w1 ⟨rfl, hx1⟩
        have K1 : Below w.heap.size w w1 ∧ w1.cell? ⟨w.heap.size, 0, none⟩ = some (.int .i64 a0_0) ∧ w1.cell? ⟨w.heap.size, 1, none⟩ = some (.int .i64 a0_1) ∧ w1.cell? ⟨w.heap.size, 2, none⟩ = some (.int .i64 a0_2) ∧ w1.cell? ⟨w.heap.size + 1, 0, none⟩ = some (.int .i64 a1_0) ∧ w1.cell? ⟨w.heap.size + 1, 1, none⟩ = some (.int .i64 a1_1) ∧ w1.cell? ⟨w.heap.size + 1, 2, none⟩ = some (.int .i64 a1_2) ∧ w1.cell? ⟨w.heap.size + 1 + 1, 0, none⟩ = some (.int .i64 a2_0) ∧ w1.cell? ⟨w.heap.size + 1 + 1, 1, none⟩ = some (.int .i64 a2_1) ∧ w1.cell? ⟨w.heap.size + 1 + 1, 2, none⟩ = some (.int .i64 a2_2) := by
          refine keep9 (Nat.le_refl _) hx1 ?_
          ((repeat' apply And.intro) <;> first | go_keep | (go_simp; done) | (repeat (first | exact Below.refl _ _ | assumption | refine Below.drew ?_ | refine Below.alloc ?_ (by first | omega | (simp <;> omega)) _ | refine Below.setCell ?_ (by first | omega | (simp <;> omega)) _)))
        obtain ⟨kb, q0, q1, q2, q3, q4, q5, q6, q7, q8⟩ := K1
        have zs1 := kb.size
        clear hx1
        go_wp2_with fail
        refine (HL1.out _).mono ?_
        rintro e w2 ⟨rfl, hx2⟩
        have K2 : Below w.heap.size w w2 ∧ w2.cell? ⟨w.heap.size, 0, none⟩ = some (.int .i64 a0_0) ∧ w2.cell? ⟨w.heap.size, 1, none⟩ = some (.int .i64 a0_1) ∧ w2.cell? ⟨w.heap.size, 2, none⟩ = some (.int .i64 a0_2) ∧ w2.cell? ⟨w.heap.size + 1, 0, none⟩ = some (.int .i64 a1_0) ∧ w2.cell? ⟨w.heap.size + 1, 1, none⟩ = some (.int .i64 a1_1) ∧ w2.cell? ⟨w.heap.size + 1, 2, none⟩ = some (.int .i64 a1_2) ∧ w2.cell? ⟨w.heap.size + 1 + 1, 0, none⟩ = some (.int .i64 a2_0) ∧ w2.cell? ⟨w.heap.size + 1 + 1, 1, none⟩ = some (.int .i64 a2_1) ∧ w2.cell? ⟨w.heap.size + 1 + 1, 2, none⟩ = some (.int .i64 a2_2) := by
          refine keep9 (Nat.le_refl _) hx2 ?_
          ((repeat' apply And.intro) <;> first | go_keep | (go_simp; done) | (repeat (first | exact Below.refl _ _ | assumption | refine Below.drew ?_ | refine Below.alloc ?_ (by first | omega | (simp <;> omega)) _ | refine Below.setCell ?_ (by first | omega | (simp <;> omega)) _)))
        clear kb q0 q1 q2 q3 q4 q5 q6 q7 q8
        obtain ⟨kb, q0, q1, q2, q3, q4, q5, q6, q7, q8⟩ := K2
        have zs2 := kb.size
        clear hx2
        go_wp2_with fail
        refine (HL2.out _).mono ?_
        rintro e w3 ⟨rfl, hx3⟩
        have K3 : Below w.heap.size w w3 ∧ w3.cell? ⟨w.heap.size, 0, none⟩ = some (.int .i64 a0_0) ∧ w3.cell? ⟨w.heap.size, 1, none⟩ = some (.int .i64 a0_1) ∧ w3.cell? ⟨w.heap.size, 2, none⟩ = some (.int .i64 a0_2) ∧ w3.cell? ⟨w.heap.size + 1, 0, none⟩ = some (.int .i64 a1_0) ∧ w3.cell? ⟨w.heap.size + 1, 1, none⟩ = some (.int .i64 a1_1) ∧ w3.cell? ⟨w.heap.size + 1, 2, none⟩ = some (.int .i64 a1_2) ∧ w3.cell? ⟨w.heap.size + 1 + 1, 0, none⟩ = some (.int .i64 a2_0) ∧ w3.cell? ⟨w.heap.size + 1 + 1, 1, none⟩ = some (.int .i64 a2_1) ∧ w3.cell? ⟨w.heap.size + 1 + 1, 2, none⟩ = some (.int .i64 a2_2) := by
          refine keep9 (Nat.le_refl _) hx3 ?_
          ((repeat' apply And.intro) <;> first | go_keep | (go_simp; done) | (repeat (first | exact Below.refl _ _ | assumption | refine Below.drew ?_ | refine Below.alloc ?_ (by first | omega | (simp <;> omega)) _ | refine Below.setCell ?_ (by first | omega | (simp <;> omega)) _)))
        clear kb q0 q1 q2 q3 q4 q5 q6 q7 q8
        obtain ⟨kb, q0, q1, q2, q3, q4, q5, q6, q7, q8⟩ := K3
        have zs3 := kb.size
        clear hx3
        go_wp2_with fail
        refine (HB.out _).mono ?_
        rintro e w4 ⟨rfl, hx4⟩
        have K4 : Below w.heap.size w w4 ∧ w4.cell? ⟨w.heap.size, 0, none⟩ = some (.int .i64 a0_0) ∧ w4.cell? ⟨w.heap.size, 1, none⟩ = some (.int .i64 a0_1) ∧ w4.cell? ⟨w.heap.size, 2, none⟩ = some (.int .i64 a0_2) ∧ w4.cell? ⟨w.heap.size + 1, 0, none⟩ = some (.int .i64 a1_0) ∧ w4.cell? ⟨w.heap.size + 1, 1, none⟩ = some (.int .i64 a1_1) ∧ w4.cell? ⟨w.heap.size + 1, 2, none⟩ = some (.int .i64 a1_2) ∧ w4.cell? ⟨w.heap.size + 1 + 1, 0, none⟩ = some (.int .i64 a2_0) ∧ w4.cell? ⟨w.heap.size + 1 + 1, 1, none⟩ = some (.int .i64 a2_1) ∧ w4.cell? ⟨w.heap.size + 1 + 1, 2, none⟩ = some (.int .i64 a2_2) := by
          refine keep9 (Nat.le_refl _) hx4 ?_
          ((repeat' apply And.intro) <;> first | go_keep | (go_simp; done) | (repeat (first | exact Below.refl _ _ | assumption | refine Below.drew ?_ | refine Below.alloc ?_ (by first | omega | (simp <;> omega)) _ | refine Below.setCell ?_ (by first | omega | (simp <;> omega)) _)))
        clear kb q0 q1 q2 q3 q4 q5 q6 q7 q8
        obtain ⟨kb, q0, q1, q2, q3, q4, q5, q6, q7, q8⟩ := K4
        have zs4 := kb.size
        clear hx4
        go_wp2_with fail
        refine (lives3 _).mono ?_
        rintro e w5 ⟨rfl, hx5⟩
        have K5 : Below w.heap.size w w5 ∧ w5.cell? ⟨w.heap.size, 0, none⟩ = some (.int .i64 a0_0) ∧ w5.cell? ⟨w.heap.size, 1, none⟩ = some (.int .i64 a0_1) ∧ w5.cell? ⟨w.heap.size, 2, none⟩ = some (.int .i64 a0_2) ∧ w5.cell? ⟨w.heap.size + 1, 0, none⟩ = some (.int .i64 a1_0) ∧ w5.cell? ⟨w.heap.size + 1, 1, none⟩ = some (.int .i64 a1_1) ∧ w5.cell? ⟨w.heap.size + 1, 2, none⟩ = some (.int .i64 a1_2) ∧ w5.cell? ⟨w.heap.size + 1 + 1, 0, none⟩ = some (.int .i64 a2_0) ∧ w5.cell? ⟨w.heap.size + 1 + 1, 1, none⟩ = some (.int .i64 a2_1) ∧ w5.cell? ⟨w.heap.size + 1 + 1, 2, none⟩ = some (.int .i64 a2_2) := by
          refine keep9 (Nat.le_refl _) hx5 ?_
          ((repeat' apply And.intro) <;> first | go_keep | (go_simp; done) | (repeat (first | exact Below.refl _ _ | assumption | refine Below.drew ?_ | refine Below.alloc ?_ (by first | omega | (simp <;> omega)) _ | refine Below.setCell ?_ (by first | omega | (simp <;> omega)) _)))
        clear kb q0 q1 q2 q3 q4 q5 q6 q7 q8
        obtain ⟨kb, q0, q1, q2, q3, q4, q5, q6, q7, q8⟩ := K5
        have zs5 := kb.size
        clear hx5
        go_wp2_with fail
        go_ret
        exact ⟨rfl, kb⟩
      · cases g1 : btK a0_1 a0_2 a1_1 a1_2 a2_1 a2_2
        · cases g2 : btK a0_1 a0_2 a0_1 a0_2 a2_1 a2_2
          · skip
            have L0 : ∀ w : World, Calls Try.prog 11 #[.agg #[.int .i64 a0_0, .int .i64 a0_1, .int .i64 a0_2]] w fun e w' => e = .returned (.bool true) ∧ Below w.heap.size w w' := fun w => by have q := klies a0_0 a0_1 a0_2 w; rwa [pa0] at q
            have L1 : ∀ w : World, Calls Try.prog 11 #[.agg #[.int .i64 a1_0, .int .i64 a1_1, .int .i64 a1_2]] w fun e w' => e = .returned (.bool true) ∧ Below w.heap.size w w' := fun w => by have q := klies a1_0 a1_1 a1_2 w; rwa [pa1] at q
            have L2 : ∀ w : World, Calls Try.prog 11 #[.agg #[.int .i64 a2_0, .int .i64 a2_1, .int .i64 a2_2]] w fun e w' => e = .returned (.bool true) ∧ Below w.heap.size w w' := fun w => by have q := klies a2_0 a2_1 a2_2 w; rwa [pa2] at q
            have B1 : ∀ w : World, Calls Try.prog 18 #[.agg #[.int .i64 a0_0, .int .i64 a0_1, .int .i64 a0_2], .agg #[.int .i64 a1_0, .int .i64 a1_1, .int .i64 a1_2], .agg #[.int .i64 a0_0, .int .i64 a0_1, .int .i64 a0_2]] w fun e w' => e = .returned (.bool true) ∧ Below w.heap.size w w' := fun w => by have q := kbetween a0_0 a0_1 a0_2 a1_0 a1_1 a1_2 a0_0 a0_1 a0_2 w; rwa [(bt_ends pa0 pa1).1] at q
            have B2 : ∀ w : World, Calls Try.prog 18 #[.agg #[.int .i64 a0_0, .int .i64 a0_1, .int .i64 a0_2], .agg #[.int .i64 a1_0, .int .i64 a1_1, .int .i64 a1_2], .agg #[.int .i64 a1_0, .int .i64 a1_1, .int .i64 a1_2]] w fun e w' => e = .returned (.bool true) ∧ Below w.heap.size w w' := fun w => by have q := kbetween a0_0 a0_1 a0_2 a1_0 a1_1 a1_2 a1_0 a1_1 a1_2 w; rwa [(bt_ends pa0 pa1).2] at q
            have B3 : ∀ w : World, Calls Try.prog 18 #[.agg #[.int .i64 a0_0, .int .i64 a0_1, .int .i64 a0_2], .agg #[.int .i64 a1_0, .int .i64 a1_1, .int .i64 a1_2], .agg #[.int .i64 a2_0, .int .i64 a2_1, .int .i64 a2_2]] w fun e w' => e = .returned (.bool false) ∧ Below w.heap.size w w' := fun w => by have q := kbetween a0_0 a0_1 a0_2 a1_0 a1_1 a1_2 a2_0 a2_1 a2_2 w; rwa [g1] at q
            have B4 : ∀ w : World, Calls Try.prog 18 #[.agg #[.int .i64 a0_0, .int .i64 a0_1, .int .i64 a0_2], .agg #[.int .i64 a0_0, .int .i64 a0_1, .int .i64 a0_2], .agg #[.int .i64 a2_0, .int .i64 a2_1, .int .i64 a2_2]] w fun e w' => e = .returned (.bool false) ∧ Below w.heap.size w w' := fun w => by have q := kbetween a0_0 a0_1 a0_2 a0_0 a0_1 a0_2 a2_0 a2_1 a2_2 w; rwa [g2] at q
            have HL0 := Lib.hid L0
            clear L0
            have HL1 := Lib.hid L1
            clear L1
            have HL2 := Lib.hid L2
            clear L2
            have HB1 := Lib.hid B1
            clear B1
            have HB2 := Lib.hid B2
            clear B2
            have HB3 := Lib.hid B3
            clear B3
            have HB4 := Lib.hid B4
            clear B4
            clear pa0 pa1 pa2 g1 g2
            go_enter Try.func4, Try.ntmps4
            go_wp2_with fail
            refine (HL0.out _).mono ?_
            rintro e w1 ⟨rfl, hx1⟩
            have K1 : Below w.heap.size w w1 ∧ w1.cell? ⟨w.heap.size, 0, none⟩ = some (.int .i64 a0_0) ∧ w1.cell? ⟨w.heap.size, 1, none⟩ = some (.int .i64 a0_1) ∧ w1.cell? ⟨w.heap.size, 2, none⟩ = some (.int .i64 a0_2) ∧ w1.cell? ⟨w.heap.size + 1, 0, none⟩ = some (.int .i64 a1_0) ∧ w1.cell? ⟨w.heap.size + 1, 1, none⟩ = some (.int .i64 a1_1) ∧ w1.cell? ⟨w.heap.size + 1, 2, none⟩ = some (.int .i64 a1_2) ∧ w1.cell? ⟨w.heap.size + 1 + 1, 0, none⟩ = some (.int .i64 a2_0) ∧ w1.cell? ⟨w.heap.size + 1 + 1, 1, none⟩ = some (.int .i64 a2_1) ∧ w1.cell? ⟨w.heap.size + 1 + 1, 2, none⟩ = some (.int .i64 a2_2) := by
              refine keep9 (Nat.le_refl _) hx1 ?_
              ((repeat' apply And.intro) <;> first | go_keep | (go_simp; done) | (repeat (first | exact Below.refl _ _ | assumption | refine Below.drew ?_ | refine Below.alloc ?_ (by first | omega | (simp <;> omega)) _ | refine Below.setCell ?_ (by first | omega | (simp <;> omega)) _)))
            obtain ⟨kb, q0, q1, q2, q3, q4, q5, q6, q7, q8⟩ := K1
            have zs1 := kb.size
            clear hx1
            go_wp2_with fail
            refine (HL1.out _).mono ?_
            rintro e w2 ⟨rfl, hx2⟩
            have K2 : Below w.heap.size w w2 ∧ w2.cell? ⟨w.heap.size, 0, none⟩ = some (.int .i64 a0_0) ∧ w2.cell? ⟨w.heap.size, 1, none⟩ = some (.int .i64 a0_1) ∧ w2.cell? ⟨w.heap.size, 2, none⟩ = some (.int .i64 a0_2) ∧ w2.cell? ⟨w.heap.size + 1, 0, none⟩ = some (.int .i64 a1_0) ∧ w2.cell? ⟨w.heap.size + 1, 1, none⟩ = some (.int .i64 a1_1) ∧ w2.cell? ⟨w.heap.size + 1, 2, none⟩ = some (.int .i64 a1_2) ∧ w2.cell? ⟨w.heap.size + 1 + 1, 0, none⟩ = some (.int .i64 a2_0) ∧ w2.cell? ⟨w.heap.size + 1 + 1, 1, none⟩ = some (.int .i64 a2_1) ∧ w2.cell? ⟨w.heap.size + 1 + 1, 2, none⟩ = some (.int .i64 a2_2) := by
              refine keep9 (Nat.le_refl _) hx2 ?_
              ((repeat' apply And.intro) <;> first | go_keep | (go_simp; done) | (repeat (first | exact Below.refl _ _ | assumption | refine Below.drew ?_ | refine Below.alloc ?_ (by first | omega | (simp <;> omega)) _ | refine Below.setCell ?_ (by first | omega | (simp <;> omega)) _)))
            clear kb q0 q1 q2 q3 q4 q5 q6 q7 q8
            obtain ⟨kb, q0, q1, q2, q3, q4, q5, q6, q7, q8⟩ := K2
            have zs2 := kb.size
            clear hx2
            go_wp2_with fail
            refine (HL2.out _).mono ?_
            rintro e w3 ⟨rfl, hx3⟩
            have K3 : Below w.heap.size w w3 ∧ w3.cell? ⟨w.heap.size, 0, none⟩ = some (.int .i64 a0_0) ∧ w3.cell? ⟨w.heap.size, 1, none⟩ = some (.int .i64 a0_1) ∧ w3.cell? ⟨w.heap.size, 2, none⟩ = some (.int .i64 a0_2) ∧ w3.cell? ⟨w.heap.size + 1, 0, none⟩ = some (.int .i64 a1_0) ∧ w3.cell? ⟨w.heap.size + 1, 1, none⟩ = some (.int .i64 a1_1) ∧ w3.cell? ⟨w.heap.size + 1, 2, none⟩ = some (.int .i64 a1_2) ∧ w3.cell? ⟨w.heap.size + 1 + 1, 0, none⟩ = some (.int .i64 a2_0) ∧ w3.cell? ⟨w.heap.size + 1 + 1, 1, none⟩ = some (.int .i64 a2_1) ∧ w3.cell? ⟨w.heap.size + 1 + 1, 2, none⟩ = some (.int .i64 a2_2) := by
              refine keep9 (Nat.le_refl _) hx3 ?_
              ((repeat' apply And.intro) <;> first | go_keep | (go_simp; done) | (repeat (first | exact Below.refl _ _ | assumption | refine Below.drew ?_ | refine Below.alloc ?_ (by first | omega | (simp <;> omega)) _ | refine Below.setCell ?_ (by first | omega | (simp <;> omega)) _)))
            clear kb q0 q1 q2 q3 q4 q5 q6 q7 q8
            obtain ⟨kb, q0, q1, q2, q3, q4, q5, q6, q7, q8⟩ := K3
            have zs3 := kb.size
            clear hx3
            go_wp2_with fail
            refine (HB1.out _).mono ?_
            rintro e w4 ⟨rfl, hx4⟩
            have K4 : Below w.heap.size w w4 ∧ w4.cell? ⟨w.heap.size, 0, none⟩ = some (.int .i64 a0_0) ∧ w4.cell? ⟨w.heap.size, 1, none⟩ = some (.int .i64 a0_1) ∧ w4.cell? ⟨w.heap.size, 2, none⟩ = some (.int .i64 a0_2) ∧ w4.cell? ⟨w.heap.size + 1, 0, none⟩ = some (.int .i64 a1_0) ∧ w4.cell? ⟨w.heap.size + 1, 1, none⟩ = some (.int .i64 a1_1) ∧ w4.cell? ⟨w.heap.size + 1, 2, none⟩ = some (.int .i64 a1_2) ∧ w4.cell? ⟨w.heap.size + 1 + 1, 0, none⟩ = some (.int .i64 a2_0) ∧ w4.cell? ⟨w.heap.size + 1 + 1, 1, none⟩ = some (.int .i64 a2_1) ∧ w4.cell? ⟨w.heap.size + 1 + 1, 2, none⟩ = some (.int .i64 a2_2) := by
              refine keep9 (Nat.le_refl _) hx4 ?_
              ((repeat' apply And.intro) <;> first | go_keep | (go_simp; done) | (repeat (first | exact Below.refl _ _ | assumption | refine Below.drew ?_ | refine Below.alloc ?_ (by first | omega | (simp <;> omega)) _ | refine Below.setCell ?_ (by first | omega | (simp <;> omega)) _)))
            clear kb q0 q1 q2 q3 q4 q5 q6 q7 q8
            obtain ⟨kb, q0, q1, q2, q3, q4, q5, q6, q7, q8⟩ := K4
            have zs4 := kb.size
            clear hx4
            go_wp2_with fail
            refine (HB2.out _).mono ?_
            rintro e w5 ⟨rfl, hx5⟩
            have K5 : Below w.heap.size w w5 ∧ w5.cell? ⟨w.heap.size, 0, none⟩ = some (.int .i64 a0_0) ∧ w5.cell? ⟨w.heap.size, 1, none⟩ = some (.int .i64 a0_1) ∧ w5.cell? ⟨w.heap.size, 2, none⟩ = some (.int .i64 a0_2) ∧ w5.cell? ⟨w.heap.size + 1, 0, none⟩ = some (.int .i64 a1_0) ∧ w5.cell? ⟨w.heap.size + 1, 1, none⟩ = some (.int .i64 a1_1) ∧ w5.cell? ⟨w.heap.size + 1, 2, none⟩ = some (.int .i64 a1_2) ∧ w5.cell? ⟨w.heap.size + 1 + 1, 0, none⟩ = some (.int .i64 a2_0) ∧ w5.cell? ⟨w.heap.size + 1 + 1, 1, none⟩ = some (.int .i64 a2_1) ∧ w5.cell? ⟨w.heap.size + 1 + 1, 2, none⟩ = some (.int .i64 a2_2) := by
              refine keep9 (Nat.le_refl _) hx5 ?_
              ((repeat' apply And.intro) <;> first | go_keep | (go_simp; done) | (repeat (first | exact Below.refl _ _ | assumption | refine Below.drew ?_ | refine Below.alloc ?_ (by first | omega | (simp <;> omega)) _ | refine Below.setCell ?_ (by first | omega | (simp <;> omega)) _)))
            clear kb q0 q1 q2 q3 q4 q5 q6 q7 q8
            obtain ⟨kb, q0, q1, q2, q3, q4, q5, q6, q7, q8⟩ := K5
            have zs5 := kb.size
            clear hx5
            go_wp2_with fail
            refine (HB3.out _).mono ?_
            rintro e w6 ⟨rfl, hx6⟩
            have K6 : Below w.heap.size w w6 ∧ w6.cell? ⟨w.heap.size, 0, none⟩ = some (.int .i64 a0_0) ∧ w6.cell? ⟨w.heap.size, 1, none⟩ = some (.int .i64 a0_1) ∧ w6.cell? ⟨w.heap.size, 2, none⟩ = some (.int .i64 a0_2) ∧ w6.cell? ⟨w.heap.size + 1, 0, none⟩ = some (.int .i64 a1_0) ∧ w6.cell? ⟨w.heap.size + 1, 1, none⟩ = some (.int .i64 a1_1) ∧ w6.cell? ⟨w.heap.size + 1, 2, none⟩ = some (.int .i64 a1_2) ∧ w6.cell? ⟨w.heap.size + 1 + 1, 0, none⟩ = some (.int .i64 a2_0) ∧ w6.cell? ⟨w.heap.size + 1 + 1, 1, none⟩ = some (.int .i64 a2_1) ∧ w6.cell? ⟨w.heap.size + 1 + 1, 2, none⟩ = some (.int .i64 a2_2) := by
              refine keep9 (Nat.le_refl _) hx6 ?_
              ((repeat' apply And.intro) <;> first | go_keep | (go_simp; done) | (repeat (first | exact Below.refl _ _ | assumption | refine Below.drew ?_ | refine Below.alloc ?_ (by first | omega | (simp <;> omega)) _ | refine Below.setCell ?_ (by first | omega | (simp <;> omega)) _)))
            clear kb q0 q1 q2 q3 q4 q5 q6 q7 q8
            obtain ⟨kb, q0, q1, q2, q3, q4, q5, q6, q7, q8⟩ := K6
            have zs6 := kb.size
            clear hx6
            go_wp2_with fail
            refine (HB4.out _).mono ?_
            rintro e w7 ⟨rfl, hx7⟩
            have K7 : Below w.heap.size w w7 ∧ w7.cell? ⟨w.heap.size, 0, none⟩ = some (.int .i64 a0_0) ∧ w7.cell? ⟨w.heap.size, 1, none⟩ = some (.int .i64 a0_1) ∧ w7.cell? ⟨w.heap.size, 2, none⟩ = some (.int .i64 a0_2) ∧ w7.cell? ⟨w.heap.size + 1, 0, none⟩ = some (.int .i64 a1_0) ∧ w7.cell? ⟨w.heap.size + 1, 1, none⟩ = some (.int .i64 a1_1) ∧ w7.cell? ⟨w.heap.size + 1, 2, none⟩ = some (.int .i64 a1_2) ∧ w7.cell? ⟨w.heap.size + 1 + 1, 0, none⟩ = some (.int .i64 a2_0) ∧ w7.cell? ⟨w.heap.size + 1 + 1, 1, none⟩ = some (.int .i64 a2_1) ∧ w7.cell? ⟨w.heap.size + 1 + 1, 2, none⟩ = some (.int .i64 a2_2) := by
              refine keep9 (Nat.le_refl _) hx7 ?_
              ((repeat' apply And.intro) <;> first | go_keep | (go_simp; done) | (repeat (first | exact Below.refl _ _ | assumption | refine Below.drew ?_ | refine Below.alloc ?_ (by first | omega | (simp <;> omega)) _ | refine Below.setCell ?_ (by first | omega | (simp <;> omega)) _)))
            clear kb q0 q1 q2 q3 q4 q5 q6 q7 q8
            obtain ⟨kb, q0, q1, q2, q3, q4, q5, q6, q7, q8⟩ := K7
            have zs7 := kb.size
            clear hx7
            go_wp2_with fail
            refine (lives3 _).mono ?_
            rintro e w8 ⟨rfl, hx8⟩
            have K8 : Below w.heap.size w w8 ∧ w8.cell? ⟨w.heap.size, 0, none⟩ = some (.int .i64 a0_0) ∧ w8.cell? ⟨w.heap.size, 1, none⟩ = some (.int .i64 a0_1) ∧ w8.cell? ⟨w.heap.size, 2, none⟩ = some (.int .i64 a0_2) ∧ w8.cell? ⟨w.heap.size + 1, 0, none⟩ = some (.int .i64 a1_0) ∧ w8.cell? ⟨w.heap.size + 1, 1, none⟩ = some (.int .i64 a1_1) ∧ w8.cell? ⟨w.heap.size + 1, 2, none⟩ = some (.int .i64 a1_2) ∧ w8.cell? ⟨w.heap.size + 1 + 1, 0, none⟩ = some (.int .i64 a2_0) ∧ w8.cell? ⟨w.heap.size + 1 + 1, 1, none⟩ = some (.int .i64 a2_1) ∧ w8.cell? ⟨w.heap.size + 1 + 1, 2, none⟩ = some (.int .i64 a2_2) := by
              refine keep9 (Nat.le_refl _) hx8 ?_
              ((repeat' apply And.intro) <;> first | go_keep | (go_simp; done) | (repeat (first | exact Below.refl _ _ | assumption | refine Below.drew ?_ | refine Below.alloc ?_ (by first | omega | (simp <;> omega)) _ | refine Below.setCell ?_ (by first | omega | (simp <;> omega)) _)))
            clear kb q0 q1 q2 q3 q4 q5 q6 q7 q8
            obtain ⟨kb, q0, q1, q2, q3, q4, q5, q6, q7, q8⟩ := K8
            have zs8 := kb.size
            clear hx8
            go_wp2_with fail
            go_ret
            exact ⟨rfl, kb⟩
          · skip
            have L0 : ∀ w : World, Calls Try.prog 11 #[.agg #[.int .i64 a0_0, .int .i64 a0_1, .int .i64 a0_2]] w fun e w' => e = .returned (.bool true) ∧ Below w.heap.size w w' := fun w => by have q := klies a0_0 a0_1 a0_2 w; rwa [pa0] at q
            have L1 : ∀ w : World, Calls Try.prog 11 #[.agg #[.int .i64 a1_0, .int .i64 a1_1, .int .i64 a1_2]] w fun e w' => e = .returned (.bool true) ∧ Below w.heap.size w w' := fun w => by have q := klies a1_0 a1_1 a1_2 w; rwa [pa1] at q
            have L2 : ∀ w : World, Calls Try.prog 11 #[.agg #[.int .i64 a2_0, .int .i64 a2_1, .int .i64 a2_2]] w fun e w' => e = .returned (.bool true) ∧ Below w.heap.size w w' := fun w => by have q := klies a2_0 a2_1 a2_2 w; rwa [pa2] at q
            have B1 : ∀ w : World, Calls Try.prog 18 #[.agg #[.int .i64 a0_0, .int .i64 a0_1, .int .i64 a0_2], .agg #[.int .i64 a1_0, .int .i64 a1_1, .int .i64 a1_2], .agg #[.int .i64 a0_0, .int .i64 a0_1, .int .i64 a0_2]] w fun e w' => e = .returned (.bool true) ∧ Below w.heap.size w w' := fun w => by have q := kbetween a0_0 a0_1 a0_2 a1_0 a1_1 a1_2 a0_0 a0_1 a0_2 w; rwa [(bt_ends pa0 pa1).1] at q
            have B2 : ∀ w : World, Calls Try.prog 18 #[.agg #[.int .i64 a0_0, .int .i64 a0_1, .int .i64 a0_2], .agg #[.int .i64 a1_0, .int .i64 a1_1, .int .i64 a1_2], .agg #[.int .i64 a1_0, .int .i64 a1_1, .int .i64 a1_2]] w fun e w' => e = .returned (.bool true) ∧ Below w.heap.size w w' := fun w => by have q := kbetween a0_0 a0_1 a0_2 a1_0 a1_1 a1_2 a1_0 a1_1 a1_2 w; rwa [(bt_ends pa0 pa1).2] at q
            have B3 : ∀ w : World, Calls Try.prog 18 #[.agg #[.int .i64 a0_0, .int .i64 a0_1, .int .i64 a0_2], .agg #[.int .i64 a1_0, .int .i64 a1_1, .int .i64 a1_2], .agg #[.int .i64 a2_0, .int .i64 a2_1, .int .i64 a2_2]] w fun e w' => e = .returned (.bool false) ∧ Below w.heap.size w w' := fun w => by have q := kbetween a0_0 a0_1 a0_2 a1_0 a1_1 a1_2 a2_0 a2_1 a2_2 w; rwa [g1] at q
            have B4 : ∀ w : World, Calls Try.prog 18 #[.agg #[.int .i64 a0_0, .int .i64 a0_1, .int .i64 a0_2], .agg #[.int .i64 a0_0, .int .i64 a0_1, .int .i64 a0_2], .agg #[.int .i64 a2_0, .int .i64 a2_1, .int .i64 a2_2]] w fun e w' => e = .returned (.bool true) ∧ Below w.heap.size w w' := fun w => by have q := kbetween a0_0 a0_1 a0_2 a0_0 a0_1 a0_2 a2_0 a2_1 a2_2 w; rwa [g2] at q
            obtain ⟨s1, s2⟩ := bt_same g2
            have e1 : (a2_1 == a0_1) = true := by simpa using s1
            have e2 : (a2_2 == a0_2) = true := by simpa using s2
            clear s1 s2
            have HL0 := Lib.hid L0
            clear L0
            have HL1 := Lib.hid L1
            clear L1
            have HL2 := Lib.hid L2
            clear L2
            have HB1 := Lib.hid B1
            clear B1
            have HB2 := Lib.hid B2
            clear B2
            have HB3 := Lib.hid B3
            clear B3
            have HB4 := Lib.hid B4
            clear B4
            clear pa0 pa1 pa2 g1 g2
            go_enter Try.func4, Try.ntmps4
            go_wp2_with fail
            refine (HL0.out _).mono ?_
            rintro e w1 ⟨rfl, hx1⟩
            have K1 : Below w.heap.size w w1 ∧ w1.cell? ⟨w.heap.size, 0, none⟩ = some (.int .i64 a0_0) ∧ w1.cell? ⟨w.heap.size, 1, none⟩ = some (.int .i64 a0_1) ∧ w1.cell? ⟨w.heap.size, 2, none⟩ = some (.int .i64 a0_2) ∧ w1.cell? ⟨w.heap.size + 1, 0, none⟩ = some (.int .i64 a1_0) ∧ w1.cell? ⟨w.heap.size + 1, 1, none⟩ = some (.int .i64 a1_1) ∧ w1.cell? ⟨w.heap.size + 1, 2, none⟩ = some (.int .i64 a1_2) ∧ w1.cell? ⟨w.heap.size + 1 + 1, 0, none⟩ = some (.int .i64 a2_0) ∧ w1.cell? ⟨w.heap.size + 1 + 1, 1, none⟩ = some (.int .i64 a2_1) ∧ w1.cell? ⟨w.heap.size + 1 + 1, 2, none⟩ = some (.int .i64 a2_2) := by
              refine keep9 (Nat.le_refl _) hx1 ?_
              ((repeat' apply And.intro) <;> first | go_keep | (go_simp; done) | (repeat (first | exact Below.refl _ _ | assumption | refine Below.drew ?_ | refine Below.alloc ?_ (by first | omega | (simp <;> omega)) _ | refine Below.setCell ?_ (by first | omega | (simp <;> omega)) _)))
            obtain ⟨kb, q0, q1, q2, q3, q4, q5, q6, q7, q8⟩ := K1
            have zs1 := kb.size
            clear hx1
            go_wp2_with fail
            refine (HL1.out _).mono ?_
            rintro e w2 ⟨rfl, hx2⟩
            have K2 : Below w.heap.size w w2 ∧ w2.cell? ⟨w.heap.size, 0, none⟩ = some (.int .i64 a0_0) ∧ w2.cell? ⟨w.heap.size, 1, none⟩ = some (.int .i64 a0_1) ∧ w2.cell? ⟨w.heap.size, 2, none⟩ = some (.int .i64 a0_2) ∧ w2.cell? ⟨w.heap.size + 1, 0, none⟩ = some (.int .i64 a1_0) ∧ w2.cell? ⟨w.heap.size + 1, 1, none⟩ = some (.int .i64 a1_1) ∧ w2.cell? ⟨w.heap.size + 1, 2, none⟩ = some (.int .i64 a1_2) ∧ w2.cell? ⟨w.heap.size + 1 + 1, 0, none⟩ = some (.int .i64 a2_0) ∧ w2.cell? ⟨w.heap.size + 1 + 1, 1, none⟩ = some (.int .i64 a2_1) ∧ w2.cell? ⟨w.heap.size + 1 + 1, 2, none⟩ = some (.int .i64 a2_2) := by
              refine keep9 (Nat.le_refl _) hx2 ?_
              ((repeat' apply And.intro) <;> first | go_keep | (go_simp; done) | (repeat (first | exact Below.refl _ _ | assumption | refine Below.drew ?_ | refine Below.alloc ?_ (by first | omega | (simp <;> omega)) _ | refine Below.setCell ?_ (by first | omega | (simp <;> omega)) _)))
            clear kb q0 q1 q2 q3 q4 q5 q6 q7 q8
            obtain ⟨kb, q0, q1, q2, q3, q4, q5, q6, q7, q8⟩ := K2
            have zs2 := kb.size
            clear hx2
            go_wp2_with fail
            refine (HL2.out _).mono ?_
            rintro e w3 ⟨rfl, hx3⟩
            have K3 : Below w.heap.size w w3 ∧ w3.cell? ⟨w.heap.size, 0, none⟩ = some (.int .i64 a0_0) ∧ w3.cell? ⟨w.heap.size, 1, none⟩ = some (.int .i64 a0_1) ∧ w3.cell? ⟨w.heap.size, 2, none⟩ = some (.int .i64 a0_2) ∧ w3.cell? ⟨w.heap.size + 1, 0, none⟩ = some (.int .i64 a1_0) ∧ w3.cell? ⟨w.heap.size + 1, 1, none⟩ = some (.int .i64 a1_1) ∧ w3.cell? ⟨w.heap.size + 1, 2, none⟩ = some (.int .i64 a1_2) ∧ w3.cell? ⟨w.heap.size + 1 + 1, 0, none⟩ = some (.int .i64 a2_0) ∧ w3.cell? ⟨w.heap.size + 1 + 1, 1, none⟩ = some (.int .i64 a2_1) ∧ w3.cell? ⟨w.heap.size + 1 + 1, 2, none⟩ = some (.int .i64 a2_2) := by
              refine keep9 (Nat.le_refl _) hx3 ?_
              ((repeat' apply And.intro) <;> first | go_keep | (go_simp; done) | (repeat (first | exact Below.refl _ _ | assumption | refine Below.drew ?_ | refine Below.alloc ?_ (by first | omega | (simp <;> omega)) _ | refine Below.setCell ?_ (by first | omega | (simp <;> omega)) _)))
            clear kb q0 q1 q2 q3 q4 q5 q6 q7 q8
            obtain ⟨kb, q0, q1, q2, q3, q4, q5, q6, q7, q8⟩ := K3
            have zs3 := kb.size
            clear hx3
            go_wp2_with fail
            refine (HB1.out _).mono ?_
            rintro e w4 ⟨rfl, hx4⟩
            have K4 : Below w.heap.size w w4 ∧ w4.cell? ⟨w.heap.size, 0, none⟩ = some (.int .i64 a0_0) ∧ w4.cell? ⟨w.heap.size, 1, none⟩ = some (.int .i64 a0_1) ∧ w4.cell? ⟨w.heap.size, 2, none⟩ = some (.int .i64 a0_2) ∧ w4.cell? ⟨w.heap.size + 1, 0, none⟩ = some (.int .i64 a1_0) ∧ w4.cell? ⟨w.heap.size + 1, 1, none⟩ = some (.int .i64 a1_1) ∧ w4.cell? ⟨w.heap.size + 1, 2, none⟩ = some (.int .i64 a1_2) ∧ w4.cell? ⟨w.heap.size + 1 + 1, 0, none⟩ = some (.int .i64 a2_0) ∧ w4.cell? ⟨w.heap.size + 1 + 1, 1, none⟩ = some (.int .i64 a2_1) ∧ w4.cell? ⟨w.heap.size + 1 + 1, 2, none⟩ = some (.int .i64 a2_2) := by
              refine keep9 (Nat.le_refl _) hx4 ?_
              ((repeat' apply And.intro) <;> first | go_keep | (go_simp; done) | (repeat (first | exact Below.refl _ _ | assumption | refine Below.drew ?_ | refine Below.alloc ?_ (by first | omega | (simp <;> omega)) _ | refine Below.setCell ?_ (by first | omega | (simp <;> omega)) _)))
            clear kb q0 q1 q2 q3 q4 q5 q6 q7 q8
            obtain ⟨kb, q0, q1, q2, q3, q4, q5, q6, q7, q8⟩ := K4
            have zs4 := kb.size
            clear hx4
            go_wp2_with fail
            refine (HB2.out _).mono ?_
            rintro e w5 ⟨rfl, hx5⟩
            have K5 : Below w.heap.size w w5 ∧ w5.cell? ⟨w.heap.size, 0, none⟩ = some (.int .i64 a0_0) ∧ w5.cell? ⟨w.heap.size, 1, none⟩ = some (.int .i64 a0_1) ∧ w5.cell? ⟨w.heap.size, 2, none⟩ = some (.int .i64 a0_2) ∧ w5.cell? ⟨w.heap.size + 1, 0, none⟩ = some (.int .i64 a1_0) ∧ w5.cell? ⟨w.heap.size + 1, 1, none⟩ = some (.int .i64 a1_1) ∧ w5.cell? ⟨w.heap.size + 1, 2, none⟩ = some (.int .i64 a1_2) ∧ w5.cell? ⟨w.heap.size + 1 + 1, 0, none⟩ = some (.int .i64 a2_0) ∧ w5.cell? ⟨w.heap.size + 1 + 1, 1, none⟩ = some (.int .i64 a2_1) ∧ w5.cell? ⟨w.heap.size + 1 + 1, 2, none⟩ = some (.int .i64 a2_2) := by
              refine keep9 (Nat.le_refl _) hx5 ?_
              ((repeat' apply And.intro) <;> first | go_keep | (go_simp; done) | (repeat (first | exact Below.refl _ _ | assumption | refine Below.drew ?_ | refine Below.alloc ?_ (by first | omega | (simp <;> omega)) _ | refine Below.setCell ?_ (by first | omega | (simp <;> omega)) _)))
            clear kb q0 q1 q2 q3 q4 q5 q6 q7 q8
            obtain ⟨kb, q0, q1, q2, q3, q4, q5, q6, q7, q8⟩ := K5
            have zs5 := kb.size
            clear hx5
            go_wp2_with fail
            refine (HB3.out _).mono ?_
            rintro e w6 ⟨rfl, hx6⟩
            have K6 : Below w.heap.size w w6 ∧ w6.cell? ⟨w.heap.size, 0, none⟩ = some (.int .i64 a0_0) ∧ w6.cell? ⟨w.heap.size, 1, none⟩ = some (.int .i64 a0_1) ∧ w6.cell? ⟨w.heap.size, 2, none⟩ = some (.int .i64 a0_2) ∧ w6.cell? ⟨w.heap.size + 1, 0, none⟩ = some (.int .i64 a1_0) ∧ w6.cell? ⟨w.heap.size + 1, 1, none⟩ = some (.int .i64 a1_1) ∧ w6.cell? ⟨w.heap.size + 1, 2, none⟩ = some (.int .i64 a1_2) ∧ w6.cell? ⟨w.heap.size + 1 + 1, 0, none⟩ = some (.int .i64 a2_0) ∧ w6.cell? ⟨w.heap.size + 1 + 1, 1, none⟩ = some (.int .i64 a2_1) ∧ w6.cell? ⟨w.heap.size + 1 + 1, 2, none⟩ = some (.int .i64 a2_2) := by
              refine keep9 (Nat.le_refl _) hx6 ?_
              ((repeat' apply And.intro) <;> first | go_keep | (go_simp; done) | (repeat (first | exact Below.refl _ _ | assumption | refine Below.drew ?_ | refine Below.alloc ?_ (by first | omega | (simp <;> omega)) _ | refine Below.setCell ?_ (by first | omega | (simp <;> omega)) _)))
            clear kb q0 q1 q2 q3 q4 q5 q6 q7 q8
            obtain ⟨kb, q0, q1, q2, q3, q4, q5, q6, q7, q8⟩ := K6
            have zs6 := kb.size
            clear hx6
            go_wp2_with fail
            refine (HB4.out _).mono ?_
            rintro e w7 ⟨rfl, hx7⟩
            have K7 : Below w.heap.size w w7 ∧ w7.cell? ⟨w.heap.size, 0, none⟩ = some (.int .i64 a0_0) ∧ w7.cell? ⟨w.heap.size, 1, none⟩ = some (.int .i64 a0_1) ∧ w7.cell? ⟨w.heap.size, 2, none⟩ = some (.int .i64 a0_2) ∧ w7.cell? ⟨w.heap.size + 1, 0, none⟩ = some (.int .i64 a1_0) ∧ w7.cell? ⟨w.heap.size + 1, 1, none⟩ = some (.int .i64 a1_1) ∧ w7.cell? ⟨w.heap.size + 1, 2, none⟩ = some (.int .i64 a1_2) ∧ w7.cell? ⟨w.heap.size + 1 + 1, 0, none⟩ = some (.int .i64 a2_0) ∧ w7.cell? ⟨w.heap.size + 1 + 1, 1, none⟩ = some (.int .i64 a2_1) ∧ w7.cell? ⟨w.heap.size + 1 + 1, 2, none⟩ = some (.int .i64 a2_2) := by
              refine keep9 (Nat.le_refl _) hx7 ?_
              ((repeat' apply And.intro) <;> first | go_keep | (go_simp; done) | (repeat (first | exact Below.refl _ _ | assumption | refine Below.drew ?_ | refine Below.alloc ?_ (by first | omega | (simp <;> omega)) _ | refine Below.setCell ?_ (by first | omega | (simp <;> omega)) _)))
            clear kb q0 q1 q2 q3 q4 q5 q6 q7 q8
            obtain ⟨kb, q0, q1, q2, q3, q4, q5, q6, q7, q8⟩ := K7
            have zs7 := kb.size
            clear hx7
            go_wp2_with fail
            refine (lives3 _).mono ?_
            rintro e w8 ⟨rfl, hx8⟩
            have K8 : Below w.heap.size w w8 ∧ w8.cell? ⟨w.heap.size, 0, none⟩ = some (.int .i64 a0_0) ∧ w8.cell? ⟨w.heap.size, 1, none⟩ = some (.int .i64 a0_1) ∧ w8.cell? ⟨w.heap.size, 2, none⟩ = some (.int .i64 a0_2) ∧ w8.cell? ⟨w.heap.size + 1, 0, none⟩ = some (.int .i64 a1_0) ∧ w8.cell? ⟨w.heap.size + 1, 1, none⟩ = some (.int .i64 a1_1) ∧ w8.cell? ⟨w.heap.size + 1, 2, none⟩ = some (.int .i64 a1_2) ∧ w8.cell? ⟨w.heap.size + 1 + 1, 0, none⟩ = some (.int .i64 a2_0) ∧ w8.cell? ⟨w.heap.size + 1 + 1, 1, none⟩ = some (.int .i64 a2_1) ∧ w8.cell? ⟨w.heap.size + 1 + 1, 2, none⟩ = some (.int .i64 a2_2) := by
              refine keep9 (Nat.le_refl _) hx8 ?_
              ((repeat' apply And.intro) <;> first | go_keep | (go_simp; done) | (repeat (first | exact Below.refl _ _ | assumption | refine Below.drew ?_ | refine Below.alloc ?_ (by first | omega | (simp <;> omega)) _ | refine Below.setCell ?_ (by first | omega | (simp <;> omega)) _)))
            clear kb q0 q1 q2 q3 q4 q5 q6 q7 q8
            obtain ⟨kb, q0, q1, q2, q3, q4, q5, q6, q7, q8⟩ := K8
            have zs8 := kb.size
            clear hx8
            go_wp2_with fail
            go_ret
            exact ⟨rfl, kb⟩
        · cases g2 : btK a0_1 a0_2 a0_1 a0_2 a2_1 a2_2
          · skip
            have L0 : ∀ w : World, Calls Try.prog 11 #[.agg #[.int .i64 a0_0, .int .i64 a0_1, .int .i64 a0_2]] w fun e w' => e = .returned (.bool true) ∧ Below w.heap.size w w' := fun w => by have q := klies a0_0 a0_1 a0_2 w; rwa [pa0] at q
            have L1 : ∀ w : World, Calls Try.prog 11 #[.agg #[.int .i64 a1_0, .int .i64 a1_1, .int .i64 a1_2]] w fun e w' => e = .returned (.bool true) ∧ Below w.heap.size w w' := fun w => by have q := klies a1_0 a1_1 a1_2 w; rwa [pa1] at q
            have L2 : ∀ w : World, Calls Try.prog 11 #[.agg #[.int .i64 a2_0, .int .i64 a2_1, .int .i64 a2_2]] w fun e w' => e = .returned (.bool true) ∧ Below w.heap.size w w' := fun w => by have q := klies a2_0 a2_1 a2_2 w; rwa [pa2] at q
            have B1 : ∀ w : World, Calls Try.prog 18 #[.agg #[.int .i64 a0_0, .int .i64 a0_1, .int .i64 a0_2], .agg #[.int .i64 a1_0, .int .i64 a1_1, .int .i64 a1_2], .agg #[.int .i64 a0_0, .int .i64 a0_1, .int .i64 a0_2]] w fun e w' => e = .returned (.bool true) ∧ Below w.heap.size w w' := fun w => by have q := kbetween a0_0 a0_1 a0_2 a1_0 a1_1 a1_2 a0_0 a0_1 a0_2 w; rwa [(bt_ends pa0 pa1).1] at q
            have B2 : ∀ w : World, Calls Try.prog 18 #[.agg #[.int .i64 a0_0, .int .i64 a0_1, .int .i64 a0_2], .agg #[.int .i64 a1_0, .int .i64 a1_1, .int .i64 a1_2], .agg #[.int .i64 a1_0, .int .i64 a1_1, .int .i64 a1_2]] w fun e w' => e = .returned (.bool true) ∧ Below w.heap.size w w' := fun w => by have q := kbetween a0_0 a0_1 a0_2 a1_0 a1_1 a1_2 a1_0 a1_1 a1_2 w; rwa [(bt_ends pa0 pa1).2] at q
            have B3 : ∀ w : World, Calls Try.prog 18 #[.agg #[.int .i64 a0_0, .int .i64 a0_1, .int .i64 a0_2], .agg #[.int .i64 a1_0, .int .i64 a1_1, .int .i64 a1_2], .agg #[.int .i64 a2_0, .int .i64 a2_1, .int .i64 a2_2]] w fun e w' => e = .returned (.bool true) ∧ Below w.heap.size w w' := fun w => by have q := kbetween a0_0 a0_1 a0_2 a1_0 a1_1 a1_2 a2_0 a2_1 a2_2 w; rwa [g1] at q
            have B4 : ∀ w : World, Calls Try.prog 18 #[.agg #[.int .i64 a0_0, .int .i64 a0_1, .int .i64 a0_2], .agg #[.int .i64 a0_0, .int .i64 a0_1, .int .i64 a0_2], .agg #[.int .i64 a2_0, .int .i64 a2_1, .int .i64 a2_2]] w fun e w' => e = .returned (.bool false) ∧ Below w.heap.size w w' := fun w => by have q := kbetween a0_0 a0_1 a0_2 a0_0 a0_1 a0_2 a2_0 a2_1 a2_2 w; rwa [g2] at q
            have T : ∀ w : World, Calls Try.prog 16 #[.agg #[.int .i64 a0_0, .int .i64 a0_1, .int .i64 a0_2], .agg #[.int .i64 a1_0, .int .i64 a1_1, .int .i64 a1_2], .agg #[.int .i64 a2_0, .int .i64 a2_1, .int .i64 a2_2]] w fun e w' => e = .returned (.int .i64 0) ∧ Below w.heap.size w w' := fun w => by have q := turn_yes a0_0 a0_1 a0_2 a1_0 a1_1 a1_2 a2_0 a2_1 a2_2 pa0 pa1 pa2 w; rwa [sg_zero.2 (bt_line g1)] at q
            have HL0 := Lib.hid L0
            clear L0
            have HL1 := Lib.hid L1
            clear L1
            have HL2 := Lib.hid L2
            clear L2
            have HB1 := Lib.hid B1
            clear B1
            have HB2 := Lib.hid B2
            clear B2
            have HB3 := Lib.hid B3
            clear B3
            have HB4 := Lib.hid B4
            clear B4
            have HT := Lib.hid T
            clear T
            clear pa0 pa1 pa2 g1 g2
            go_enter Try.func4, Try.ntmps4
            go_wp2_with fail
            refine (HL0.out _).mono ?_
            rintro e w1 ⟨rfl, hx1⟩
            have K1 : Below w.heap.size w w1 ∧ w1.cell? ⟨w.heap.size, 0, none⟩ = some (.int .i64 a0_0) ∧ w1.cell? ⟨w.heap.size, 1, none⟩ = some (.int .i64 a0_1) ∧ w1.cell? ⟨w.heap.size, 2, none⟩ = some (.int .i64 a0_2) ∧ w1.cell? ⟨w.heap.size + 1, 0, none⟩ = some (.int .i64 a1_0) ∧ w1.cell? ⟨w.heap.size + 1, 1, none⟩ = some (.int .i64 a1_1) ∧ w1.cell? ⟨w.heap.size + 1, 2, none⟩ = some (.int .i64 a1_2) ∧ w1.cell? ⟨w.heap.size + 1 + 1, 0, none⟩ = some (.int .i64 a2_0) ∧ w1.cell? ⟨w.heap.size + 1 + 1, 1, none⟩ = some (.int .i64 a2_1) ∧ w1.cell? ⟨w.heap.size + 1 + 1, 2, none⟩ = some (.int .i64 a2_2) := by
              refine keep9 (Nat.le_refl _) hx1 ?_
              ((repeat' apply And.intro) <;> first | go_keep | (go_simp; done) | (repeat (first | exact Below.refl _ _ | assumption | refine Below.drew ?_ | refine Below.alloc ?_ (by first | omega | (simp <;> omega)) _ | refine Below.setCell ?_ (by first | omega | (simp <;> omega)) _)))
            obtain ⟨kb, q0, q1, q2, q3, q4, q5, q6, q7, q8⟩ := K1
            have zs1 := kb.size
            clear hx1
            go_wp2_with fail
            refine (HL1.out _).mono ?_
            rintro e w2 ⟨rfl, hx2⟩
            have K2 : Below w.heap.size w w2 ∧ w2.cell? ⟨w.heap.size, 0, none⟩ = some (.int .i64 a0_0) ∧ w2.cell? ⟨w.heap.size, 1, none⟩ = some (.int .i64 a0_1) ∧ w2.cell? ⟨w.heap.size, 2, none⟩ = some (.int .i64 a0_2) ∧ w2.cell? ⟨w.heap.size + 1, 0, none⟩ = some (.int .i64 a1_0) ∧ w2.cell? ⟨w.heap.size + 1, 1, none⟩ = some (.int .i64 a1_1) ∧ w2.cell? ⟨w.heap.size + 1, 2, none⟩ = some (.int .i64 a1_2) ∧ w2.cell? ⟨w.heap.size + 1 + 1, 0, none⟩ = some (.int .i64 a2_0) ∧ w2.cell? ⟨w.heap.size + 1 + 1, 1, none⟩ = some (.int .i64 a2_1) ∧ w2.cell? ⟨w.heap.size + 1 + 1, 2, none⟩ = some (.int .i64 a2_2) := by
              refine keep9 (Nat.le_refl _) hx2 ?_
              ((repeat' apply And.intro) <;> first | go_keep | (go_simp; done) | (repeat (first | exact Below.refl _ _ | assumption | refine Below.drew ?_ | refine Below.alloc ?_ (by first | omega | (simp <;> omega)) _ | refine Below.setCell ?_ (by first | omega | (simp <;> omega)) _)))
            clear kb q0 q1 q2 q3 q4 q5 q6 q7 q8
            obtain ⟨kb, q0, q1, q2, q3, q4, q5, q6, q7, q8⟩ := K2
            have zs2 := kb.size
            clear hx2
            go_wp2_with fail
            refine (HL2.out _).mono ?_
            rintro e w3 ⟨rfl, hx3⟩
            have K3 : Below w.heap.size w w3 ∧ w3.cell? ⟨w.heap.size, 0, none⟩ = some (.int .i64 a0_0) ∧ w3.cell? ⟨w.heap.size, 1, none⟩ = some (.int .i64 a0_1) ∧ w3.cell? ⟨w.heap.size, 2, none⟩ = some (.int .i64 a0_2) ∧ w3.cell? ⟨w.heap.size + 1, 0, none⟩ = some (.int .i64 a1_0) ∧ w3.cell? ⟨w.heap.size + 1, 1, none⟩ = some (.int .i64 a1_1) ∧ w3.cell? ⟨w.heap.size + 1, 2, none⟩ = some (.int .i64 a1_2) ∧ w3.cell? ⟨w.heap.size + 1 + 1, 0, none⟩ = some (.int .i64 a2_0) ∧ w3.cell? ⟨w.heap.size + 1 + 1, 1, none⟩ = some (.int .i64 a2_1) ∧ w3.cell? ⟨w.heap.size + 1 + 1, 2, none⟩ = some (.int .i64 a2_2) := by
              refine keep9 (Nat.le_refl _) hx3 ?_
              ((repeat' apply And.intro) <;> first | go_keep | (go_simp; done) | (repeat (first | exact Below.refl _ _ | assumption | refine Below.drew ?_ | refine Below.alloc ?_ (by first | omega | (simp <;> omega)) _ | refine Below.setCell ?_ (by first | omega | (simp <;> omega)) _)))
            clear kb q0 q1 q2 q3 q4 q5 q6 q7 q8
            obtain ⟨kb, q0, q1, q2, q3, q4, q5, q6, q7, q8⟩ := K3
            have zs3 := kb.size
            clear hx3
            go_wp2_with fail
            refine (HB1.out _).mono ?_
            rintro e w4 ⟨rfl, hx4⟩
            have K4 : Below w.heap.size w w4 ∧ w4.cell? ⟨w.heap.size, 0, none⟩ = some (.int .i64 a0_0) ∧ w4.cell? ⟨w.heap.size, 1, none⟩ = some (.int .i64 a0_1) ∧ w4.cell? ⟨w.heap.size, 2, none⟩ = some (.int .i64 a0_2) ∧ w4.cell? ⟨w.heap.size + 1, 0, none⟩ = some (.int .i64 a1_0) ∧ w4.cell? ⟨w.heap.size + 1, 1, none⟩ = some (.int .i64 a1_1) ∧ w4.cell? ⟨w.heap.size + 1, 2, none⟩ = some (.int .i64 a1_2) ∧ w4.cell? ⟨w.heap.size + 1 + 1, 0, none⟩ = some (.int .i64 a2_0) ∧ w4.cell? ⟨w.heap.size + 1 + 1, 1, none⟩ = some (.int .i64 a2_1) ∧ w4.cell? ⟨w.heap.size + 1 + 1, 2, none⟩ = some (.int .i64 a2_2) := by
              refine keep9 (Nat.le_refl _) hx4 ?_
              ((repeat' apply And.intro) <;> first | go_keep | (go_simp; done) | (repeat (first | exact Below.refl _ _ | assumption | refine Below.drew ?_ | refine Below.alloc ?_ (by first | omega | (simp <;> omega)) _ | refine Below.setCell ?_ (by first | omega | (simp <;> omega)) _)))
            clear kb q0 q1 q2 q3 q4 q5 q6 q7 q8
            obtain ⟨kb, q0, q1, q2, q3, q4, q5, q6, q7, q8⟩ := K4
            have zs4 := kb.size
            clear hx4
            go_wp2_with fail
            refine (HB2.out _).mono ?_
            rintro e w5 ⟨rfl, hx5⟩
            have K5 : Below w.heap.size w w5 ∧ w5.cell? ⟨w.heap.size, 0, none⟩ = some (.int .i64 a0_0) ∧ w5.cell? ⟨w.heap.size, 1, none⟩ = some (.int .i64 a0_1) ∧ w5.cell? ⟨w.heap.size, 2, none⟩ = some (.int .i64 a0_2) ∧ w5.cell? ⟨w.heap.size + 1, 0, none⟩ = some (.int .i64 a1_0) ∧ w5.cell? ⟨w.heap.size + 1, 1, none⟩ = some (.int .i64 a1_1) ∧ w5.cell? ⟨w.heap.size + 1, 2, none⟩ = some (.int .i64 a1_2) ∧ w5.cell? ⟨w.heap.size + 1 + 1, 0, none⟩ = some (.int .i64 a2_0) ∧ w5.cell? ⟨w.heap.size + 1 + 1, 1, none⟩ = some (.int .i64 a2_1) ∧ w5.cell? ⟨w.heap.size + 1 + 1, 2, none⟩ = some (.int .i64 a2_2) := by
              refine keep9 (Nat.le_refl _) hx5 ?_
              ((repeat' apply And.intro) <;> first | go_keep | (go_simp; done) | (repeat (first | exact Below.refl _ _ | assumption | refine Below.drew ?_ | refine Below.alloc ?_ (by first | omega | (simp <;> omega)) _ | refine Below.setCell ?_ (by first | omega | (simp <;> omega)) _)))
            clear kb q0 q1 q2 q3 q4 q5 q6 q7 q8
            obtain ⟨kb, q0, q1, q2, q3, q4, q5, q6, q7, q8⟩ := K5
            have zs5 := kb.size
            clear hx5
            go_wp2_with fail
            refine (HB3.out _).mono ?_
            rintro e w6 ⟨rfl, hx6⟩
            have K6 : Below w.heap.size w w6 ∧ w6.cell? ⟨w.heap.size, 0, none⟩ = some (.int .i64 a0_0) ∧ w6.cell? ⟨w.heap.size, 1, none⟩ = some (.int .i64 a0_1) ∧ w6.cell? ⟨w.heap.size, 2, none⟩ = some (.int .i64 a0_2) ∧ w6.cell? ⟨w.heap.size + 1, 0, none⟩ = some (.int .i64 a1_0) ∧ w6.cell? ⟨w.heap.size + 1, 1, none⟩ = some (.int .i64 a1_1) ∧ w6.cell? ⟨w.heap.size + 1, 2, none⟩ = some (.int .i64 a1_2) ∧ w6.cell? ⟨w.heap.size + 1 + 1, 0, none⟩ = some (.int .i64 a2_0) ∧ w6.cell? ⟨w.heap.size + 1 + 1, 1, none⟩ = some (.int .i64 a2_1) ∧ w6.cell? ⟨w.heap.size + 1 + 1, 2, none⟩ = some (.int .i64 a2_2) := by
              refine keep9 (Nat.le_refl _) hx6 ?_
              ((repeat' apply And.intro) <;> first | go_keep | (go_simp; done) | (repeat (first | exact Below.refl _ _ | assumption | refine Below.drew ?_ | refine Below.alloc ?_ (by first | omega | (simp <;> omega)) _ | refine Below.setCell ?_ (by first | omega | (simp <;> omega)) _)))
            clear kb q0 q1 q2 q3 q4 q5 q6 q7 q8
            obtain ⟨kb, q0, q1, q2, q3, q4, q5, q6, q7, q8⟩ := K6
            have zs6 := kb.size
            clear hx6
            go_wp2_with fail
            refine (HT.out _).mono ?_
            rintro e w7 ⟨rfl, hx7⟩
            have K7 : Below w.heap.size w w7 ∧ w7.cell? ⟨w.heap.size, 0, none⟩ = some (.int .i64 a0_0) ∧ w7.cell? ⟨w.heap.size, 1, none⟩ = some (.int .i64 a0_1) ∧ w7.cell? ⟨w.heap.size, 2, none⟩ = some (.int .i64 a0_2) ∧ w7.cell? ⟨w.heap.size + 1, 0, none⟩ = some (.int .i64 a1_0) ∧ w7.cell? ⟨w.heap.size + 1, 1, none⟩ = some (.int .i64 a1_1) ∧ w7.cell? ⟨w.heap.size + 1, 2, none⟩ = some (.int .i64 a1_2) ∧ w7.cell? ⟨w.heap.size + 1 + 1, 0, none⟩ = some (.int .i64 a2_0) ∧ w7.cell? ⟨w.heap.size + 1 + 1, 1, none⟩ = some (.int .i64 a2_1) ∧ w7.cell? ⟨w.heap.size + 1 + 1, 2, none⟩ = some (.int .i64 a2_2) := by
              refine keep9 (Nat.le_refl _) hx7 ?_
              ((repeat' apply And.intro) <;> first | go_keep | (go_simp; done) | (repeat (first | exact Below.refl _ _ | assumption | refine Below.drew ?_ | refine Below.alloc ?_ (by first | omega | (simp <;> omega)) _ | refine Below.setCell ?_ (by first | omega | (simp <;> omega)) _)))
            clear kb q0 q1 q2 q3 q4 q5 q6 q7 q8
            obtain ⟨kb, q0, q1, q2, q3, q4, q5, q6, q7, q8⟩ := K7
            have zs7 := kb.size
            clear hx7
            go_wp2_with fail
            refine (HB4.out _).mono ?_
            rintro e w8 ⟨rfl, hx8⟩
            have K8 : Below w.heap.size w w8 ∧ w8.cell? ⟨w.heap.size, 0, none⟩ = some (.int .i64 a0_0) ∧ w8.cell? ⟨w.heap.size, 1, none⟩ = some (.int .i64 a0_1) ∧ w8.cell? ⟨w.heap.size, 2, none⟩ = some (.int .i64 a0_2) ∧ w8.cell? ⟨w.heap.size + 1, 0, none⟩ = some (.int .i64 a1_0) ∧ w8.cell? ⟨w.heap.size + 1, 1, none⟩ = some (.int .i64 a1_1) ∧ w8.cell? ⟨w.heap.size + 1, 2, none⟩ = some (.int .i64 a1_2) ∧ w8.cell? ⟨w.heap.size + 1 + 1, 0, none⟩ = some (.int .i64 a2_0) ∧ w8.cell? ⟨w.heap.size + 1 + 1, 1, none⟩ = some (.int .i64 a2_1) ∧ w8.cell? ⟨w.heap.size + 1 + 1, 2, none⟩ = some (.int .i64 a2_2) := by
              refine keep9 (Nat.le_refl _) hx8 ?_
              ((repeat' apply And.intro) <;> first | go_keep | (go_simp; done) | (repeat (first | exact Below.refl _ _ | assumption | refine Below.drew ?_ | refine Below.alloc ?_ (by first | omega | (simp <;> omega)) _ | refine Below.setCell ?_ (by first | omega | (simp <;> omega)) _)))
            clear kb q0 q1 q2 q3 q4 q5 q6 q7 q8
            obtain ⟨kb, q0, q1, q2, q3, q4, q5, q6, q7, q8⟩ := K8
            have zs8 := kb.size
            clear hx8
            go_wp2_with fail
            refine (lives3 _).mono ?_
            rintro e w9 ⟨rfl, hx9⟩
            have K9 : Below w.heap.size w w9 ∧ w9.cell? ⟨w.heap.size, 0, none⟩ = some (.int .i64 a0_0) ∧ w9.cell? ⟨w.heap.size, 1, none⟩ = some (.int .i64 a0_1) ∧ w9.cell? ⟨w.heap.size, 2, none⟩ = some (.int .i64 a0_2) ∧ w9.cell? ⟨w.heap.size + 1, 0, none⟩ = some (.int .i64 a1_0) ∧ w9.cell? ⟨w.heap.size + 1, 1, none⟩ = some (.int .i64 a1_1) ∧ w9.cell? ⟨w.heap.size + 1, 2, none⟩ = some (.int .i64 a1_2) ∧ w9.cell? ⟨w.heap.size + 1 + 1, 0, none⟩ = some (.int .i64 a2_0) ∧ w9.cell? ⟨w.heap.size + 1 + 1, 1, none⟩ = some (.int .i64 a2_1) ∧ w9.cell? ⟨w.heap.size + 1 + 1, 2, none⟩ = some (.int .i64 a2_2) := by
              refine keep9 (Nat.le_refl _) hx9 ?_
              ((repeat' apply And.intro) <;> first | go_keep | (go_simp; done) | (repeat (first | exact Below.refl _ _ | assumption | refine Below.drew ?_ | refine Below.alloc ?_ (by first | omega | (simp <;> omega)) _ | refine Below.setCell ?_ (by first | omega | (simp <;> omega)) _)))
            clear kb q0 q1 q2 q3 q4 q5 q6 q7 q8
            obtain ⟨kb, q0, q1, q2, q3, q4, q5, q6, q7, q8⟩ := K9
            have zs9 := kb.size
            clear hx9
            go_wp2_with fail
            go_ret
            exact ⟨rfl, kb⟩
          · skip
            have L0 : ∀ w : World, Calls Try.prog 11 #[.agg #[.int .i64 a0_0, .int .i64 a0_1, .int .i64 a0_2]] w fun e w' => e = .returned (.bool true) ∧ Below w.heap.size w w' := fun w => by have q := klies a0_0 a0_1 a0_2 w; rwa [pa0] at q
            have L1 : ∀ w : World, Calls Try.prog 11 #[.agg #[.int .i64 a1_0, .int .i64 a1_1, .int .i64 a1_2]] w fun e w' => e = .returned (.bool true) ∧ Below w.heap.size w w' := fun w => by have q := klies a1_0 a1_1 a1_2 w; rwa [pa1] at q
            have L2 : ∀ w : World, Calls Try.prog 11 #[.agg #[.int .i64 a2_0, .int .i64 a2_1, .int .i64 a2_2]] w fun e w' => e = .returned (.bool true) ∧ Below w.heap.size w w' := fun w => by have q := klies a2_0 a2_1 a2_2 w; rwa [pa2] at q
            have B1 : ∀ w : World, Calls Try.prog 18 #[.agg #[.int .i64 a0_0, .int .i64 a0_1, .int .i64 a0_2], .agg #[.int .i64 a1_0, .int .i64 a1_1, .int .i64 a1_2], .agg #[.int .i64 a0_0, .int .i64 a0_1, .int .i64 a0_2]] w fun e w' => e = .returned (.bool true) ∧ Below w.heap.size w w' := fun w => by have q := kbetween a0_0 a0_1 a0_2 a1_0 a1_1 a1_2 a0_0 a0_1 a0_2 w; rwa [(bt_ends pa0 pa1).1] at q
            have B2 : ∀ w : World, Calls Try.prog 18 #[.agg #[.int .i64 a0_0, .int .i64 a0_1, .int .i64 a0_2], .agg #[.int .i64 a1_0, .int .i64 a1_1, .int .i64 a1_2], .agg #[.int .i64 a1_0, .int .i64 a1_1, .int .i64 a1_2]] w fun e w' => e = .returned (.bool true) ∧ Below w.heap.size w w' := fun w => by have q := kbetween a0_0 a0_1 a0_2 a1_0 a1_1 a1_2 a1_0 a1_1 a1_2 w; rwa [(bt_ends pa0 pa1).2] at q
            have B3 : ∀ w : World, Calls Try.prog 18 #[.agg #[.int .i64 a0_0, .int .i64 a0_1, .int .i64 a0_2], .agg #[.int .i64 a1_0, .int .i64 a1_1, .int .i64 a1_2], .agg #[.int .i64 a2_0, .int .i64 a2_1, .int .i64 a2_2]] w fun e w' => e = .returned (.bool true) ∧ Below w.heap.size w w' := fun w => by have q := kbetween a0_0 a0_1 a0_2 a1_0 a1_1 a1_2 a2_0 a2_1 a2_2 w; rwa [g1] at q
            have B4 : ∀ w : World, Calls Try.prog 18 #[.agg #[.int .i64 a0_0, .int .i64 a0_1, .int .i64 a0_2], .agg #[.int .i64 a0_0, .int .i64 a0_1, .int .i64 a0_2], .agg #[.int .i64 a2_0, .int .i64 a2_1, .int .i64 a2_2]] w fun e w' => e = .returned (.bool true) ∧ Below w.heap.size w w' := fun w => by have q := kbetween a0_0 a0_1 a0_2 a0_0 a0_1 a0_2 a2_0 a2_1 a2_2 w; rwa [g2] at q
            have T : ∀ w : World, Calls Try.prog 16 #[.agg #[.int .i64 a0_0, .int .i64 a0_1, .int .i64 a0_2], .agg #[.int .i64 a1_0, .int .i64 a1_1, .int .i64 a1_2], .agg #[.int .i64 a2_0, .int .i64 a2_1, .int .i64 a2_2]] w fun e w' => e = .returned (.int .i64 0) ∧ Below w.heap.size w w' := fun w => by have q := turn_yes a0_0 a0_1 a0_2 a1_0 a1_1 a1_2 a2_0 a2_1 a2_2 pa0 pa1 pa2 w; rwa [sg_zero.2 (bt_line g1)] at q
            obtain ⟨s1, s2⟩ := bt_same g2
            have e1 : (a2_1 == a0_1) = true := by simpa using s1
            have e2 : (a2_2 == a0_2) = true := by simpa using s2
            clear s1 s2
            have HL0 := Lib.hid L0
            clear L0
            have HL1 := Lib.hid L1
            clear L1
            have HL2 := Lib.hid L2
            clear L2
            have HB1 := Lib.hid B1
            clear B1
            have HB2 := Lib.hid B2
            clear B2
            have HB3 := Lib.hid B3
            clear B3
            have HB4 := Lib.hid B4
            clear B4
            have HT := Lib.hid T
            clear T
            clear pa0 pa1 pa2 g1 g2
            go_enter Try.func4, Try.ntmps4
            go_wp2_with fail
            refine (HL0.out _).mono ?_
            rintro e w1 ⟨rfl, hx1⟩
            have K1 : Below w.heap.size w w1 ∧ w1.cell? ⟨w.heap.size, 0, none⟩ = some (.int .i64 a0_0) ∧ w1.cell? ⟨w.heap.size, 1, none⟩ = some (.int .i64 a0_1) ∧ w1.cell? ⟨w.heap.size, 2, none⟩ = some (.int .i64 a0_2) ∧ w1.cell? ⟨w.heap.size + 1, 0, none⟩ = some (.int .i64 a1_0) ∧ w1.cell? ⟨w.heap.size + 1, 1, none⟩ = some (.int .i64 a1_1) ∧ w1.cell? ⟨w.heap.size + 1, 2, none⟩ = some (.int .i64 a1_2) ∧ w1.cell? ⟨w.heap.size + 1 + 1, 0, none⟩ = some (.int .i64 a2_0) ∧ w1.cell? ⟨w.heap.size + 1 + 1, 1, none⟩ = some (.int .i64 a2_1) ∧ w1.cell? ⟨w.heap.size + 1 + 1, 2, none⟩ = some (.int .i64 a2_2) := by
              refine keep9 (Nat.le_refl _) hx1 ?_
              ((repeat' apply And.intro) <;> first | go_keep | (go_simp; done) | (repeat (first | exact Below.refl _ _ | assumption | refine Below.drew ?_ | refine Below.alloc ?_ (by first | omega | (simp <;> omega)) _ | refine Below.setCell ?_ (by first | omega | (simp <;> omega)) _)))
            obtain ⟨kb, q0, q1, q2, q3, q4, q5, q6, q7, q8⟩ := K1
            have zs1 := kb.size
            clear hx1
            go_wp2_with fail
            refine (HL1.out _).mono ?_
            rintro e w2 ⟨rfl, hx2⟩
            have K2 : Below w.heap.size w w2 ∧ w2.cell? ⟨w.heap.size, 0, none⟩ = some (.int .i64 a0_0) ∧ w2.cell? ⟨w.heap.size, 1, none⟩ = some (.int .i64 a0_1) ∧ w2.cell? ⟨w.heap.size, 2, none⟩ = some (.int .i64 a0_2) ∧ w2.cell? ⟨w.heap.size + 1, 0, none⟩ = some (.int .i64 a1_0) ∧ w2.cell? ⟨w.heap.size + 1, 1, none⟩ = some (.int .i64 a1_1) ∧ w2.cell? ⟨w.heap.size + 1, 2, none⟩ = some (.int .i64 a1_2) ∧ w2.cell? ⟨w.heap.size + 1 + 1, 0, none⟩ = some (.int .i64 a2_0) ∧ w2.cell? ⟨w.heap.size + 1 + 1, 1, none⟩ = some (.int .i64 a2_1) ∧ w2.cell? ⟨w.heap.size + 1 + 1, 2, none⟩ = some (.int .i64 a2_2) := by
              refine keep9 (Nat.le_refl _) hx2 ?_
              ((repeat' apply And.intro) <;> first | go_keep | (go_simp; done) | (repeat (first | exact Below.refl _ _ | assumption | refine Below.drew ?_ | refine Below.alloc ?_ (by first | omega | (simp <;> omega)) _ | refine Below.setCell ?_ (by first | omega | (simp <;> omega)) _)))
            clear kb q0 q1 q2 q3 q4 q5 q6 q7 q8
            obtain ⟨kb, q0, q1, q2, q3, q4, q5, q6, q7, q8⟩ := K2
            have zs2 := kb.size
            clear hx2
            go_wp2_with fail
            refine (HL2.out _).mono ?_
            rintro e w3 ⟨rfl, hx3⟩
            have K3 : Below w.heap.size w w3 ∧ w3.cell? ⟨w.heap.size, 0, none⟩ = some (.int .i64 a0_0) ∧ w3.cell? ⟨w.heap.size, 1, none⟩ = some (.int .i64 a0_1) ∧ w3.cell? ⟨w.heap.size, 2, none⟩ = some (.int .i64 a0_2) ∧ w3.cell? ⟨w.heap.size + 1, 0, none⟩ = some (.int .i64 a1_0) ∧ w3.cell? ⟨w.heap.size + 1, 1, none⟩ = some (.int .i64 a1_1) ∧ w3.cell? ⟨w.heap.size + 1, 2, none⟩ = some (.int .i64 a1_2) ∧ w3.cell? ⟨w.heap.size + 1 + 1, 0, none⟩ = some (.int .i64 a2_0) ∧ w3.cell? ⟨w.heap.size + 1 + 1, 1, none⟩ = some (.int .i64 a2_1) ∧ w3.cell? ⟨w.heap.size + 1 + 1, 2, none⟩ = some (.int .i64 a2_2) := by
              refine keep9 (Nat.le_refl _) hx3 ?_
              ((repeat' apply And.intro) <;> first | go_keep | (go_simp; done) | (repeat (first | exact Below.refl _ _ | assumption | refine Below.drew ?_ | refine Below.alloc ?_ (by first | omega | (simp <;> omega)) _ | refine Below.setCell ?_ (by first | omega | (simp <;> omega)) _)))
            clear kb q0 q1 q2 q3 q4 q5 q6 q7 q8
            obtain ⟨kb, q0, q1, q2, q3, q4, q5, q6, q7, q8⟩ := K3
            have zs3 := kb.size
            clear hx3
            go_wp2_with fail
            refine (HB1.out _).mono ?_
            rintro e w4 ⟨rfl, hx4⟩
            have K4 : Below w.heap.size w w4 ∧ w4.cell? ⟨w.heap.size, 0, none⟩ = some (.int .i64 a0_0) ∧ w4.cell? ⟨w.heap.size, 1, none⟩ = some (.int .i64 a0_1) ∧ w4.cell? ⟨w.heap.size, 2, none⟩ = some (.int .i64 a0_2) ∧ w4.cell? ⟨w.heap.size + 1, 0, none⟩ = some (.int .i64 a1_0) ∧ w4.cell? ⟨w.heap.size + 1, 1, none⟩ = some (.int .i64 a1_1) ∧ w4.cell? ⟨w.heap.size + 1, 2, none⟩ = some (.int .i64 a1_2) ∧ w4.cell? ⟨w.heap.size + 1 + 1, 0, none⟩ = some (.int .i64 a2_0) ∧ w4.cell? ⟨w.heap.size + 1 + 1, 1, none⟩ = some (.int .i64 a2_1) ∧ w4.cell? ⟨w.heap.size + 1 + 1, 2, none⟩ = some (.int .i64 a2_2) := by
              refine keep9 (Nat.le_refl _) hx4 ?_
              ((repeat' apply And.intro) <;> first | go_keep | (go_simp; done) | (repeat (first | exact Below.refl _ _ | assumption | refine Below.drew ?_ | refine Below.alloc ?_ (by first | omega | (simp <;> omega)) _ | refine Below.setCell ?_ (by first | omega | (simp <;> omega)) _)))
            clear kb q0 q1 q2 q3 q4 q5 q6 q7 q8
            obtain ⟨kb, q0, q1, q2, q3, q4, q5, q6, q7, q8⟩ := K4
            have zs4 := kb.size
            clear hx4
            go_wp2_with fail
            refine (HB2.out _).mono ?_
            rintro e w5 ⟨rfl, hx5⟩
            have K5 : Below w.heap.size w w5 ∧ w5.cell? ⟨w.heap.size, 0, none⟩ = some (.int .i64 a0_0) ∧ w5.cell? ⟨w.heap.size, 1, none⟩ = some (.int .i64 a0_1) ∧ w5.cell? ⟨w.heap.size, 2, none⟩ = some (.int .i64 a0_2) ∧ w5.cell? ⟨w.heap.size + 1, 0, none⟩ = some (.int .i64 a1_0) ∧ w5.cell? ⟨w.heap.size + 1, 1, none⟩ = some (.int .i64 a1_1) ∧ w5.cell? ⟨w.heap.size + 1, 2, none⟩ = some (.int .i64 a1_2) ∧ w5.cell? ⟨w.heap.size + 1 + 1, 0, none⟩ = some (.int .i64 a2_0) ∧ w5.cell? ⟨w.heap.size + 1 + 1, 1, none⟩ = some (.int .i64 a2_1) ∧ w5.cell? ⟨w.heap.size + 1 + 1, 2, none⟩ = some (.int .i64 a2_2) := by
              refine keep9 (Nat.le_refl _) hx5 ?_
              ((repeat' apply And.intro) <;> first | go_keep | (go_simp; done) | (repeat (first | exact Below.refl _ _ | assumption | refine Below.drew ?_ | refine Below.alloc ?_ (by first | omega | (simp <;> omega)) _ | refine Below.setCell ?_ (by first | omega | (simp <;> omega)) _)))
            clear kb q0 q1 q2 q3 q4 q5 q6 q7 q8
            obtain ⟨kb, q0, q1, q2, q3, q4, q5, q6, q7, q8⟩ := K5
            have zs5 := kb.size
            clear hx5
            go_wp2_with fail
            refine (HB3.out _).mono ?_
            rintro e w6 ⟨rfl, hx6⟩
            have K6 : Below w.heap.size w w6 ∧ w6.cell? ⟨w.heap.size, 0, none⟩ = some (.int .i64 a0_0) ∧ w6.cell? ⟨w.heap.size, 1, none⟩ = some (.int .i64 a0_1) ∧ w6.cell? ⟨w.heap.size, 2, none⟩ = some (.int .i64 a0_2) ∧ w6.cell? ⟨w.heap.size + 1, 0, none⟩ = some (.int .i64 a1_0) ∧ w6.cell? ⟨w.heap.size + 1, 1, none⟩ = some (.int .i64 a1_1) ∧ w6.cell? ⟨w.heap.size + 1, 2, none⟩ = some (.int .i64 a1_2) ∧ w6.cell? ⟨w.heap.size + 1 + 1, 0, none⟩ = some (.int .i64 a2_0) ∧ w6.cell? ⟨w.heap.size + 1 + 1, 1, none⟩ = some (.int .i64 a2_1) ∧ w6.cell? ⟨w.heap.size + 1 + 1, 2, none⟩ = some (.int .i64 a2_2) := by
              refine keep9 (Nat.le_refl _) hx6 ?_
              ((repeat' apply And.intro) <;> first | go_keep | (go_simp; done) | (repeat (first | exact Below.refl _ _ | assumption | refine Below.drew ?_ | refine Below.alloc ?_ (by first | omega | (simp <;> omega)) _ | refine Below.setCell ?_ (by first | omega | (simp <;> omega)) _)))
            clear kb q0 q1 q2 q3 q4 q5 q6 q7 q8
            obtain ⟨kb, q0, q1, q2, q3, q4, q5, q6, q7, q8⟩ := K6
            have zs6 := kb.size
            clear hx6
            go_wp2_with fail
            refine (HT.out _).mono ?_
            rintro e w7 ⟨rfl, hx7⟩
            have K7 : Below w.heap.size w w7 ∧ w7.cell? ⟨w.heap.size, 0, none⟩ = some (.int .i64 a0_0) ∧ w7.cell? ⟨w.heap.size, 1, none⟩ = some (.int .i64 a0_1) ∧ w7.cell? ⟨w.heap.size, 2, none⟩ = some (.int .i64 a0_2) ∧ w7.cell? ⟨w.heap.size + 1, 0, none⟩ = some (.int .i64 a1_0) ∧ w7.cell? ⟨w.heap.size + 1, 1, none⟩ = some (.int .i64 a1_1) ∧ w7.cell? ⟨w.heap.size + 1, 2, none⟩ = some (.int .i64 a1_2) ∧ w7.cell? ⟨w.heap.size + 1 + 1, 0, none⟩ = some (.int .i64 a2_0) ∧ w7.cell? ⟨w.heap.size + 1 + 1, 1, none⟩ = some (.int .i64 a2_1) ∧ w7.cell? ⟨w.heap.size + 1 + 1, 2, none⟩ = some (.int .i64 a2_2) := by
              refine keep9 (Nat.le_refl _) hx7 ?_
              ((repeat' apply And.intro) <;> first | go_keep | (go_simp; done) | (repeat (first | exact Below.refl _ _ | assumption | refine Below.drew ?_ | refine Below.alloc ?_ (by first | omega | (simp <;> omega)) _ | refine Below.setCell ?_ (by first | omega | (simp <;> omega)) _)))
            clear kb q0 q1 q2 q3 q4 q5 q6 q7 q8
            obtain ⟨kb, q0, q1, q2, q3, q4, q5, q6, q7, q8⟩ := K7
            have zs7 := kb.size
            clear hx7
            go_wp2_with fail
            refine (HB4.out _).mono ?_
            rintro e w8 ⟨rfl, hx8⟩
            have K8 : Below w.heap.size w w8 ∧ w8.cell? ⟨w.heap.size, 0, none⟩ = some (.int .i64 a0_0) ∧ w8.cell? ⟨w.heap.size, 1, none⟩ = some (.int .i64 a0_1) ∧ w8.cell? ⟨w.heap.size, 2, none⟩ = some (.int .i64 a0_2) ∧ w8.cell? ⟨w.heap.size + 1, 0, none⟩ = some (.int .i64 a1_0) ∧ w8.cell? ⟨w.heap.size + 1, 1, none⟩ = some (.int .i64 a1_1) ∧ w8.cell? ⟨w.heap.size + 1, 2, none⟩ = some (.int .i64 a1_2) ∧ w8.cell? ⟨w.heap.size + 1 + 1, 0, none⟩ = some (.int .i64 a2_0) ∧ w8.cell? ⟨w.heap.size + 1 + 1, 1, none⟩ = some (.int .i64 a2_1) ∧ w8.cell? ⟨w.heap.size + 1 + 1, 2, none⟩ = some (.int .i64 a2_2) := by
              refine keep9 (Nat.le_refl _) hx8 ?_
              ((repeat' apply And.intro) <;> first | go_keep | (go_simp; done) | (repeat (first | exact Below.refl _ _ | assumption | refine Below.drew ?_ | refine Below.alloc ?_ (by first | omega | (simp <;> omega)) _ | refine Below.setCell ?_ (by first | omega | (simp <;> omega)) _)))
            clear kb q0 q1 q2 q3 q4 q5 q6 q7 q8
            obtain ⟨kb, q0, q1, q2, q3, q4, q5, q6, q7, q8⟩ := K8
            have zs8 := kb.size
            clear hx8
            go_wp2_with fail
            refine (lives3 _).mono ?_
            rintro e w9 ⟨rfl, hx9⟩
            have K9 : Below w.heap.size w w9 ∧ w9.cell? ⟨w.heap.size, 0, none⟩ = some (.int .i64 a0_0) ∧ w9.cell? ⟨w.heap.size, 1, none⟩ = some (.int .i64 a0_1) ∧ w9.cell? ⟨w.heap.size, 2, none⟩ = some (.int .i64 a0_2) ∧ w9.cell? ⟨w.heap.size + 1, 0, none⟩ = some (.int .i64 a1_0) ∧ w9.cell? ⟨w.heap.size + 1, 1, none⟩ = some (.int .i64 a1_1) ∧ w9.cell? ⟨w.heap.size + 1, 2, none⟩ = some (.int .i64 a1_2) ∧ w9.cell? ⟨w.heap.size + 1 + 1, 0, none⟩ = some (.int .i64 a2_0) ∧ w9.cell? ⟨w.heap.size + 1 + 1, 1, none⟩ = some (.int .i64 a2_1) ∧ w9.cell? ⟨w.heap.size + 1 + 1, 2, none⟩ = some (.int .i64 a2_2) := by
              refine keep9 (Nat.le_refl _) hx9 ?_
              ((repeat' apply And.intro) <;> first | go_keep | (go_simp; done) | (repeat (first | exact Below.refl _ _ | assumption | refine Below.drew ?_ | refine Below.alloc ?_ (by first | omega | (simp <;> omega)) _ | refine Below.setCell ?_ (by first | omega | (simp <;> omega)) _)))
            clear kb q0 q1 q2 q3 q4 q5 q6 q7 q8
            obtain ⟨kb, q0, q1, q2, q3, q4, q5, q6, q7, q8⟩ := K9
            have zs9 := kb.size
            clear hx9
            go_wp2_with fail
            go_ret
            exact ⟨rfl, kb⟩

set_option maxRecDepth 100000 in
theorem lifted (os : Os) (started : os.Started) (H : Type) (enc : TypeId × Value → H) :
    ReturnsInHanded {} Try.checked os 4 .any (Rows.kernBetweenSpec.pre6 enc Try.prog Try.f4 Rows.kernBetweenRow.domain false) (Rows.kernBetweenSpec.post enc Try.prog Try.f4 false true false false) := by
  refine returnsInHanded_of_change (C := Try.checked) own started (by kernel_rfl) Try.func4
    (ChangeSpec.witness6 (enc := enc) (C := Try.checked) false ⟨#[], #[.agg #[.int .i64 0, .int .i64 0, .int .i64 0], .agg #[.int .i64 0, .int .i64 0, .int .i64 0], .agg #[.int .i64 0, .int .i64 0, .int .i64 0]], []⟩ 8 (by kernel_rfl) (by kernel_rfl) (by kernel_rfl) (by kernel_rfl)) ?_
  intro W base args ds gs before hval0 hW hcnd _
  have hval : ∀ (j : Nat) t v, Try.f4.params[j]? = some t → args[j]? = some v → Value.okWide Try.prog W .any base t v := hval0
  have hW' := hW
  obtain ⟨p, q, hA0, hV, rfl, hfz, hnd⟩ := hW
  have hA : DataW.TrodAll enc Try.prog W 0 (fun _ => true) true Try.f4.params.toList args.toList ds p := hA0
  rw [Try.params4] at hA hval
  obtain ⟨v0, vs0, d0, ds0, p0, q0, hargs, rfl, rfl, h0, rr0⟩ := trodAll_cons hA
  obtain ⟨v1, vs1, d1, ds1, p1, q1, rfl, rfl, rfl, h1, rr1⟩ := trodAll_cons rr0
  obtain ⟨v2, vs2, d2, ds2, p2, q2, rfl, rfl, rfl, h2, rr2⟩ := trodAll_cons rr1
  obtain ⟨rfl, rfl, rfl⟩ := trodAll_nil rr2
  obtain rfl : args = #[v0, v1, v2] := by cases args; simp_all
  obtain ⟨rfl, rfl⟩ := trodVars_none hV
  have k0 := h0
  have lt0 : ∀ x ∈ p0, x.block < W.heap.size := by obtain ⟨m, hm⟩ := k0; exact DataW.trod_lt m _ _ _ hm
  obtain ⟨e0_0, e0_1, e0_2, y0_0, y0_1, y0_2, q0, rfl, _, _, t0_0, t0_1, t0_2⟩ := open_agg3 Try.underlying33 (by kernel_rfl) (by kernel_rfl) (hval 0 33 v0 rfl rfl) h0
  obtain ⟨a0_0, g0_0, _, w0_0⟩ := DataW.trod_int Try.underlying3 t0_0
  simp only [List.cons.injEq, and_true] at g0_0
  subst g0_0
  obtain ⟨a0_1, g0_1, _, w0_1⟩ := DataW.trod_int Try.underlying3 t0_1
  simp only [List.cons.injEq, and_true] at g0_1
  subst g0_1
  obtain ⟨a0_2, g0_2, _, w0_2⟩ := DataW.trod_int Try.underlying3 t0_2
  simp only [List.cons.injEq, and_true] at g0_2
  subst g0_2
  have k1 := h1
  have lt1 : ∀ x ∈ p1, x.block < W.heap.size := by obtain ⟨m, hm⟩ := k1; exact DataW.trod_lt m _ _ _ hm
  obtain ⟨e1_0, e1_1, e1_2, y1_0, y1_1, y1_2, q1, rfl, _, _, t1_0, t1_1, t1_2⟩ := open_agg3 Try.underlying33 (by kernel_rfl) (by kernel_rfl) (hval 1 33 v1 rfl rfl) h1
  obtain ⟨a1_0, g1_0, _, w1_0⟩ := DataW.trod_int Try.underlying3 t1_0
  simp only [List.cons.injEq, and_true] at g1_0
  subst g1_0
  obtain ⟨a1_1, g1_1, _, w1_1⟩ := DataW.trod_int Try.underlying3 t1_1
  simp only [List.cons.injEq, and_true] at g1_1
  subst g1_1
  obtain ⟨a1_2, g1_2, _, w1_2⟩ := DataW.trod_int Try.underlying3 t1_2
  simp only [List.cons.injEq, and_true] at g1_2
  subst g1_2
  have k2 := h2
  have lt2 : ∀ x ∈ p2, x.block < W.heap.size := by obtain ⟨m, hm⟩ := k2; exact DataW.trod_lt m _ _ _ hm
  obtain ⟨e2_0, e2_1, e2_2, y2_0, y2_1, y2_2, q2, rfl, _, _, t2_0, t2_1, t2_2⟩ := open_agg3 Try.underlying33 (by kernel_rfl) (by kernel_rfl) (hval 2 33 v2 rfl rfl) h2
  obtain ⟨a2_0, g2_0, _, w2_0⟩ := DataW.trod_int Try.underlying3 t2_0
  simp only [List.cons.injEq, and_true] at g2_0
  subst g2_0
  obtain ⟨a2_1, g2_1, _, w2_1⟩ := DataW.trod_int Try.underlying3 t2_1
  simp only [List.cons.injEq, and_true] at g2_1
  subst g2_1
  obtain ⟨a2_2, g2_2, _, w2_2⟩ := DataW.trod_int Try.underlying3 t2_2
  simp only [List.cons.injEq, and_true] at g2_2
  subst g2_2
  clear hA0 hval0
  refine (walk a0_0 a0_1 a0_2 a1_0 a1_1 a1_2 a2_0 a2_1 a2_2 W w0_0 w0_1 w0_2 w1_0 w1_1 w1_2 w2_0 w2_1 w2_2).mono fun e W' ⟨he, bel⟩ => ?_
  subst he
  exact ⟨_, rfl, _, _, _, [], _, [], hW', trodAll_mk1 (shut_bool Try.underlying4 _), (trodAll_cons_mk (Below.trod laidOut (by kernel_rfl) (of_decide_eq_true (by kernel_rfl)) k0 bel lt0) (trodAll_cons_mk (Below.trod laidOut (by kernel_rfl) (of_decide_eq_true (by kernel_rfl)) k1 bel lt1) (trodAll_cons_mk (Below.trod laidOut (by kernel_rfl) (of_decide_eq_true (by kernel_rfl)) k2 bel lt2) trodAll_mk0))), rfl, bel.frame _, fun h => by cases h⟩

theorem over : Rows.kernBetweenRow.holds Try.pinned (OpenSpec.ofChange Rows.kernBetweenSpec) :=
  OpenClaim.holds_of_wide 4 Try.f4 rfl rfl rfl rfl rfl rfl rfl ⟨rfl, rfl, rfl, rfl, rfl⟩ rfl rfl rfl rfl rfl (by kernel_rfl) Try.func4 (by kernel_rfl)
    (of_decide_eq_true (by kernel_rfl)) (by unfold Func.isWrapper; first | (rw [if_pos (by decide +kernel)]; kernel_rfl) | (rw [if_neg (by decide +kernel)]; exact ⟨rfl, rfl⟩))
    (fun os started H enc _ => lifted os started H enc)

theorem proved : Rows.KernBetweenSaid := over
#print axioms proved
end Go.Proofs.Ytjfdlamfklhodab.kernBetween
