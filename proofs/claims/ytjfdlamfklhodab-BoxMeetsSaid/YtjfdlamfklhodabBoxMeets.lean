/- Which places lie in two boxes, and whether one lies within the other, is as the document says, for any two boxes and any point. No condition. -/
import Derived.Test.YtjfdlamfklhodabRows
import Derived.WalkKit
import Derived.ProofKit
import Derived.OpenShut
import Derived.ChangeOld
import Derived.Below
import Derived.Outline
import Derived.Lib.SmallJoins
import Derived.Test.YtjfdlamfklhodabB4
set_option linter.unusedVariables false
namespace Go.Proofs.Ytjfdlamfklhodab.boxMeets
open Go.ChangeShapes Go.WideShapes Go.ChangeAt Go.RowKit Go.Joins

theorem own : ownKnob Try.prog.godebug = none := by kernel_rfl
theorem laidOut : laidOutB Try.prog = true := by kernel_rfl
theorem as_bool {P : Program} {f : FuncId} {args : Array Value} {w : World} {b c : Bool} (h : Calls P f args w fun e w' => e = .returned (.bool b) ∧ Below w.heap.size w w') (e : b = c) :
    Calls P f args w fun e w' => e = .returned (.bool c) ∧ Below w.heap.size w w' := by rw [← e]; exact h
theorem in_meet {a1 a2 a3 a4 b1 b2 b3 b4 m1 m2 m3 m4 x y : Int} (e1 : big a1 b1 m1) (e2 : small a2 b2 m2) (e3 : big a3 b3 m3) (e4 : small a4 b4 m4) : inB m1 m2 m3 m4 x y = (inB a1 a2 a3 a4 x y && inB b1 b2 b3 b4 x y) := by
  unfold big at e1 e3; unfold small at e2 e4; rw [Bool.eq_iff_iff]; simp [inB]; omega
theorem em_in {m1 m2 m3 m4 x y : Int} (h : emB m1 m2 m3 m4 = true) : inB m1 m2 m3 m4 x y = false := by
  rw [Bool.eq_false_iff]; simp [inB, emB] at *; omega
theorem em_wi {a1 a2 a3 a4 b1 b2 b3 b4 m1 m2 m3 m4 : Int} (e1 : big a1 b1 m1) (e2 : small a2 b2 m2) (e3 : big a3 b3 m3) (e4 : small a4 b4 m4) (h : emB m1 m2 m3 m4 = true) : wiB a1 a2 a3 a4 b1 b2 b3 b4 = false := by
  unfold big at e1 e3; unfold small at e2 e4; rw [Bool.eq_false_iff]; simp [wiB, emB] at *; omega
theorem wi_l {a1 a2 a3 a4 b1 b2 b3 b4 m1 m2 m3 m4 : Int} (e1 : big a1 b1 m1) (e2 : small a2 b2 m2) (e3 : big a3 b3 m3) (e4 : small a4 b4 m4) (h : emB m1 m2 m3 m4 = false) : wiB m1 m2 m3 m4 a1 a2 a3 a4 = true := by
  unfold big at e1 e3; unfold small at e2 e4; simp [wiB, h]; omega
theorem wi_r {a1 a2 a3 a4 b1 b2 b3 b4 m1 m2 m3 m4 : Int} (e1 : big a1 b1 m1) (e2 : small a2 b2 m2) (e3 : big a3 b3 m3) (e4 : small a4 b4 m4) (h : emB m1 m2 m3 m4 = false) : wiB m1 m2 m3 m4 b1 b2 b3 b4 = true := by
  unfold big at e1 e3; unfold small at e2 e4; simp [wiB, h]; omega
theorem wi_eq {a1 a2 a3 a4 b1 b2 b3 b4 m1 m2 m3 m4 : Int} (e1 : big a1 b1 m1) (e2 : small a2 b2 m2) (e3 : big a3 b3 m3) (e4 : small a4 b4 m4) (h : emB m1 m2 m3 m4 = false) (c : wiB a1 a2 a3 a4 b1 b2 b3 b4 = true) : m1 = a1 ∧ m2 = a2 ∧ m3 = a3 ∧ m4 = a4 := by
  unfold big at e1 e3; unfold small at e2 e4; simp [wiB, emB] at *; omega
theorem wi_ne {a1 a2 a3 a4 b1 b2 b3 b4 m1 m2 m3 m4 : Int} (e1 : big a1 b1 m1) (e2 : small a2 b2 m2) (e3 : big a3 b3 m3) (e4 : small a4 b4 m4) (h : emB m1 m2 m3 m4 = false) (c : wiB a1 a2 a3 a4 b1 b2 b3 b4 = false) : ¬ (m1 = a1 ∧ m2 = a2 ∧ m3 = a3 ∧ m4 = a4) := by
  unfold big at e1 e3; unfold small at e2 e4; simp [wiB, emB] at *; omega

set_option maxHeartbeats 16000000 in
theorem walk (a0_0 a0_1 a0_2 a0_3 : Int) (a1_0 a1_1 a1_2 a1_3 : Int) (a2_0 a2_1 a2_2 : Int) (w : World) (w0_0 : (Lit.int .i64 a0_0).wf = true) (w0_1 : (Lit.int .i64 a0_1).wf = true) (w0_2 : (Lit.int .i64 a0_2).wf = true) (w0_3 : (Lit.int .i64 a0_3).wf = true) (w1_0 : (Lit.int .i64 a1_0).wf = true) (w1_1 : (Lit.int .i64 a1_1).wf = true) (w1_2 : (Lit.int .i64 a1_2).wf = true) (w1_3 : (Lit.int .i64 a1_3).wf = true) (w2_0 : (Lit.int .i64 a2_0).wf = true) (w2_1 : (Lit.int .i64 a2_1).wf = true) (w2_2 : (Lit.int .i64 a2_2).wf = true) :
    Calls Try.prog 6 #[.agg #[.int .i64 a0_0, .int .i64 a0_1, .int .i64 a0_2, .int .i64 a0_3], .agg #[.int .i64 a1_0, .int .i64 a1_1, .int .i64 a1_2, .int .i64 a1_3], .agg #[.int .i64 a2_0, .int .i64 a2_1, .int .i64 a2_2]] w fun e w' => e = .returned (.bool true) ∧ Below w.heap.size w w' := by
  obtain ⟨m1, e1⟩ := big_of a0_0 a1_0
  obtain ⟨m2, e2⟩ := small_of a0_1 a1_1
  obtain ⟨m3, e3⟩ := big_of a0_2 a1_2
  obtain ⟨m4, e4⟩ := small_of a0_3 a1_3
  cases he : emB m1 m2 m3 m4
  · cases hw : wiB a0_0 a0_1 a0_2 a0_3 a1_0 a1_1 a1_2 a1_3
    · cases hia : inB a0_0 a0_1 a0_2 a0_3 a2_1 a2_2
      · skip
        have hmm := in_meet (x := a2_1) (y := a2_2) e1 e2 e3 e4
        rw [hia] at hmm
        have R1 : ∀ w : World, Calls Try.prog 24 #[.agg #[.int .i64 a0_0, .int .i64 a0_1, .int .i64 a0_2, .int .i64 a0_3], .int .i64 a2_1, .int .i64 a2_2] w fun e w' => e = .returned (.bool (false)) ∧ Below w.heap.size w w' := fun w => as_bool (refhas _ _ _ _ _ _ w) hia
        have R3 : ∀ w : World, Calls Try.prog 24 #[.agg #[.int .i64 m1, .int .i64 m2, .int .i64 m3, .int .i64 m4], .int .i64 a2_1, .int .i64 a2_2] w fun e w' => e = .returned (.bool (false)) ∧ Below w.heap.size w w' := fun w => as_bool (refhas _ _ _ _ _ _ w) (by rw [hmm]; rfl)
        have V1 : ∀ w : World, Calls Try.prog 30 #[.agg #[.int .i64 a0_0, .int .i64 a0_1, .int .i64 a0_2, .int .i64 a0_3], .agg #[.int .i64 a1_0, .int .i64 a1_1, .int .i64 a1_2, .int .i64 a1_3]] w fun e w' => e = .returned (.bool (false)) ∧ Below w.heap.size w w' := fun w => as_bool (within _ _ _ _ _ _ _ _ w) hw
        have V2 : ∀ w : World, Calls Try.prog 30 #[.agg #[.int .i64 m1, .int .i64 m2, .int .i64 m3, .int .i64 m4], .agg #[.int .i64 a0_0, .int .i64 a0_1, .int .i64 a0_2, .int .i64 a0_3]] w fun e w' => e = .returned (.bool (true)) ∧ Below w.heap.size w w' := fun w => as_bool (within _ _ _ _ _ _ _ _ w) (wi_l e1 e2 e3 e4 he)
        have V3 : ∀ w : World, Calls Try.prog 30 #[.agg #[.int .i64 m1, .int .i64 m2, .int .i64 m3, .int .i64 m4], .agg #[.int .i64 a1_0, .int .i64 a1_1, .int .i64 a1_2, .int .i64 a1_3]] w fun e w' => e = .returned (.bool (true)) ∧ Below w.heap.size w w' := fun w => as_bool (within _ _ _ _ _ _ _ _ w) (wi_r e1 e2 e3 e4 he)
        have M : ∀ w : World, Calls Try.prog 29 #[.agg #[.int .i64 a0_0, .int .i64 a0_1, .int .i64 a0_2, .int .i64 a0_3], .agg #[.int .i64 a1_0, .int .i64 a1_1, .int .i64 a1_2, .int .i64 a1_3]] w fun e w' => e = .returned (.tuple #[.agg #[.int .i64 m1, .int .i64 m2, .int .i64 m3, .int .i64 m4], .bool true]) ∧ Below w.heap.size w w' := fun w => meet_yes _ _ _ _ _ _ _ _ _ _ _ _ e1 e2 e3 e4 he w
        have hne : (m1 == a0_0 && (m2 == a0_1 && (m3 == a0_2 && m4 == a0_3))) = false := by rw [Bool.eq_false_iff]; simpa using wi_ne e1 e2 e3 e4 he hw
        have HNE := Lib.hid hne
        clear hne
        have hg1 : m1 ≤ m2 := by simp [emB] at he; omega
        have hg2 : m3 ≤ m4 := by simp [emB] at he; omega
        have HR1 := Lib.hid R1
        clear R1
        have HR3 := Lib.hid R3
        clear R3
        have HV1 := Lib.hid V1
        clear V1
        have HV2 := Lib.hid V2
        clear V2
        have HV3 := Lib.hid V3
        clear V3
        have HM := Lib.hid M
        clear M
        clear hmm hia e1 e2 e3 e4 he hw
        go_enter Try.func6, Try.ntmps6
        go_wp2_with fail
        refine (HM.out _).mono ?_
        rintro e w1 ⟨rfl, hb1⟩
        have K1 : Below w.heap.size w w1 ∧ w1.cell? ⟨w.heap.size, 0, none⟩ = some (.int .i64 a0_0) ∧ w1.cell? ⟨w.heap.size, 1, none⟩ = some (.int .i64 a0_1) ∧ w1.cell? ⟨w.heap.size, 2, none⟩ = some (.int .i64 a0_2) ∧ w1.cell? ⟨w.heap.size, 3, none⟩ = some (.int .i64 a0_3) ∧ w1.cell? ⟨w.heap.size + 1, 0, none⟩ = some (.int .i64 a1_0) ∧ w1.cell? ⟨w.heap.size + 1, 1, none⟩ = some (.int .i64 a1_1) ∧ w1.cell? ⟨w.heap.size + 1, 2, none⟩ = some (.int .i64 a1_2) ∧ w1.cell? ⟨w.heap.size + 1, 3, none⟩ = some (.int .i64 a1_3) ∧ w1.cell? ⟨w.heap.size + 1 + 1, 0, none⟩ = some (.int .i64 a2_0) ∧ w1.cell? ⟨w.heap.size + 1 + 1, 1, none⟩ = some (.int .i64 a2_1) ∧ w1.cell? ⟨w.heap.size + 1 + 1, 2, none⟩ = some (.int .i64 a2_2) := by
          refine keep11 (Nat.le_refl _) hb1 ?_
          ((repeat' apply And.intro) <;> first | go_keep | (go_simp; done) | (repeat (first | exact Below.refl _ _ | assumption | refine Below.drew ?_ | refine Below.alloc ?_ (by first | omega | (simp <;> omega)) _)))
        obtain ⟨kb, q0, q1, q2, q3, q4, q5, q6, q7, q8, q9, q10⟩ := K1
        have hz1 : w.heap.size + 1 + 1 < w1.heap.size := by have := hb1.size; simp at this; omega
        have hza : w.heap.size < w1.heap.size := by omega
        have hzb : w.heap.size + 1 < w1.heap.size := by omega
        clear hb1
        go_wp2_with fail
        refine (HR1.out _).mono ?_
        rintro e w2 ⟨rfl, hb2⟩
        have K2 : Below w.heap.size w w2 ∧ w2.cell? ⟨w.heap.size, 0, none⟩ = some (.int .i64 a0_0) ∧ w2.cell? ⟨w.heap.size, 1, none⟩ = some (.int .i64 a0_1) ∧ w2.cell? ⟨w.heap.size, 2, none⟩ = some (.int .i64 a0_2) ∧ w2.cell? ⟨w.heap.size, 3, none⟩ = some (.int .i64 a0_3) ∧ w2.cell? ⟨w.heap.size + 1, 0, none⟩ = some (.int .i64 a1_0) ∧ w2.cell? ⟨w.heap.size + 1, 1, none⟩ = some (.int .i64 a1_1) ∧ w2.cell? ⟨w.heap.size + 1, 2, none⟩ = some (.int .i64 a1_2) ∧ w2.cell? ⟨w.heap.size + 1, 3, none⟩ = some (.int .i64 a1_3) ∧ w2.cell? ⟨w.heap.size + 1 + 1, 0, none⟩ = some (.int .i64 a2_0) ∧ w2.cell? ⟨w.heap.size + 1 + 1, 1, none⟩ = some (.int .i64 a2_1) ∧ w2.cell? ⟨w.heap.size + 1 + 1, 2, none⟩ = some (.int .i64 a2_2) ∧ w2.cell? ⟨w1.heap.size, 0, none⟩ = some (.int .i64 m1) ∧ w2.cell? ⟨w1.heap.size, 1, none⟩ = some (.int .i64 m2) ∧ w2.cell? ⟨w1.heap.size, 2, none⟩ = some (.int .i64 m3) ∧ w2.cell? ⟨w1.heap.size, 3, none⟩ = some (.int .i64 m4) := by
          refine keep15 (Nat.le_refl _) hb2 ?_
          ((repeat' apply And.intro) <;> first | go_keep | (go_simp; done) | (repeat (first | exact Below.refl _ _ | assumption | refine Below.drew ?_ | refine Below.alloc ?_ (by first | omega | (simp <;> omega)) _)))
        clear hb2 kb q0 q1 q2 q3 q4 q5 q6 q7 q8 q9 q10
        obtain ⟨kb, q0, q1, q2, q3, q4, q5, q6, q7, q8, q9, q10, q11, q12, q13, q14⟩ := K2
        go_wp2_with fail
        refine (HR3.out _).mono ?_
        rintro e w3 ⟨rfl, hb3⟩
        have K3 : Below w.heap.size w w3 ∧ w3.cell? ⟨w.heap.size, 0, none⟩ = some (.int .i64 a0_0) ∧ w3.cell? ⟨w.heap.size, 1, none⟩ = some (.int .i64 a0_1) ∧ w3.cell? ⟨w.heap.size, 2, none⟩ = some (.int .i64 a0_2) ∧ w3.cell? ⟨w.heap.size, 3, none⟩ = some (.int .i64 a0_3) ∧ w3.cell? ⟨w.heap.size + 1, 0, none⟩ = some (.int .i64 a1_0) ∧ w3.cell? ⟨w.heap.size + 1, 1, none⟩ = some (.int .i64 a1_1) ∧ w3.cell? ⟨w.heap.size + 1, 2, none⟩ = some (.int .i64 a1_2) ∧ w3.cell? ⟨w.heap.size + 1, 3, none⟩ = some (.int .i64 a1_3) ∧ w3.cell? ⟨w.heap.size + 1 + 1, 0, none⟩ = some (.int .i64 a2_0) ∧ w3.cell? ⟨w.heap.size + 1 + 1, 1, none⟩ = some (.int .i64 a2_1) ∧ w3.cell? ⟨w.heap.size + 1 + 1, 2, none⟩ = some (.int .i64 a2_2) ∧ w3.cell? ⟨w1.heap.size, 0, none⟩ = some (.int .i64 m1) ∧ w3.cell? ⟨w1.heap.size, 1, none⟩ = some (.int .i64 m2) ∧ w3.cell? ⟨w1.heap.size, 2, none⟩ = some (.int .i64 m3) ∧ w3.cell? ⟨w1.heap.size, 3, none⟩ = some (.int .i64 m4) := by
          refine keep15 (Nat.le_refl _) hb3 ?_
          ((repeat' apply And.intro) <;> first | go_keep | (go_simp; done) | (repeat (first | exact Below.refl _ _ | assumption | refine Below.drew ?_ | refine Below.alloc ?_ (by first | omega | (simp <;> omega)) _)))
        clear hb3 kb q0 q1 q2 q3 q4 q5 q6 q7 q8 q9 q10 q11 q12 q13 q14
        obtain ⟨kb, q0, q1, q2, q3, q4, q5, q6, q7, q8, q9, q10, q11, q12, q13, q14⟩ := K3
        go_wp2_with fail
        have heq : ∀ W : World, (binOp .eql 43 (.agg #[.int .i64 m1, .int .i64 m2, .int .i64 m3, .int .i64 m4]) (.agg #[.int .i64 a0_0, .int .i64 a0_1, .int .i64 a0_2, .int .i64 a0_3])).run Try.prog W = .ok (.bool false) W := fun W => by rw [eq_box, HNE.out]
        go_region_held3 (fun w' => Below w.heap.size w w' ∧ w'.cell? ⟨w.heap.size, 0, none⟩ = some (.int .i64 a0_0) ∧ w'.cell? ⟨w.heap.size, 1, none⟩ = some (.int .i64 a0_1) ∧ w'.cell? ⟨w.heap.size, 2, none⟩ = some (.int .i64 a0_2) ∧ w'.cell? ⟨w.heap.size, 3, none⟩ = some (.int .i64 a0_3) ∧ w'.cell? ⟨w.heap.size + 1, 0, none⟩ = some (.int .i64 a1_0) ∧ w'.cell? ⟨w.heap.size + 1, 1, none⟩ = some (.int .i64 a1_1) ∧ w'.cell? ⟨w.heap.size + 1, 2, none⟩ = some (.int .i64 a1_2) ∧ w'.cell? ⟨w.heap.size + 1, 3, none⟩ = some (.int .i64 a1_3) ∧ w'.cell? ⟨w.heap.size + 1 + 1, 0, none⟩ = some (.int .i64 a2_0) ∧ w'.cell? ⟨w.heap.size + 1 + 1, 1, none⟩ = some (.int .i64 a2_1) ∧ w'.cell? ⟨w.heap.size + 1 + 1, 2, none⟩ = some (.int .i64 a2_2) ∧ w'.cell? ⟨w1.heap.size, 0, none⟩ = some (.int .i64 m1) ∧ w'.cell? ⟨w1.heap.size, 1, none⟩ = some (.int .i64 m2) ∧ w'.cell? ⟨w1.heap.size, 2, none⟩ = some (.int .i64 m3) ∧ w'.cell? ⟨w1.heap.size, 3, none⟩ = some (.int .i64 m4)) (first | exact keep15 (Nat.le_refl _) hbx ‹_› | ((repeat' apply And.intro) <;> first | go_keep | (exact kb.drew))) (first | (go_at_call 30; ((with_reducible refine (HV1.out _).mono ?_); rintro e wx ⟨rfl, hbx⟩)) | (go_at_call 30; ((with_reducible refine (HV2.out _).mono ?_); rintro e wx ⟨rfl, hbx⟩)) | (go_at_call 30; ((with_reducible refine (HV3.out _).mono ?_); rintro e wx ⟨rfl, hbx⟩)) | (go_at_call 28; refine (lives4 _).mono ?_; rintro e wx ⟨rfl, hbx⟩))
        go_wp2_with fail
        go_ret
        exact ⟨rfl, ((‹_› : Below w.heap.size w _ ∧ _)).1⟩
      · skip
        have hmm := in_meet (x := a2_1) (y := a2_2) e1 e2 e3 e4
        rw [hia] at hmm
        have R1 : ∀ w : World, Calls Try.prog 24 #[.agg #[.int .i64 a0_0, .int .i64 a0_1, .int .i64 a0_2, .int .i64 a0_3], .int .i64 a2_1, .int .i64 a2_2] w fun e w' => e = .returned (.bool (true)) ∧ Below w.heap.size w w' := fun w => as_bool (refhas _ _ _ _ _ _ w) hia
        have R2 : ∀ w : World, Calls Try.prog 24 #[.agg #[.int .i64 a1_0, .int .i64 a1_1, .int .i64 a1_2, .int .i64 a1_3], .int .i64 a2_1, .int .i64 a2_2] w fun e w' => e = .returned (.bool (inB a1_0 a1_1 a1_2 a1_3 a2_1 a2_2)) ∧ Below w.heap.size w w' := fun w => as_bool (refhas _ _ _ _ _ _ w) rfl
        have R3 : ∀ w : World, Calls Try.prog 24 #[.agg #[.int .i64 m1, .int .i64 m2, .int .i64 m3, .int .i64 m4], .int .i64 a2_1, .int .i64 a2_2] w fun e w' => e = .returned (.bool (inB a1_0 a1_1 a1_2 a1_3 a2_1 a2_2)) ∧ Below w.heap.size w w' := fun w => as_bool (refhas _ _ _ _ _ _ w) (by rw [hmm]; rfl)
        have V1 : ∀ w : World, Calls Try.prog 30 #[.agg #[.int .i64 a0_0, .int .i64 a0_1, .int .i64 a0_2, .int .i64 a0_3], .agg #[.int .i64 a1_0, .int .i64 a1_1, .int .i64 a1_2, .int .i64 a1_3]] w fun e w' => e = .returned (.bool (false)) ∧ Below w.heap.size w w' := fun w => as_bool (within _ _ _ _ _ _ _ _ w) hw
        have V2 : ∀ w : World, Calls Try.prog 30 #[.agg #[.int .i64 m1, .int .i64 m2, .int .i64 m3, .int .i64 m4], .agg #[.int .i64 a0_0, .int .i64 a0_1, .int .i64 a0_2, .int .i64 a0_3]] w fun e w' => e = .returned (.bool (true)) ∧ Below w.heap.size w w' := fun w => as_bool (within _ _ _ _ _ _ _ _ w) (wi_l e1 e2 e3 e4 he)
        have V3 : ∀ w : World, Calls Try.prog 30 #[.agg #[.int .i64 m1, .int .i64 m2, .int .i64 m3, .int .i64 m4], .agg #[.int .i64 a1_0, .int .i64 a1_1, .int .i64 a1_2, .int .i64 a1_3]] w fun e w' => e = .returned (.bool (true)) ∧ Below w.heap.size w w' := fun w => as_bool (within _ _ _ _ _ _ _ _ w) (wi_r e1 e2 e3 e4 he)
        have M : ∀ w : World, Calls Try.prog 29 #[.agg #[.int .i64 a0_0, .int .i64 a0_1, .int .i64 a0_2, .int .i64 a0_3], .agg #[.int .i64 a1_0, .int .i64 a1_1, .int .i64 a1_2, .int .i64 a1_3]] w fun e w' => e = .returned (.tuple #[.agg #[.int .i64 m1, .int .i64 m2, .int .i64 m3, .int .i64 m4], .bool true]) ∧ Below w.heap.size w w' := fun w => meet_yes _ _ _ _ _ _ _ _ _ _ _ _ e1 e2 e3 e4 he w
        have hne : (m1 == a0_0 && (m2 == a0_1 && (m3 == a0_2 && m4 == a0_3))) = false := by rw [Bool.eq_false_iff]; simpa using wi_ne e1 e2 e3 e4 he hw
        have HNE := Lib.hid hne
        clear hne
        have hg1 : m1 ≤ m2 := by simp [emB] at he; omega
        have hg2 : m3 ≤ m4 := by simp [emB] at he; omega
        have HR1 := Lib.hid R1
        clear R1
        have HR2 := Lib.hid R2
        clear R2
        have HR3 := Lib.hid R3
        clear R3
        have HV1 := Lib.hid V1
        clear V1
        have HV2 := Lib.hid V2
        clear V2
        have HV3 := Lib.hid V3
        clear V3
        have HM := Lib.hid M
        clear M
        clear hmm hia e1 e2 e3 e4 he hw
        go_enter Try.func6, Try.ntmps6
        go_wp2_with fail
        refine (HM.out _).mono ?_
        rintro e w1 ⟨rfl, hb1⟩
        have K1 : Below w.heap.size w w1 ∧ w1.cell? ⟨w.heap.size, 0, none⟩ = some (.int .i64 a0_0) ∧ w1.cell? ⟨w.heap.size, 1, none⟩ = some (.int .i64 a0_1) ∧ w1.cell? ⟨w.heap.size, 2, none⟩ = some (.int .i64 a0_2) ∧ w1.cell? ⟨w.heap.size, 3, none⟩ = some (.int .i64 a0_3) ∧ w1.cell? ⟨w.heap.size + 1, 0, none⟩ = some (.int .i64 a1_0) ∧ w1.cell? ⟨w.heap.size + 1, 1, none⟩ = some (.int .i64 a1_1) ∧ w1.cell? ⟨w.heap.size + 1, 2, none⟩ = some (.int .i64 a1_2) ∧ w1.cell? ⟨w.heap.size + 1, 3, none⟩ = some (.int .i64 a1_3) ∧ w1.cell? ⟨w.heap.size + 1 + 1, 0, none⟩ = some (.int .i64 a2_0) ∧ w1.cell? ⟨w.heap.size + 1 + 1, 1, none⟩ = some (.int .i64 a2_1) ∧ w1.cell? ⟨w.heap.size + 1 + 1, 2, none⟩ = some (.int .i64 a2_2) := by
          refine keep11 (Nat.le_refl _) hb1 ?_
          ((repeat' apply And.intro) <;> first | go_keep | (go_simp; done) | (repeat (first | exact Below.refl _ _ | assumption | refine Below.drew ?_ | refine Below.alloc ?_ (by first | omega | (simp <;> omega)) _)))
        obtain ⟨kb, q0, q1, q2, q3, q4, q5, q6, q7, q8, q9, q10⟩ := K1
        have hz1 : w.heap.size + 1 + 1 < w1.heap.size := by have := hb1.size; simp at this; omega
        have hza : w.heap.size < w1.heap.size := by omega
        have hzb : w.heap.size + 1 < w1.heap.size := by omega
        clear hb1
        go_wp2_with fail
        refine (HR1.out _).mono ?_
        rintro e w2 ⟨rfl, hb2⟩
        have K2 : Below w.heap.size w w2 ∧ w2.cell? ⟨w.heap.size, 0, none⟩ = some (.int .i64 a0_0) ∧ w2.cell? ⟨w.heap.size, 1, none⟩ = some (.int .i64 a0_1) ∧ w2.cell? ⟨w.heap.size, 2, none⟩ = some (.int .i64 a0_2) ∧ w2.cell? ⟨w.heap.size, 3, none⟩ = some (.int .i64 a0_3) ∧ w2.cell? ⟨w.heap.size + 1, 0, none⟩ = some (.int .i64 a1_0) ∧ w2.cell? ⟨w.heap.size + 1, 1, none⟩ = some (.int .i64 a1_1) ∧ w2.cell? ⟨w.heap.size + 1, 2, none⟩ = some (.int .i64 a1_2) ∧ w2.cell? ⟨w.heap.size + 1, 3, none⟩ = some (.int .i64 a1_3) ∧ w2.cell? ⟨w.heap.size + 1 + 1, 0, none⟩ = some (.int .i64 a2_0) ∧ w2.cell? ⟨w.heap.size + 1 + 1, 1, none⟩ = some (.int .i64 a2_1) ∧ w2.cell? ⟨w.heap.size + 1 + 1, 2, none⟩ = some (.int .i64 a2_2) ∧ w2.cell? ⟨w1.heap.size, 0, none⟩ = some (.int .i64 m1) ∧ w2.cell? ⟨w1.heap.size, 1, none⟩ = some (.int .i64 m2) ∧ w2.cell? ⟨w1.heap.size, 2, none⟩ = some (.int .i64 m3) ∧ w2.cell? ⟨w1.heap.size, 3, none⟩ = some (.int .i64 m4) := by
          refine keep15 (Nat.le_refl _) hb2 ?_
          ((repeat' apply And.intro) <;> first | go_keep | (go_simp; done) | (repeat (first | exact Below.refl _ _ | assumption | refine Below.drew ?_ | refine Below.alloc ?_ (by first | omega | (simp <;> omega)) _)))
        clear hb2 kb q0 q1 q2 q3 q4 q5 q6 q7 q8 q9 q10
        obtain ⟨kb, q0, q1, q2, q3, q4, q5, q6, q7, q8, q9, q10, q11, q12, q13, q14⟩ := K2
        go_wp2_with fail
        refine (HR2.out _).mono ?_
        rintro e w3 ⟨rfl, hb3⟩
        have K3 : Below w.heap.size w w3 ∧ w3.cell? ⟨w.heap.size, 0, none⟩ = some (.int .i64 a0_0) ∧ w3.cell? ⟨w.heap.size, 1, none⟩ = some (.int .i64 a0_1) ∧ w3.cell? ⟨w.heap.size, 2, none⟩ = some (.int .i64 a0_2) ∧ w3.cell? ⟨w.heap.size, 3, none⟩ = some (.int .i64 a0_3) ∧ w3.cell? ⟨w.heap.size + 1, 0, none⟩ = some (.int .i64 a1_0) ∧ w3.cell? ⟨w.heap.size + 1, 1, none⟩ = some (.int .i64 a1_1) ∧ w3.cell? ⟨w.heap.size + 1, 2, none⟩ = some (.int .i64 a1_2) ∧ w3.cell? ⟨w.heap.size + 1, 3, none⟩ = some (.int .i64 a1_3) ∧ w3.cell? ⟨w.heap.size + 1 + 1, 0, none⟩ = some (.int .i64 a2_0) ∧ w3.cell? ⟨w.heap.size + 1 + 1, 1, none⟩ = some (.int .i64 a2_1) ∧ w3.cell? ⟨w.heap.size + 1 + 1, 2, none⟩ = some (.int .i64 a2_2) ∧ w3.cell? ⟨w1.heap.size, 0, none⟩ = some (.int .i64 m1) ∧ w3.cell? ⟨w1.heap.size, 1, none⟩ = some (.int .i64 m2) ∧ w3.cell? ⟨w1.heap.size, 2, none⟩ = some (.int .i64 m3) ∧ w3.cell? ⟨w1.heap.size, 3, none⟩ = some (.int .i64 m4) := by
          refine keep15 (Nat.le_refl _) hb3 ?_
          ((repeat' apply And.intro) <;> first | go_keep | (go_simp; done) | (repeat (first | exact Below.refl _ _ | assumption | refine Below.drew ?_ | refine Below.alloc ?_ (by first | omega | (simp <;> omega)) _)))
        clear hb3 kb q0 q1 q2 q3 q4 q5 q6 q7 q8 q9 q10 q11 q12 q13 q14
        obtain ⟨kb, q0, q1, q2, q3, q4, q5, q6, q7, q8, q9, q10, q11, q12, q13, q14⟩ := K3
        go_wp2_with fail
        refine (HR3.out _).mono ?_
        rintro e w4 ⟨rfl, hb4⟩
        have K4 : Below w.heap.size w w4 ∧ w4.cell? ⟨w.heap.size, 0, none⟩ = some (.int .i64 a0_0) ∧ w4.cell? ⟨w.heap.size, 1, none⟩ = some (.int .i64 a0_1) ∧ w4.cell? ⟨w.heap.size, 2, none⟩ = some (.int .i64 a0_2) ∧ w4.cell? ⟨w.heap.size, 3, none⟩ = some (.int .i64 a0_3) ∧ w4.cell? ⟨w.heap.size + 1, 0, none⟩ = some (.int .i64 a1_0) ∧ w4.cell? ⟨w.heap.size + 1, 1, none⟩ = some (.int .i64 a1_1) ∧ w4.cell? ⟨w.heap.size + 1, 2, none⟩ = some (.int .i64 a1_2) ∧ w4.cell? ⟨w.heap.size + 1, 3, none⟩ = some (.int .i64 a1_3) ∧ w4.cell? ⟨w.heap.size + 1 + 1, 0, none⟩ = some (.int .i64 a2_0) ∧ w4.cell? ⟨w.heap.size + 1 + 1, 1, none⟩ = some (.int .i64 a2_1) ∧ w4.cell? ⟨w.heap.size + 1 + 1, 2, none⟩ = some (.int .i64 a2_2) ∧ w4.cell? ⟨w1.heap.size, 0, none⟩ = some (.int .i64 m1) ∧ w4.cell? ⟨w1.heap.size, 1, none⟩ = some (.int .i64 m2) ∧ w4.cell? ⟨w1.heap.size, 2, none⟩ = some (.int .i64 m3) ∧ w4.cell? ⟨w1.heap.size, 3, none⟩ = some (.int .i64 m4) := by
          refine keep15 (Nat.le_refl _) hb4 ?_
          ((repeat' apply And.intro) <;> first | go_keep | (go_simp; done) | (repeat (first | exact Below.refl _ _ | assumption | refine Below.drew ?_ | refine Below.alloc ?_ (by first | omega | (simp <;> omega)) _)))
        clear hb4 kb q0 q1 q2 q3 q4 q5 q6 q7 q8 q9 q10 q11 q12 q13 q14
        obtain ⟨kb, q0, q1, q2, q3, q4, q5, q6, q7, q8, q9, q10, q11, q12, q13, q14⟩ := K4
        go_wp2_with fail
        have heq : ∀ W : World, (binOp .eql 43 (.agg #[.int .i64 m1, .int .i64 m2, .int .i64 m3, .int .i64 m4]) (.agg #[.int .i64 a0_0, .int .i64 a0_1, .int .i64 a0_2, .int .i64 a0_3])).run Try.prog W = .ok (.bool false) W := fun W => by rw [eq_box, HNE.out]
        go_region_held3 (fun w' => Below w.heap.size w w' ∧ w'.cell? ⟨w.heap.size, 0, none⟩ = some (.int .i64 a0_0) ∧ w'.cell? ⟨w.heap.size, 1, none⟩ = some (.int .i64 a0_1) ∧ w'.cell? ⟨w.heap.size, 2, none⟩ = some (.int .i64 a0_2) ∧ w'.cell? ⟨w.heap.size, 3, none⟩ = some (.int .i64 a0_3) ∧ w'.cell? ⟨w.heap.size + 1, 0, none⟩ = some (.int .i64 a1_0) ∧ w'.cell? ⟨w.heap.size + 1, 1, none⟩ = some (.int .i64 a1_1) ∧ w'.cell? ⟨w.heap.size + 1, 2, none⟩ = some (.int .i64 a1_2) ∧ w'.cell? ⟨w.heap.size + 1, 3, none⟩ = some (.int .i64 a1_3) ∧ w'.cell? ⟨w.heap.size + 1 + 1, 0, none⟩ = some (.int .i64 a2_0) ∧ w'.cell? ⟨w.heap.size + 1 + 1, 1, none⟩ = some (.int .i64 a2_1) ∧ w'.cell? ⟨w.heap.size + 1 + 1, 2, none⟩ = some (.int .i64 a2_2) ∧ w'.cell? ⟨w1.heap.size, 0, none⟩ = some (.int .i64 m1) ∧ w'.cell? ⟨w1.heap.size, 1, none⟩ = some (.int .i64 m2) ∧ w'.cell? ⟨w1.heap.size, 2, none⟩ = some (.int .i64 m3) ∧ w'.cell? ⟨w1.heap.size, 3, none⟩ = some (.int .i64 m4)) (first | exact keep15 (Nat.le_refl _) hbx ‹_› | ((repeat' apply And.intro) <;> first | go_keep | (exact kb.drew))) (first | (go_at_call 30; ((with_reducible refine (HV1.out _).mono ?_); rintro e wx ⟨rfl, hbx⟩)) | (go_at_call 30; ((with_reducible refine (HV2.out _).mono ?_); rintro e wx ⟨rfl, hbx⟩)) | (go_at_call 30; ((with_reducible refine (HV3.out _).mono ?_); rintro e wx ⟨rfl, hbx⟩)) | (go_at_call 28; refine (lives4 _).mono ?_; rintro e wx ⟨rfl, hbx⟩))
        go_wp2_with fail
        go_ret
        exact ⟨rfl, ((‹_› : Below w.heap.size w _ ∧ _)).1⟩
    · cases hia : inB a0_0 a0_1 a0_2 a0_3 a2_1 a2_2
      · skip
        obtain ⟨y1, y2, y3, y4⟩ := wi_eq e1 e2 e3 e4 he hw
        obtain rfl := y1.symm
        obtain rfl := y2.symm
        obtain rfl := y3.symm
        obtain rfl := y4.symm
        have hmm := in_meet (x := a2_1) (y := a2_2) e1 e2 e3 e4
        rw [hia] at hmm
        have R1 : ∀ w : World, Calls Try.prog 24 #[.agg #[.int .i64 a0_0, .int .i64 a0_1, .int .i64 a0_2, .int .i64 a0_3], .int .i64 a2_1, .int .i64 a2_2] w fun e w' => e = .returned (.bool (false)) ∧ Below w.heap.size w w' := fun w => as_bool (refhas _ _ _ _ _ _ w) hia
        have R3 : ∀ w : World, Calls Try.prog 24 #[.agg #[.int .i64 a0_0, .int .i64 a0_1, .int .i64 a0_2, .int .i64 a0_3], .int .i64 a2_1, .int .i64 a2_2] w fun e w' => e = .returned (.bool (false)) ∧ Below w.heap.size w w' := fun w => as_bool (refhas _ _ _ _ _ _ w) hia
        have V1 : ∀ w : World, Calls Try.prog 30 #[.agg #[.int .i64 a0_0, .int .i64 a0_1, .int .i64 a0_2, .int .i64 a0_3], .agg #[.int .i64 a1_0, .int .i64 a1_1, .int .i64 a1_2, .int .i64 a1_3]] w fun e w' => e = .returned (.bool (true)) ∧ Below w.heap.size w w' := fun w => as_bool (within _ _ _ _ _ _ _ _ w) hw
        have V2 : ∀ w : World, Calls Try.prog 30 #[.agg #[.int .i64 a0_0, .int .i64 a0_1, .int .i64 a0_2, .int .i64 a0_3], .agg #[.int .i64 a0_0, .int .i64 a0_1, .int .i64 a0_2, .int .i64 a0_3]] w fun e w' => e = .returned (.bool (true)) ∧ Below w.heap.size w w' := fun w => as_bool (within _ _ _ _ _ _ _ _ w) (wi_l e1 e2 e3 e4 he)
        have V3 : ∀ w : World, Calls Try.prog 30 #[.agg #[.int .i64 a0_0, .int .i64 a0_1, .int .i64 a0_2, .int .i64 a0_3], .agg #[.int .i64 a1_0, .int .i64 a1_1, .int .i64 a1_2, .int .i64 a1_3]] w fun e w' => e = .returned (.bool (true)) ∧ Below w.heap.size w w' := fun w => as_bool (within _ _ _ _ _ _ _ _ w) (wi_r e1 e2 e3 e4 he)
        have M : ∀ w : World, Calls Try.prog 29 #[.agg #[.int .i64 a0_0, .int .i64 a0_1, .int .i64 a0_2, .int .i64 a0_3], .agg #[.int .i64 a1_0, .int .i64 a1_1, .int .i64 a1_2, .int .i64 a1_3]] w fun e w' => e = .returned (.tuple #[.agg #[.int .i64 a0_0, .int .i64 a0_1, .int .i64 a0_2, .int .i64 a0_3], .bool true]) ∧ Below w.heap.size w w' := fun w => meet_yes _ _ _ _ _ _ _ _ _ _ _ _ e1 e2 e3 e4 he w
        have hg1 : a0_0 ≤ a0_1 := by simp [emB] at he; omega
        have hg2 : a0_2 ≤ a0_3 := by simp [emB] at he; omega
        have HR1 := Lib.hid R1
        clear R1
        have HR3 := Lib.hid R3
        clear R3
        have HV1 := Lib.hid V1
        clear V1
        have HV2 := Lib.hid V2
        clear V2
        have HV3 := Lib.hid V3
        clear V3
        have HM := Lib.hid M
        clear M
        clear hmm hia e1 e2 e3 e4 he hw
        go_enter Try.func6, Try.ntmps6
        go_wp2_with fail
        refine (HM.out _).mono ?_
        rintro e w1 ⟨rfl, hb1⟩
        have K1 : Below w.heap.size w w1 ∧ w1.cell? ⟨w.heap.size, 0, none⟩ = some (.int .i64 a0_0) ∧ w1.cell? ⟨w.heap.size, 1, none⟩ = some (.int .i64 a0_1) ∧ w1.cell? ⟨w.heap.size, 2, none⟩ = some (.int .i64 a0_2) ∧ w1.cell? ⟨w.heap.size, 3, none⟩ = some (.int .i64 a0_3) ∧ w1.cell? ⟨w.heap.size + 1, 0, none⟩ = some (.int .i64 a1_0) ∧ w1.cell? ⟨w.heap.size + 1, 1, none⟩ = some (.int .i64 a1_1) ∧ w1.cell? ⟨w.heap.size + 1, 2, none⟩ = some (.int .i64 a1_2) ∧ w1.cell? ⟨w.heap.size + 1, 3, none⟩ = some (.int .i64 a1_3) ∧ w1.cell? ⟨w.heap.size + 1 + 1, 0, none⟩ = some (.int .i64 a2_0) ∧ w1.cell? ⟨w.heap.size + 1 + 1, 1, none⟩ = some (.int .i64 a2_1) ∧ w1.cell? ⟨w.heap.size + 1 + 1, 2, none⟩ = some (.int .i64 a2_2) := by
          refine keep11 (Nat.le_refl _) hb1 ?_
          ((repeat' apply And.intro) <;> first | go_keep | (go_simp; done) | (repeat (first | exact Below.refl _ _ | assumption | refine Below.drew ?_ | refine Below.alloc ?_ (by first | omega | (simp <;> omega)) _)))
        obtain ⟨kb, q0, q1, q2, q3, q4, q5, q6, q7, q8, q9, q10⟩ := K1
        have hz1 : w.heap.size + 1 + 1 < w1.heap.size := by have := hb1.size; simp at this; omega
        have hza : w.heap.size < w1.heap.size := by omega
        have hzb : w.heap.size + 1 < w1.heap.size := by omega
        clear hb1
        go_wp2_with fail
        refine (HR1.out _).mono ?_
        rintro e w2 ⟨rfl, hb2⟩
        have K2 : Below w.heap.size w w2 ∧ w2.cell? ⟨w.heap.size, 0, none⟩ = some (.int .i64 a0_0) ∧ w2.cell? ⟨w.heap.size, 1, none⟩ = some (.int .i64 a0_1) ∧ w2.cell? ⟨w.heap.size, 2, none⟩ = some (.int .i64 a0_2) ∧ w2.cell? ⟨w.heap.size, 3, none⟩ = some (.int .i64 a0_3) ∧ w2.cell? ⟨w.heap.size + 1, 0, none⟩ = some (.int .i64 a1_0) ∧ w2.cell? ⟨w.heap.size + 1, 1, none⟩ = some (.int .i64 a1_1) ∧ w2.cell? ⟨w.heap.size + 1, 2, none⟩ = some (.int .i64 a1_2) ∧ w2.cell? ⟨w.heap.size + 1, 3, none⟩ = some (.int .i64 a1_3) ∧ w2.cell? ⟨w.heap.size + 1 + 1, 0, none⟩ = some (.int .i64 a2_0) ∧ w2.cell? ⟨w.heap.size + 1 + 1, 1, none⟩ = some (.int .i64 a2_1) ∧ w2.cell? ⟨w.heap.size + 1 + 1, 2, none⟩ = some (.int .i64 a2_2) ∧ w2.cell? ⟨w1.heap.size, 0, none⟩ = some (.int .i64 a0_0) ∧ w2.cell? ⟨w1.heap.size, 1, none⟩ = some (.int .i64 a0_1) ∧ w2.cell? ⟨w1.heap.size, 2, none⟩ = some (.int .i64 a0_2) ∧ w2.cell? ⟨w1.heap.size, 3, none⟩ = some (.int .i64 a0_3) := by
          refine keep15 (Nat.le_refl _) hb2 ?_
          ((repeat' apply And.intro) <;> first | go_keep | (go_simp; done) | (repeat (first | exact Below.refl _ _ | assumption | refine Below.drew ?_ | refine Below.alloc ?_ (by first | omega | (simp <;> omega)) _)))
        clear hb2 kb q0 q1 q2 q3 q4 q5 q6 q7 q8 q9 q10
        obtain ⟨kb, q0, q1, q2, q3, q4, q5, q6, q7, q8, q9, q10, q11, q12, q13, q14⟩ := K2
        go_wp2_with fail
        refine (HR3.out _).mono ?_
        rintro e w3 ⟨rfl, hb3⟩
        have K3 : Below w.heap.size w w3 ∧ w3.cell? ⟨w.heap.size, 0, none⟩ = some (.int .i64 a0_0) ∧ w3.cell? ⟨w.heap.size, 1, none⟩ = some (.int .i64 a0_1) ∧ w3.cell? ⟨w.heap.size, 2, none⟩ = some (.int .i64 a0_2) ∧ w3.cell? ⟨w.heap.size, 3, none⟩ = some (.int .i64 a0_3) ∧ w3.cell? ⟨w.heap.size + 1, 0, none⟩ = some (.int .i64 a1_0) ∧ w3.cell? ⟨w.heap.size + 1, 1, none⟩ = some (.int .i64 a1_1) ∧ w3.cell? ⟨w.heap.size + 1, 2, none⟩ = some (.int .i64 a1_2) ∧ w3.cell? ⟨w.heap.size + 1, 3, none⟩ = some (.int .i64 a1_3) ∧ w3.cell? ⟨w.heap.size + 1 + 1, 0, none⟩ = some (.int .i64 a2_0) ∧ w3.cell? ⟨w.heap.size + 1 + 1, 1, none⟩ = some (.int .i64 a2_1) ∧ w3.cell? ⟨w.heap.size + 1 + 1, 2, none⟩ = some (.int .i64 a2_2) ∧ w3.cell? ⟨w1.heap.size, 0, none⟩ = some (.int .i64 a0_0) ∧ w3.cell? ⟨w1.heap.size, 1, none⟩ = some (.int .i64 a0_1) ∧ w3.cell? ⟨w1.heap.size, 2, none⟩ = some (.int .i64 a0_2) ∧ w3.cell? ⟨w1.heap.size, 3, none⟩ = some (.int .i64 a0_3) := by
          refine keep15 (Nat.le_refl _) hb3 ?_
          ((repeat' apply And.intro) <;> first | go_keep | (go_simp; done) | (repeat (first | exact Below.refl _ _ | assumption | refine Below.drew ?_ | refine Below.alloc ?_ (by first | omega | (simp <;> omega)) _)))
        clear hb3 kb q0 q1 q2 q3 q4 q5 q6 q7 q8 q9 q10 q11 q12 q13 q14
        obtain ⟨kb, q0, q1, q2, q3, q4, q5, q6, q7, q8, q9, q10, q11, q12, q13, q14⟩ := K3
        go_wp2_with fail
        go_region_held3 (fun w' => Below w.heap.size w w' ∧ w'.cell? ⟨w.heap.size, 0, none⟩ = some (.int .i64 a0_0) ∧ w'.cell? ⟨w.heap.size, 1, none⟩ = some (.int .i64 a0_1) ∧ w'.cell? ⟨w.heap.size, 2, none⟩ = some (.int .i64 a0_2) ∧ w'.cell? ⟨w.heap.size, 3, none⟩ = some (.int .i64 a0_3) ∧ w'.cell? ⟨w.heap.size + 1, 0, none⟩ = some (.int .i64 a1_0) ∧ w'.cell? ⟨w.heap.size + 1, 1, none⟩ = some (.int .i64 a1_1) ∧ w'.cell? ⟨w.heap.size + 1, 2, none⟩ = some (.int .i64 a1_2) ∧ w'.cell? ⟨w.heap.size + 1, 3, none⟩ = some (.int .i64 a1_3) ∧ w'.cell? ⟨w.heap.size + 1 + 1, 0, none⟩ = some (.int .i64 a2_0) ∧ w'.cell? ⟨w.heap.size + 1 + 1, 1, none⟩ = some (.int .i64 a2_1) ∧ w'.cell? ⟨w.heap.size + 1 + 1, 2, none⟩ = some (.int .i64 a2_2) ∧ w'.cell? ⟨w1.heap.size, 0, none⟩ = some (.int .i64 a0_0) ∧ w'.cell? ⟨w1.heap.size, 1, none⟩ = some (.int .i64 a0_1) ∧ w'.cell? ⟨w1.heap.size, 2, none⟩ = some (.int .i64 a0_2) ∧ w'.cell? ⟨w1.heap.size, 3, none⟩ = some (.int .i64 a0_3)) (first | exact keep15 (Nat.le_refl _) hbx ‹_› | ((repeat' apply And.intro) <;> first | go_keep | (exact kb.drew))) (first | (go_at_call 30; ((with_reducible refine (HV1.out _).mono ?_); rintro e wx ⟨rfl, hbx⟩)) | (go_at_call 30; ((with_reducible refine (HV2.out _).mono ?_); rintro e wx ⟨rfl, hbx⟩)) | (go_at_call 30; ((with_reducible refine (HV3.out _).mono ?_); rintro e wx ⟨rfl, hbx⟩)) | (go_at_call 28; refine (lives4 _).mono ?_; rintro e wx ⟨rfl, hbx⟩))
        go_wp2_with fail
        go_ret
        exact ⟨rfl, ((‹_› : Below w.heap.size w _ ∧ _)).1⟩
      · skip
        obtain ⟨y1, y2, y3, y4⟩ := wi_eq e1 e2 e3 e4 he hw
        obtain rfl := y1.symm
        obtain rfl := y2.symm
        obtain rfl := y3.symm
        obtain rfl := y4.symm
        have hmm := in_meet (x := a2_1) (y := a2_2) e1 e2 e3 e4
        rw [hia] at hmm
        have R1 : ∀ w : World, Calls Try.prog 24 #[.agg #[.int .i64 a0_0, .int .i64 a0_1, .int .i64 a0_2, .int .i64 a0_3], .int .i64 a2_1, .int .i64 a2_2] w fun e w' => e = .returned (.bool (true)) ∧ Below w.heap.size w w' := fun w => as_bool (refhas _ _ _ _ _ _ w) hia
        have R2 : ∀ w : World, Calls Try.prog 24 #[.agg #[.int .i64 a1_0, .int .i64 a1_1, .int .i64 a1_2, .int .i64 a1_3], .int .i64 a2_1, .int .i64 a2_2] w fun e w' => e = .returned (.bool (inB a1_0 a1_1 a1_2 a1_3 a2_1 a2_2)) ∧ Below w.heap.size w w' := fun w => as_bool (refhas _ _ _ _ _ _ w) rfl
        have R3 : ∀ w : World, Calls Try.prog 24 #[.agg #[.int .i64 a0_0, .int .i64 a0_1, .int .i64 a0_2, .int .i64 a0_3], .int .i64 a2_1, .int .i64 a2_2] w fun e w' => e = .returned (.bool (inB a1_0 a1_1 a1_2 a1_3 a2_1 a2_2)) ∧ Below w.heap.size w w' := fun w => as_bool (refhas _ _ _ _ _ _ w) (hia.trans (by simpa using hmm))
        have V1 : ∀ w : World, Calls Try.prog 30 #[.agg #[.int .i64 a0_0, .int .i64 a0_1, .int .i64 a0_2, .int .i64 a0_3], .agg #[.int .i64 a1_0, .int .i64 a1_1, .int .i64 a1_2, .int .i64 a1_3]] w fun e w' => e = .returned (.bool (true)) ∧ Below w.heap.size w w' := fun w => as_bool (within _ _ _ _ _ _ _ _ w) hw
        have V2 : ∀ w : World, Calls Try.prog 30 #[.agg #[.int .i64 a0_0, .int .i64 a0_1, .int .i64 a0_2, .int .i64 a0_3], .agg #[.int .i64 a0_0, .int .i64 a0_1, .int .i64 a0_2, .int .i64 a0_3]] w fun e w' => e = .returned (.bool (true)) ∧ Below w.heap.size w w' := fun w => as_bool (within _ _ _ _ _ _ _ _ w) (wi_l e1 e2 e3 e4 he)
        have V3 : ∀ w : World, Calls Try.prog 30 #[.agg #[.int .i64 a0_0, .int .i64 a0_1, .int .i64 a0_2, .int .i64 a0_3], .agg #[.int .i64 a1_0, .int .i64 a1_1, .int .i64 a1_2, .int .i64 a1_3]] w fun e w' => e = .returned (.bool (true)) ∧ Below w.heap.size w w' := fun w => as_bool (within _ _ _ _ _ _ _ _ w) (wi_r e1 e2 e3 e4 he)
        have M : ∀ w : World, Calls Try.prog 29 #[.agg #[.int .i64 a0_0, .int .i64 a0_1, .int .i64 a0_2, .int .i64 a0_3], .agg #[.int .i64 a1_0, .int .i64 a1_1, .int .i64 a1_2, .int .i64 a1_3]] w fun e w' => e = .returned (.tuple #[.agg #[.int .i64 a0_0, .int .i64 a0_1, .int .i64 a0_2, .int .i64 a0_3], .bool true]) ∧ Below w.heap.size w w' := fun w => meet_yes _ _ _ _ _ _ _ _ _ _ _ _ e1 e2 e3 e4 he w
        have hg1 : a0_0 ≤ a0_1 := by simp [emB] at he; omega
        have hg2 : a0_2 ≤ a0_3 := by simp [emB] at he; omega
        have HR1 := Lib.hid R1
        clear R1
        have HR2 := Lib.hid R2
        clear R2
        have HR3 := Lib.hid R3
        clear R3
        have HV1 := Lib.hid V1
        clear V1
        have HV2 := Lib.hid V2
        clear V2
        have HV3 := Lib.hid V3
        clear V3
        have HM := Lib.hid M
        clear M
        clear hmm hia e1 e2 e3 e4 he hw
        go_enter Try.func6, Try.ntmps6
        go_wp2_with fail
        refine (HM.out _).mono ?_
        rintro e w1 ⟨rfl, hb1⟩
        have K1 : Below w.heap.size w w1 ∧ w1.cell? ⟨w.heap.size, 0, none⟩ = some (.int .i64 a0_0) ∧ w1.cell? ⟨w.heap.size, 1, none⟩ = some (.int .i64 a0_1) ∧ w1.cell? ⟨w.heap.size, 2, none⟩ = some (.int .i64 a0_2) ∧ w1.cell? ⟨w.heap.size, 3, none⟩ = some (.int .i64 a0_3) ∧ w1.cell? ⟨w.heap.size + 1, 0, none⟩ = some (.int .i64 a1_0) ∧ w1.cell? ⟨w.heap.size + 1, 1, none⟩ = some (.int .i64 a1_1) ∧ w1.cell? ⟨w.heap.size + 1, 2, none⟩ = some (.int .i64 a1_2) ∧ w1.cell? ⟨w.heap.size + 1, 3, none⟩ = some (.int .i64 a1_3) ∧ w1.cell? ⟨w.heap.size + 1 + 1, 0, none⟩ = some (.int .i64 a2_0) ∧ w1.cell? ⟨w.heap.size + 1 + 1, 1, none⟩ = some (.int .i64 a2_1) ∧ w1.cell? ⟨w.heap.size + 1 + 1, 2, none⟩ = some (.int .i64 a2_2) := by
          refine keep11 (Nat.le_refl _) hb1 ?_
          ((repeat' apply And.intro) <;> first | go_keep | (go_simp; done) | (repeat (first | exact Below.refl _ _ | assumption | refine Below.drew ?_ | refine Below.alloc ?_ (by first | omega | (simp <;> omega)) _)))
        obtain ⟨kb, q0, q1, q2, q3, q4, q5, q6, q7, q8, q9, q10⟩ := K1
        have hz1 : w.heap.size + 1 + 1 < w1.heap.size := by have := hb1.size; simp at this; omega
        have hza : w.heap.size < w1.heap.size := by omega
        have hzb : w.heap.size + 1 < w1.heap.size := by omega
        clear hb1
        go_wp2_with fail
        refine (HR1.out _).mono ?_
        rintro e w2 ⟨rfl, hb2⟩
        have K2 : Below w.heap.size w w2 ∧ w2.cell? ⟨w.heap.size, 0, none⟩ = some (.int .i64 a0_0) ∧ w2.cell? ⟨w.heap.size, 1, none⟩ = some (.int .i64 a0_1) ∧ w2.cell? ⟨w.heap.size, 2, none⟩ = some (.int .i64 a0_2) ∧ w2.cell? ⟨w.heap.size, 3, none⟩ = some (.int .i64 a0_3) ∧ w2.cell? ⟨w.heap.size + 1, 0, none⟩ = some (.int .i64 a1_0) ∧ w2.cell? ⟨w.heap.size + 1, 1, none⟩ = some (.int .i64 a1_1) ∧ w2.cell? ⟨w.heap.size + 1, 2, none⟩ = some (.int .i64 a1_2) ∧ w2.cell? ⟨w.heap.size + 1, 3, none⟩ = some (.int .i64 a1_3) ∧ w2.cell? ⟨w.heap.size + 1 + 1, 0, none⟩ = some (.int .i64 a2_0) ∧ w2.cell? ⟨w.heap.size + 1 + 1, 1, none⟩ = some (.int .i64 a2_1) ∧ w2.cell? ⟨w.heap.size + 1 + 1, 2, none⟩ = some (.int .i64 a2_2) ∧ w2.cell? ⟨w1.heap.size, 0, none⟩ = some (.int .i64 a0_0) ∧ w2.cell? ⟨w1.heap.size, 1, none⟩ = some (.int .i64 a0_1) ∧ w2.cell? ⟨w1.heap.size, 2, none⟩ = some (.int .i64 a0_2) ∧ w2.cell? ⟨w1.heap.size, 3, none⟩ = some (.int .i64 a0_3) := by
          refine keep15 (Nat.le_refl _) hb2 ?_
          ((repeat' apply And.intro) <;> first | go_keep | (go_simp; done) | (repeat (first | exact Below.refl _ _ | assumption | refine Below.drew ?_ | refine Below.alloc ?_ (by first | omega | (simp <;> omega)) _)))
        clear hb2 kb q0 q1 q2 q3 q4 q5 q6 q7 q8 q9 q10
        obtain ⟨kb, q0, q1, q2, q3, q4, q5, q6, q7, q8, q9, q10, q11, q12, q13, q14⟩ := K2
        go_wp2_with fail
        refine (HR2.out _).mono ?_
        rintro e w3 ⟨rfl, hb3⟩
        have K3 : Below w.heap.size w w3 ∧ w3.cell? ⟨w.heap.size, 0, none⟩ = some (.int .i64 a0_0) ∧ w3.cell? ⟨w.heap.size, 1, none⟩ = some (.int .i64 a0_1) ∧ w3.cell? ⟨w.heap.size, 2, none⟩ = some (.int .i64 a0_2) ∧ w3.cell? ⟨w.heap.size, 3, none⟩ = some (.int .i64 a0_3) ∧ w3.cell? ⟨w.heap.size + 1, 0, none⟩ = some (.int .i64 a1_0) ∧ w3.cell? ⟨w.heap.size + 1, 1, none⟩ = some (.int .i64 a1_1) ∧ w3.cell? ⟨w.heap.size + 1, 2, none⟩ = some (.int .i64 a1_2) ∧ w3.cell? ⟨w.heap.size + 1, 3, none⟩ = some (.int .i64 a1_3) ∧ w3.cell? ⟨w.heap.size + 1 + 1, 0, none⟩ = some (.int .i64 a2_0) ∧ w3.cell? ⟨w.heap.size + 1 + 1, 1, none⟩ = some (.int .i64 a2_1) ∧ w3.cell? ⟨w.heap.size + 1 + 1, 2, none⟩ = some (.int .i64 a2_2) ∧ w3.cell? ⟨w1.heap.size, 0, none⟩ = some (.int .i64 a0_0) ∧ w3.cell? ⟨w1.heap.size, 1, none⟩ = some (.int .i64 a0_1) ∧ w3.cell? ⟨w1.heap.size, 2, none⟩ = some (.int .i64 a0_2) ∧ w3.cell? ⟨w1.heap.size, 3, none⟩ = some (.int .i64 a0_3) := by
          refine keep15 (Nat.le_refl _) hb3 ?_
          ((repeat' apply And.intro) <;> first | go_keep | (go_simp; done) | (repeat (first | exact Below.refl _ _ | assumption | refine Below.drew ?_ | refine Below.alloc ?_ (by first | omega | (simp <;> omega)) _)))
        clear hb3 kb q0 q1 q2 q3 q4 q5 q6 q7 q8 q9 q10 q11 q12 q13 q14
        obtain ⟨kb, q0, q1, q2, q3, q4, q5, q6, q7, q8, q9, q10, q11, q12, q13, q14⟩ := K3
        go_wp2_with fail
        refine (HR3.out _).mono ?_
        rintro e w4 ⟨rfl, hb4⟩
        have K4 : Below w.heap.size w w4 ∧ w4.cell? ⟨w.heap.size, 0, none⟩ = some (.int .i64 a0_0) ∧ w4.cell? ⟨w.heap.size, 1, none⟩ = some (.int .i64 a0_1) ∧ w4.cell? ⟨w.heap.size, 2, none⟩ = some (.int .i64 a0_2) ∧ w4.cell? ⟨w.heap.size, 3, none⟩ = some (.int .i64 a0_3) ∧ w4.cell? ⟨w.heap.size + 1, 0, none⟩ = some (.int .i64 a1_0) ∧ w4.cell? ⟨w.heap.size + 1, 1, none⟩ = some (.int .i64 a1_1) ∧ w4.cell? ⟨w.heap.size + 1, 2, none⟩ = some (.int .i64 a1_2) ∧ w4.cell? ⟨w.heap.size + 1, 3, none⟩ = some (.int .i64 a1_3) ∧ w4.cell? ⟨w.heap.size + 1 + 1, 0, none⟩ = some (.int .i64 a2_0) ∧ w4.cell? ⟨w.heap.size + 1 + 1, 1, none⟩ = some (.int .i64 a2_1) ∧ w4.cell? ⟨w.heap.size + 1 + 1, 2, none⟩ = some (.int .i64 a2_2) ∧ w4.cell? ⟨w1.heap.size, 0, none⟩ = some (.int .i64 a0_0) ∧ w4.cell? ⟨w1.heap.size, 1, none⟩ = some (.int .i64 a0_1) ∧ w4.cell? ⟨w1.heap.size, 2, none⟩ = some (.int .i64 a0_2) ∧ w4.cell? ⟨w1.heap.size, 3, none⟩ = some (.int .i64 a0_3) := by
          refine keep15 (Nat.le_refl _) hb4 ?_
          ((repeat' apply And.intro) <;> first | go_keep | (go_simp; done) | (repeat (first | exact Below.refl _ _ | assumption | refine Below.drew ?_ | refine Below.alloc ?_ (by first | omega | (simp <;> omega)) _)))
        clear hb4 kb q0 q1 q2 q3 q4 q5 q6 q7 q8 q9 q10 q11 q12 q13 q14
        obtain ⟨kb, q0, q1, q2, q3, q4, q5, q6, q7, q8, q9, q10, q11, q12, q13, q14⟩ := K4
        go_wp2_with fail
        go_region_held3 (fun w' => Below w.heap.size w w' ∧ w'.cell? ⟨w.heap.size, 0, none⟩ = some (.int .i64 a0_0) ∧ w'.cell? ⟨w.heap.size, 1, none⟩ = some (.int .i64 a0_1) ∧ w'.cell? ⟨w.heap.size, 2, none⟩ = some (.int .i64 a0_2) ∧ w'.cell? ⟨w.heap.size, 3, none⟩ = some (.int .i64 a0_3) ∧ w'.cell? ⟨w.heap.size + 1, 0, none⟩ = some (.int .i64 a1_0) ∧ w'.cell? ⟨w.heap.size + 1, 1, none⟩ = some (.int .i64 a1_1) ∧ w'.cell? ⟨w.heap.size + 1, 2, none⟩ = some (.int .i64 a1_2) ∧ w'.cell? ⟨w.heap.size + 1, 3, none⟩ = some (.int .i64 a1_3) ∧ w'.cell? ⟨w.heap.size + 1 + 1, 0, none⟩ = some (.int .i64 a2_0) ∧ w'.cell? ⟨w.heap.size + 1 + 1, 1, none⟩ = some (.int .i64 a2_1) ∧ w'.cell? ⟨w.heap.size + 1 + 1, 2, none⟩ = some (.int .i64 a2_2) ∧ w'.cell? ⟨w1.heap.size, 0, none⟩ = some (.int .i64 a0_0) ∧ w'.cell? ⟨w1.heap.size, 1, none⟩ = some (.int .i64 a0_1) ∧ w'.cell? ⟨w1.heap.size, 2, none⟩ = some (.int .i64 a0_2) ∧ w'.cell? ⟨w1.heap.size, 3, none⟩ = some (.int .i64 a0_3)) (first | exact keep15 (Nat.le_refl _) hbx ‹_› | ((repeat' apply And.intro) <;> first | go_keep | (exact kb.drew))) (first | (go_at_call 30; ((with_reducible refine (HV1.out _).mono ?_); rintro e wx ⟨rfl, hbx⟩)) | (go_at_call 30; ((with_reducible refine (HV2.out _).mono ?_); rintro e wx ⟨rfl, hbx⟩)) | (go_at_call 30; ((with_reducible refine (HV3.out _).mono ?_); rintro e wx ⟨rfl, hbx⟩)) | (go_at_call 28; refine (lives4 _).mono ?_; rintro e wx ⟨rfl, hbx⟩))
        go_wp2_with fail
        go_ret
        exact ⟨rfl, ((‹_› : Below w.heap.size w _ ∧ _)).1⟩
  · cases hia : inB a0_0 a0_1 a0_2 a0_3 a2_1 a2_2
    · skip
      have hmm := in_meet (x := a2_1) (y := a2_2) e1 e2 e3 e4
      rw [hia] at hmm
      have R1 : ∀ w : World, Calls Try.prog 24 #[.agg #[.int .i64 a0_0, .int .i64 a0_1, .int .i64 a0_2, .int .i64 a0_3], .int .i64 a2_1, .int .i64 a2_2] w fun e w' => e = .returned (.bool (false)) ∧ Below w.heap.size w w' := fun w => as_bool (refhas _ _ _ _ _ _ w) hia
      have V1 : ∀ w : World, Calls Try.prog 30 #[.agg #[.int .i64 a0_0, .int .i64 a0_1, .int .i64 a0_2, .int .i64 a0_3], .agg #[.int .i64 a1_0, .int .i64 a1_1, .int .i64 a1_2, .int .i64 a1_3]] w fun e w' => e = .returned (.bool (false)) ∧ Below w.heap.size w w' := fun w => as_bool (within _ _ _ _ _ _ _ _ w) (em_wi e1 e2 e3 e4 he)
      have M : ∀ w : World, Calls Try.prog 29 #[.agg #[.int .i64 a0_0, .int .i64 a0_1, .int .i64 a0_2, .int .i64 a0_3], .agg #[.int .i64 a1_0, .int .i64 a1_1, .int .i64 a1_2, .int .i64 a1_3]] w fun e w' => e = .returned (.tuple #[.agg #[.int .i64 0, .int .i64 0, .int .i64 0, .int .i64 0], .bool false]) ∧ Below w.heap.size w w' := fun w => meet_no _ _ _ _ _ _ _ _ _ _ _ _ e1 e2 e3 e4 he w
      have HR1 := Lib.hid R1
      clear R1
      have HV1 := Lib.hid V1
      clear V1
      have HM := Lib.hid M
      clear M
      clear hmm hia e1 e2 e3 e4 he
      go_enter Try.func6, Try.ntmps6
      go_wp2_with fail
      refine (HM.out _).mono ?_
      rintro e w1 ⟨rfl, hb1⟩
      have K1 : Below w.heap.size w w1 ∧ w1.cell? ⟨w.heap.size, 0, none⟩ = some (.int .i64 a0_0) ∧ w1.cell? ⟨w.heap.size, 1, none⟩ = some (.int .i64 a0_1) ∧ w1.cell? ⟨w.heap.size, 2, none⟩ = some (.int .i64 a0_2) ∧ w1.cell? ⟨w.heap.size, 3, none⟩ = some (.int .i64 a0_3) ∧ w1.cell? ⟨w.heap.size + 1, 0, none⟩ = some (.int .i64 a1_0) ∧ w1.cell? ⟨w.heap.size + 1, 1, none⟩ = some (.int .i64 a1_1) ∧ w1.cell? ⟨w.heap.size + 1, 2, none⟩ = some (.int .i64 a1_2) ∧ w1.cell? ⟨w.heap.size + 1, 3, none⟩ = some (.int .i64 a1_3) ∧ w1.cell? ⟨w.heap.size + 1 + 1, 0, none⟩ = some (.int .i64 a2_0) ∧ w1.cell? ⟨w.heap.size + 1 + 1, 1, none⟩ = some (.int .i64 a2_1) ∧ w1.cell? ⟨w.heap.size + 1 + 1, 2, none⟩ = some (.int .i64 a2_2) := by
        refine keep11 (Nat.le_refl _) hb1 ?_
        ((repeat' apply And.intro) <;> first | go_keep | (go_simp; done) | (repeat (first | exact Below.refl _ _ | assumption | refine Below.drew ?_ | refine Below.alloc ?_ (by first | omega | (simp <;> omega)) _)))
      obtain ⟨kb, q0, q1, q2, q3, q4, q5, q6, q7, q8, q9, q10⟩ := K1
      have hz1 : w.heap.size + 1 + 1 < w1.heap.size := by have := hb1.size; simp at this; omega
      have hza : w.heap.size < w1.heap.size := by omega
      have hzb : w.heap.size + 1 < w1.heap.size := by omega
      clear hb1
      go_wp2_with fail
      refine (HR1.out _).mono ?_
      rintro e w2 ⟨rfl, hb2⟩
      have K2 : Below w.heap.size w w2 ∧ w2.cell? ⟨w.heap.size, 0, none⟩ = some (.int .i64 a0_0) ∧ w2.cell? ⟨w.heap.size, 1, none⟩ = some (.int .i64 a0_1) ∧ w2.cell? ⟨w.heap.size, 2, none⟩ = some (.int .i64 a0_2) ∧ w2.cell? ⟨w.heap.size, 3, none⟩ = some (.int .i64 a0_3) ∧ w2.cell? ⟨w.heap.size + 1, 0, none⟩ = some (.int .i64 a1_0) ∧ w2.cell? ⟨w.heap.size + 1, 1, none⟩ = some (.int .i64 a1_1) ∧ w2.cell? ⟨w.heap.size + 1, 2, none⟩ = some (.int .i64 a1_2) ∧ w2.cell? ⟨w.heap.size + 1, 3, none⟩ = some (.int .i64 a1_3) ∧ w2.cell? ⟨w.heap.size + 1 + 1, 0, none⟩ = some (.int .i64 a2_0) ∧ w2.cell? ⟨w.heap.size + 1 + 1, 1, none⟩ = some (.int .i64 a2_1) ∧ w2.cell? ⟨w.heap.size + 1 + 1, 2, none⟩ = some (.int .i64 a2_2) ∧ w2.cell? ⟨w1.heap.size, 0, none⟩ = some (.int .i64 0) ∧ w2.cell? ⟨w1.heap.size, 1, none⟩ = some (.int .i64 0) ∧ w2.cell? ⟨w1.heap.size, 2, none⟩ = some (.int .i64 0) ∧ w2.cell? ⟨w1.heap.size, 3, none⟩ = some (.int .i64 0) := by
        refine keep15 (Nat.le_refl _) hb2 ?_
        ((repeat' apply And.intro) <;> first | go_keep | (go_simp; done) | (repeat (first | exact Below.refl _ _ | assumption | refine Below.drew ?_ | refine Below.alloc ?_ (by first | omega | (simp <;> omega)) _)))
      clear hb2 kb q0 q1 q2 q3 q4 q5 q6 q7 q8 q9 q10
      obtain ⟨kb, q0, q1, q2, q3, q4, q5, q6, q7, q8, q9, q10, q11, q12, q13, q14⟩ := K2
      go_wp2_with fail
      refine (HV1.out _).mono ?_
      rintro e w3 ⟨rfl, hb3⟩
      have K3 : Below w.heap.size w w3 ∧ w3.cell? ⟨w.heap.size, 0, none⟩ = some (.int .i64 a0_0) ∧ w3.cell? ⟨w.heap.size, 1, none⟩ = some (.int .i64 a0_1) ∧ w3.cell? ⟨w.heap.size, 2, none⟩ = some (.int .i64 a0_2) ∧ w3.cell? ⟨w.heap.size, 3, none⟩ = some (.int .i64 a0_3) ∧ w3.cell? ⟨w.heap.size + 1, 0, none⟩ = some (.int .i64 a1_0) ∧ w3.cell? ⟨w.heap.size + 1, 1, none⟩ = some (.int .i64 a1_1) ∧ w3.cell? ⟨w.heap.size + 1, 2, none⟩ = some (.int .i64 a1_2) ∧ w3.cell? ⟨w.heap.size + 1, 3, none⟩ = some (.int .i64 a1_3) ∧ w3.cell? ⟨w.heap.size + 1 + 1, 0, none⟩ = some (.int .i64 a2_0) ∧ w3.cell? ⟨w.heap.size + 1 + 1, 1, none⟩ = some (.int .i64 a2_1) ∧ w3.cell? ⟨w.heap.size + 1 + 1, 2, none⟩ = some (.int .i64 a2_2) ∧ w3.cell? ⟨w1.heap.size, 0, none⟩ = some (.int .i64 0) ∧ w3.cell? ⟨w1.heap.size, 1, none⟩ = some (.int .i64 0) ∧ w3.cell? ⟨w1.heap.size, 2, none⟩ = some (.int .i64 0) ∧ w3.cell? ⟨w1.heap.size, 3, none⟩ = some (.int .i64 0) := by
        refine keep15 (Nat.le_refl _) hb3 ?_
        ((repeat' apply And.intro) <;> first | go_keep | (go_simp; done) | (repeat (first | exact Below.refl _ _ | assumption | refine Below.drew ?_ | refine Below.alloc ?_ (by first | omega | (simp <;> omega)) _)))
      clear hb3 kb q0 q1 q2 q3 q4 q5 q6 q7 q8 q9 q10 q11 q12 q13 q14
      obtain ⟨kb, q0, q1, q2, q3, q4, q5, q6, q7, q8, q9, q10, q11, q12, q13, q14⟩ := K3
      go_wp2_with fail
      refine (lives4 _).mono ?_
      rintro e w9 ⟨rfl, hb9⟩
      go_wp2_with fail
      go_ret
      exact ⟨rfl, below_below (Nat.le_refl _) hb9 kb⟩
    · skip
      have hmm := in_meet (x := a2_1) (y := a2_2) e1 e2 e3 e4
      rw [hia] at hmm
      have hib : inB a1_0 a1_1 a1_2 a1_3 a2_1 a2_2 = false := by rw [em_in he] at hmm; simpa using hmm.symm
      have R1 : ∀ w : World, Calls Try.prog 24 #[.agg #[.int .i64 a0_0, .int .i64 a0_1, .int .i64 a0_2, .int .i64 a0_3], .int .i64 a2_1, .int .i64 a2_2] w fun e w' => e = .returned (.bool (true)) ∧ Below w.heap.size w w' := fun w => as_bool (refhas _ _ _ _ _ _ w) hia
      have R2 : ∀ w : World, Calls Try.prog 24 #[.agg #[.int .i64 a1_0, .int .i64 a1_1, .int .i64 a1_2, .int .i64 a1_3], .int .i64 a2_1, .int .i64 a2_2] w fun e w' => e = .returned (.bool (false)) ∧ Below w.heap.size w w' := fun w => as_bool (refhas _ _ _ _ _ _ w) hib
      have V1 : ∀ w : World, Calls Try.prog 30 #[.agg #[.int .i64 a0_0, .int .i64 a0_1, .int .i64 a0_2, .int .i64 a0_3], .agg #[.int .i64 a1_0, .int .i64 a1_1, .int .i64 a1_2, .int .i64 a1_3]] w fun e w' => e = .returned (.bool (false)) ∧ Below w.heap.size w w' := fun w => as_bool (within _ _ _ _ _ _ _ _ w) (em_wi e1 e2 e3 e4 he)
      have M : ∀ w : World, Calls Try.prog 29 #[.agg #[.int .i64 a0_0, .int .i64 a0_1, .int .i64 a0_2, .int .i64 a0_3], .agg #[.int .i64 a1_0, .int .i64 a1_1, .int .i64 a1_2, .int .i64 a1_3]] w fun e w' => e = .returned (.tuple #[.agg #[.int .i64 0, .int .i64 0, .int .i64 0, .int .i64 0], .bool false]) ∧ Below w.heap.size w w' := fun w => meet_no _ _ _ _ _ _ _ _ _ _ _ _ e1 e2 e3 e4 he w
      have HR1 := Lib.hid R1
      clear R1
      have HR2 := Lib.hid R2
      clear R2
      have HV1 := Lib.hid V1
      clear V1
      have HM := Lib.hid M
      clear M
      clear hmm hia e1 e2 e3 e4 he hib
      go_enter Try.func6, Try.ntmps6
      go_wp2_with fail
      refine (HM.out _).mono ?_
      rintro e w1 ⟨rfl, hb1⟩
      have K1 : Below w.heap.size w w1 ∧ w1.cell? ⟨w.heap.size, 0, none⟩ = some (.int .i64 a0_0) ∧ w1.cell? ⟨w.heap.size, 1, none⟩ = some (.int .i64 a0_1) ∧ w1.cell? ⟨w.heap.size, 2, none⟩ = some (.int .i64 a0_2) ∧ w1.cell? ⟨w.heap.size, 3, none⟩ = some (.int .i64 a0_3) ∧ w1.cell? ⟨w.heap.size + 1, 0, none⟩ = some (.int .i64 a1_0) ∧ w1.cell? ⟨w.heap.size + 1, 1, none⟩ = some (.int .i64 a1_1) ∧ w1.cell? ⟨w.heap.size + 1, 2, none⟩ = some (.int .i64 a1_2) ∧ w1.cell? ⟨w.heap.size + 1, 3, none⟩ = some (.int .i64 a1_3) ∧ w1.cell? ⟨w.heap.size + 1 + 1, 0, none⟩ = some (.int .i64 a2_0) ∧ w1.cell? ⟨w.heap.size + 1 + 1, 1, none⟩ = some (.int .i64 a2_1) ∧ w1.cell? ⟨w.heap.size + 1 + 1, 2, none⟩ = some (.int .i64 a2_2) := by
        refine keep11 (Nat.le_refl _) hb1 ?_
        ((repeat' apply And.intro) <;> first | go_keep | (go_simp; done) | (repeat (first | exact Below.refl _ _ | assumption | refine Below.drew ?_ | refine Below.alloc ?_ (by first | omega | (simp <;> omega)) _)))
      obtain ⟨kb, q0, q1, q2, q3, q4, q5, q6, q7, q8, q9, q10⟩ := K1
      have hz1 : w.heap.size + 1 + 1 < w1.heap.size := by have := hb1.size; simp at this; omega
      have hza : w.heap.size < w1.heap.size := by omega
      have hzb : w.heap.size + 1 < w1.heap.size := by omega
      clear hb1
      go_wp2_with fail
      refine (HR1.out _).mono ?_
      rintro e w2 ⟨rfl, hb2⟩
      have K2 : Below w.heap.size w w2 ∧ w2.cell? ⟨w.heap.size, 0, none⟩ = some (.int .i64 a0_0) ∧ w2.cell? ⟨w.heap.size, 1, none⟩ = some (.int .i64 a0_1) ∧ w2.cell? ⟨w.heap.size, 2, none⟩ = some (.int .i64 a0_2) ∧ w2.cell? ⟨w.heap.size, 3, none⟩ = some (.int .i64 a0_3) ∧ w2.cell? ⟨w.heap.size + 1, 0, none⟩ = some (.int .i64 a1_0) ∧ w2.cell? ⟨w.heap.size + 1, 1, none⟩ = some (.int .i64 a1_1) ∧ w2.cell? ⟨w.heap.size + 1, 2, none⟩ = some (.int .i64 a1_2) ∧ w2.cell? ⟨w.heap.size + 1, 3, none⟩ = some (.int .i64 a1_3) ∧ w2.cell? ⟨w.heap.size + 1 + 1, 0, none⟩ = some (.int .i64 a2_0) ∧ w2.cell? ⟨w.heap.size + 1 + 1, 1, none⟩ = some (.int .i64 a2_1) ∧ w2.cell? ⟨w.heap.size + 1 + 1, 2, none⟩ = some (.int .i64 a2_2) ∧ w2.cell? ⟨w1.heap.size, 0, none⟩ = some (.int .i64 0) ∧ w2.cell? ⟨w1.heap.size, 1, none⟩ = some (.int .i64 0) ∧ w2.cell? ⟨w1.heap.size, 2, none⟩ = some (.int .i64 0) ∧ w2.cell? ⟨w1.heap.size, 3, none⟩ = some (.int .i64 0) := by
        refine keep15 (Nat.le_refl _) hb2 ?_
        ((repeat' apply And.intro) <;> first | go_keep | (go_simp; done) | (repeat (first | exact Below.refl _ _ | assumption | refine Below.drew ?_ | refine Below.alloc ?_ (by first | omega | (simp <;> omega)) _)))
      clear hb2 kb q0 q1 q2 q3 q4 q5 q6 q7 q8 q9 q10
      obtain ⟨kb, q0, q1, q2, q3, q4, q5, q6, q7, q8, q9, q10, q11, q12, q13, q14⟩ := K2
      go_wp2_with fail
      refine (HR2.out _).mono ?_
      rintro e w3 ⟨rfl, hb3⟩
      have K3 : Below w.heap.size w w3 ∧ w3.cell? ⟨w.heap.size, 0, none⟩ = some (.int .i64 a0_0) ∧ w3.cell? ⟨w.heap.size, 1, none⟩ = some (.int .i64 a0_1) ∧ w3.cell? ⟨w.heap.size, 2, none⟩ = some (.int .i64 a0_2) ∧ w3.cell? ⟨w.heap.size, 3, none⟩ = some (.int .i64 a0_3) ∧ w3.cell? ⟨w.heap.size + 1, 0, none⟩ = some (.int .i64 a1_0) ∧ w3.cell? ⟨w.heap.size + 1, 1, none⟩ = some (.int .i64 a1_1) ∧ w3.cell? ⟨w.heap.size + 1, 2, none⟩ = some (.int .i64 a1_2) ∧ w3.cell? ⟨w.heap.size + 1, 3, none⟩ = some (.int .i64 a1_3) ∧ w3.cell? ⟨w.heap.size + 1 + 1, 0, none⟩ = some (.int .i64 a2_0) ∧ w3.cell? ⟨w.heap.size + 1 + 1, 1, none⟩ = some (.int .i64 a2_1) ∧ w3.cell? ⟨w.heap.size + 1 + 1, 2, none⟩ = some (.int .i64 a2_2) ∧ w3.cell? ⟨w1.heap.size, 0, none⟩ = some (.int .i64 0) ∧ w3.cell? ⟨w1.heap.size, 1, none⟩ = some (.int .i64 0) ∧ w3.cell? ⟨w1.heap.size, 2, none⟩ = some (.int .i64 0) ∧ w3.cell? ⟨w1.heap.size, 3, none⟩ = some (.int .i64 0) := by
        refine keep15 (Nat.le_refl _) hb3 ?_
        ((repeat' apply And.intro) <;> first | go_keep | (go_simp; done) | (repeat (first | exact Below.refl _ _ | assumption | refine Below.drew ?_ | refine Below.alloc ?_ (by first | omega | (simp <;> omega)) _)))
      clear hb3 kb q0 q1 q2 q3 q4 q5 q6 q7 q8 q9 q10 q11 q12 q13 q14
      obtain ⟨kb, q0, q1, q2, q3, q4, q5, q6, q7, q8, q9, q10, q11, q12, q13, q14⟩ := K3
      go_wp2_with fail
      refine (HV1.out _).mono ?_
      rintro e w4 ⟨rfl, hb4⟩
      have K4 : Below w.heap.size w w4 ∧ w4.cell? ⟨w.heap.size, 0, none⟩ = some (.int .i64 a0_0) ∧ w4.cell? ⟨w.heap.size, 1, none⟩ = some (.int .i64 a0_1) ∧ w4.cell? ⟨w.heap.size, 2, none⟩ = some (.int .i64 a0_2) ∧ w4.cell? ⟨w.heap.size, 3, none⟩ = some (.int .i64 a0_3) ∧ w4.cell? ⟨w.heap.size + 1, 0, none⟩ = some (.int .i64 a1_0) ∧ w4.cell? ⟨w.heap.size + 1, 1, none⟩ = some (.int .i64 a1_1) ∧ w4.cell? ⟨w.heap.size + 1, 2, none⟩ = some (.int .i64 a1_2) ∧ w4.cell? ⟨w.heap.size + 1, 3, none⟩ = some (.int .i64 a1_3) ∧ w4.cell? ⟨w.heap.size + 1 + 1, 0, none⟩ = some (.int .i64 a2_0) ∧ w4.cell? ⟨w.heap.size + 1 + 1, 1, none⟩ = some (.int .i64 a2_1) ∧ w4.cell? ⟨w.heap.size + 1 + 1, 2, none⟩ = some (.int .i64 a2_2) ∧ w4.cell? ⟨w1.heap.size, 0, none⟩ = some (.int .i64 0) ∧ w4.cell? ⟨w1.heap.size, 1, none⟩ = some (.int .i64 0) ∧ w4.cell? ⟨w1.heap.size, 2, none⟩ = some (.int .i64 0) ∧ w4.cell? ⟨w1.heap.size, 3, none⟩ = some (.int .i64 0) := by
        refine keep15 (Nat.le_refl _) hb4 ?_
        ((repeat' apply And.intro) <;> first | go_keep | (go_simp; done) | (repeat (first | exact Below.refl _ _ | assumption | refine Below.drew ?_ | refine Below.alloc ?_ (by first | omega | (simp <;> omega)) _)))
      clear hb4 kb q0 q1 q2 q3 q4 q5 q6 q7 q8 q9 q10 q11 q12 q13 q14
      obtain ⟨kb, q0, q1, q2, q3, q4, q5, q6, q7, q8, q9, q10, q11, q12, q13, q14⟩ := K4
      go_wp2_with fail
      refine (lives4 _).mono ?_
      rintro e w9 ⟨rfl, hb9⟩
      go_wp2_with fail
      go_ret
      exact ⟨rfl, below_below (Nat.le_refl _) hb9 kb⟩

set_option maxRecDepth 100000 in
theorem lifted (os : Os) (started : os.Started) (H : Type) (enc : TypeId × Value → H) :
    ReturnsInHanded {} Try.checked os 6 .any (Rows.boxMeetsSpec.pre6 enc Try.prog Try.f6 Rows.boxMeetsRow.domain false) (Rows.boxMeetsSpec.post enc Try.prog Try.f6 false true false false) := by
  refine returnsInHanded_of_change (C := Try.checked) own started (by kernel_rfl) Try.func6
    (ChangeSpec.witness6 (enc := enc) (C := Try.checked) false ⟨#[], #[.agg #[.int .i64 0, .int .i64 0, .int .i64 0, .int .i64 0], .agg #[.int .i64 0, .int .i64 0, .int .i64 0, .int .i64 0], .agg #[.int .i64 0, .int .i64 0, .int .i64 0]], []⟩ 8 (by kernel_rfl) (by kernel_rfl) (by kernel_rfl) (by kernel_rfl)) ?_
  intro W base args ds gs before hval0 hW hcnd _
  have hval : ∀ (j : Nat) t v, Try.f6.params[j]? = some t → args[j]? = some v → Value.okWide Try.prog W .any base t v := hval0
  have hW' := hW
  obtain ⟨p, q, hA0, hV, rfl, hfz, hnd⟩ := hW
  have hA : DataW.TrodAll enc Try.prog W 0 (fun _ => true) true Try.f6.params.toList args.toList ds p := hA0
  rw [Try.params6] at hA hval
  obtain ⟨v0, vs0, d0, ds0, p0, q0, hargs, rfl, rfl, h0, rr0⟩ := trodAll_cons hA
  obtain ⟨v1, vs1, d1, ds1, p1, q1, rfl, rfl, rfl, h1, rr1⟩ := trodAll_cons rr0
  obtain ⟨v2, vs2, d2, ds2, p2, q2, rfl, rfl, rfl, h2, rr2⟩ := trodAll_cons rr1
  obtain ⟨rfl, rfl, rfl⟩ := trodAll_nil rr2
  obtain rfl : args = #[v0, v1, v2] := by cases args; simp_all
  obtain ⟨rfl, rfl⟩ := trodVars_none hV
  have k0 := h0
  have lt0 : ∀ x ∈ p0, x.block < W.heap.size := by obtain ⟨m, hm⟩ := k0; exact DataW.trod_lt m _ _ _ hm
  obtain ⟨e0_0, e0_1, e0_2, e0_3, y0_0, y0_1, y0_2, y0_3, q0, rfl, _, _, t0_0, t0_1, t0_2, t0_3⟩ := open_agg4 Try.underlying43 (by kernel_rfl) (by kernel_rfl) (hval 0 43 v0 rfl rfl) h0
  obtain ⟨a0_0, g0_0, _, w0_0⟩ := DataW.trod_int Try.underlying3 t0_0
  simp only [List.cons.injEq, and_true] at g0_0
  subst g0_0
  obtain ⟨a0_1, g0_1, _, w0_1⟩ := DataW.trod_int Try.underlying3 t0_1
  simp only [List.cons.injEq, and_true] at g0_1
  subst g0_1
  obtain ⟨a0_2, g0_2, _, w0_2⟩ := DataW.trod_int Try.underlying3 t0_2
  simp only [List.cons.injEq, and_true] at g0_2
  subst g0_2
  obtain ⟨a0_3, g0_3, _, w0_3⟩ := DataW.trod_int Try.underlying3 t0_3
  simp only [List.cons.injEq, and_true] at g0_3
  subst g0_3
  have k1 := h1
  have lt1 : ∀ x ∈ p1, x.block < W.heap.size := by obtain ⟨m, hm⟩ := k1; exact DataW.trod_lt m _ _ _ hm
  obtain ⟨e1_0, e1_1, e1_2, e1_3, y1_0, y1_1, y1_2, y1_3, q1, rfl, _, _, t1_0, t1_1, t1_2, t1_3⟩ := open_agg4 Try.underlying43 (by kernel_rfl) (by kernel_rfl) (hval 1 43 v1 rfl rfl) h1
  obtain ⟨a1_0, g1_0, _, w1_0⟩ := DataW.trod_int Try.underlying3 t1_0
  simp only [List.cons.injEq, and_true] at g1_0
  subst g1_0
  obtain ⟨a1_1, g1_1, _, w1_1⟩ := DataW.trod_int Try.underlying3 t1_1
  simp only [List.cons.injEq, and_true] at g1_1
  subst g1_1
  obtain ⟨a1_2, g1_2, _, w1_2⟩ := DataW.trod_int Try.underlying3 t1_2
  simp only [List.cons.injEq, and_true] at g1_2
  subst g1_2
  obtain ⟨a1_3, g1_3, _, w1_3⟩ := DataW.trod_int Try.underlying3 t1_3
  simp only [List.cons.injEq, and_true] at g1_3
  subst g1_3
  have k2 := h2
  have lt2 : ∀ x ∈ p2, x.block < W.heap.size := by obtain ⟨m, hm⟩ := k2; exact DataW.trod_lt m _ _ _ hm
  obtain ⟨e2_0, e2_1, e2_2, y2_0, y2_1, y2_2, q2, rfl, _, _, t2_0, t2_1, t2_2⟩ := open_agg3 Try.underlying33 (by kernel_rfl) (by kernel_rfl) (hval 2 33 v2 rfl rfl) h2
  obtain ⟨a2_0, g2_0, _, w2_0⟩ := DataW.trod_int Try.underlying3 t2_0
  simp only [List.cons.injEq, and_true] at g2_0
  subst g2_0
  obtain ⟨a2_1, g2_1, _, w2_1⟩ := DataW.trod_int Try.underlying3 t2_1
  simp only [List.cons.injEq, and_true] at g2_1
  subst g2_1
  obtain ⟨a2_2, g2_2, _, w2_2⟩ := DataW.trod_int Try.underlying3 t2_2
  simp only [List.cons.injEq, and_true] at g2_2
  subst g2_2
  clear hA0 hval0
  refine (walk a0_0 a0_1 a0_2 a0_3 a1_0 a1_1 a1_2 a1_3 a2_0 a2_1 a2_2 W w0_0 w0_1 w0_2 w0_3 w1_0 w1_1 w1_2 w1_3 w2_0 w2_1 w2_2).mono fun e W' ⟨he, bel⟩ => ?_
  subst he
  exact ⟨_, rfl, _, _, _, [], _, [], hW', trodAll_mk1 (shut_bool Try.underlying4 _), (trodAll_cons_mk (Below.trod laidOut (by kernel_rfl) (of_decide_eq_true (by kernel_rfl)) k0 bel lt0) (trodAll_cons_mk (Below.trod laidOut (by kernel_rfl) (of_decide_eq_true (by kernel_rfl)) k1 bel lt1) (trodAll_cons_mk (Below.trod laidOut (by kernel_rfl) (of_decide_eq_true (by kernel_rfl)) k2 bel lt2) trodAll_mk0))), rfl, bel.frame _, fun h => by cases h⟩

theorem over : Rows.boxMeetsRow.holds Try.pinned (OpenSpec.ofChange Rows.boxMeetsSpec) :=
  OpenClaim.holds_of_wide 6 Try.f6 rfl rfl rfl rfl rfl rfl rfl ⟨rfl, rfl, rfl, rfl, rfl⟩ rfl rfl rfl rfl rfl (by kernel_rfl) Try.func6 (by kernel_rfl)
    (of_decide_eq_true (by kernel_rfl)) (by unfold Func.isWrapper; first | (rw [if_pos (by decide +kernel)]; kernel_rfl) | (rw [if_neg (by decide +kernel)]; exact ⟨rfl, rfl⟩))
    (fun os started H enc _ => lifted os started H enc)

theorem proved : Rows.BoxMeetsSaid := over
#print axioms proved
end Go.Proofs.Ytjfdlamfklhodab.boxMeets
