/- Which boxes and windows may be, and which places lie in any, is as the document says, for any box, window and point. No condition. -/
import Derived.Test.YtjfdlamfklhodabRows
import Derived.WalkKit
import Derived.ProofKit
import Derived.OpenShut
import Derived.ChangeOld
import Derived.Below
import Derived.Outline
import Derived.Lib.SmallJoins
import Derived.Test.YtjfdlamfklhodabB5
import Derived.Test.YtjfdlamfklhodabG
set_option linter.unusedVariables false
namespace Go.Proofs.Ytjfdlamfklhodab.boxChecks
open Go.ChangeShapes Go.WideShapes Go.ChangeAt Go.RowKit Go.Joins

theorem own : ownKnob Try.prog.godebug = none := by kernel_rfl
theorem laidOut : laidOutB Try.prog = true := by kernel_rfl

set_option maxHeartbeats 16000000 in
theorem walk (a0_0 a0_1 a0_2 a0_3 : Int) (a1_0 a1_1 a1_2 : Int) (a2_0 a2_1 a2_2 : Int) (w : World) (w0_0 : (Lit.int .i64 a0_0).wf = true) (w0_1 : (Lit.int .i64 a0_1).wf = true) (w0_2 : (Lit.int .i64 a0_2).wf = true) (w0_3 : (Lit.int .i64 a0_3).wf = true) (w1_0 : (Lit.int .i64 a1_0).wf = true) (w1_1 : (Lit.int .i64 a1_1).wf = true) (w1_2 : (Lit.int .i64 a1_2).wf = true) (w2_0 : (Lit.int .i64 a2_0).wf = true) (w2_1 : (Lit.int .i64 a2_1).wf = true) (w2_2 : (Lit.int .i64 a2_2).wf = true) :
    Calls Try.prog 5 #[.agg #[.int .i64 a0_0, .int .i64 a0_1, .int .i64 a0_2, .int .i64 a0_3], .agg #[.int .i64 a1_0, .int .i64 a1_1, .int .i64 a1_2], .agg #[.int .i64 a2_0, .int .i64 a2_1, .int .i64 a2_2]] w fun e w' => e = .returned (.bool true) ∧ Below w.heap.size w w' := by
  cases hg : [a1_0, a1_1, a1_2].all coB
  · skip
    have hck : ckE a1_0 a1_1 a1_2 1099511627776 = 2 := by rw [op_ck]; unfold opE; rw [hg]; simp
    have M : ∀ w : World, Calls Try.prog 19 #[.agg #[.int .i64 a1_0, .int .i64 a1_1, .int .i64 a1_2]] w fun e w' => e = .returned (.tuple #[.agg #[.int .i64 0, .int .i64 0, .int .i64 0, .int .i64 0], .int .i64 2]) ∧ Below w.heap.size w w' := fun w => open_no _ _ _ _ (Or.inr ⟨hg, rfl⟩) w
    have R : ∀ w : World, Calls Try.prog 27 #[.agg #[.int .i64 a1_0, .int .i64 a1_1, .int .i64 a1_2]] w fun e w' => e = .returned (.int .i64 2) ∧ Below w.heap.size w w' := fun w => by rw [← hck]; exact refwin _ _ _ w
    have HM := Lib.hid M
    have HR := Lib.hid R
    clear M R hck hg
    go_enter Try.func5, Try.ntmps5
    go_wp2_with fail
    refine (HM.out _).mono ?_
    rintro e w1 ⟨rfl, hb1⟩
    have K1 : Below w.heap.size w w1 ∧ w1.cell? ⟨w.heap.size, 0, none⟩ = some (.int .i64 a0_0) ∧ w1.cell? ⟨w.heap.size, 1, none⟩ = some (.int .i64 a0_1) ∧ w1.cell? ⟨w.heap.size, 2, none⟩ = some (.int .i64 a0_2) ∧ w1.cell? ⟨w.heap.size, 3, none⟩ = some (.int .i64 a0_3) ∧ w1.cell? ⟨w.heap.size + 1, 0, none⟩ = some (.int .i64 a1_0) ∧ w1.cell? ⟨w.heap.size + 1, 1, none⟩ = some (.int .i64 a1_1) ∧ w1.cell? ⟨w.heap.size + 1, 2, none⟩ = some (.int .i64 a1_2) ∧ w1.cell? ⟨w.heap.size + 1 + 1, 0, none⟩ = some (.int .i64 a2_0) ∧ w1.cell? ⟨w.heap.size + 1 + 1, 1, none⟩ = some (.int .i64 a2_1) ∧ w1.cell? ⟨w.heap.size + 1 + 1, 2, none⟩ = some (.int .i64 a2_2) := by
      refine keep10 (Nat.le_refl _) hb1 ?_
      ((repeat' apply And.intro) <;> first | go_keep | (go_simp; done) | (repeat (first | exact Below.refl _ _ | assumption | refine Below.drew ?_ | refine Below.alloc ?_ (by first | omega | (simp <;> omega)) _ | refine Below.setCell ?_ (by first | omega | (simp <;> omega)) _)))
    obtain ⟨kb, q0, q1, q2, q3, q4, q5, q6, q7, q8, q9⟩ := K1
    have hz1 : w.heap.size + 1 + 1 < w1.heap.size := by have := hb1.size; simp at this; omega
    have hza : w.heap.size < w1.heap.size := by omega
    have hzb : w.heap.size + 1 < w1.heap.size := by omega
    clear hb1
    go_wp2_with fail
    refine (all_ _).mono ?_
    rintro e w2 ⟨rfl, hb2⟩
    have K2 : Below w.heap.size w w2 ∧ w2.cell? ⟨w.heap.size, 0, none⟩ = some (.int .i64 a0_0) ∧ w2.cell? ⟨w.heap.size, 1, none⟩ = some (.int .i64 a0_1) ∧ w2.cell? ⟨w.heap.size, 2, none⟩ = some (.int .i64 a0_2) ∧ w2.cell? ⟨w.heap.size, 3, none⟩ = some (.int .i64 a0_3) ∧ w2.cell? ⟨w.heap.size + 1, 0, none⟩ = some (.int .i64 a1_0) ∧ w2.cell? ⟨w.heap.size + 1, 1, none⟩ = some (.int .i64 a1_1) ∧ w2.cell? ⟨w.heap.size + 1, 2, none⟩ = some (.int .i64 a1_2) ∧ w2.cell? ⟨w.heap.size + 1 + 1, 0, none⟩ = some (.int .i64 a2_0) ∧ w2.cell? ⟨w.heap.size + 1 + 1, 1, none⟩ = some (.int .i64 a2_1) ∧ w2.cell? ⟨w.heap.size + 1 + 1, 2, none⟩ = some (.int .i64 a2_2) ∧ w2.cell? ⟨w1.heap.size, 0, none⟩ = some (.int .i64 0) ∧ w2.cell? ⟨w1.heap.size, 1, none⟩ = some (.int .i64 0) ∧ w2.cell? ⟨w1.heap.size, 2, none⟩ = some (.int .i64 0) ∧ w2.cell? ⟨w1.heap.size, 3, none⟩ = some (.int .i64 0) ∧ w2.cell? ⟨w1.heap.size + 1, 0, none⟩ = some (.int .i64 0) ∧ w2.cell? ⟨w1.heap.size + 1, 1, none⟩ = some (.int .i64 0) ∧ w2.cell? ⟨w1.heap.size + 1, 2, none⟩ = some (.int .i64 0) ∧ w2.cell? ⟨w1.heap.size + 1, 3, none⟩ = some (.int .i64 0) := by
      refine keep18 (Nat.le_refl _) hb2 ?_
      ((repeat' apply And.intro) <;> first | go_keep | (go_simp; done) | (repeat (first | exact Below.refl _ _ | assumption | refine Below.drew ?_ | refine Below.alloc ?_ (by first | omega | (simp <;> omega)) _ | refine Below.setCell ?_ (by first | omega | (simp <;> omega)) _)))
    have hz2 : w1.heap.size + 1 < w2.heap.size := by have := hb2.size; simp at this; omega
    have hz3 : w1.heap.size < w2.heap.size := by omega
    have hz4 : w.heap.size + 1 + 1 < w2.heap.size := by omega
    have hz5 : w.heap.size + 1 < w2.heap.size := by omega
    have hz6 : w.heap.size < w2.heap.size := by omega
    clear hb2 kb q0 q1 q2 q3 q4 q5 q6 q7 q8 q9
    obtain ⟨kb, q0, q1, q2, q3, q4, q5, q6, q7, q8, q9, q10, q11, q12, q13, q14, q15, q16, q17⟩ := K2
    have heq : ∀ W : World, (binOp .eql 43 (.agg #[.int .i64 0, .int .i64 0, .int .i64 0, .int .i64 0]) (.agg #[.int .i64 0, .int .i64 0, .int .i64 0, .int .i64 0])).run Try.prog W = .ok (.bool true) W := fun W => by rw [eq_box]; simp
    have heq2 : ∀ W : World, (binOp .eql 43 (.agg #[.int .i64 (-1099511627776), .int .i64 1099511627776, .int .i64 (-1099511627776), .int .i64 1099511627776]) (.agg #[.int .i64 (-1099511627776), .int .i64 1099511627776, .int .i64 (-1099511627776), .int .i64 1099511627776])).run Try.prog W = .ok (.bool true) W := fun W => by rw [eq_box]; simp
    go_wp2_with fail
    go_region_held3 (fun w' => Below w.heap.size w w' ∧ w'.cell? ⟨w.heap.size, 0, none⟩ = some (.int .i64 a0_0) ∧ w'.cell? ⟨w.heap.size, 1, none⟩ = some (.int .i64 a0_1) ∧ w'.cell? ⟨w.heap.size, 2, none⟩ = some (.int .i64 a0_2) ∧ w'.cell? ⟨w.heap.size, 3, none⟩ = some (.int .i64 a0_3) ∧ w'.cell? ⟨w.heap.size + 1, 0, none⟩ = some (.int .i64 a1_0) ∧ w'.cell? ⟨w.heap.size + 1, 1, none⟩ = some (.int .i64 a1_1) ∧ w'.cell? ⟨w.heap.size + 1, 2, none⟩ = some (.int .i64 a1_2) ∧ w'.cell? ⟨w.heap.size + 1 + 1, 0, none⟩ = some (.int .i64 a2_0) ∧ w'.cell? ⟨w.heap.size + 1 + 1, 1, none⟩ = some (.int .i64 a2_1) ∧ w'.cell? ⟨w.heap.size + 1 + 1, 2, none⟩ = some (.int .i64 a2_2) ∧ w'.cell? ⟨w1.heap.size, 0, none⟩ = some (.int .i64 0) ∧ w'.cell? ⟨w1.heap.size, 1, none⟩ = some (.int .i64 0) ∧ w'.cell? ⟨w1.heap.size, 2, none⟩ = some (.int .i64 0) ∧ w'.cell? ⟨w1.heap.size, 3, none⟩ = some (.int .i64 0) ∧ w'.cell? ⟨w1.heap.size + 1, 0, none⟩ = some (.int .i64 0) ∧ w'.cell? ⟨w1.heap.size + 1, 1, none⟩ = some (.int .i64 0) ∧ w'.cell? ⟨w1.heap.size + 1, 2, none⟩ = some (.int .i64 0) ∧ w'.cell? ⟨w1.heap.size + 1, 3, none⟩ = some (.int .i64 0) ∧ w'.cell? ⟨w2.heap.size, 0, none⟩ = some (.int .i64 (-1099511627776)) ∧ w'.cell? ⟨w2.heap.size, 1, none⟩ = some (.int .i64 1099511627776) ∧ w'.cell? ⟨w2.heap.size, 2, none⟩ = some (.int .i64 (-1099511627776)) ∧ w'.cell? ⟨w2.heap.size, 3, none⟩ = some (.int .i64 1099511627776)) (first | exact keep22 (Nat.le_refl _) hbx ‹_› | ((repeat' apply And.intro) <;> first | go_keep | (go_simp; done) | (repeat (first | exact Below.refl _ _ | assumption | refine Below.drew ?_ | refine Below.alloc ?_ (by first | omega | (simp <;> omega)) _ | refine Below.setCell ?_ (by first | omega | (simp <;> omega)) _)))) (first | (go_at_call 21; ((with_reducible refine (check _ _ _ _ _).mono ?_); rintro e wx ⟨rfl, hbx⟩)) | (go_at_call 22; ((with_reducible refine (refcheck _ _ _ _ _).mono ?_); rintro e wx ⟨rfl, hbx⟩)) | (go_at_call 23; ((with_reducible refine (has _ _ _ _ _ _ _ _).mono ?_); rintro e wx ⟨rfl, hbx⟩)) | (go_at_call 24; ((with_reducible refine (refhas _ _ _ _ _ _ _).mono ?_); rintro e wx ⟨rfl, hbx⟩)) | (go_at_call 25; ((with_reducible refine (sees _ _ _ _ _ _ _).mono ?_); rintro e wx ⟨rfl, hbx⟩)) | (go_at_call 26; ((with_reducible refine (refsees _ _ _ _ _ _).mono ?_); rintro e wx ⟨rfl, hbx⟩)) | (go_at_call 27; ((with_reducible refine (HR.out _).mono ?_); rintro e wx ⟨rfl, hbx⟩)) | (go_at_call 28; refine (lives4 _).mono ?_; rintro e wx ⟨rfl, hbx⟩))
    go_wp2_with fail
    go_ret
    exact ⟨rfl, ((‹_› : Below w.heap.size w _ ∧ _)).1⟩
  · by_cases hl : a1_0 ≤ a1_1
    · skip
      have hck : ckE a1_0 a1_1 a1_2 1099511627776 = 0 := by rw [op_ck]; unfold opE; rw [if_pos hg, if_neg (by omega)]
      have M : ∀ w : World, Calls Try.prog 19 #[.agg #[.int .i64 a1_0, .int .i64 a1_1, .int .i64 a1_2]] w fun e w' => e = .returned (.tuple #[.agg #[.int .i64 a1_0, .int .i64 a1_1, .int .i64 a1_2, .int .i64 1099511627776], .int .i64 0]) ∧ Below w.heap.size w w' := fun w => open_yes _ _ _ hg hl w
      have R : ∀ w : World, Calls Try.prog 27 #[.agg #[.int .i64 a1_0, .int .i64 a1_1, .int .i64 a1_2]] w fun e w' => e = .returned (.int .i64 0) ∧ Below w.heap.size w w' := fun w => by rw [← hck]; exact refwin _ _ _ w
      have HM := Lib.hid M
      have HR := Lib.hid R
      clear M R hck hg hl
      go_enter Try.func5, Try.ntmps5
      go_wp2_with fail
      refine (HM.out _).mono ?_
      rintro e w1 ⟨rfl, hb1⟩
      have K1 : Below w.heap.size w w1 ∧ w1.cell? ⟨w.heap.size, 0, none⟩ = some (.int .i64 a0_0) ∧ w1.cell? ⟨w.heap.size, 1, none⟩ = some (.int .i64 a0_1) ∧ w1.cell? ⟨w.heap.size, 2, none⟩ = some (.int .i64 a0_2) ∧ w1.cell? ⟨w.heap.size, 3, none⟩ = some (.int .i64 a0_3) ∧ w1.cell? ⟨w.heap.size + 1, 0, none⟩ = some (.int .i64 a1_0) ∧ w1.cell? ⟨w.heap.size + 1, 1, none⟩ = some (.int .i64 a1_1) ∧ w1.cell? ⟨w.heap.size + 1, 2, none⟩ = some (.int .i64 a1_2) ∧ w1.cell? ⟨w.heap.size + 1 + 1, 0, none⟩ = some (.int .i64 a2_0) ∧ w1.cell? ⟨w.heap.size + 1 + 1, 1, none⟩ = some (.int .i64 a2_1) ∧ w1.cell? ⟨w.heap.size + 1 + 1, 2, none⟩ = some (.int .i64 a2_2) := by
        refine keep10 (Nat.le_refl _) hb1 ?_
        ((repeat' apply And.intro) <;> first | go_keep | (go_simp; done) | (repeat (first | exact Below.refl _ _ | assumption | refine Below.drew ?_ | refine Below.alloc ?_ (by first | omega | (simp <;> omega)) _ | refine Below.setCell ?_ (by first | omega | (simp <;> omega)) _)))
      obtain ⟨kb, q0, q1, q2, q3, q4, q5, q6, q7, q8, q9⟩ := K1
      have hz1 : w.heap.size + 1 + 1 < w1.heap.size := by have := hb1.size; simp at this; omega
      have hza : w.heap.size < w1.heap.size := by omega
      have hzb : w.heap.size + 1 < w1.heap.size := by omega
      clear hb1
      go_wp2_with fail
      refine (all_ _).mono ?_
      rintro e w2 ⟨rfl, hb2⟩
      have K2 : Below w.heap.size w w2 ∧ w2.cell? ⟨w.heap.size, 0, none⟩ = some (.int .i64 a0_0) ∧ w2.cell? ⟨w.heap.size, 1, none⟩ = some (.int .i64 a0_1) ∧ w2.cell? ⟨w.heap.size, 2, none⟩ = some (.int .i64 a0_2) ∧ w2.cell? ⟨w.heap.size, 3, none⟩ = some (.int .i64 a0_3) ∧ w2.cell? ⟨w.heap.size + 1, 0, none⟩ = some (.int .i64 a1_0) ∧ w2.cell? ⟨w.heap.size + 1, 1, none⟩ = some (.int .i64 a1_1) ∧ w2.cell? ⟨w.heap.size + 1, 2, none⟩ = some (.int .i64 a1_2) ∧ w2.cell? ⟨w.heap.size + 1 + 1, 0, none⟩ = some (.int .i64 a2_0) ∧ w2.cell? ⟨w.heap.size + 1 + 1, 1, none⟩ = some (.int .i64 a2_1) ∧ w2.cell? ⟨w.heap.size + 1 + 1, 2, none⟩ = some (.int .i64 a2_2) ∧ w2.cell? ⟨w1.heap.size, 0, none⟩ = some (.int .i64 a1_0) ∧ w2.cell? ⟨w1.heap.size, 1, none⟩ = some (.int .i64 a1_1) ∧ w2.cell? ⟨w1.heap.size, 2, none⟩ = some (.int .i64 a1_2) ∧ w2.cell? ⟨w1.heap.size, 3, none⟩ = some (.int .i64 1099511627776) ∧ w2.cell? ⟨w1.heap.size + 1, 0, none⟩ = some (.int .i64 a1_0) ∧ w2.cell? ⟨w1.heap.size + 1, 1, none⟩ = some (.int .i64 a1_1) ∧ w2.cell? ⟨w1.heap.size + 1, 2, none⟩ = some (.int .i64 a1_2) ∧ w2.cell? ⟨w1.heap.size + 1, 3, none⟩ = some (.int .i64 1099511627776) := by
        refine keep18 (Nat.le_refl _) hb2 ?_
        ((repeat' apply And.intro) <;> first | go_keep | (go_simp; done) | (repeat (first | exact Below.refl _ _ | assumption | refine Below.drew ?_ | refine Below.alloc ?_ (by first | omega | (simp <;> omega)) _ | refine Below.setCell ?_ (by first | omega | (simp <;> omega)) _)))
      have hz2 : w1.heap.size + 1 < w2.heap.size := by have := hb2.size; simp at this; omega
      have hz3 : w1.heap.size < w2.heap.size := by omega
      have hz4 : w.heap.size + 1 + 1 < w2.heap.size := by omega
      have hz5 : w.heap.size + 1 < w2.heap.size := by omega
      have hz6 : w.heap.size < w2.heap.size := by omega
      clear hb2 kb q0 q1 q2 q3 q4 q5 q6 q7 q8 q9
      obtain ⟨kb, q0, q1, q2, q3, q4, q5, q6, q7, q8, q9, q10, q11, q12, q13, q14, q15, q16, q17⟩ := K2
      have heq : ∀ W : World, (binOp .eql 43 (.agg #[.int .i64 a1_0, .int .i64 a1_1, .int .i64 a1_2, .int .i64 1099511627776]) (.agg #[.int .i64 a1_0, .int .i64 a1_1, .int .i64 a1_2, .int .i64 1099511627776])).run Try.prog W = .ok (.bool true) W := fun W => by rw [eq_box]; simp
      have heq2 : ∀ W : World, (binOp .eql 43 (.agg #[.int .i64 (-1099511627776), .int .i64 1099511627776, .int .i64 (-1099511627776), .int .i64 1099511627776]) (.agg #[.int .i64 (-1099511627776), .int .i64 1099511627776, .int .i64 (-1099511627776), .int .i64 1099511627776])).run Try.prog W = .ok (.bool true) W := fun W => by rw [eq_box]; simp
      go_wp2_with fail
      go_region_held3 (fun w' => Below w.heap.size w w' ∧ w'.cell? ⟨w.heap.size, 0, none⟩ = some (.int .i64 a0_0) ∧ w'.cell? ⟨w.heap.size, 1, none⟩ = some (.int .i64 a0_1) ∧ w'.cell? ⟨w.heap.size, 2, none⟩ = some (.int .i64 a0_2) ∧ w'.cell? ⟨w.heap.size, 3, none⟩ = some (.int .i64 a0_3) ∧ w'.cell? ⟨w.heap.size + 1, 0, none⟩ = some (.int .i64 a1_0) ∧ w'.cell? ⟨w.heap.size + 1, 1, none⟩ = some (.int .i64 a1_1) ∧ w'.cell? ⟨w.heap.size + 1, 2, none⟩ = some (.int .i64 a1_2) ∧ w'.cell? ⟨w.heap.size + 1 + 1, 0, none⟩ = some (.int .i64 a2_0) ∧ w'.cell? ⟨w.heap.size + 1 + 1, 1, none⟩ = some (.int .i64 a2_1) ∧ w'.cell? ⟨w.heap.size + 1 + 1, 2, none⟩ = some (.int .i64 a2_2) ∧ w'.cell? ⟨w1.heap.size, 0, none⟩ = some (.int .i64 a1_0) ∧ w'.cell? ⟨w1.heap.size, 1, none⟩ = some (.int .i64 a1_1) ∧ w'.cell? ⟨w1.heap.size, 2, none⟩ = some (.int .i64 a1_2) ∧ w'.cell? ⟨w1.heap.size, 3, none⟩ = some (.int .i64 1099511627776) ∧ w'.cell? ⟨w1.heap.size + 1, 0, none⟩ = some (.int .i64 a1_0) ∧ w'.cell? ⟨w1.heap.size + 1, 1, none⟩ = some (.int .i64 a1_1) ∧ w'.cell? ⟨w1.heap.size + 1, 2, none⟩ = some (.int .i64 a1_2) ∧ w'.cell? ⟨w1.heap.size + 1, 3, none⟩ = some (.int .i64 1099511627776) ∧ w'.cell? ⟨w2.heap.size, 0, none⟩ = some (.int .i64 (-1099511627776)) ∧ w'.cell? ⟨w2.heap.size, 1, none⟩ = some (.int .i64 1099511627776) ∧ w'.cell? ⟨w2.heap.size, 2, none⟩ = some (.int .i64 (-1099511627776)) ∧ w'.cell? ⟨w2.heap.size, 3, none⟩ = some (.int .i64 1099511627776)) (first | exact keep22 (Nat.le_refl _) hbx ‹_› | ((repeat' apply And.intro) <;> first | go_keep | (go_simp; done) | (repeat (first | exact Below.refl _ _ | assumption | refine Below.drew ?_ | refine Below.alloc ?_ (by first | omega | (simp <;> omega)) _ | refine Below.setCell ?_ (by first | omega | (simp <;> omega)) _)))) (first | (go_at_call 21; ((with_reducible refine (check _ _ _ _ _).mono ?_); rintro e wx ⟨rfl, hbx⟩)) | (go_at_call 22; ((with_reducible refine (refcheck _ _ _ _ _).mono ?_); rintro e wx ⟨rfl, hbx⟩)) | (go_at_call 23; ((with_reducible refine (has _ _ _ _ _ _ _ _).mono ?_); rintro e wx ⟨rfl, hbx⟩)) | (go_at_call 24; ((with_reducible refine (refhas _ _ _ _ _ _ _).mono ?_); rintro e wx ⟨rfl, hbx⟩)) | (go_at_call 25; ((with_reducible refine (sees _ _ _ _ _ _ _).mono ?_); rintro e wx ⟨rfl, hbx⟩)) | (go_at_call 26; ((with_reducible refine (refsees _ _ _ _ _ _).mono ?_); rintro e wx ⟨rfl, hbx⟩)) | (go_at_call 27; ((with_reducible refine (HR.out _).mono ?_); rintro e wx ⟨rfl, hbx⟩)) | (go_at_call 28; refine (lives4 _).mono ?_; rintro e wx ⟨rfl, hbx⟩))
      go_wp2_with fail
      go_ret
      exact ⟨rfl, ((‹_› : Below w.heap.size w _ ∧ _)).1⟩
    · skip
      have hck : ckE a1_0 a1_1 a1_2 1099511627776 = 3 := by rw [op_ck]; unfold opE; rw [hg]; simp; omega
      have M : ∀ w : World, Calls Try.prog 19 #[.agg #[.int .i64 a1_0, .int .i64 a1_1, .int .i64 a1_2]] w fun e w' => e = .returned (.tuple #[.agg #[.int .i64 0, .int .i64 0, .int .i64 0, .int .i64 0], .int .i64 3]) ∧ Below w.heap.size w w' := fun w => open_no _ _ _ _ (Or.inl ⟨hg, by omega, rfl⟩) w
      have R : ∀ w : World, Calls Try.prog 27 #[.agg #[.int .i64 a1_0, .int .i64 a1_1, .int .i64 a1_2]] w fun e w' => e = .returned (.int .i64 3) ∧ Below w.heap.size w w' := fun w => by rw [← hck]; exact refwin _ _ _ w
      have HM := Lib.hid M
      have HR := Lib.hid R
      clear M R hck hg hl
      go_enter Try.func5, Try.ntmps5
      go_wp2_with fail
      refine (HM.out _).mono ?_
      rintro e w1 ⟨rfl, hb1⟩
      have K1 : Below w.heap.size w w1 ∧ w1.cell? ⟨w.heap.size, 0, none⟩ = some (.int .i64 a0_0) ∧ w1.cell? ⟨w.heap.size, 1, none⟩ = some (.int .i64 a0_1) ∧ w1.cell? ⟨w.heap.size, 2, none⟩ = some (.int .i64 a0_2) ∧ w1.cell? ⟨w.heap.size, 3, none⟩ = some (.int .i64 a0_3) ∧ w1.cell? ⟨w.heap.size + 1, 0, none⟩ = some (.int .i64 a1_0) ∧ w1.cell? ⟨w.heap.size + 1, 1, none⟩ = some (.int .i64 a1_1) ∧ w1.cell? ⟨w.heap.size + 1, 2, none⟩ = some (.int .i64 a1_2) ∧ w1.cell? ⟨w.heap.size + 1 + 1, 0, none⟩ = some (.int .i64 a2_0) ∧ w1.cell? ⟨w.heap.size + 1 + 1, 1, none⟩ = some (.int .i64 a2_1) ∧ w1.cell? ⟨w.heap.size + 1 + 1, 2, none⟩ = some (.int .i64 a2_2) := by
        refine keep10 (Nat.le_refl _) hb1 ?_
        ((repeat' apply And.intro) <;> first | go_keep | (go_simp; done) | (repeat (first | exact Below.refl _ _ | assumption | refine Below.drew ?_ | refine Below.alloc ?_ (by first | omega | (simp <;> omega)) _ | refine Below.setCell ?_ (by first | omega | (simp <;> omega)) _)))
      obtain ⟨kb, q0, q1, q2, q3, q4, q5, q6, q7, q8, q9⟩ := K1
      have hz1 : w.heap.size + 1 + 1 < w1.heap.size := by have := hb1.size; simp at this; omega
      have hza : w.heap.size < w1.heap.size := by omega
      have hzb : w.heap.size + 1 < w1.heap.size := by omega
      clear hb1
      go_wp2_with fail
      refine (all_ _).mono ?_
      rintro e w2 ⟨rfl, hb2⟩
      have K2 : Below w.heap.size w w2 ∧ w2.cell? ⟨w.heap.size, 0, none⟩ = some (.int .i64 a0_0) ∧ w2.cell? ⟨w.heap.size, 1, none⟩ = some (.int .i64 a0_1) ∧ w2.cell? ⟨w.heap.size, 2, none⟩ = some (.int .i64 a0_2) ∧ w2.cell? ⟨w.heap.size, 3, none⟩ = some (.int .i64 a0_3) ∧ w2.cell? ⟨w.heap.size + 1, 0, none⟩ = some (.int .i64 a1_0) ∧ w2.cell? ⟨w.heap.size + 1, 1, none⟩ = some (.int .i64 a1_1) ∧ w2.cell? ⟨w.heap.size + 1, 2, none⟩ = some (.int .i64 a1_2) ∧ w2.cell? ⟨w.heap.size + 1 + 1, 0, none⟩ = some (.int .i64 a2_0) ∧ w2.cell? ⟨w.heap.size + 1 + 1, 1, none⟩ = some (.int .i64 a2_1) ∧ w2.cell? ⟨w.heap.size + 1 + 1, 2, none⟩ = some (.int .i64 a2_2) ∧ w2.cell? ⟨w1.heap.size, 0, none⟩ = some (.int .i64 0) ∧ w2.cell? ⟨w1.heap.size, 1, none⟩ = some (.int .i64 0) ∧ w2.cell? ⟨w1.heap.size, 2, none⟩ = some (.int .i64 0) ∧ w2.cell? ⟨w1.heap.size, 3, none⟩ = some (.int .i64 0) ∧ w2.cell? ⟨w1.heap.size + 1, 0, none⟩ = some (.int .i64 0) ∧ w2.cell? ⟨w1.heap.size + 1, 1, none⟩ = some (.int .i64 0) ∧ w2.cell? ⟨w1.heap.size + 1, 2, none⟩ = some (.int .i64 0) ∧ w2.cell? ⟨w1.heap.size + 1, 3, none⟩ = some (.int .i64 0) := by
        refine keep18 (Nat.le_refl _) hb2 ?_
        ((repeat' apply And.intro) <;> first | go_keep | (go_simp; done) | (repeat (first | exact Below.refl _ _ | assumption | refine Below.drew ?_ | refine Below.alloc ?_ (by first | omega | (simp <;> omega)) _ | refine Below.setCell ?_ (by first | omega | (simp <;> omega)) _)))
      have hz2 : w1.heap.size + 1 < w2.heap.size := by have := hb2.size; simp at this; omega
      have hz3 : w1.heap.size < w2.heap.size := by omega
      have hz4 : w.heap.size + 1 + 1 < w2.heap.size := by omega
      have hz5 : w.heap.size + 1 < w2.heap.size := by omega
      have hz6 : w.heap.size < w2.heap.size := by omega
      clear hb2 kb q0 q1 q2 q3 q4 q5 q6 q7 q8 q9
      obtain ⟨kb, q0, q1, q2, q3, q4, q5, q6, q7, q8, q9, q10, q11, q12, q13, q14, q15, q16, q17⟩ := K2
      have heq : ∀ W : World, (binOp .eql 43 (.agg #[.int .i64 0, .int .i64 0, .int .i64 0, .int .i64 0]) (.agg #[.int .i64 0, .int .i64 0, .int .i64 0, .int .i64 0])).run Try.prog W = .ok (.bool true) W := fun W => by rw [eq_box]; simp
      have heq2 : ∀ W : World, (binOp .eql 43 (.agg #[.int .i64 (-1099511627776), .int .i64 1099511627776, .int .i64 (-1099511627776), .int .i64 1099511627776]) (.agg #[.int .i64 (-1099511627776), .int .i64 1099511627776, .int .i64 (-1099511627776), .int .i64 1099511627776])).run Try.prog W = .ok (.bool true) W := fun W => by rw [eq_box]; simp
      go_wp2_with fail
      go_region_held3 (fun w' => Below w.heap.size w w' ∧ w'.cell? ⟨w.heap.size, 0, none⟩ = some (.int .i64 a0_0) ∧ w'.cell? ⟨w.heap.size, 1, none⟩ = some (.int .i64 a0_1) ∧ w'.cell? ⟨w.heap.size, 2, none⟩ = some (.int .i64 a0_2) ∧ w'.cell? ⟨w.heap.size, 3, none⟩ = some (.int .i64 a0_3) ∧ w'.cell? ⟨w.heap.size + 1, 0, none⟩ = some (.int .i64 a1_0) ∧ w'.cell? ⟨w.heap.size + 1, 1, none⟩ = some (.int .i64 a1_1) ∧ w'.cell? ⟨w.heap.size + 1, 2, none⟩ = some (.int .i64 a1_2) ∧ w'.cell? ⟨w.heap.size + 1 + 1, 0, none⟩ = some (.int .i64 a2_0) ∧ w'.cell? ⟨w.heap.size + 1 + 1, 1, none⟩ = some (.int .i64 a2_1) ∧ w'.cell? ⟨w.heap.size + 1 + 1, 2, none⟩ = some (.int .i64 a2_2) ∧ w'.cell? ⟨w1.heap.size, 0, none⟩ = some (.int .i64 0) ∧ w'.cell? ⟨w1.heap.size, 1, none⟩ = some (.int .i64 0) ∧ w'.cell? ⟨w1.heap.size, 2, none⟩ = some (.int .i64 0) ∧ w'.cell? ⟨w1.heap.size, 3, none⟩ = some (.int .i64 0) ∧ w'.cell? ⟨w1.heap.size + 1, 0, none⟩ = some (.int .i64 0) ∧ w'.cell? ⟨w1.heap.size + 1, 1, none⟩ = some (.int .i64 0) ∧ w'.cell? ⟨w1.heap.size + 1, 2, none⟩ = some (.int .i64 0) ∧ w'.cell? ⟨w1.heap.size + 1, 3, none⟩ = some (.int .i64 0) ∧ w'.cell? ⟨w2.heap.size, 0, none⟩ = some (.int .i64 (-1099511627776)) ∧ w'.cell? ⟨w2.heap.size, 1, none⟩ = some (.int .i64 1099511627776) ∧ w'.cell? ⟨w2.heap.size, 2, none⟩ = some (.int .i64 (-1099511627776)) ∧ w'.cell? ⟨w2.heap.size, 3, none⟩ = some (.int .i64 1099511627776)) (first | exact keep22 (Nat.le_refl _) hbx ‹_› | ((repeat' apply And.intro) <;> first | go_keep | (go_simp; done) | (repeat (first | exact Below.refl _ _ | assumption | refine Below.drew ?_ | refine Below.alloc ?_ (by first | omega | (simp <;> omega)) _ | refine Below.setCell ?_ (by first | omega | (simp <;> omega)) _)))) (first | (go_at_call 21; ((with_reducible refine (check _ _ _ _ _).mono ?_); rintro e wx ⟨rfl, hbx⟩)) | (go_at_call 22; ((with_reducible refine (refcheck _ _ _ _ _).mono ?_); rintro e wx ⟨rfl, hbx⟩)) | (go_at_call 23; ((with_reducible refine (has _ _ _ _ _ _ _ _).mono ?_); rintro e wx ⟨rfl, hbx⟩)) | (go_at_call 24; ((with_reducible refine (refhas _ _ _ _ _ _ _).mono ?_); rintro e wx ⟨rfl, hbx⟩)) | (go_at_call 25; ((with_reducible refine (sees _ _ _ _ _ _ _).mono ?_); rintro e wx ⟨rfl, hbx⟩)) | (go_at_call 26; ((with_reducible refine (refsees _ _ _ _ _ _).mono ?_); rintro e wx ⟨rfl, hbx⟩)) | (go_at_call 27; ((with_reducible refine (HR.out _).mono ?_); rintro e wx ⟨rfl, hbx⟩)) | (go_at_call 28; refine (lives4 _).mono ?_; rintro e wx ⟨rfl, hbx⟩))
      go_wp2_with fail
      go_ret
      exact ⟨rfl, ((‹_› : Below w.heap.size w _ ∧ _)).1⟩

set_option maxRecDepth 100000 in
theorem lifted (os : Os) (started : os.Started) (H : Type) (enc : TypeId × Value → H) :
    ReturnsInHanded {} Try.checked os 5 .any (Rows.boxChecksSpec.pre6 enc Try.prog Try.f5 Rows.boxChecksRow.domain false) (Rows.boxChecksSpec.post enc Try.prog Try.f5 false true false false) := by
  refine returnsInHanded_of_change (C := Try.checked) own started (by kernel_rfl) Try.func5
    (ChangeSpec.witness6 (enc := enc) (C := Try.checked) false ⟨#[], #[.agg #[.int .i64 0, .int .i64 0, .int .i64 0, .int .i64 0], .agg #[.int .i64 0, .int .i64 0, .int .i64 0], .agg #[.int .i64 0, .int .i64 0, .int .i64 0]], []⟩ 8 (by kernel_rfl) (by kernel_rfl) (by kernel_rfl) (by kernel_rfl)) ?_
  intro W base args ds gs before hval0 hW hcnd _
  have hval : ∀ (j : Nat) t v, Try.f5.params[j]? = some t → args[j]? = some v → Value.okWide Try.prog W .any base t v := hval0
  have hW' := hW
  obtain ⟨p, q, hA0, hV, rfl, hfz, hnd⟩ := hW
  have hA : DataW.TrodAll enc Try.prog W 0 (fun _ => true) true Try.f5.params.toList args.toList ds p := hA0
  rw [Try.params5] at hA hval
  obtain ⟨v0, vs0, d0, ds0, p0, q0, hargs, rfl, rfl, h0, rr0⟩ := trodAll_cons hA
  obtain ⟨v1, vs1, d1, ds1, p1, q1, rfl, rfl, rfl, h1, rr1⟩ := trodAll_cons rr0
  obtain ⟨v2, vs2, d2, ds2, p2, q2, rfl, rfl, rfl, h2, rr2⟩ := trodAll_cons rr1
  obtain ⟨rfl, rfl, rfl⟩ := trodAll_nil rr2
  obtain rfl : args = #[v0, v1, v2] := by cases args; simp_all
  obtain ⟨rfl, rfl⟩ := trodVars_none hV
  have k0 := h0
  have lt0 : ∀ x ∈ p0, x.block < W.heap.size := by obtain ⟨m, hm⟩ := k0; exact DataW.trod_lt m _ _ _ hm
  obtain ⟨e0_0, e0_1, e0_2, e0_3, y0_0, y0_1, y0_2, y0_3, q0, rfl, _, _, t0_0, t0_1, t0_2, t0_3⟩ := open_agg4 Try.underlying43 (by kernel_rfl) (by kernel_rfl) (hval 0 43 v0 rfl rfl) h0
  obtain ⟨a0_0, g0_0, _, w0_0⟩ := DataW.trod_int Try.underlying3 t0_0
  simp only [List.cons.injEq, and_true] at g0_0
  subst g0_0
  obtain ⟨a0_1, g0_1, _, w0_1⟩ := DataW.trod_int Try.underlying3 t0_1
  simp only [List.cons.injEq, and_true] at g0_1
  subst g0_1
  obtain ⟨a0_2, g0_2, _, w0_2⟩ := DataW.trod_int Try.underlying3 t0_2
  simp only [List.cons.injEq, and_true] at g0_2
  subst g0_2
  obtain ⟨a0_3, g0_3, _, w0_3⟩ := DataW.trod_int Try.underlying3 t0_3
  simp only [List.cons.injEq, and_true] at g0_3
  subst g0_3
  have k1 := h1
  have lt1 : ∀ x ∈ p1, x.block < W.heap.size := by obtain ⟨m, hm⟩ := k1; exact DataW.trod_lt m _ _ _ hm
  obtain ⟨e1_0, e1_1, e1_2, y1_0, y1_1, y1_2, q1, rfl, _, _, t1_0, t1_1, t1_2⟩ := open_agg3 Try.underlying45 (by kernel_rfl) (by kernel_rfl) (hval 1 45 v1 rfl rfl) h1
  obtain ⟨a1_0, g1_0, _, w1_0⟩ := DataW.trod_int Try.underlying3 t1_0
  simp only [List.cons.injEq, and_true] at g1_0
  subst g1_0
  obtain ⟨a1_1, g1_1, _, w1_1⟩ := DataW.trod_int Try.underlying3 t1_1
  simp only [List.cons.injEq, and_true] at g1_1
  subst g1_1
  obtain ⟨a1_2, g1_2, _, w1_2⟩ := DataW.trod_int Try.underlying3 t1_2
  simp only [List.cons.injEq, and_true] at g1_2
  subst g1_2
  have k2 := h2
  have lt2 : ∀ x ∈ p2, x.block < W.heap.size := by obtain ⟨m, hm⟩ := k2; exact DataW.trod_lt m _ _ _ hm
  obtain ⟨e2_0, e2_1, e2_2, y2_0, y2_1, y2_2, q2, rfl, _, _, t2_0, t2_1, t2_2⟩ := open_agg3 Try.underlying33 (by kernel_rfl) (by kernel_rfl) (hval 2 33 v2 rfl rfl) h2
  obtain ⟨a2_0, g2_0, _, w2_0⟩ := DataW.trod_int Try.underlying3 t2_0
  simp only [List.cons.injEq, and_true] at g2_0
  subst g2_0
  obtain ⟨a2_1, g2_1, _, w2_1⟩ := DataW.trod_int Try.underlying3 t2_1
  simp only [List.cons.injEq, and_true] at g2_1
  subst g2_1
  obtain ⟨a2_2, g2_2, _, w2_2⟩ := DataW.trod_int Try.underlying3 t2_2
  simp only [List.cons.injEq, and_true] at g2_2
  subst g2_2
  clear hA0 hval0
  refine (walk a0_0 a0_1 a0_2 a0_3 a1_0 a1_1 a1_2 a2_0 a2_1 a2_2 W w0_0 w0_1 w0_2 w0_3 w1_0 w1_1 w1_2 w2_0 w2_1 w2_2).mono fun e W' ⟨he, bel⟩ => ?_
  subst he
  exact ⟨_, rfl, _, _, _, [], _, [], hW', trodAll_mk1 (shut_bool Try.underlying4 _), (trodAll_cons_mk (Below.trod laidOut (by kernel_rfl) (of_decide_eq_true (by kernel_rfl)) k0 bel lt0) (trodAll_cons_mk (Below.trod laidOut (by kernel_rfl) (of_decide_eq_true (by kernel_rfl)) k1 bel lt1) (trodAll_cons_mk (Below.trod laidOut (by kernel_rfl) (of_decide_eq_true (by kernel_rfl)) k2 bel lt2) trodAll_mk0))), rfl, bel.frame _, fun h => by cases h⟩

theorem over : Rows.boxChecksRow.holds Try.pinned (OpenSpec.ofChange Rows.boxChecksSpec) :=
  OpenClaim.holds_of_wide 5 Try.f5 rfl rfl rfl rfl rfl rfl rfl ⟨rfl, rfl, rfl, rfl, rfl⟩ rfl rfl rfl rfl rfl (by kernel_rfl) Try.func5 (by kernel_rfl)
    (of_decide_eq_true (by kernel_rfl)) (by unfold Func.isWrapper; first | (rw [if_pos (by decide +kernel)]; kernel_rfl) | (rw [if_neg (by decide +kernel)]; exact ⟨rfl, rfl⟩))
    (fun os started H enc _ => lifted os started H enc)

theorem proved : Rows.BoxChecksSaid := over
#print axioms proved
end Go.Proofs.Ytjfdlamfklhodab.boxChecks
