/- Which of any two points, or intervals, comes first, in all four orders, and which are good, is as the document says. No condition. -/
import Derived.Test.YtjfdlamfklhodaaRows
import Derived.WalkKit
import Derived.ProofKit
import Derived.OpenShut
import Derived.ChangeOld
import Derived.Below
import Derived.Outline
import Derived.Lib.SmallJoins
import Derived.Test.YtjfdlamfklhodaaE3
import Derived.Test.YtjfdlamfklhodaaG
set_option linter.unusedVariables false
namespace Go.Proofs.Ytjfdlamfklhodaa.kernOrders
open Go.ChangeShapes Go.WideShapes Go.ChangeAt Go.RowKit Go.Joins

set_option maxHeartbeats 16000000 in
theorem walk (a0_0 a0_1 a0_2 : Int) (a1_0 a1_1 a1_2 : Int) (a2_0 a2_1 a2_2 a2_3 a2_4 a2_5 : Int) (w : World) (w0_0 : (Lit.int .i64 a0_0).wf = true) (w0_1 : (Lit.int .i64 a0_1).wf = true) (w0_2 : (Lit.int .i64 a0_2).wf = true) (w1_0 : (Lit.int .i64 a1_0).wf = true) (w1_1 : (Lit.int .i64 a1_1).wf = true) (w1_2 : (Lit.int .i64 a1_2).wf = true) (w2_0 : (Lit.int .i64 a2_0).wf = true) (w2_1 : (Lit.int .i64 a2_1).wf = true) (w2_2 : (Lit.int .i64 a2_2).wf = true) (w2_3 : (Lit.int .i64 a2_3).wf = true) (w2_4 : (Lit.int .i64 a2_4).wf = true) (w2_5 : (Lit.int .i64 a2_5).wf = true) :
    Calls Try.prog 13 #[.agg #[.int .i64 a0_0, .int .i64 a0_1, .int .i64 a0_2], .agg #[.int .i64 a1_0, .int .i64 a1_1, .int .i64 a1_2], .agg #[.int .i64 a2_0, .int .i64 a2_1, .int .i64 a2_2, .int .i64 a2_3, .int .i64 a2_4, .int .i64 a2_5]] w fun e w' => e = .returned (.bool true) ∧ Below w.heap.size w w' := by
  obtain ⟨g, hg⟩ : ∃ g, (idK a0_0 && plK a0_1 a0_2) = g := ⟨_, rfl⟩
  obtain ⟨y, hy⟩ : ∃ y, (idK a2_0 && (coK a2_1 && (coK a2_2 && decide (a2_1 ≤ a2_2)))) = y := ⟨_, rfl⟩
  obtain ⟨c, hc⟩ : ∃ c, c3K a0_1 a0_2 a0_0 a1_1 a1_2 a1_0 = c := ⟨_, rfl⟩
  obtain ⟨u, hu⟩ : ∃ u, c3K a0_2 a0_1 a0_0 a1_2 a1_1 a1_0 = u := ⟨_, rfl⟩
  obtain ⟨o, ho⟩ : ∃ o, c3K a2_1 a2_2 a2_0 a2_4 a2_5 a2_3 = o := ⟨_, rfl⟩
  obtain ⟨n, hn⟩ : ∃ n, c3K a2_2 a2_1 a2_0 a2_5 a2_4 a2_3 = n := ⟨_, rfl⟩
  have G1 : ∀ w : World, Calls Try.prog 44 #[.agg #[.int .i64 a0_0, .int .i64 a0_1, .int .i64 a0_2]] w fun e w' => e = .returned (.bool g) ∧ Below w.heap.size w w' := fun w => by rw [← hg]; exact pgood _ _ _ w
  have G2 : ∀ w : World, Calls Try.prog 45 #[.agg #[.int .i64 a0_0, .int .i64 a0_1, .int .i64 a0_2]] w fun e w' => e = .returned (.bool g) ∧ Below w.heap.size w w' := fun w => by rw [← hg]; exact rgood _ _ _ w
  have Y1 : ∀ w : World, Calls Try.prog 46 #[.agg #[.int .i64 a2_0, .int .i64 a2_1, .int .i64 a2_2]] w fun e w' => e = .returned (.bool y) ∧ Below w.heap.size w w' := fun w => by rw [← hy]; exact sfair _ _ _ w
  have Y2 : ∀ w : World, Calls Try.prog 47 #[.agg #[.int .i64 a2_0, .int .i64 a2_1, .int .i64 a2_2]] w fun e w' => e = .returned (.bool y) ∧ Below w.heap.size w w' := fun w => by rw [← hy]; exact rfair _ _ _ w
  have C1 : ∀ w : World, Calls Try.prog 48 #[.agg #[.int .i64 a0_0, .int .i64 a0_1, .int .i64 a0_2], .agg #[.int .i64 a1_0, .int .i64 a1_1, .int .i64 a1_2]] w fun e w' => e = .returned (.int .i64 c) ∧ Below w.heap.size w w' := fun w => by rw [← hc]; exact kcmp _ _ _ _ _ _ w
  have C2 : ∀ w : World, Calls Try.prog 49 #[.agg #[.int .i64 a0_1, .int .i64 a0_2, .int .i64 a0_0], .agg #[.int .i64 a1_1, .int .i64 a1_2, .int .i64 a1_0]] w fun e w' => e = .returned (.int .i64 c) ∧ Below w.heap.size w w' := fun w => by rw [← hc]; exact threes _ _ _ _ _ _ w
  have U1 : ∀ w : World, Calls Try.prog 50 #[.agg #[.int .i64 a0_0, .int .i64 a0_1, .int .i64 a0_2], .agg #[.int .i64 a1_0, .int .i64 a1_1, .int .i64 a1_2]] w fun e w' => e = .returned (.int .i64 u) ∧ Below w.heap.size w w' := fun w => by rw [← hu]; exact kup _ _ _ _ _ _ w
  have U2 : ∀ w : World, Calls Try.prog 49 #[.agg #[.int .i64 a0_2, .int .i64 a0_1, .int .i64 a0_0], .agg #[.int .i64 a1_2, .int .i64 a1_1, .int .i64 a1_0]] w fun e w' => e = .returned (.int .i64 u) ∧ Below w.heap.size w w' := fun w => by rw [← hu]; exact threes _ _ _ _ _ _ w
  have O1 : ∀ w : World, Calls Try.prog 51 #[.agg #[.int .i64 a2_0, .int .i64 a2_1, .int .i64 a2_2], .agg #[.int .i64 a2_3, .int .i64 a2_4, .int .i64 a2_5]] w fun e w' => e = .returned (.int .i64 o) ∧ Below w.heap.size w w' := fun w => by rw [← ho]; exact korder _ _ _ _ _ _ w
  have O2 : ∀ w : World, Calls Try.prog 49 #[.agg #[.int .i64 a2_1, .int .i64 a2_2, .int .i64 a2_0], .agg #[.int .i64 a2_4, .int .i64 a2_5, .int .i64 a2_3]] w fun e w' => e = .returned (.int .i64 o) ∧ Below w.heap.size w w' := fun w => by rw [← ho]; exact threes _ _ _ _ _ _ w
  have N1 : ∀ w : World, Calls Try.prog 52 #[.agg #[.int .i64 a2_0, .int .i64 a2_1, .int .i64 a2_2], .agg #[.int .i64 a2_3, .int .i64 a2_4, .int .i64 a2_5]] w fun e w' => e = .returned (.int .i64 n) ∧ Below w.heap.size w w' := fun w => by rw [← hn]; exact kends _ _ _ _ _ _ w
  have N2 : ∀ w : World, Calls Try.prog 49 #[.agg #[.int .i64 a2_2, .int .i64 a2_1, .int .i64 a2_0], .agg #[.int .i64 a2_5, .int .i64 a2_4, .int .i64 a2_3]] w fun e w' => e = .returned (.int .i64 n) ∧ Below w.heap.size w w' := fun w => by rw [← hn]; exact threes _ _ _ _ _ _ w
  have HG1 := Lib.hid G1
  clear G1
  have HG2 := Lib.hid G2
  clear G2
  have HY1 := Lib.hid Y1
  clear Y1
  have HY2 := Lib.hid Y2
  clear Y2
  have HC1 := Lib.hid C1
  clear C1
  have HC2 := Lib.hid C2
  clear C2
  have HU1 := Lib.hid U1
  clear U1
  have HU2 := Lib.hid U2
  clear U2
  have HO1 := Lib.hid O1
  clear O1
  have HO2 := Lib.hid O2
  clear O2
  have HN1 := Lib.hid N1
  clear N1
  have HN2 := Lib.hid N2
  clear N2
  clear hg hy hc hu ho hn
  go_enter Try.func13, Try.ntmps13
  go_wp2_with fail
  go_region
  · skip
    go_wp2_with fail
    go_region_held3 (fun w' => Below w.heap.size w w' ∧ w'.cell? ⟨w.heap.size, 0, none⟩ = some (.int .i64 a0_0) ∧ w'.cell? ⟨w.heap.size, 1, none⟩ = some (.int .i64 a0_1) ∧ w'.cell? ⟨w.heap.size, 2, none⟩ = some (.int .i64 a0_2) ∧ w'.cell? ⟨w.heap.size + 1, 0, none⟩ = some (.int .i64 a1_0) ∧ w'.cell? ⟨w.heap.size + 1, 1, none⟩ = some (.int .i64 a1_1) ∧ w'.cell? ⟨w.heap.size + 1, 2, none⟩ = some (.int .i64 a1_2) ∧ w'.cell? ⟨w.heap.size + 1 + 1 + 1, 0, none⟩ = some (.int .i64 a2_0) ∧ w'.cell? ⟨w.heap.size + 1 + 1 + 1, 1, none⟩ = some (.int .i64 a2_1) ∧ w'.cell? ⟨w.heap.size + 1 + 1 + 1, 2, none⟩ = some (.int .i64 a2_2) ∧ w'.cell? ⟨w.heap.size + 1 + 1 + 1 + 1, 0, none⟩ = some (.int .i64 a2_3) ∧ w'.cell? ⟨w.heap.size + 1 + 1 + 1 + 1, 1, none⟩ = some (.int .i64 a2_4) ∧ w'.cell? ⟨w.heap.size + 1 + 1 + 1 + 1, 2, none⟩ = some (.int .i64 a2_5)) (first | exact keep12 (Nat.le_refl _) hbx ‹_› | ((repeat' apply And.intro) <;> first | (go_keep; done) | (go_simp; done) | (repeat (first | exact Below.refl _ _ | assumption | refine Below.drew ?_ | refine Below.alloc ?_ (by first | omega | (simp <;> omega)) _ | refine Below.setCell ?_ (by first | omega | (simp <;> omega)) _)))) (first | (go_at_call 44; ((with_reducible refine (HG1.out _).mono ?_); rintro e wx ⟨rfl, hbx⟩)) | (go_at_call 45; ((with_reducible refine (HG2.out _).mono ?_); rintro e wx ⟨rfl, hbx⟩)) | (go_at_call 46; ((with_reducible refine (HY1.out _).mono ?_); rintro e wx ⟨rfl, hbx⟩)) | (go_at_call 47; ((with_reducible refine (HY2.out _).mono ?_); rintro e wx ⟨rfl, hbx⟩)) | (go_at_call 48; ((with_reducible refine (HC1.out _).mono ?_); rintro e wx ⟨rfl, hbx⟩)) | (go_at_call 49; ((with_reducible refine (HC2.out _).mono ?_); rintro e wx ⟨rfl, hbx⟩)) | (go_at_call 50; ((with_reducible refine (HU1.out _).mono ?_); rintro e wx ⟨rfl, hbx⟩)) | (go_at_call 49; ((with_reducible refine (HU2.out _).mono ?_); rintro e wx ⟨rfl, hbx⟩)))
    go_wp2_with fail
    obtain ⟨kb, q0, q1, q2, q3, q4, q5, q6, q7, q8, q9, q10, q11⟩ := (‹Below w.heap.size w _ ∧ _›)
    have zs := kb.size
    go_region_held3 (fun w' => Below w.heap.size w w' ∧ w'.cell? ⟨w.heap.size, 0, none⟩ = some (.int .i64 a0_0) ∧ w'.cell? ⟨w.heap.size, 1, none⟩ = some (.int .i64 a0_1) ∧ w'.cell? ⟨w.heap.size, 2, none⟩ = some (.int .i64 a0_2) ∧ w'.cell? ⟨w.heap.size + 1, 0, none⟩ = some (.int .i64 a1_0) ∧ w'.cell? ⟨w.heap.size + 1, 1, none⟩ = some (.int .i64 a1_1) ∧ w'.cell? ⟨w.heap.size + 1, 2, none⟩ = some (.int .i64 a1_2) ∧ w'.cell? ⟨w.heap.size + 1 + 1 + 1, 0, none⟩ = some (.int .i64 a2_0) ∧ w'.cell? ⟨w.heap.size + 1 + 1 + 1, 1, none⟩ = some (.int .i64 a2_1) ∧ w'.cell? ⟨w.heap.size + 1 + 1 + 1, 2, none⟩ = some (.int .i64 a2_2) ∧ w'.cell? ⟨w.heap.size + 1 + 1 + 1 + 1, 0, none⟩ = some (.int .i64 a2_3) ∧ w'.cell? ⟨w.heap.size + 1 + 1 + 1 + 1, 1, none⟩ = some (.int .i64 a2_4) ∧ w'.cell? ⟨w.heap.size + 1 + 1 + 1 + 1, 2, none⟩ = some (.int .i64 a2_5)) (first | exact keep12 (Nat.le_refl _) hbx ‹_› | ((repeat' apply And.intro) <;> first | (go_keep; done) | (exact kb.drew) | (exact kb))) (first | (go_at_call 51; ((with_reducible refine (HO1.out _).mono ?_); rintro e wx ⟨rfl, hbx⟩)) | (go_at_call 49; ((with_reducible refine (HO2.out _).mono ?_); rintro e wx ⟨rfl, hbx⟩)) | (go_at_call 52; ((with_reducible refine (HN1.out _).mono ?_); rintro e wx ⟨rfl, hbx⟩)) | (go_at_call 49; ((with_reducible refine (HN2.out _).mono ?_); rintro e wx ⟨rfl, hbx⟩)) | (go_at_call 53; ((with_reducible refine (lives3 _).mono ?_); rintro e wx ⟨rfl, hbx⟩)))
    go_wp2_with fail
    go_ret
    exact ⟨rfl, ((‹_› : Below w.heap.size w _ ∧ _)).1⟩
  · skip
    go_wp2_with fail
    go_region_held3 (fun w' => Below w.heap.size w w' ∧ w'.cell? ⟨w.heap.size, 0, none⟩ = some (.int .i64 a0_0) ∧ w'.cell? ⟨w.heap.size, 1, none⟩ = some (.int .i64 a0_1) ∧ w'.cell? ⟨w.heap.size, 2, none⟩ = some (.int .i64 a0_2) ∧ w'.cell? ⟨w.heap.size + 1, 0, none⟩ = some (.int .i64 a1_0) ∧ w'.cell? ⟨w.heap.size + 1, 1, none⟩ = some (.int .i64 a1_1) ∧ w'.cell? ⟨w.heap.size + 1, 2, none⟩ = some (.int .i64 a1_2) ∧ w'.cell? ⟨w.heap.size + 1 + 1 + 1 + 1, 0, none⟩ = some (.int .i64 a2_0) ∧ w'.cell? ⟨w.heap.size + 1 + 1 + 1 + 1, 1, none⟩ = some (.int .i64 a2_1) ∧ w'.cell? ⟨w.heap.size + 1 + 1 + 1 + 1, 2, none⟩ = some (.int .i64 a2_2) ∧ w'.cell? ⟨w.heap.size + 1 + 1 + 1, 0, none⟩ = some (.int .i64 a2_3) ∧ w'.cell? ⟨w.heap.size + 1 + 1 + 1, 1, none⟩ = some (.int .i64 a2_4) ∧ w'.cell? ⟨w.heap.size + 1 + 1 + 1, 2, none⟩ = some (.int .i64 a2_5)) (first | exact keep12 (Nat.le_refl _) hbx ‹_› | ((repeat' apply And.intro) <;> first | (go_keep; done) | (go_simp; done) | (repeat (first | exact Below.refl _ _ | assumption | refine Below.drew ?_ | refine Below.alloc ?_ (by first | omega | (simp <;> omega)) _ | refine Below.setCell ?_ (by first | omega | (simp <;> omega)) _)))) (first | (go_at_call 44; ((with_reducible refine (HG1.out _).mono ?_); rintro e wx ⟨rfl, hbx⟩)) | (go_at_call 45; ((with_reducible refine (HG2.out _).mono ?_); rintro e wx ⟨rfl, hbx⟩)) | (go_at_call 46; ((with_reducible refine (HY1.out _).mono ?_); rintro e wx ⟨rfl, hbx⟩)) | (go_at_call 47; ((with_reducible refine (HY2.out _).mono ?_); rintro e wx ⟨rfl, hbx⟩)) | (go_at_call 48; ((with_reducible refine (HC1.out _).mono ?_); rintro e wx ⟨rfl, hbx⟩)) | (go_at_call 49; ((with_reducible refine (HC2.out _).mono ?_); rintro e wx ⟨rfl, hbx⟩)) | (go_at_call 50; ((with_reducible refine (HU1.out _).mono ?_); rintro e wx ⟨rfl, hbx⟩)) | (go_at_call 49; ((with_reducible refine (HU2.out _).mono ?_); rintro e wx ⟨rfl, hbx⟩)))
    go_wp2_with fail
    obtain ⟨kb, q0, q1, q2, q3, q4, q5, q6, q7, q8, q9, q10, q11⟩ := (‹Below w.heap.size w _ ∧ _›)
    have zs := kb.size
    go_region_held3 (fun w' => Below w.heap.size w w' ∧ w'.cell? ⟨w.heap.size, 0, none⟩ = some (.int .i64 a0_0) ∧ w'.cell? ⟨w.heap.size, 1, none⟩ = some (.int .i64 a0_1) ∧ w'.cell? ⟨w.heap.size, 2, none⟩ = some (.int .i64 a0_2) ∧ w'.cell? ⟨w.heap.size + 1, 0, none⟩ = some (.int .i64 a1_0) ∧ w'.cell? ⟨w.heap.size + 1, 1, none⟩ = some (.int .i64 a1_1) ∧ w'.cell? ⟨w.heap.size + 1, 2, none⟩ = some (.int .i64 a1_2) ∧ w'.cell? ⟨w.heap.size + 1 + 1 + 1 + 1, 0, none⟩ = some (.int .i64 a2_0) ∧ w'.cell? ⟨w.heap.size + 1 + 1 + 1 + 1, 1, none⟩ = some (.int .i64 a2_1) ∧ w'.cell? ⟨w.heap.size + 1 + 1 + 1 + 1, 2, none⟩ = some (.int .i64 a2_2) ∧ w'.cell? ⟨w.heap.size + 1 + 1 + 1, 0, none⟩ = some (.int .i64 a2_3) ∧ w'.cell? ⟨w.heap.size + 1 + 1 + 1, 1, none⟩ = some (.int .i64 a2_4) ∧ w'.cell? ⟨w.heap.size + 1 + 1 + 1, 2, none⟩ = some (.int .i64 a2_5)) (first | exact keep12 (Nat.le_refl _) hbx ‹_› | ((repeat' apply And.intro) <;> first | (go_keep; done) | (exact kb.drew) | (exact kb))) (first | (go_at_call 51; ((with_reducible refine (HO1.out _).mono ?_); rintro e wx ⟨rfl, hbx⟩)) | (go_at_call 49; ((with_reducible refine (HO2.out _).mono ?_); rintro e wx ⟨rfl, hbx⟩)) | (go_at_call 52; ((with_reducible refine (HN1.out _).mono ?_); rintro e wx ⟨rfl, hbx⟩)) | (go_at_call 49; ((with_reducible refine (HN2.out _).mono ?_); rintro e wx ⟨rfl, hbx⟩)) | (go_at_call 53; ((with_reducible refine (lives3 _).mono ?_); rintro e wx ⟨rfl, hbx⟩)))
    go_wp2_with fail
    go_ret
    exact ⟨rfl, ((‹_› : Below w.heap.size w _ ∧ _)).1⟩
end Go.Proofs.Ytjfdlamfklhodaa.kernOrders
