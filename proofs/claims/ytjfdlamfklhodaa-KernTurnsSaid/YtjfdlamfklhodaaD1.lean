/- Contracts of exact predicates. -/
import Derived.Test.YtjfdlamfklhodaaC2
import Derived.Test.YtjfdlamfklhodaaC4
import Derived.Outline
import Derived.WalkLawsBesides
import Derived.WalkSpells
set_option linter.unusedVariables false
namespace Go.Proofs.Ytjfdlamfklhodaa
open Go.ChangeShapes Go.WideShapes Go.ChangeAt Go.RowKit
theorem ret_boolK {a b : Bool} (h : a = b) : Ending.returned (.bool a) = .returned (.bool b) := by rw [h]
def coK (x : Int) : Bool := decide (-1099511627776 ≤ x) && decide (x ≤ 1099511627776)
theorem coK_bd {x : Int} (h : coK x = true) : -1099511627776 ≤ x ∧ x ≤ 1099511627776 := by simpa [coK] using h
def plK (x y : Int) : Bool := coK x && coK y
theorem kgood (x : Int) (w : World) : Calls Try.prog 27 #[.int .i64 x] w fun e w' => e = .returned (.bool (coK x)) ∧ w = w' := by
  by_cases c1 : -1099511627776 ≤ x <;> by_cases c2 : x ≤ 1099511627776
  all_goals
    go_enter Try.func27, Try.ntmps27
    go_wp2
    go_ret
    exact ⟨ret_boolK (by simp [coK] <;> omega), rfl⟩
theorem kcoord (x : Int) (w : World) : Calls Try.prog 67 #[.int .i64 x] w fun e w' => e = .returned (.bool (coK x)) ∧ w = w' := by
  by_cases c1 : -1099511627776 ≤ x <;> by_cases c2 : x ≤ 1099511627776
  all_goals
    go_enter Try.func67, Try.ntmps67
    go_wp2
    go_ret
    exact ⟨ret_boolK (by simp [coK] <;> omega), rfl⟩
theorem kplaced (i x y : Int) (w : World) : Calls Try.prog 64 #[.agg #[.int .i64 i, .int .i64 x, .int .i64 y]] w fun e w' => e = .returned (.bool (plK x y)) ∧ Below w.heap.size w w' := by
  obtain ⟨p, hp⟩ : ∃ p, coK x = p := ⟨_, rfl⟩
  have HP := Lib.hid hp
  clear hp
  cases p
  all_goals
    go_enter Try.func64, Try.ntmps64
    go_wp2_with fail
    refine (kgood _ _).mono ?_
    rw [HP.out]
    rintro e w1 ⟨rfl, rfl⟩
    go_wp2_with (refine (kgood _ _).mono ?_; rintro e w1 ⟨rfl, rfl⟩)
    go_ret
    exact ⟨ret_boolK (by simp [plK, HP.out]), (by repeat (first | exact Below.refl _ _ | assumption | refine Below.setCell ?_ (by first | omega | (simp <;> omega)) _ | refine Below.alloc ?_ (by first | omega | (simp <;> omega)) _))⟩
theorem klies (i x y : Int) (w : World) : Calls Try.prog 66 #[.agg #[.int .i64 i, .int .i64 x, .int .i64 y]] w fun e w' => e = .returned (.bool (plK x y)) ∧ Below w.heap.size w w' := by
  obtain ⟨p, hp⟩ : ∃ p, coK x = p := ⟨_, rfl⟩
  have HP := Lib.hid hp
  clear hp
  cases p
  all_goals
    go_enter Try.func66, Try.ntmps66
    go_wp2_with fail
    refine (kcoord _ _).mono ?_
    rw [HP.out]
    rintro e w1 ⟨rfl, rfl⟩
    go_wp2_with (refine (kcoord _ _).mono ?_; rintro e w1 ⟨rfl, rfl⟩)
    go_ret
    exact ⟨ret_boolK (by simp [plK, HP.out]), (by repeat (first | exact Below.refl _ _ | assumption | refine Below.setCell ?_ (by first | omega | (simp <;> omega)) _ | refine Below.alloc ?_ (by first | omega | (simp <;> omega)) _))⟩
def wiK (a b c : Int) : Bool := (decide (a ≤ c) || decide (b ≤ c)) && (decide (c ≤ a) || decide (c ≤ b))
theorem kwithin (a b c : Int) (w : World) : Calls Try.prog 75 #[.int .i64 a, .int .i64 b, .int .i64 c] w fun e w' => e = .returned (.bool (wiK a b c)) ∧ w = w' := by
  by_cases c1 : a ≤ b <;> by_cases c2 : a ≤ c <;> by_cases c3 : b ≤ c <;> by_cases c4 : c ≤ a <;> by_cases c5 : c ≤ b <;> try (exfalso; omega)
  all_goals
    go_enter Try.func75, Try.ntmps75
    go_wp2
    all_goals (go_ret; exact ⟨ret_boolK (by rw [Bool.eq_iff_iff]; simp [wiK] <;> omega), rfl⟩)
def crK (x1 y1 x2 y2 x3 y3 : Int) : Int := (x2 - x1) * (y3 - y1) - (y2 - y1) * (x3 - x1)
set_option maxHeartbeats 4000000 in
theorem turn_yes (i1 x1 y1 i2 x2 y2 i3 x3 y3 : Int) (h1 : plK x1 y1 = true) (h2 : plK x2 y2 = true) (h3 : plK x3 y3 = true) (w : World) :
    Calls Try.prog 54 #[.agg #[.int .i64 i1, .int .i64 x1, .int .i64 y1], .agg #[.int .i64 i2, .int .i64 x2, .int .i64 y2], .agg #[.int .i64 i3, .int .i64 x3, .int .i64 y3]] w fun e w' => e = .returned (.int .i64 (sg (crK x1 y1 x2 y2 x3 y3))) ∧ Below w.heap.size w w' := by
  obtain ⟨a1, a2⟩ := coK_bd (Bool.and_eq_true_iff.1 h1).1
  obtain ⟨a3, a4⟩ := coK_bd (Bool.and_eq_true_iff.1 h1).2
  obtain ⟨b1, b2⟩ := coK_bd (Bool.and_eq_true_iff.1 h2).1
  obtain ⟨b3, b4⟩ := coK_bd (Bool.and_eq_true_iff.1 h2).2
  obtain ⟨c1, c2⟩ := coK_bd (Bool.and_eq_true_iff.1 h3).1
  obtain ⟨c3, c4⟩ := coK_bd (Bool.and_eq_true_iff.1 h3).2
  have M1 : ∀ w : World, Calls Try.prog 31 #[.int .i64 (IntKind.i64.wrap (x2 - x1)), .int .i64 (IntKind.i64.wrap (y3 - y1))] w fun e w' => e = .returned (.agg #[.int .i64 (((x2 - x1) * (y3 - y1)) / 18446744073709551616), .int .u64 (((x2 - x1) * (y3 - y1)) % 18446744073709551616)]) ∧ Below w.heap.size w w' := fun w => by
    rw [IntWalk.i64_in _ (by omega), IntWalk.i64_in _ (by omega)]; exact wmul _ _ (by omega) (by omega) (by omega) (by omega) w
  have M2 : ∀ w : World, Calls Try.prog 31 #[.int .i64 (IntKind.i64.wrap (y2 - y1)), .int .i64 (IntKind.i64.wrap (x3 - x1))] w fun e w' => e = .returned (.agg #[.int .i64 (((y2 - y1) * (x3 - x1)) / 18446744073709551616), .int .u64 (((y2 - y1) * (x3 - x1)) % 18446744073709551616)]) ∧ Below w.heap.size w w' := fun w => by
    rw [IntWalk.i64_in _ (by omega), IntWalk.i64_in _ (by omega)]; exact wmul _ _ (by omega) (by omega) (by omega) (by omega) w
  have C1 : ∀ w : World, Calls Try.prog 40 #[.agg #[.int .i64 (((x2 - x1) * (y3 - y1)) / 18446744073709551616), .int .u64 (((x2 - x1) * (y3 - y1)) % 18446744073709551616)], .agg #[.int .i64 (((y2 - y1) * (x3 - x1)) / 18446744073709551616), .int .u64 (((y2 - y1) * (x3 - x1)) % 18446744073709551616)]] w fun e w' => e = .returned (.int .i64 (sg (crK x1 y1 x2 y2 x3 y3))) ∧ Below w.heap.size w w' := fun w => as_int (wcmp _ _ _ _ w) ((cmpW_sg (by omega) (by omega) (by omega) (by omega)).trans (congrArg sg (by unfold crK; omega)))
  have Q1 : ∀ w : World, Calls Try.prog 64 #[.agg #[.int .i64 i1, .int .i64 x1, .int .i64 y1]] w fun e w' => e = .returned (.bool true) ∧ Below w.heap.size w w' := fun w => by rw [← h1]; exact kplaced _ _ _ w
  have Q2 : ∀ w : World, Calls Try.prog 64 #[.agg #[.int .i64 i2, .int .i64 x2, .int .i64 y2]] w fun e w' => e = .returned (.bool true) ∧ Below w.heap.size w w' := fun w => by rw [← h2]; exact kplaced _ _ _ w
  have Q3 : ∀ w : World, Calls Try.prog 64 #[.agg #[.int .i64 i3, .int .i64 x3, .int .i64 y3]] w fun e w' => e = .returned (.bool true) ∧ Below w.heap.size w w' := fun w => by rw [← h3]; exact kplaced _ _ _ w
  have HM1 := Lib.hid M1
  clear M1
  have HM2 := Lib.hid M2
  clear M2
  have HC1 := Lib.hid C1
  clear C1
  have HQ1 := Lib.hid Q1
  clear Q1
  have HQ2 := Lib.hid Q2
  clear Q2
  have HQ3 := Lib.hid Q3
  clear Q3
  clear h1 h2 h3 a1 a2 a3 a4 b1 b2 b3 b4 c1 c2 c3 c4
  go_enter Try.func54, Try.ntmps54
  go_wp2_with fail
  refine (HQ1.out _).mono ?_
  rintro e w1 ⟨rfl, hx1⟩
  have K1 : Below w.heap.size w w1 ∧ w1.cell? ⟨w.heap.size, 0, none⟩ = some (.int .i64 i1) ∧ w1.cell? ⟨w.heap.size, 1, none⟩ = some (.int .i64 x1) ∧ w1.cell? ⟨w.heap.size, 2, none⟩ = some (.int .i64 y1) ∧ w1.cell? ⟨w.heap.size + 1, 0, none⟩ = some (.int .i64 i2) ∧ w1.cell? ⟨w.heap.size + 1, 1, none⟩ = some (.int .i64 x2) ∧ w1.cell? ⟨w.heap.size + 1, 2, none⟩ = some (.int .i64 y2) ∧ w1.cell? ⟨w.heap.size + 1 + 1, 0, none⟩ = some (.int .i64 i3) ∧ w1.cell? ⟨w.heap.size + 1 + 1, 1, none⟩ = some (.int .i64 x3) ∧ w1.cell? ⟨w.heap.size + 1 + 1, 2, none⟩ = some (.int .i64 y3) := by
    refine keep9 (Nat.le_refl _) hx1 ?_
    ((repeat' apply And.intro) <;> first | go_keep | (go_simp; done) | (repeat (first | exact Below.refl _ _ | assumption | refine Below.drew ?_ | refine Below.alloc ?_ (by first | omega | (simp <;> omega)) _ | refine Below.setCell ?_ (by first | omega | (simp <;> omega)) _)))
  obtain ⟨kb, q0, q1, q2, q3, q4, q5, q6, q7, q8⟩ := K1
  have zs1 := kb.size
  clear hx1
  go_wp2_with fail
  refine (HQ2.out _).mono ?_
  rintro e w2 ⟨rfl, hx2⟩
  have K2 : Below w.heap.size w w2 ∧ w2.cell? ⟨w.heap.size, 0, none⟩ = some (.int .i64 i1) ∧ w2.cell? ⟨w.heap.size, 1, none⟩ = some (.int .i64 x1) ∧ w2.cell? ⟨w.heap.size, 2, none⟩ = some (.int .i64 y1) ∧ w2.cell? ⟨w.heap.size + 1, 0, none⟩ = some (.int .i64 i2) ∧ w2.cell? ⟨w.heap.size + 1, 1, none⟩ = some (.int .i64 x2) ∧ w2.cell? ⟨w.heap.size + 1, 2, none⟩ = some (.int .i64 y2) ∧ w2.cell? ⟨w.heap.size + 1 + 1, 0, none⟩ = some (.int .i64 i3) ∧ w2.cell? ⟨w.heap.size + 1 + 1, 1, none⟩ = some (.int .i64 x3) ∧ w2.cell? ⟨w.heap.size + 1 + 1, 2, none⟩ = some (.int .i64 y3) := by
    refine keep9 (Nat.le_refl _) hx2 ?_
    ((repeat' apply And.intro) <;> first | go_keep | (go_simp; done) | (repeat (first | exact Below.refl _ _ | assumption | refine Below.drew ?_ | refine Below.alloc ?_ (by first | omega | (simp <;> omega)) _ | refine Below.setCell ?_ (by first | omega | (simp <;> omega)) _)))
  clear kb q0 q1 q2 q3 q4 q5 q6 q7 q8
  obtain ⟨kb, q0, q1, q2, q3, q4, q5, q6, q7, q8⟩ := K2
  have zs2 := kb.size
  clear hx2
  go_wp2_with fail
  refine (HQ3.out _).mono ?_
  rintro e w3 ⟨rfl, hx3⟩
  have K3 : Below w.heap.size w w3 ∧ w3.cell? ⟨w.heap.size, 0, none⟩ = some (.int .i64 i1) ∧ w3.cell? ⟨w.heap.size, 1, none⟩ = some (.int .i64 x1) ∧ w3.cell? ⟨w.heap.size, 2, none⟩ = some (.int .i64 y1) ∧ w3.cell? ⟨w.heap.size + 1, 0, none⟩ = some (.int .i64 i2) ∧ w3.cell? ⟨w.heap.size + 1, 1, none⟩ = some (.int .i64 x2) ∧ w3.cell? ⟨w.heap.size + 1, 2, none⟩ = some (.int .i64 y2) ∧ w3.cell? ⟨w.heap.size + 1 + 1, 0, none⟩ = some (.int .i64 i3) ∧ w3.cell? ⟨w.heap.size + 1 + 1, 1, none⟩ = some (.int .i64 x3) ∧ w3.cell? ⟨w.heap.size + 1 + 1, 2, none⟩ = some (.int .i64 y3) := by
    refine keep9 (Nat.le_refl _) hx3 ?_
    ((repeat' apply And.intro) <;> first | go_keep | (go_simp; done) | (repeat (first | exact Below.refl _ _ | assumption | refine Below.drew ?_ | refine Below.alloc ?_ (by first | omega | (simp <;> omega)) _ | refine Below.setCell ?_ (by first | omega | (simp <;> omega)) _)))
  clear kb q0 q1 q2 q3 q4 q5 q6 q7 q8
  obtain ⟨kb, q0, q1, q2, q3, q4, q5, q6, q7, q8⟩ := K3
  have zs3 := kb.size
  clear hx3
  go_wp2_with fail
  go_region_held3 (fun w' => Below w.heap.size w w' ∧ w'.cell? ⟨w.heap.size, 0, none⟩ = some (.int .i64 i1) ∧ w'.cell? ⟨w.heap.size, 1, none⟩ = some (.int .i64 x1) ∧ w'.cell? ⟨w.heap.size, 2, none⟩ = some (.int .i64 y1) ∧ w'.cell? ⟨w.heap.size + 1, 0, none⟩ = some (.int .i64 i2) ∧ w'.cell? ⟨w.heap.size + 1, 1, none⟩ = some (.int .i64 x2) ∧ w'.cell? ⟨w.heap.size + 1, 2, none⟩ = some (.int .i64 y2) ∧ w'.cell? ⟨w.heap.size + 1 + 1, 0, none⟩ = some (.int .i64 i3) ∧ w'.cell? ⟨w.heap.size + 1 + 1, 1, none⟩ = some (.int .i64 x3) ∧ w'.cell? ⟨w.heap.size + 1 + 1, 2, none⟩ = some (.int .i64 y3)) (first | exact keep9 (Nat.le_refl _) hbx ‹_› | ((repeat' apply And.intro) <;> first | go_keep | (go_simp; done) | (repeat (first | exact Below.refl _ _ | assumption | refine Below.drew ?_ | refine Below.alloc ?_ (by first | omega | (simp <;> omega)) _ | refine Below.setCell ?_ (by first | omega | (simp <;> omega)) _)))) (first | (go_at_call 31; ((with_reducible refine (HM1.out _).mono ?_); rintro e wx ⟨rfl, hbx⟩)) | (go_at_call 31; ((with_reducible refine (HM2.out _).mono ?_); rintro e wx ⟨rfl, hbx⟩)) | (go_at_call 40; ((with_reducible refine (HC1.out _).mono ?_); rintro e wx ⟨rfl, hbx⟩)))
  go_wp2_with fail
  go_ret
  exact ⟨rfl, ((‹_› : Below w.heap.size w _ ∧ _)).1⟩
set_option maxHeartbeats 4000000 in
theorem turn_no (i1 x1 y1 i2 x2 y2 i3 x3 y3 : Int) (h : (plK x1 y1 && (plK x2 y2 && plK x3 y3)) = false) (w : World) :
    Calls Try.prog 54 #[.agg #[.int .i64 i1, .int .i64 x1, .int .i64 y1], .agg #[.int .i64 i2, .int .i64 x2, .int .i64 y2], .agg #[.int .i64 i3, .int .i64 x3, .int .i64 y3]] w fun e w' => e = .returned (.int .i64 0) ∧ Below w.heap.size w w' := by
  obtain ⟨b1, h1⟩ : ∃ b, plK x1 y1 = b := ⟨_, rfl⟩
  obtain ⟨b2, h2⟩ : ∃ b, plK x2 y2 = b := ⟨_, rfl⟩
  obtain ⟨b3, h3⟩ : ∃ b, plK x3 y3 = b := ⟨_, rfl⟩
  have Q1 : ∀ w : World, Calls Try.prog 64 #[.agg #[.int .i64 i1, .int .i64 x1, .int .i64 y1]] w fun e w' => e = .returned (.bool b1) ∧ Below w.heap.size w w' := fun w => by rw [← h1]; exact kplaced _ _ _ w
  have Q2 : ∀ w : World, Calls Try.prog 64 #[.agg #[.int .i64 i2, .int .i64 x2, .int .i64 y2]] w fun e w' => e = .returned (.bool b2) ∧ Below w.heap.size w w' := fun w => by rw [← h2]; exact kplaced _ _ _ w
  have Q3 : ∀ w : World, Calls Try.prog 64 #[.agg #[.int .i64 i3, .int .i64 x3, .int .i64 y3]] w fun e w' => e = .returned (.bool b3) ∧ Below w.heap.size w w' := fun w => by rw [← h3]; exact kplaced _ _ _ w
  rw [h1, h2, h3] at h
  have HQ1 := Lib.hid Q1
  clear Q1
  have HQ2 := Lib.hid Q2
  clear Q2
  have HQ3 := Lib.hid Q3
  clear Q3
  clear h1 h2 h3
  cases b1
  · clear h
    go_enter Try.func54, Try.ntmps54
    go_wp2_with fail
    refine (HQ1.out _).mono ?_
    rintro e w1 ⟨rfl, hx1⟩
    have K1 : Below w.heap.size w w1 ∧ w1.cell? ⟨w.heap.size, 0, none⟩ = some (.int .i64 i1) ∧ w1.cell? ⟨w.heap.size, 1, none⟩ = some (.int .i64 x1) ∧ w1.cell? ⟨w.heap.size, 2, none⟩ = some (.int .i64 y1) ∧ w1.cell? ⟨w.heap.size + 1, 0, none⟩ = some (.int .i64 i2) ∧ w1.cell? ⟨w.heap.size + 1, 1, none⟩ = some (.int .i64 x2) ∧ w1.cell? ⟨w.heap.size + 1, 2, none⟩ = some (.int .i64 y2) ∧ w1.cell? ⟨w.heap.size + 1 + 1, 0, none⟩ = some (.int .i64 i3) ∧ w1.cell? ⟨w.heap.size + 1 + 1, 1, none⟩ = some (.int .i64 x3) ∧ w1.cell? ⟨w.heap.size + 1 + 1, 2, none⟩ = some (.int .i64 y3) := by
      refine keep9 (Nat.le_refl _) hx1 ?_
      ((repeat' apply And.intro) <;> first | go_keep | (go_simp; done) | (repeat (first | exact Below.refl _ _ | assumption | refine Below.drew ?_ | refine Below.alloc ?_ (by first | omega | (simp <;> omega)) _ | refine Below.setCell ?_ (by first | omega | (simp <;> omega)) _)))
    obtain ⟨kb, q0, q1, q2, q3, q4, q5, q6, q7, q8⟩ := K1
    have zs1 := kb.size
    clear hx1
    go_wp2_with fail
    go_ret
    exact ⟨rfl, kb⟩
  · cases b2
    · clear h
      go_enter Try.func54, Try.ntmps54
      go_wp2_with fail
      refine (HQ1.out _).mono ?_
      rintro e w1 ⟨rfl, hx1⟩
      have K1 : Below w.heap.size w w1 ∧ w1.cell? ⟨w.heap.size, 0, none⟩ = some (.int .i64 i1) ∧ w1.cell? ⟨w.heap.size, 1, none⟩ = some (.int .i64 x1) ∧ w1.cell? ⟨w.heap.size, 2, none⟩ = some (.int .i64 y1) ∧ w1.cell? ⟨w.heap.size + 1, 0, none⟩ = some (.int .i64 i2) ∧ w1.cell? ⟨w.heap.size + 1, 1, none⟩ = some (.int .i64 x2) ∧ w1.cell? ⟨w.heap.size + 1, 2, none⟩ = some (.int .i64 y2) ∧ w1.cell? ⟨w.heap.size + 1 + 1, 0, none⟩ = some (.int .i64 i3) ∧ w1.cell? ⟨w.heap.size + 1 + 1, 1, none⟩ = some (.int .i64 x3) ∧ w1.cell? ⟨w.heap.size + 1 + 1, 2, none⟩ = some (.int .i64 y3) := by
        refine keep9 (Nat.le_refl _) hx1 ?_
        ((repeat' apply And.intro) <;> first | go_keep | (go_simp; done) | (repeat (first | exact Below.refl _ _ | assumption | refine Below.drew ?_ | refine Below.alloc ?_ (by first | omega | (simp <;> omega)) _ | refine Below.setCell ?_ (by first | omega | (simp <;> omega)) _)))
      obtain ⟨kb, q0, q1, q2, q3, q4, q5, q6, q7, q8⟩ := K1
      have zs1 := kb.size
      clear hx1
      go_wp2_with fail
      refine (HQ2.out _).mono ?_
      rintro e w2 ⟨rfl, hx2⟩
      have K2 : Below w.heap.size w w2 ∧ w2.cell? ⟨w.heap.size, 0, none⟩ = some (.int .i64 i1) ∧ w2.cell? ⟨w.heap.size, 1, none⟩ = some (.int .i64 x1) ∧ w2.cell? ⟨w.heap.size, 2, none⟩ = some (.int .i64 y1) ∧ w2.cell? ⟨w.heap.size + 1, 0, none⟩ = some (.int .i64 i2) ∧ w2.cell? ⟨w.heap.size + 1, 1, none⟩ = some (.int .i64 x2) ∧ w2.cell? ⟨w.heap.size + 1, 2, none⟩ = some (.int .i64 y2) ∧ w2.cell? ⟨w.heap.size + 1 + 1, 0, none⟩ = some (.int .i64 i3) ∧ w2.cell? ⟨w.heap.size + 1 + 1, 1, none⟩ = some (.int .i64 x3) ∧ w2.cell? ⟨w.heap.size + 1 + 1, 2, none⟩ = some (.int .i64 y3) := by
        refine keep9 (Nat.le_refl _) hx2 ?_
        ((repeat' apply And.intro) <;> first | go_keep | (go_simp; done) | (repeat (first | exact Below.refl _ _ | assumption | refine Below.drew ?_ | refine Below.alloc ?_ (by first | omega | (simp <;> omega)) _ | refine Below.setCell ?_ (by first | omega | (simp <;> omega)) _)))
      clear kb q0 q1 q2 q3 q4 q5 q6 q7 q8
      obtain ⟨kb, q0, q1, q2, q3, q4, q5, q6, q7, q8⟩ := K2
      have zs2 := kb.size
      clear hx2
      go_wp2_with fail
      go_ret
      exact ⟨rfl, kb⟩
    · cases b3
      · clear h
        go_enter Try.func54, Try.ntmps54
        go_wp2_with fail
        refine (HQ1.out _).mono ?_
        rintro e w1 ⟨rfl, hx1⟩
        have K1 : Below w.heap.size w w1 ∧ w1.cell? ⟨w.heap.size, 0, none⟩ = some (.int .i64 i1) ∧ w1.cell? ⟨w.heap.size, 1, none⟩ = some (.int .i64 x1) ∧ w1.cell? ⟨w.heap.size, 2, none⟩ = some (.int .i64 y1) ∧ w1.cell? ⟨w.heap.size + 1, 0, none⟩ = some (.int .i64 i2) ∧ w1.cell? ⟨w.heap.size + 1, 1, none⟩ = some (.int .i64 x2) ∧ w1.cell? ⟨w.heap.size + 1, 2, none⟩ = some (.int .i64 y2) ∧ w1.cell? ⟨w.heap.size + 1 + 1, 0, none⟩ = some (.int .i64 i3) ∧ w1.cell? ⟨w.heap.size + 1 + 1, 1, none⟩ = some (.int .i64 x3) ∧ w1.cell? ⟨w.heap.size + 1 + 1, 2, none⟩ = some (.int .i64 y3) := by
          refine keep9 (Nat.le_refl _) hx1 ?_
          ((repeat' apply And.intro) <;> first | go_keep | (go_simp; done) | (repeat (first | exact Below.refl _ _ | assumption | refine Below.drew ?_ | refine Below.alloc ?_ (by first | omega | (simp <;> omega)) _ | refine Below.setCell ?_ (by first | omega | (simp <;> omega)) _)))
        obtain ⟨kb, q0, q1, q2, q3, q4, q5, q6, q7, q8⟩ := K1
        have zs1 := kb.size
        clear hx1
        go_wp2_with fail
        refine (HQ2.out _).mono ?_
        rintro e w2 ⟨rfl, hx2⟩
        have K2 : Below w.heap.size w w2 ∧ w2.cell? ⟨w.heap.size, 0, none⟩ = some (.int .i64 i1) ∧ w2.cell? ⟨w.heap.size, 1, none⟩ = some (.int .i64 x1) ∧ w2.cell? ⟨w.heap.size, 2, none⟩ = some (.int .i64 y1) ∧ w2.cell? ⟨w.heap.size + 1, 0, none⟩ = some (.int .i64 i2) ∧ w2.cell? ⟨w.heap.size + 1, 1, none⟩ = some (.int .i64 x2) ∧ w2.cell? ⟨w.heap.size + 1, 2, none⟩ = some (.int .i64 y2) ∧ w2.cell? ⟨w.heap.size + 1 + 1, 0, none⟩ = some (.int .i64 i3) ∧ w2.cell? ⟨w.heap.size + 1 + 1, 1, none⟩ = some (.int .i64 x3) ∧ w2.cell? ⟨w.heap.size + 1 + 1, 2, none⟩ = some (.int .i64 y3) := by
          refine keep9 (Nat.le_refl _) hx2 ?_
          ((repeat' apply And.intro) <;> first | go_keep | (go_simp; done) | (repeat (first | exact Below.refl _ _ | assumption | refine Below.drew ?_ | refine Below.alloc ?_ (by first | omega | (simp <;> omega)) _ | refine Below.setCell ?_ (by first | omega | (simp <;> omega)) _)))
        clear kb q0 q1 q2 q3 q4 q5 q6 q7 q8
        obtain ⟨kb, q0, q1, q2, q3, q4, q5, q6, q7, q8⟩ := K2
        have zs2 := kb.size
        clear hx2
        go_wp2_with fail
        refine (HQ3.out _).mono ?_
        rintro e w3 ⟨rfl, hx3⟩
        have K3 : Below w.heap.size w w3 ∧ w3.cell? ⟨w.heap.size, 0, none⟩ = some (.int .i64 i1) ∧ w3.cell? ⟨w.heap.size, 1, none⟩ = some (.int .i64 x1) ∧ w3.cell? ⟨w.heap.size, 2, none⟩ = some (.int .i64 y1) ∧ w3.cell? ⟨w.heap.size + 1, 0, none⟩ = some (.int .i64 i2) ∧ w3.cell? ⟨w.heap.size + 1, 1, none⟩ = some (.int .i64 x2) ∧ w3.cell? ⟨w.heap.size + 1, 2, none⟩ = some (.int .i64 y2) ∧ w3.cell? ⟨w.heap.size + 1 + 1, 0, none⟩ = some (.int .i64 i3) ∧ w3.cell? ⟨w.heap.size + 1 + 1, 1, none⟩ = some (.int .i64 x3) ∧ w3.cell? ⟨w.heap.size + 1 + 1, 2, none⟩ = some (.int .i64 y3) := by
          refine keep9 (Nat.le_refl _) hx3 ?_
          ((repeat' apply And.intro) <;> first | go_keep | (go_simp; done) | (repeat (first | exact Below.refl _ _ | assumption | refine Below.drew ?_ | refine Below.alloc ?_ (by first | omega | (simp <;> omega)) _ | refine Below.setCell ?_ (by first | omega | (simp <;> omega)) _)))
        clear kb q0 q1 q2 q3 q4 q5 q6 q7 q8
        obtain ⟨kb, q0, q1, q2, q3, q4, q5, q6, q7, q8⟩ := K3
        have zs3 := kb.size
        clear hx3
        go_wp2_with fail
        go_ret
        exact ⟨rfl, kb⟩
      · simp at h
end Go.Proofs.Ytjfdlamfklhodaa
