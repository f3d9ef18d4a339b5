/- Contracts of what is good, and of which of two comes first. -/
import Derived.Test.YtjfdlamfklhodaaE2
set_option linter.unusedVariables false
namespace Go.Proofs.Ytjfdlamfklhodaa
open Go.ChangeShapes Go.WideShapes Go.ChangeAt Go.RowKit
def idK (i : Int) : Bool := decide (1 ≤ i) && decide (i ≤ 2147483647)
theorem eknown (i : Int) (w : World) : Calls Try.prog 63 #[.int .i64 i] w fun e w' => e = .returned (.bool (idK i)) ∧ w = w' := by
  by_cases c1 : 1 ≤ i <;> by_cases c2 : i ≤ 2147483647
  all_goals
    go_enter Try.func63, Try.ntmps63
    go_wp2
    go_ret
    exact ⟨ret_boolK (by simp [idK] <;> omega), rfl⟩
theorem eid (i : Int) (w : World) : Calls Try.prog 65 #[.int .i64 i] w fun e w' => e = .returned (.bool (idK i)) ∧ w = w' := by
  by_cases c1 : 1 ≤ i <;> by_cases c2 : i ≤ 2147483647
  all_goals
    go_enter Try.func65, Try.ntmps65
    go_wp2
    go_ret
    exact ⟨ret_boolK (by simp [idK] <;> omega), rfl⟩
theorem pgood (i x y : Int) (w : World) : Calls Try.prog 44 #[.agg #[.int .i64 i, .int .i64 x, .int .i64 y]] w fun e w' => e = .returned (.bool (idK i && plK x y)) ∧ Below w.heap.size w w' := by
  obtain ⟨p, hp⟩ : ∃ p, idK i = p := ⟨_, rfl⟩
  have HP := Lib.hid hp
  clear hp
  cases p
  · go_enter Try.func44, Try.ntmps44
    go_wp2_with fail
    refine (eknown _ _).mono ?_
    rw [HP.out]
    rintro e w1 ⟨rfl, rfl⟩
    go_wp2_with fail
    go_ret
    exact ⟨ret_boolK (by simp [HP.out]), (by repeat (first | exact Below.refl _ _ | assumption | refine Below.drew ?_ | refine Below.setCell ?_ (by first | omega | (simp <;> omega)) _ | refine Below.alloc ?_ (by first | omega | (simp <;> omega)) _))⟩
  · go_enter Try.func44, Try.ntmps44
    go_wp2_with fail
    refine (eknown _ _).mono ?_
    rw [HP.out]
    rintro e w1 ⟨rfl, rfl⟩
    go_wp2_with fail
    refine (kplaced _ _ _ _).mono ?_
    rintro e w1 ⟨rfl, hb⟩
    go_wp2_with fail
    go_ret
    exact ⟨ret_boolK (by simp [HP.out]), below_below (by simp) hb (by repeat (first | exact Below.refl _ _ | assumption | refine Below.drew ?_ | refine Below.setCell ?_ (by first | omega | (simp <;> omega)) _ | refine Below.alloc ?_ (by first | omega | (simp <;> omega)) _))⟩
theorem rgood (i x y : Int) (w : World) : Calls Try.prog 45 #[.agg #[.int .i64 i, .int .i64 x, .int .i64 y]] w fun e w' => e = .returned (.bool (idK i && plK x y)) ∧ Below w.heap.size w w' := by
  obtain ⟨p, hp⟩ : ∃ p, idK i = p := ⟨_, rfl⟩
  have HP := Lib.hid hp
  clear hp
  cases p
  · go_enter Try.func45, Try.ntmps45
    go_wp2_with fail
    refine (eid _ _).mono ?_
    rw [HP.out]
    rintro e w1 ⟨rfl, rfl⟩
    go_wp2_with fail
    go_ret
    exact ⟨ret_boolK (by simp [HP.out]), (by repeat (first | exact Below.refl _ _ | assumption | refine Below.drew ?_ | refine Below.setCell ?_ (by first | omega | (simp <;> omega)) _ | refine Below.alloc ?_ (by first | omega | (simp <;> omega)) _))⟩
  · go_enter Try.func45, Try.ntmps45
    go_wp2_with fail
    refine (eid _ _).mono ?_
    rw [HP.out]
    rintro e w1 ⟨rfl, rfl⟩
    go_wp2_with fail
    refine (klies _ _ _ _).mono ?_
    rintro e w1 ⟨rfl, hb⟩
    go_wp2_with fail
    go_ret
    exact ⟨ret_boolK (by simp [HP.out]), below_below (by simp) hb (by repeat (first | exact Below.refl _ _ | assumption | refine Below.drew ?_ | refine Below.setCell ?_ (by first | omega | (simp <;> omega)) _ | refine Below.alloc ?_ (by first | omega | (simp <;> omega)) _))⟩
set_option maxHeartbeats 1000000 in
theorem sfair (i x y : Int) (w : World) : Calls Try.prog 46 #[.agg #[.int .i64 i, .int .i64 x, .int .i64 y]] w fun e w' => e = .returned (.bool (idK i && (coK x && (coK y && decide (x ≤ y))))) ∧ Below w.heap.size w w' := by
  obtain ⟨p, hp⟩ : ∃ p, idK i = p := ⟨_, rfl⟩
  obtain ⟨q, hq⟩ : ∃ q, coK x = q := ⟨_, rfl⟩
  obtain ⟨r, hr⟩ : ∃ r, coK y = r := ⟨_, rfl⟩
  have HP := Lib.hid hp
  have HQ := Lib.hid hq
  have HR := Lib.hid hr
  clear hp hq hr
  cases p
  · skip
    go_enter Try.func46, Try.ntmps46
    go_wp2_with fail
    refine (eknown _ _).mono ?_
    rw [HP.out]
    rintro e w1 ⟨rfl, rfl⟩
    go_wp2_with fail
    go_ret
    exact ⟨ret_boolK (by simp [HP.out, HQ.out, HR.out]), (by repeat (first | exact Below.refl _ _ | assumption | refine Below.drew ?_ | refine Below.setCell ?_ (by first | omega | (simp <;> omega)) _ | refine Below.alloc ?_ (by first | omega | (simp <;> omega)) _))⟩
  · cases q
    · skip
      go_enter Try.func46, Try.ntmps46
      go_wp2_with fail
      refine (eknown _ _).mono ?_
      rw [HP.out]
      rintro e w1 ⟨rfl, rfl⟩
      go_wp2_with fail
      refine (kgood x _).mono ?_
      rw [HQ.out]
      rintro e w1 ⟨rfl, rfl⟩
      go_wp2_with fail
      go_ret
      exact ⟨ret_boolK (by simp [HP.out, HQ.out, HR.out]), (by repeat (first | exact Below.refl _ _ | assumption | refine Below.drew ?_ | refine Below.setCell ?_ (by first | omega | (simp <;> omega)) _ | refine Below.alloc ?_ (by first | omega | (simp <;> omega)) _))⟩
    · cases r
      · skip
        go_enter Try.func46, Try.ntmps46
        go_wp2_with fail
        refine (eknown _ _).mono ?_
        rw [HP.out]
        rintro e w1 ⟨rfl, rfl⟩
        go_wp2_with fail
        refine (kgood x _).mono ?_
        rw [HQ.out]
        rintro e w1 ⟨rfl, rfl⟩
        go_wp2_with fail
        refine (kgood y _).mono ?_
        rw [HR.out]
        rintro e w1 ⟨rfl, rfl⟩
        go_wp2_with fail
        go_ret
        exact ⟨ret_boolK (by simp [HP.out, HQ.out, HR.out]), (by repeat (first | exact Below.refl _ _ | assumption | refine Below.drew ?_ | refine Below.setCell ?_ (by first | omega | (simp <;> omega)) _ | refine Below.alloc ?_ (by first | omega | (simp <;> omega)) _))⟩
      · skip
        go_enter Try.func46, Try.ntmps46
        go_wp2_with fail
        refine (eknown _ _).mono ?_
        rw [HP.out]
        rintro e w1 ⟨rfl, rfl⟩
        go_wp2_with fail
        refine (kgood x _).mono ?_
        rw [HQ.out]
        rintro e w1 ⟨rfl, rfl⟩
        go_wp2_with fail
        refine (kgood y _).mono ?_
        rw [HR.out]
        rintro e w1 ⟨rfl, rfl⟩
        go_wp2_with fail
        go_ret
        exact ⟨ret_boolK (by simp [HP.out, HQ.out, HR.out]), (by repeat (first | exact Below.refl _ _ | assumption | refine Below.drew ?_ | refine Below.setCell ?_ (by first | omega | (simp <;> omega)) _ | refine Below.alloc ?_ (by first | omega | (simp <;> omega)) _))⟩
set_option maxHeartbeats 1000000 in
theorem rfair (i x y : Int) (w : World) : Calls Try.prog 47 #[.agg #[.int .i64 i, .int .i64 x, .int .i64 y]] w fun e w' => e = .returned (.bool (idK i && (coK x && (coK y && decide (x ≤ y))))) ∧ Below w.heap.size w w' := by
  obtain ⟨p, hp⟩ : ∃ p, idK i = p := ⟨_, rfl⟩
  obtain ⟨q, hq⟩ : ∃ q, coK x = q := ⟨_, rfl⟩
  obtain ⟨r, hr⟩ : ∃ r, coK y = r := ⟨_, rfl⟩
  have HP := Lib.hid hp
  have HQ := Lib.hid hq
  have HR := Lib.hid hr
  clear hp hq hr
  cases p
  · skip
    go_enter Try.func47, Try.ntmps47
    go_wp2_with fail
    refine (eid _ _).mono ?_
    rw [HP.out]
    rintro e w1 ⟨rfl, rfl⟩
    go_wp2_with fail
    go_ret
    exact ⟨ret_boolK (by simp [HP.out, HQ.out, HR.out]), (by repeat (first | exact Below.refl _ _ | assumption | refine Below.drew ?_ | refine Below.setCell ?_ (by first | omega | (simp <;> omega)) _ | refine Below.alloc ?_ (by first | omega | (simp <;> omega)) _))⟩
  · cases q
    · skip
      go_enter Try.func47, Try.ntmps47
      go_wp2_with fail
      refine (eid _ _).mono ?_
      rw [HP.out]
      rintro e w1 ⟨rfl, rfl⟩
      go_wp2_with fail
      refine (kcoord x _).mono ?_
      rw [HQ.out]
      rintro e w1 ⟨rfl, rfl⟩
      go_wp2_with fail
      go_ret
      exact ⟨ret_boolK (by simp [HP.out, HQ.out, HR.out]), (by repeat (first | exact Below.refl _ _ | assumption | refine Below.drew ?_ | refine Below.setCell ?_ (by first | omega | (simp <;> omega)) _ | refine Below.alloc ?_ (by first | omega | (simp <;> omega)) _))⟩
    · cases r
      · skip
        go_enter Try.func47, Try.ntmps47
        go_wp2_with fail
        refine (eid _ _).mono ?_
        rw [HP.out]
        rintro e w1 ⟨rfl, rfl⟩
        go_wp2_with fail
        refine (kcoord x _).mono ?_
        rw [HQ.out]
        rintro e w1 ⟨rfl, rfl⟩
        go_wp2_with fail
        refine (kcoord y _).mono ?_
        rw [HR.out]
        rintro e w1 ⟨rfl, rfl⟩
        go_wp2_with fail
        go_ret
        exact ⟨ret_boolK (by simp [HP.out, HQ.out, HR.out]), (by repeat (first | exact Below.refl _ _ | assumption | refine Below.drew ?_ | refine Below.setCell ?_ (by first | omega | (simp <;> omega)) _ | refine Below.alloc ?_ (by first | omega | (simp <;> omega)) _))⟩
      · skip
        go_enter Try.func47, Try.ntmps47
        go_wp2_with fail
        refine (eid _ _).mono ?_
        rw [HP.out]
        rintro e w1 ⟨rfl, rfl⟩
        go_wp2_with fail
        refine (kcoord x _).mono ?_
        rw [HQ.out]
        rintro e w1 ⟨rfl, rfl⟩
        go_wp2_with fail
        refine (kcoord y _).mono ?_
        rw [HR.out]
        rintro e w1 ⟨rfl, rfl⟩
        go_wp2_with fail
        go_ret
        exact ⟨ret_boolK (by simp [HP.out, HQ.out, HR.out]), (by repeat (first | exact Below.refl _ _ | assumption | refine Below.drew ?_ | refine Below.setCell ?_ (by first | omega | (simp <;> omega)) _ | refine Below.alloc ?_ (by first | omega | (simp <;> omega)) _))⟩
set_option maxHeartbeats 1000000 in
theorem pcompare (i1 x1 y1 i2 x2 y2 : Int) (w : World) : Calls Try.prog 68 #[.agg #[.int .i64 i1, .int .i64 x1, .int .i64 y1], .agg #[.int .i64 i2, .int .i64 x2, .int .i64 y2], .func (.func 69) #[] #[]] w fun e w' => e = .returned (.int .i64 (c3K x1 y1 i1 x2 y2 i2)) ∧ Below w.heap.size w w' := by
  obtain ⟨p, hp⟩ : ∃ p, ltK x1 y1 i1 x2 y2 i2 = p := ⟨_, rfl⟩
  obtain ⟨q, hq⟩ : ∃ q, ltK x2 y2 i2 x1 y1 i1 = q := ⟨_, rfl⟩
  have L1 : ∀ w : World, Calls Try.prog 69 #[.agg #[.int .i64 i1, .int .i64 x1, .int .i64 y1], .agg #[.int .i64 i2, .int .i64 x2, .int .i64 y2]] w fun e w' => e = .returned (.bool p) ∧ Below w.heap.size w w' := fun w => by rw [← hp]; exact pless _ _ _ _ _ _ w
  have L2 : ∀ w : World, Calls Try.prog 69 #[.agg #[.int .i64 i2, .int .i64 x2, .int .i64 y2], .agg #[.int .i64 i1, .int .i64 x1, .int .i64 y1]] w fun e w' => e = .returned (.bool q) ∧ Below w.heap.size w w' := fun w => by rw [← hq]; exact pless _ _ _ _ _ _ w
  have HA := Lib.hid hp
  have HB := Lib.hid hq
  have HL1 := Lib.hid L1
  have HL2 := Lib.hid L2
  clear hp hq L1 L2
  cases p
  · cases q
    · skip
      go_enter Try.func68, Try.ntmps68
      go_wp2_with fail
      refine (HL1.out _).mono ?_
      rintro e w1 ⟨rfl, hx1⟩
      have K1 : Below w.heap.size w w1 ∧ w1.cell? ⟨w.heap.size, 0, none⟩ = some (.int .i64 i1) ∧ w1.cell? ⟨w.heap.size, 1, none⟩ = some (.int .i64 x1) ∧ w1.cell? ⟨w.heap.size, 2, none⟩ = some (.int .i64 y1) ∧ w1.cell? ⟨w.heap.size + 1, 0, none⟩ = some (.int .i64 i2) ∧ w1.cell? ⟨w.heap.size + 1, 1, none⟩ = some (.int .i64 x2) ∧ w1.cell? ⟨w.heap.size + 1, 2, none⟩ = some (.int .i64 y2) := by
        refine keep6 (Nat.le_refl _) hx1 ?_
        ((repeat' apply And.intro) <;> first | go_keep | (go_simp; done) | (repeat (first | exact Below.refl _ _ | assumption | refine Below.drew ?_ | refine Below.alloc ?_ (by first | omega | (simp <;> omega)) _ | refine Below.setCell ?_ (by first | omega | (simp <;> omega)) _)))
      obtain ⟨kb, q0, q1, q2, q3, q4, q5⟩ := K1
      have zs1 := kb.size
      clear hx1
      go_wp2_with fail
      refine (HL2.out _).mono ?_
      rintro e w2 ⟨rfl, hx2⟩
      have K2 : Below w.heap.size w w2 ∧ w2.cell? ⟨w.heap.size, 0, none⟩ = some (.int .i64 i1) ∧ w2.cell? ⟨w.heap.size, 1, none⟩ = some (.int .i64 x1) ∧ w2.cell? ⟨w.heap.size, 2, none⟩ = some (.int .i64 y1) ∧ w2.cell? ⟨w.heap.size + 1, 0, none⟩ = some (.int .i64 i2) ∧ w2.cell? ⟨w.heap.size + 1, 1, none⟩ = some (.int .i64 x2) ∧ w2.cell? ⟨w.heap.size + 1, 2, none⟩ = some (.int .i64 y2) := by
        refine keep6 (Nat.le_refl _) hx2 ?_
        ((repeat' apply And.intro) <;> first | go_keep | (go_simp; done) | (repeat (first | exact Below.refl _ _ | assumption | refine Below.drew ?_ | refine Below.alloc ?_ (by first | omega | (simp <;> omega)) _ | refine Below.setCell ?_ (by first | omega | (simp <;> omega)) _)))
      clear kb q0 q1 q2 q3 q4 q5
      obtain ⟨kb, q0, q1, q2, q3, q4, q5⟩ := K2
      have zs2 := kb.size
      clear hx2
      go_wp2_with fail
      go_ret
      exact ⟨ret_iE (by simp [c3K, HA.out, HB.out]), kb⟩
    · skip
      go_enter Try.func68, Try.ntmps68
      go_wp2_with fail
      refine (HL1.out _).mono ?_
      rintro e w1 ⟨rfl, hx1⟩
      have K1 : Below w.heap.size w w1 ∧ w1.cell? ⟨w.heap.size, 0, none⟩ = some (.int .i64 i1) ∧ w1.cell? ⟨w.heap.size, 1, none⟩ = some (.int .i64 x1) ∧ w1.cell? ⟨w.heap.size, 2, none⟩ = some (.int .i64 y1) ∧ w1.cell? ⟨w.heap.size + 1, 0, none⟩ = some (.int .i64 i2) ∧ w1.cell? ⟨w.heap.size + 1, 1, none⟩ = some (.int .i64 x2) ∧ w1.cell? ⟨w.heap.size + 1, 2, none⟩ = some (.int .i64 y2) := by
        refine keep6 (Nat.le_refl _) hx1 ?_
        ((repeat' apply And.intro) <;> first | go_keep | (go_simp; done) | (repeat (first | exact Below.refl _ _ | assumption | refine Below.drew ?_ | refine Below.alloc ?_ (by first | omega | (simp <;> omega)) _ | refine Below.setCell ?_ (by first | omega | (simp <;> omega)) _)))
      obtain ⟨kb, q0, q1, q2, q3, q4, q5⟩ := K1
      have zs1 := kb.size
      clear hx1
      go_wp2_with fail
      refine (HL2.out _).mono ?_
      rintro e w2 ⟨rfl, hx2⟩
      have K2 : Below w.heap.size w w2 ∧ w2.cell? ⟨w.heap.size, 0, none⟩ = some (.int .i64 i1) ∧ w2.cell? ⟨w.heap.size, 1, none⟩ = some (.int .i64 x1) ∧ w2.cell? ⟨w.heap.size, 2, none⟩ = some (.int .i64 y1) ∧ w2.cell? ⟨w.heap.size + 1, 0, none⟩ = some (.int .i64 i2) ∧ w2.cell? ⟨w.heap.size + 1, 1, none⟩ = some (.int .i64 x2) ∧ w2.cell? ⟨w.heap.size + 1, 2, none⟩ = some (.int .i64 y2) := by
        refine keep6 (Nat.le_refl _) hx2 ?_
        ((repeat' apply And.intro) <;> first | go_keep | (go_simp; done) | (repeat (first | exact Below.refl _ _ | assumption | refine Below.drew ?_ | refine Below.alloc ?_ (by first | omega | (simp <;> omega)) _ | refine Below.setCell ?_ (by first | omega | (simp <;> omega)) _)))
      clear kb q0 q1 q2 q3 q4 q5
      obtain ⟨kb, q0, q1, q2, q3, q4, q5⟩ := K2
      have zs2 := kb.size
      clear hx2
      go_wp2_with fail
      go_ret
      exact ⟨ret_iE (by simp [c3K, HA.out, HB.out]), kb⟩
  · skip
    go_enter Try.func68, Try.ntmps68
    go_wp2_with fail
    refine (HL1.out _).mono ?_
    rintro e w1 ⟨rfl, hx1⟩
    have K1 : Below w.heap.size w w1 ∧ w1.cell? ⟨w.heap.size, 0, none⟩ = some (.int .i64 i1) ∧ w1.cell? ⟨w.heap.size, 1, none⟩ = some (.int .i64 x1) ∧ w1.cell? ⟨w.heap.size, 2, none⟩ = some (.int .i64 y1) ∧ w1.cell? ⟨w.heap.size + 1, 0, none⟩ = some (.int .i64 i2) ∧ w1.cell? ⟨w.heap.size + 1, 1, none⟩ = some (.int .i64 x2) ∧ w1.cell? ⟨w.heap.size + 1, 2, none⟩ = some (.int .i64 y2) := by
      refine keep6 (Nat.le_refl _) hx1 ?_
      ((repeat' apply And.intro) <;> first | go_keep | (go_simp; done) | (repeat (first | exact Below.refl _ _ | assumption | refine Below.drew ?_ | refine Below.alloc ?_ (by first | omega | (simp <;> omega)) _ | refine Below.setCell ?_ (by first | omega | (simp <;> omega)) _)))
    obtain ⟨kb, q0, q1, q2, q3, q4, q5⟩ := K1
    have zs1 := kb.size
    clear hx1
    go_wp2_with fail
    go_ret
    exact ⟨ret_iE (by simp [c3K, HA.out, HB.out]), kb⟩
set_option maxHeartbeats 1000000 in
theorem scompare (i1 x1 y1 i2 x2 y2 : Int) (w : World) : Calls Try.prog 71 #[.agg #[.int .i64 i1, .int .i64 x1, .int .i64 y1], .agg #[.int .i64 i2, .int .i64 x2, .int .i64 y2], .func (.func 72) #[] #[]] w fun e w' => e = .returned (.int .i64 (c3K x1 y1 i1 x2 y2 i2)) ∧ Below w.heap.size w w' := by
  obtain ⟨p, hp⟩ : ∃ p, ltK x1 y1 i1 x2 y2 i2 = p := ⟨_, rfl⟩
  obtain ⟨q, hq⟩ : ∃ q, ltK x2 y2 i2 x1 y1 i1 = q := ⟨_, rfl⟩
  have L1 : ∀ w : World, Calls Try.prog 72 #[.agg #[.int .i64 i1, .int .i64 x1, .int .i64 y1], .agg #[.int .i64 i2, .int .i64 x2, .int .i64 y2]] w fun e w' => e = .returned (.bool p) ∧ Below w.heap.size w w' := fun w => by rw [← hp]; exact sless _ _ _ _ _ _ w
  have L2 : ∀ w : World, Calls Try.prog 72 #[.agg #[.int .i64 i2, .int .i64 x2, .int .i64 y2], .agg #[.int .i64 i1, .int .i64 x1, .int .i64 y1]] w fun e w' => e = .returned (.bool q) ∧ Below w.heap.size w w' := fun w => by rw [← hq]; exact sless _ _ _ _ _ _ w
  have HA := Lib.hid hp
  have HB := Lib.hid hq
  have HL1 := Lib.hid L1
  have HL2 := Lib.hid L2
  clear hp hq L1 L2
  cases p
  · cases q
    · skip
      go_enter Try.func71, Try.ntmps71
      go_wp2_with fail
      refine (HL1.out _).mono ?_
      rintro e w1 ⟨rfl, hx1⟩
      have K1 : Below w.heap.size w w1 ∧ w1.cell? ⟨w.heap.size, 0, none⟩ = some (.int .i64 i1) ∧ w1.cell? ⟨w.heap.size, 1, none⟩ = some (.int .i64 x1) ∧ w1.cell? ⟨w.heap.size, 2, none⟩ = some (.int .i64 y1) ∧ w1.cell? ⟨w.heap.size + 1, 0, none⟩ = some (.int .i64 i2) ∧ w1.cell? ⟨w.heap.size + 1, 1, none⟩ = some (.int .i64 x2) ∧ w1.cell? ⟨w.heap.size + 1, 2, none⟩ = some (.int .i64 y2) := by
        refine keep6 (Nat.le_refl _) hx1 ?_
        ((repeat' apply And.intro) <;> first | go_keep | (go_simp; done) | (repeat (first | exact Below.refl _ _ | assumption | refine Below.drew ?_ | refine Below.alloc ?_ (by first | omega | (simp <;> omega)) _ | refine Below.setCell ?_ (by first | omega | (simp <;> omega)) _)))
      obtain ⟨kb, q0, q1, q2, q3, q4, q5⟩ := K1
      have zs1 := kb.size
      clear hx1
      go_wp2_with fail
      refine (HL2.out _).mono ?_
      rintro e w2 ⟨rfl, hx2⟩
      have K2 : Below w.heap.size w w2 ∧ w2.cell? ⟨w.heap.size, 0, none⟩ = some (.int .i64 i1) ∧ w2.cell? ⟨w.heap.size, 1, none⟩ = some (.int .i64 x1) ∧ w2.cell? ⟨w.heap.size, 2, none⟩ = some (.int .i64 y1) ∧ w2.cell? ⟨w.heap.size + 1, 0, none⟩ = some (.int .i64 i2) ∧ w2.cell? ⟨w.heap.size + 1, 1, none⟩ = some (.int .i64 x2) ∧ w2.cell? ⟨w.heap.size + 1, 2, none⟩ = some (.int .i64 y2) := by
        refine keep6 (Nat.le_refl _) hx2 ?_
        ((repeat' apply And.intro) <;> first | go_keep | (go_simp; done) | (repeat (first | exact Below.refl _ _ | assumption | refine Below.drew ?_ | refine Below.alloc ?_ (by first | omega | (simp <;> omega)) _ | refine Below.setCell ?_ (by first | omega | (simp <;> omega)) _)))
      clear kb q0 q1 q2 q3 q4 q5
      obtain ⟨kb, q0, q1, q2, q3, q4, q5⟩ := K2
      have zs2 := kb.size
      clear hx2
      go_wp2_with fail
      go_ret
      exact ⟨ret_iE (by simp [c3K, HA.out, HB.out]), kb⟩
    · skip
      go_enter Try.func71, Try.ntmps71
      go_wp2_with fail
      refine (HL1.out _).mono ?_
      rintro e w1 ⟨rfl, hx1⟩
      have K1 : Below w.heap.size w w1 ∧ w1.cell? ⟨w.heap.size, 0, none⟩ = some (.int .i64 i1) ∧ w1.cell? ⟨w.heap.size, 1, none⟩ = some (.int .i64 x1) ∧ w1.cell? ⟨w.heap.size, 2, none⟩ = some (.int .i64 y1) ∧ w1.cell? ⟨w.heap.size + 1, 0, none⟩ = some (.int .i64 i2) ∧ w1.cell? ⟨w.heap.size + 1, 1, none⟩ = some (.int .i64 x2) ∧ w1.cell? ⟨w.heap.size + 1, 2, none⟩ = some (.int .i64 y2) := by
        refine keep6 (Nat.le_refl _) hx1 ?_
        ((repeat' apply And.intro) <;> first | go_keep | (go_simp; done) | (repeat (first | exact Below.refl _ _ | assumption | refine Below.drew ?_ | refine Below.alloc ?_ (by first | omega | (simp <;> omega)) _ | refine Below.setCell ?_ (by first | omega | (simp <;> omega)) _)))
      obtain ⟨kb, q0, q1, q2, q3, q4, q5⟩ := K1
      have zs1 := kb.size
      clear hx1
      go_wp2_with fail
      refine (HL2.out _).mono ?_
      rintro e w2 ⟨rfl, hx2⟩
      have K2 : Below w.heap.size w w2 ∧ w2.cell? ⟨w.heap.size, 0, none⟩ = some (.int .i64 i1) ∧ w2.cell? ⟨w.heap.size, 1, none⟩ = some (.int .i64 x1) ∧ w2.cell? ⟨w.heap.size, 2, none⟩ = some (.int .i64 y1) ∧ w2.cell? ⟨w.heap.size + 1, 0, none⟩ = some (.int .i64 i2) ∧ w2.cell? ⟨w.heap.size + 1, 1, none⟩ = some (.int .i64 x2) ∧ w2.cell? ⟨w.heap.size + 1, 2, none⟩ = some (.int .i64 y2) := by
        refine keep6 (Nat.le_refl _) hx2 ?_
        ((repeat' apply And.intro) <;> first | go_keep | (go_simp; done) | (repeat (first | exact Below.refl _ _ | assumption | refine Below.drew ?_ | refine Below.alloc ?_ (by first | omega | (simp <;> omega)) _ | refine Below.setCell ?_ (by first | omega | (simp <;> omega)) _)))
      clear kb q0 q1 q2 q3 q4 q5
      obtain ⟨kb, q0, q1, q2, q3, q4, q5⟩ := K2
      have zs2 := kb.size
      clear hx2
      go_wp2_with fail
      go_ret
      exact ⟨ret_iE (by simp [c3K, HA.out, HB.out]), kb⟩
  · skip
    go_enter Try.func71, Try.ntmps71
    go_wp2_with fail
    refine (HL1.out _).mono ?_
    rintro e w1 ⟨rfl, hx1⟩
    have K1 : Below w.heap.size w w1 ∧ w1.cell? ⟨w.heap.size, 0, none⟩ = some (.int .i64 i1) ∧ w1.cell? ⟨w.heap.size, 1, none⟩ = some (.int .i64 x1) ∧ w1.cell? ⟨w.heap.size, 2, none⟩ = some (.int .i64 y1) ∧ w1.cell? ⟨w.heap.size + 1, 0, none⟩ = some (.int .i64 i2) ∧ w1.cell? ⟨w.heap.size + 1, 1, none⟩ = some (.int .i64 x2) ∧ w1.cell? ⟨w.heap.size + 1, 2, none⟩ = some (.int .i64 y2) := by
      refine keep6 (Nat.le_refl _) hx1 ?_
      ((repeat' apply And.intro) <;> first | go_keep | (go_simp; done) | (repeat (first | exact Below.refl _ _ | assumption | refine Below.drew ?_ | refine Below.alloc ?_ (by first | omega | (simp <;> omega)) _ | refine Below.setCell ?_ (by first | omega | (simp <;> omega)) _)))
    obtain ⟨kb, q0, q1, q2, q3, q4, q5⟩ := K1
    have zs1 := kb.size
    clear hx1
    go_wp2_with fail
    go_ret
    exact ⟨ret_iE (by simp [c3K, HA.out, HB.out]), kb⟩
theorem kcmp (i1 x1 y1 i2 x2 y2 : Int) (w : World) : Calls Try.prog 48 #[.agg #[.int .i64 i1, .int .i64 x1, .int .i64 y1], .agg #[.int .i64 i2, .int .i64 x2, .int .i64 y2]] w fun e w' => e = .returned (.int .i64 (c3K x1 y1 i1 x2 y2 i2)) ∧ Below w.heap.size w w' := by
  go_enter Try.func48, Try.ntmps48
  go_wp2_with fail
  refine (pcompare _ _ _ _ _ _ _).mono ?_
  rintro e w1 ⟨rfl, hb⟩
  go_wp2_with fail
  go_ret
  exact ⟨rfl, below_below (by simp <;> omega) hb (by repeat (first | exact Below.refl _ _ | assumption | refine Below.drew ?_ | refine Below.setCell ?_ (by first | omega | (simp <;> omega)) _ | refine Below.alloc ?_ (by first | omega | (simp <;> omega)) _))⟩
theorem korder (i1 x1 y1 i2 x2 y2 : Int) (w : World) : Calls Try.prog 51 #[.agg #[.int .i64 i1, .int .i64 x1, .int .i64 y1], .agg #[.int .i64 i2, .int .i64 x2, .int .i64 y2]] w fun e w' => e = .returned (.int .i64 (c3K x1 y1 i1 x2 y2 i2)) ∧ Below w.heap.size w w' := by
  go_enter Try.func51, Try.ntmps51
  go_wp2_with fail
  refine (scompare _ _ _ _ _ _ _).mono ?_
  rintro e w1 ⟨rfl, hb⟩
  go_wp2_with fail
  go_ret
  exact ⟨rfl, below_below (by simp <;> omega) hb (by repeat (first | exact Below.refl _ _ | assumption | refine Below.drew ?_ | refine Below.setCell ?_ (by first | omega | (simp <;> omega)) _ | refine Below.alloc ?_ (by first | omega | (simp <;> omega)) _))⟩
set_option maxHeartbeats 1000000 in
theorem kup (i1 x1 y1 i2 x2 y2 : Int) (w : World) : Calls Try.prog 50 #[.agg #[.int .i64 i1, .int .i64 x1, .int .i64 y1], .agg #[.int .i64 i2, .int .i64 x2, .int .i64 y2]] w fun e w' => e = .returned (.int .i64 (c3K y1 x1 i1 y2 x2 i2)) ∧ Below w.heap.size w w' := by
  go_enter Try.func50, Try.ntmps50
  go_wp2_with fail
  go_region_held3 (fun w' => Below w.heap.size w w' ∧ w'.cell? ⟨w.heap.size, 0, none⟩ = some (.int .i64 i1) ∧ w'.cell? ⟨w.heap.size, 1, none⟩ = some (.int .i64 x1) ∧ w'.cell? ⟨w.heap.size, 2, none⟩ = some (.int .i64 y1) ∧ w'.cell? ⟨w.heap.size + 1, 0, none⟩ = some (.int .i64 i2) ∧ w'.cell? ⟨w.heap.size + 1, 1, none⟩ = some (.int .i64 x2) ∧ w'.cell? ⟨w.heap.size + 1, 2, none⟩ = some (.int .i64 y2)) (first | exact keep6 (Nat.le_refl _) hbx ‹_› | ((repeat' apply And.intro) <;> first | go_keep | (go_simp; done) | (repeat (first | exact Below.refl _ _ | assumption | refine Below.drew ?_ | refine Below.alloc ?_ (by first | omega | (simp <;> omega)) _ | refine Below.setCell ?_ (by first | omega | (simp <;> omega)) _)))) (first | (go_at_call 70; ((with_reducible refine (turned _ _ _ _).mono ?_); rintro e wx ⟨rfl, hbx⟩)) | (go_at_call 68; ((with_reducible refine (pcompare _ _ _ _ _ _ _).mono ?_); rintro e wx ⟨rfl, hbx⟩)))
  go_wp2_with fail
  all_goals go_ret
  all_goals exact ⟨rfl, ((‹_› : Below w.heap.size w _ ∧ _)).1⟩
set_option maxHeartbeats 1000000 in
theorem kends (i1 x1 y1 i2 x2 y2 : Int) (w : World) : Calls Try.prog 52 #[.agg #[.int .i64 i1, .int .i64 x1, .int .i64 y1], .agg #[.int .i64 i2, .int .i64 x2, .int .i64 y2]] w fun e w' => e = .returned (.int .i64 (c3K y1 x1 i1 y2 x2 i2)) ∧ Below w.heap.size w w' := by
  go_enter Try.func52, Try.ntmps52
  go_wp2_with fail
  go_region_held3 (fun w' => Below w.heap.size w w' ∧ w'.cell? ⟨w.heap.size, 0, none⟩ = some (.int .i64 i1) ∧ w'.cell? ⟨w.heap.size, 1, none⟩ = some (.int .i64 x1) ∧ w'.cell? ⟨w.heap.size, 2, none⟩ = some (.int .i64 y1) ∧ w'.cell? ⟨w.heap.size + 1, 0, none⟩ = some (.int .i64 i2) ∧ w'.cell? ⟨w.heap.size + 1, 1, none⟩ = some (.int .i64 x2) ∧ w'.cell? ⟨w.heap.size + 1, 2, none⟩ = some (.int .i64 y2)) (first | exact keep6 (Nat.le_refl _) hbx ‹_› | ((repeat' apply And.intro) <;> first | go_keep | (go_simp; done) | (repeat (first | exact Below.refl _ _ | assumption | refine Below.drew ?_ | refine Below.alloc ?_ (by first | omega | (simp <;> omega)) _ | refine Below.setCell ?_ (by first | omega | (simp <;> omega)) _)))) (first | (go_at_call 73; ((with_reducible refine (flipped _ _ _ _).mono ?_); rintro e wx ⟨rfl, hbx⟩)) | (go_at_call 71; ((with_reducible refine (scompare _ _ _ _ _ _ _).mono ?_); rintro e wx ⟨rfl, hbx⟩)))
  go_wp2_with fail
  all_goals go_ret
  all_goals exact ⟨rfl, ((‹_› : Below w.heap.size w _ ∧ _)).1⟩
end Go.Proofs.Ytjfdlamfklhodaa
