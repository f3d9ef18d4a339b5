/- A product of a sum is the sum of both products, and order goes with sums, for any three numbers (the first two of at most 2 to the power of 61, as the statement itself cuts them). -/
import Derived.Test.YtjfdlamfklhodaaRows
import Derived.WalkKit
import Derived.ProofKit
import Derived.OpenShut
import Derived.ChangeOld
import Derived.Below
import Derived.Outline
import Derived.Lib.SmallJoins
import Derived.Test.YtjfdlamfklhodaaC4
set_option linter.unusedVariables false
namespace Go.Proofs.Ytjfdlamfklhodaa.wideSpreads
open Go.ChangeShapes Go.WideShapes Go.ChangeAt Go.RowKit Go.Joins

theorem own : ownKnob Try.prog.godebug = none := by kernel_rfl
theorem laidOut : laidOutB Try.prog = true := by kernel_rfl
theorem sum_bd {a c : Int} (a0 : -2305843009213693952 ≤ a) (a1 : a ≤ 2305843009213693952) (c0 : -9223372036854775808 ≤ c) (c1 : c ≤ 9223372036854775807) : -21267647932558653966460912964485513216 ≤ a * c ∧ a * c ≤ 21267647932558653966460912964485513216 := by
  have h1 : (a * c).natAbs ≤ 2305843009213693952 * 9223372036854775808 := by rw [Int.natAbs_mul]; exact Nat.mul_le_mul (by omega) (by omega)
  omega
theorem wadd_sum (P Q : Int) (p0 : -21267647932558653966460912964485513216 ≤ P) (p1 : P ≤ 21267647932558653966460912964485513216) (q0 : -21267647932558653966460912964485513216 ≤ Q) (q1 : Q ≤ 21267647932558653966460912964485513216) (w : World) :
    Calls Try.prog 34 #[.agg #[.int .i64 (P / 18446744073709551616), .int .u64 (P % 18446744073709551616)], .agg #[.int .i64 (Q / 18446744073709551616), .int .u64 (Q % 18446744073709551616)]] w fun e w' => e = .returned (.tuple #[.agg #[.int .i64 ((P + Q) / 18446744073709551616), .int .u64 ((P + Q) % 18446744073709551616)], .bool true]) ∧ Below w.heap.size w w' :=
  wadd_yes _ _ _ _ ((P % 18446744073709551616 + Q % 18446744073709551616) / 18446744073709551616) _ _ (by omega) (by omega) (by omega) (by omega) (by omega) (by omega) (by omega) (by omega) (by omega) (by omega) (by omega) (by omega) (by omega) (by omega) (by omega) w
theorem wadd_of (a c : Int) (a0 : -9223372036854775808 ≤ a) (a1 : a ≤ 9223372036854775807) (c0 : -9223372036854775808 ≤ c) (c1 : c ≤ 9223372036854775807) (w : World) :
    Calls Try.prog 34 #[.agg #[.int .i64 (ofH a), .int .u64 (a % 18446744073709551616)], .agg #[.int .i64 (ofH c), .int .u64 (c % 18446744073709551616)]] w fun e w' => e = .returned (.tuple #[.agg #[.int .i64 ((a + c) / 18446744073709551616), .int .u64 ((a + c) % 18446744073709551616)], .bool true]) ∧ Below w.heap.size w w' := by
  have h1 := ofH_val a a0 a1
  have h2 := ofH_val c c0 c1
  generalize ofH a = x at *
  generalize ofH c = y at *
  exact wadd_yes _ _ _ _ ((a % 18446744073709551616 + c % 18446744073709551616) / 18446744073709551616) _ _ (by omega) (by omega) (by omega) (by omega) (by omega) (by omega) (by omega) (by omega) (by omega) (by omega) (by omega) (by omega) (by omega) (by omega) (by omega) w

set_option maxHeartbeats 8000000 in
theorem walk (a0 : Int) (a1 : Int) (a2 : Int) (w : World) (w0 : (Lit.int .i64 a0).wf = true) (w1 : (Lit.int .i64 a1).wf = true) (w2 : (Lit.int .i64 a2).wf = true) :
    Calls Try.prog 12 #[.int .i64 a0, .int .i64 a1, .int .i64 a2] w fun e w' => e = .returned (.bool true) ∧ Below w.heap.size w w' := by
  obtain ⟨a0', a1'⟩ := bd64 w0
  obtain ⟨b0', b1'⟩ := bd64 w1
  obtain ⟨c0, c1⟩ := bd64 w2
  by_cases ha0 : a0 < -2305843009213693952
  · skip
    go_enter Try.func12, Try.ntmps12
    go_wp2_with fail
    refine (lives2 _).mono ?_
    rintro e w1 ⟨rfl, hx1⟩
    go_wp2_with fail
    go_ret
    exact ⟨rfl, hx1⟩
  have ha0 : -2305843009213693952 ≤ a0 := by omega
  by_cases ha1 : 2305843009213693952 < a0
  · skip
    go_enter Try.func12, Try.ntmps12
    go_wp2_with fail
    refine (lives2 _).mono ?_
    rintro e w1 ⟨rfl, hx1⟩
    go_wp2_with fail
    go_ret
    exact ⟨rfl, hx1⟩
  have ha1 : a0 ≤ 2305843009213693952 := by omega
  by_cases hb0 : a1 < -2305843009213693952
  · skip
    go_enter Try.func12, Try.ntmps12
    go_wp2_with fail
    refine (lives2 _).mono ?_
    rintro e w1 ⟨rfl, hx1⟩
    go_wp2_with fail
    go_ret
    exact ⟨rfl, hx1⟩
  have hb0 : -2305843009213693952 ≤ a1 := by omega
  by_cases hb1 : 2305843009213693952 < a1
  · skip
    go_enter Try.func12, Try.ntmps12
    go_wp2_with fail
    refine (lives2 _).mono ?_
    rintro e w1 ⟨rfl, hx1⟩
    go_wp2_with fail
    go_ret
    exact ⟨rfl, hx1⟩
  · have hb1 : a1 ≤ 2305843009213693952 := by omega
    obtain ⟨p0, p1⟩ := sum_bd ha0 ha1 c0 c1
    obtain ⟨q0, q1⟩ := sum_bd hb0 hb1 c0 c1
    have M1 : ∀ w : World, Calls Try.prog 31 #[.int .i64 a0, .int .i64 a2] w fun e w' => e = .returned (.agg #[.int .i64 ((a0 * a2) / 18446744073709551616), .int .u64 ((a0 * a2) % 18446744073709551616)]) ∧ Below w.heap.size w w' := fun w => wmul _ _ (by omega) (by omega) c0 c1 w
    have M2 : ∀ w : World, Calls Try.prog 31 #[.int .i64 a1, .int .i64 a2] w fun e w' => e = .returned (.agg #[.int .i64 ((a1 * a2) / 18446744073709551616), .int .u64 ((a1 * a2) % 18446744073709551616)]) ∧ Below w.heap.size w w' := fun w => wmul _ _ (by omega) (by omega) c0 c1 w
    have M3 : ∀ w : World, Calls Try.prog 31 #[.int .i64 (IntKind.i64.wrap (a0 + a1)), .int .i64 a2] w fun e w' => e = .returned (.agg #[.int .i64 (((a0 * a2) + (a1 * a2)) / 18446744073709551616), .int .u64 (((a0 * a2) + (a1 * a2)) % 18446744073709551616)]) ∧ Below w.heap.size w w' := fun w => by rw [IntWalk.i64_in _ (by omega), ← Int.add_mul]; exact wmul _ _ (by omega) (by omega) c0 c1 w
    have S1 : ∀ w : World, Calls Try.prog 34 #[.agg #[.int .i64 ((a0 * a2) / 18446744073709551616), .int .u64 ((a0 * a2) % 18446744073709551616)], .agg #[.int .i64 ((a1 * a2) / 18446744073709551616), .int .u64 ((a1 * a2) % 18446744073709551616)]] w fun e w' => e = .returned (.tuple #[.agg #[.int .i64 (((a0 * a2) + (a1 * a2)) / 18446744073709551616), .int .u64 (((a0 * a2) + (a1 * a2)) % 18446744073709551616)], .bool true]) ∧ Below w.heap.size w w' := fun w => wadd_sum _ _ p0 p1 q0 q1 w
    have S2 : ∀ w : World, Calls Try.prog 34 #[.agg #[.int .i64 (ofH a0), .int .u64 (a0 % 18446744073709551616)], .agg #[.int .i64 (ofH a2), .int .u64 (a2 % 18446744073709551616)]] w fun e w' => e = .returned (.tuple #[.agg #[.int .i64 ((a0 + a2) / 18446744073709551616), .int .u64 ((a0 + a2) % 18446744073709551616)], .bool true]) ∧ Below w.heap.size w w' := fun w => wadd_of _ _ (by omega) (by omega) c0 c1 w
    have S3 : ∀ w : World, Calls Try.prog 34 #[.agg #[.int .i64 (ofH a1), .int .u64 (a1 % 18446744073709551616)], .agg #[.int .i64 (ofH a2), .int .u64 (a2 % 18446744073709551616)]] w fun e w' => e = .returned (.tuple #[.agg #[.int .i64 ((a1 + a2) / 18446744073709551616), .int .u64 ((a1 + a2) % 18446744073709551616)], .bool true]) ∧ Below w.heap.size w w' := fun w => wadd_of _ _ (by omega) (by omega) c0 c1 w
    have C1 : ∀ w : World, Calls Try.prog 40 #[.agg #[.int .i64 ((a0 + a2) / 18446744073709551616), .int .u64 ((a0 + a2) % 18446744073709551616)], .agg #[.int .i64 ((a1 + a2) / 18446744073709551616), .int .u64 ((a1 + a2) % 18446744073709551616)]] w fun e w' => e = .returned (.int .i64 (sg (a0 - a1))) ∧ Below w.heap.size w w' := fun w => as_int (wcmp _ _ _ _ w) ((cmpW_sg (by omega) (by omega) (by omega) (by omega)).trans (congrArg sg (by omega)))
    have C2 : ∀ w : World, Calls Try.prog 40 #[.agg #[.int .i64 (ofH a0), .int .u64 (a0 % 18446744073709551616)], .agg #[.int .i64 (ofH a1), .int .u64 (a1 % 18446744073709551616)]] w fun e w' => e = .returned (.int .i64 (sg (a0 - a1))) ∧ Below w.heap.size w w' := fun w => as_int (wcmp _ _ _ _ w) ((cmpW_sg (by omega) (by omega) (by omega) (by omega)).trans (congrArg sg (by rw [ofH_val a0 (by omega) (by omega), ofH_val a1 (by omega) (by omega)])))
    have heq : ∀ W : World, (binOp .eql 35 (.agg #[.int .i64 (((a0 * a2) + (a1 * a2)) / 18446744073709551616), .int .u64 (((a0 * a2) + (a1 * a2)) % 18446744073709551616)]) (.agg #[.int .i64 (((a0 * a2) + (a1 * a2)) / 18446744073709551616), .int .u64 (((a0 * a2) + (a1 * a2)) % 18446744073709551616)])).run Try.prog W = .ok (.bool true) W := fun W => by rw [eq_wide]; simp
    have HM1 := Lib.hid M1
    clear M1
    have HM2 := Lib.hid M2
    clear M2
    have HM3 := Lib.hid M3
    clear M3
    have HS1 := Lib.hid S1
    clear S1
    have HS2 := Lib.hid S2
    clear S2
    have HS3 := Lib.hid S3
    clear S3
    have HC1 := Lib.hid C1
    clear C1
    have HC2 := Lib.hid C2
    clear C2
    clear p0 p1 q0 q1
    go_enter Try.func12, Try.ntmps12
    go_wp2_with fail
    refine (HM1.out _).mono ?_
    rintro e w1 ⟨rfl, hx1⟩
    have K1 : Below w.heap.size w w1 := below_below (Nat.le_refl _) hx1 (by first | exact kb | (repeat (first | exact Below.refl _ _ | assumption | refine Below.alloc ?_ (by first | omega | (simp <;> omega)) _)))
    have kb := K1
    have zs1 := kb.size
    clear hx1
    go_wp2_with fail
    refine (HM2.out _).mono ?_
    rintro e w2 ⟨rfl, hx2⟩
    have K2 : Below w.heap.size w w2 := below_below (Nat.le_refl _) hx2 (by first | exact kb | (repeat (first | exact Below.refl _ _ | assumption | refine Below.alloc ?_ (by first | omega | (simp <;> omega)) _)))
    clear kb
    have kb := K2
    have zs2 := kb.size
    clear hx2
    go_wp2_with fail
    refine (HS1.out _).mono ?_
    rintro e w3 ⟨rfl, hx3⟩
    have K3 : Below w.heap.size w w3 := below_below (Nat.le_refl _) hx3 (by first | exact kb | (repeat (first | exact Below.refl _ _ | assumption | refine Below.alloc ?_ (by first | omega | (simp <;> omega)) _)))
    clear kb
    have kb := K3
    have zs3 := kb.size
    clear hx3
    go_wp2_with fail
    refine (wof a0 (by omega) (by omega) _).mono ?_
    rintro e w4 ⟨rfl, hx4⟩
    have K4 : Below w.heap.size w w4 ∧ w4.cell? ⟨w3.heap.size, 0, none⟩ = some (.int .i64 (((a0 * a2) + (a1 * a2)) / 18446744073709551616)) ∧ w4.cell? ⟨w3.heap.size, 1, none⟩ = some (.int .u64 (((a0 * a2) + (a1 * a2)) % 18446744073709551616)) := by
      refine keep2 (Nat.le_refl _) hx4 ?_
      ((repeat' apply And.intro) <;> first | go_keep | (go_simp; done) | (repeat (first | exact Below.refl _ _ | assumption | refine Below.drew ?_ | refine Below.alloc ?_ (by first | omega | (simp <;> omega)) _ | refine Below.setCell ?_ (by first | omega | (simp <;> omega)) _)))
    have zw3_4 : w3.heap.size < w4.heap.size := by have hq := hx4.size; first | omega | (simp at hq; omega)
    clear kb
    obtain ⟨kb, q0, q1⟩ := K4
    have zs4 := kb.size
    clear hx4
    go_wp2_with fail
    refine (wof a2 c0 c1 _).mono ?_
    rintro e w5 ⟨rfl, hx5⟩
    have K5 : Below w.heap.size w w5 ∧ w5.cell? ⟨w3.heap.size, 0, none⟩ = some (.int .i64 (((a0 * a2) + (a1 * a2)) / 18446744073709551616)) ∧ w5.cell? ⟨w3.heap.size, 1, none⟩ = some (.int .u64 (((a0 * a2) + (a1 * a2)) % 18446744073709551616)) := by
      refine keep2 (Nat.le_refl _) hx5 ?_
      ((repeat' apply And.intro) <;> first | go_keep | (go_simp; done) | (repeat (first | exact Below.refl _ _ | assumption | refine Below.drew ?_ | refine Below.alloc ?_ (by first | omega | (simp <;> omega)) _ | refine Below.setCell ?_ (by first | omega | (simp <;> omega)) _)))
    have zw3_5 : w3.heap.size < w5.heap.size := by have hq := hx5.size; first | omega | (simp at hq; omega)
    clear kb q0 q1
    obtain ⟨kb, q0, q1⟩ := K5
    have zs5 := kb.size
    clear hx5
    go_wp2_with fail
    refine (HS2.out _).mono ?_
    rintro e w6 ⟨rfl, hx6⟩
    have K6 : Below w.heap.size w w6 ∧ w6.cell? ⟨w3.heap.size, 0, none⟩ = some (.int .i64 (((a0 * a2) + (a1 * a2)) / 18446744073709551616)) ∧ w6.cell? ⟨w3.heap.size, 1, none⟩ = some (.int .u64 (((a0 * a2) + (a1 * a2)) % 18446744073709551616)) := by
      refine keep2 (Nat.le_refl _) hx6 ?_
      ((repeat' apply And.intro) <;> first | go_keep | (go_simp; done) | (repeat (first | exact Below.refl _ _ | assumption | refine Below.drew ?_ | refine Below.alloc ?_ (by first | omega | (simp <;> omega)) _ | refine Below.setCell ?_ (by first | omega | (simp <;> omega)) _)))
    have zw3_6 : w3.heap.size < w6.heap.size := by have hq := hx6.size; first | omega | (simp at hq; omega)
    clear kb q0 q1
    obtain ⟨kb, q0, q1⟩ := K6
    have zs6 := kb.size
    clear hx6
    go_wp2_with fail
    refine (wof a1 (by omega) (by omega) _).mono ?_
    rintro e w7 ⟨rfl, hx7⟩
    have K7 : Below w.heap.size w w7 ∧ w7.cell? ⟨w3.heap.size, 0, none⟩ = some (.int .i64 (((a0 * a2) + (a1 * a2)) / 18446744073709551616)) ∧ w7.cell? ⟨w3.heap.size, 1, none⟩ = some (.int .u64 (((a0 * a2) + (a1 * a2)) % 18446744073709551616)) ∧ w7.cell? ⟨w6.heap.size, 0, none⟩ = some (.int .i64 ((a0 + a2) / 18446744073709551616)) ∧ w7.cell? ⟨w6.heap.size, 1, none⟩ = some (.int .u64 ((a0 + a2) % 18446744073709551616)) := by
      refine keep4 (Nat.le_refl _) hx7 ?_
      ((repeat' apply And.intro) <;> first | go_keep | (go_simp; done) | (repeat (first | exact Below.refl _ _ | assumption | refine Below.drew ?_ | refine Below.alloc ?_ (by first | omega | (simp <;> omega)) _ | refine Below.setCell ?_ (by first | omega | (simp <;> omega)) _)))
    have zw3_7 : w3.heap.size < w7.heap.size := by have hq := hx7.size; first | omega | (simp at hq; omega)
    have zw6_7 : w6.heap.size < w7.heap.size := by have hq := hx7.size; first | omega | (simp at hq; omega)
    clear kb q0 q1
    obtain ⟨kb, q0, q1, q2, q3⟩ := K7
    have zs7 := kb.size
    clear hx7
    go_wp2_with fail
    refine (wof a2 c0 c1 _).mono ?_
    rintro e w8 ⟨rfl, hx8⟩
    have K8 : Below w.heap.size w w8 ∧ w8.cell? ⟨w3.heap.size, 0, none⟩ = some (.int .i64 (((a0 * a2) + (a1 * a2)) / 18446744073709551616)) ∧ w8.cell? ⟨w3.heap.size, 1, none⟩ = some (.int .u64 (((a0 * a2) + (a1 * a2)) % 18446744073709551616)) ∧ w8.cell? ⟨w6.heap.size, 0, none⟩ = some (.int .i64 ((a0 + a2) / 18446744073709551616)) ∧ w8.cell? ⟨w6.heap.size, 1, none⟩ = some (.int .u64 ((a0 + a2) % 18446744073709551616)) := by
      refine keep4 (Nat.le_refl _) hx8 ?_
      ((repeat' apply And.intro) <;> first | go_keep | (go_simp; done) | (repeat (first | exact Below.refl _ _ | assumption | refine Below.drew ?_ | refine Below.alloc ?_ (by first | omega | (simp <;> omega)) _ | refine Below.setCell ?_ (by first | omega | (simp <;> omega)) _)))
    have zw3_8 : w3.heap.size < w8.heap.size := by have hq := hx8.size; first | omega | (simp at hq; omega)
    have zw6_8 : w6.heap.size < w8.heap.size := by have hq := hx8.size; first | omega | (simp at hq; omega)
    clear kb q0 q1 q2 q3
    obtain ⟨kb, q0, q1, q2, q3⟩ := K8
    have zs8 := kb.size
    clear hx8
    go_wp2_with fail
    refine (HS3.out _).mono ?_
    rintro e w9 ⟨rfl, hx9⟩
    have K9 : Below w.heap.size w w9 ∧ w9.cell? ⟨w3.heap.size, 0, none⟩ = some (.int .i64 (((a0 * a2) + (a1 * a2)) / 18446744073709551616)) ∧ w9.cell? ⟨w3.heap.size, 1, none⟩ = some (.int .u64 (((a0 * a2) + (a1 * a2)) % 18446744073709551616)) ∧ w9.cell? ⟨w6.heap.size, 0, none⟩ = some (.int .i64 ((a0 + a2) / 18446744073709551616)) ∧ w9.cell? ⟨w6.heap.size, 1, none⟩ = some (.int .u64 ((a0 + a2) % 18446744073709551616)) := by
      refine keep4 (Nat.le_refl _) hx9 ?_
      ((repeat' apply And.intro) <;> first | go_keep | (go_simp; done) | (repeat (first | exact Below.refl _ _ | assumption | refine Below.drew ?_ | refine Below.alloc ?_ (by first | omega | (simp <;> omega)) _ | refine Below.setCell ?_ (by first | omega | (simp <;> omega)) _)))
    have zw3_9 : w3.heap.size < w9.heap.size := by have hq := hx9.size; first | omega | (simp at hq; omega)
    have zw6_9 : w6.heap.size < w9.heap.size := by have hq := hx9.size; first | omega | (simp at hq; omega)
    clear kb q0 q1 q2 q3
    obtain ⟨kb, q0, q1, q2, q3⟩ := K9
    have zs9 := kb.size
    clear hx9
    go_wp2_with fail
    go_region_held3 (fun w' => Below w.heap.size w w' ∧ w'.cell? ⟨w3.heap.size, 0, none⟩ = some (.int .i64 (((a0 * a2) + (a1 * a2)) / 18446744073709551616)) ∧ w'.cell? ⟨w3.heap.size, 1, none⟩ = some (.int .u64 (((a0 * a2) + (a1 * a2)) % 18446744073709551616)) ∧ w'.cell? ⟨w6.heap.size, 0, none⟩ = some (.int .i64 ((a0 + a2) / 18446744073709551616)) ∧ w'.cell? ⟨w6.heap.size, 1, none⟩ = some (.int .u64 ((a0 + a2) % 18446744073709551616)) ∧ w'.cell? ⟨w9.heap.size, 0, none⟩ = some (.int .i64 ((a1 + a2) / 18446744073709551616)) ∧ w'.cell? ⟨w9.heap.size, 1, none⟩ = some (.int .u64 ((a1 + a2) % 18446744073709551616))) (first | exact keep6 (Nat.le_refl _) hbx ‹_› | ((repeat' apply And.intro) <;> first | go_keep | (go_simp; done) | (repeat (first | exact Below.refl _ _ | assumption | refine Below.drew ?_ | refine Below.alloc ?_ (by first | omega | (simp <;> omega)) _ | refine Below.setCell ?_ (by first | omega | (simp <;> omega)) _)))) (first | (go_at_call 31; ((with_reducible refine (HM3.out _).mono ?_); rintro e wx ⟨rfl, hbx⟩)) | (go_at_call 40; ((with_reducible refine (HC1.out _).mono ?_); rintro e wx ⟨rfl, hbx⟩)) | (go_at_call 40; ((with_reducible refine (HC2.out _).mono ?_); rintro e wx ⟨rfl, hbx⟩)) | (go_at_call 32; ((with_reducible refine (wof a0 (by omega) (by omega) _).mono ?_); rintro e wx ⟨rfl, hbx⟩)) | (go_at_call 32; ((with_reducible refine (wof a1 (by omega) (by omega) _).mono ?_); rintro e wx ⟨rfl, hbx⟩)) | (go_at_call 33; refine (lives2 _).mono ?_; rintro e wx ⟨rfl, hbx⟩))
    go_wp2_with fail
    go_ret
    exact ⟨rfl, ((‹_› : Below w.heap.size w _ ∧ _)).1⟩

set_option maxRecDepth 100000 in
theorem lifted (os : Os) (started : os.Started) (H : Type) (enc : TypeId × Value → H) :
    ReturnsInHanded {} Try.checked os 12 .any (Rows.wideSpreadsSpec.pre6 enc Try.prog Try.f12 Rows.wideSpreadsRow.domain false) (Rows.wideSpreadsSpec.post enc Try.prog Try.f12 false true false false) := by
  refine returnsInHanded_of_change (C := Try.checked) own started (by kernel_rfl) Try.func12
    (ChangeSpec.witness6 (enc := enc) (C := Try.checked) false ⟨#[], #[.int .i64 0, .int .i64 0, .int .i64 0], []⟩ 8 (by kernel_rfl) (by kernel_rfl) (by kernel_rfl) (by kernel_rfl)) ?_
  intro W base args ds gs before hval0 hW hcnd _
  have hval : ∀ (j : Nat) t v, Try.f12.params[j]? = some t → args[j]? = some v → Value.okWide Try.prog W .any base t v := hval0
  have hW' := hW
  obtain ⟨p, q, hA0, hV, rfl, hfz, hnd⟩ := hW
  have hA : DataW.TrodAll enc Try.prog W 0 (fun _ => true) true Try.f12.params.toList args.toList ds p := hA0
  rw [Try.params12] at hA hval
  obtain ⟨v0, vs0, d0, ds0, p0, q0, hargs, rfl, rfl, h0, rr0⟩ := trodAll_cons hA
  obtain ⟨v1, vs1, d1, ds1, p1, q1, rfl, rfl, rfl, h1, rr1⟩ := trodAll_cons rr0
  obtain ⟨v2, vs2, d2, ds2, p2, q2, rfl, rfl, rfl, h2, rr2⟩ := trodAll_cons rr1
  obtain ⟨rfl, rfl, rfl⟩ := trodAll_nil rr2
  obtain rfl : args = #[v0, v1, v2] := by cases args; simp_all
  obtain ⟨rfl, rfl⟩ := trodVars_none hV
  have k0 := h0
  have lt0 : ∀ x ∈ p0, x.block < W.heap.size := by obtain ⟨m, hm⟩ := k0; exact DataW.trod_lt m _ _ _ hm
  obtain ⟨a0, rfl, _, _, w0⟩ := open_int Try.underlying3 (hval 0 3 v0 rfl rfl) h0
  have k1 := h1
  have lt1 : ∀ x ∈ p1, x.block < W.heap.size := by obtain ⟨m, hm⟩ := k1; exact DataW.trod_lt m _ _ _ hm
  obtain ⟨a1, rfl, _, _, w1⟩ := open_int Try.underlying3 (hval 1 3 v1 rfl rfl) h1
  have k2 := h2
  have lt2 : ∀ x ∈ p2, x.block < W.heap.size := by obtain ⟨m, hm⟩ := k2; exact DataW.trod_lt m _ _ _ hm
  obtain ⟨a2, rfl, _, _, w2⟩ := open_int Try.underlying3 (hval 2 3 v2 rfl rfl) h2
  clear hA0 hval0
  refine (walk a0 a1 a2 W w0 w1 w2).mono fun e W' ⟨he, bel⟩ => ?_
  subst he
  exact ⟨_, rfl, _, _, _, [], _, [], hW', trodAll_mk1 (shut_bool Try.underlying4 _), (trodAll_cons_mk (Below.trod laidOut (by kernel_rfl) (of_decide_eq_true (by kernel_rfl)) k0 bel lt0) (trodAll_cons_mk (Below.trod laidOut (by kernel_rfl) (of_decide_eq_true (by kernel_rfl)) k1 bel lt1) (trodAll_cons_mk (Below.trod laidOut (by kernel_rfl) (of_decide_eq_true (by kernel_rfl)) k2 bel lt2) trodAll_mk0))), rfl, bel.frame _, fun h => by cases h⟩

theorem over : Rows.wideSpreadsRow.holds Try.pinned (OpenSpec.ofChange Rows.wideSpreadsSpec) :=
  OpenClaim.holds_of_wide 12 Try.f12 rfl rfl rfl rfl rfl rfl rfl ⟨rfl, rfl, rfl, rfl, rfl⟩ rfl rfl rfl rfl rfl (by kernel_rfl) Try.func12 (by kernel_rfl)
    (of_decide_eq_true (by kernel_rfl)) (by unfold Func.isWrapper; first | (rw [if_pos (by decide +kernel)]; kernel_rfl) | (rw [if_neg (by decide +kernel)]; exact ⟨rfl, rfl⟩))
    (fun os started H enc _ => lifted os started H enc)

theorem proved : Rows.WideSpreadsSaid := over
#print axioms proved
end Go.Proofs.Ytjfdlamfklhodaa.wideSpreads
