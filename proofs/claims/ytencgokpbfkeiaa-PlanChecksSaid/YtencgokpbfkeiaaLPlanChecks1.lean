/- 'alidadelaw25.PlanChecks' comes out true: cases 12 to 23. -/
import Derived.Test.YtencgokpbfkeiaaPPlanChecks
import Derived.WalkKit
set_option linter.unusedVariables false
namespace Go.Proofs.Ytencgokpbfkeiaa
open Go Go.RowKit
def argsPlanChecks_12 : List Ev.AV := [.ag [.i .i64 1, .y .i64 2722259016497146122424359018585896517633000002, .y .i64 2722259016497146122424359018585896517633000002, .y .i64 2722259016497146122424359018585896517633001000, .y .i64 2722259016497146122424359018585896517633001001, .y .i64 0, .y .i64 1, .y .i64 2, .y .i64 3, .y .i64 4]]
set_option maxRecDepth 100000 in
theorem ranPlanChecks_12 : Ev.okB (Ev.callA Try.prog [3, 4, 32, 137] (Ev.lk Ev.planPlanChecks) 200 3 argsPlanChecks_12 ⟨0, .e⟩) = true := by kernel_rfl
def sgPlanChecks_12 (b1 b3 b4 w1 w2 w3 x h : Int) (j : Nat) : Int := match Nat.beq j 2722259016497146122424359018585896517633000002 with
  | true => b1
  | false => match Nat.beq j 2722259016497146122424359018585896517633001000 with
  | true => b3
  | false => match Nat.beq j 2722259016497146122424359018585896517633001001 with
  | true => b4
  | false => match Nat.beq j 0 with
  | true => w1
  | false => match Nat.beq j 1 with
  | true => w2
  | false => match Nat.beq j 2 with
  | true => w3
  | false => match Nat.beq j 3 with
  | true => x
  | false => match Nat.beq j 4 with
  | true => h
  | false => 0
theorem leafPlanChecks_12 (k b1 b2 b3 b4 w1 w2 w3 x h : Int) (w : World) (hk : k = 1) (lb1 : (-1099511627776) ≤ b1) (ub1 : b1 ≤ 1099511627776) (lb2 : (-1099511627776) ≤ b2) (ub2 : b2 ≤ 1099511627776) (lb3 : (-1099511627776) ≤ b3) (ub3 : b3 ≤ 1099511627776) (lb4 : (-1099511627776) ≤ b4) (ub4 : b4 ≤ 1099511627776) (qb2 : b2 = b1) (gb3b4 : b3 < b4) : Calls Try.prog 3 #[.agg #[.int .i64 k, .int .i64 b1, .int .i64 b2, .int .i64 b3, .int .i64 b4, .int .i64 w1, .int .i64 w2, .int .i64 w3, .int .i64 x, .int .i64 h]] w fun e w' => e = .returned (.bool true) ∧ Below w.heap.size w w' := by
  have eb3 := Ev.sgOf_two (f := sgPlanChecks_12 b1 b3 b4 w1 w2 w3 x h) 2722259016497146122424359018585896517633001000 2722259016497146122424359018585896517633001001 rfl (a := b3) (b := b4) rfl rfl (by kernel_rfl) (by kernel_rfl : Ev.domS 2722259016497146122424359018585896517633001000 = (some (-1099511627776), some 1099511627776)) (show (-1099511627776) ≤ b3 by omega) (show b3 ≤ 1099511627776 by omega) (show (-1099511627776) ≤ b4 by omega) (show b4 ≤ 1099511627776 by omega) (by omega)
  have eb1 := Ev.sgOf_at (f := sgPlanChecks_12 b1 b3 b4 w1 w2 w3 x h) 2722259016497146122424359018585896517633000002 (a := b1) rfl (by kernel_rfl) (by kernel_rfl) (by kernel_rfl : Ev.domS 2722259016497146122424359018585896517633000002 = (some (-1099511627776), some 1099511627776)) (show (-1099511627776) ≤ b1 by omega) (show b1 ≤ 1099511627776 by omega)
  have ew1 := Ev.sgOf_at (f := sgPlanChecks_12 b1 b3 b4 w1 w2 w3 x h) 0 (a := w1) rfl (by kernel_rfl) (by kernel_rfl) (by kernel_rfl : Ev.domS 0 = (none, none)) (trivial : True) (trivial : True)
  have ew2 := Ev.sgOf_at (f := sgPlanChecks_12 b1 b3 b4 w1 w2 w3 x h) 1 (a := w2) rfl (by kernel_rfl) (by kernel_rfl) (by kernel_rfl : Ev.domS 1 = (none, none)) (trivial : True) (trivial : True)
  have ew3 := Ev.sgOf_at (f := sgPlanChecks_12 b1 b3 b4 w1 w2 w3 x h) 2 (a := w3) rfl (by kernel_rfl) (by kernel_rfl) (by kernel_rfl : Ev.domS 2 = (none, none)) (trivial : True) (trivial : True)
  have ex := Ev.sgOf_at (f := sgPlanChecks_12 b1 b3 b4 w1 w2 w3 x h) 3 (a := x) rfl (by kernel_rfl) (by kernel_rfl) (by kernel_rfl : Ev.domS 3 = (none, none)) (trivial : True) (trivial : True)
  have eh := Ev.sgOf_at (f := sgPlanChecks_12 b1 b3 b4 w1 w2 w3 x h) 4 (a := h) rfl (by kernel_rfl) (by kernel_rfl) (by kernel_rfl : Ev.domS 4 = (none, none)) (trivial : True) (trivial : True)
  have hr : Calls Try.prog 3 #[.agg #[.int .i64 1, .int .i64 (Ev.sgOf (sgPlanChecks_12 b1 b3 b4 w1 w2 w3 x h) 2722259016497146122424359018585896517633000002), .int .i64 (Ev.sgOf (sgPlanChecks_12 b1 b3 b4 w1 w2 w3 x h) 2722259016497146122424359018585896517633000002), .int .i64 (Ev.sgOf (sgPlanChecks_12 b1 b3 b4 w1 w2 w3 x h) 2722259016497146122424359018585896517633001000), .int .i64 (Ev.sgOf (sgPlanChecks_12 b1 b3 b4 w1 w2 w3 x h) 2722259016497146122424359018585896517633001001), .int .i64 (Ev.sgOf (sgPlanChecks_12 b1 b3 b4 w1 w2 w3 x h) 0), .int .i64 (Ev.sgOf (sgPlanChecks_12 b1 b3 b4 w1 w2 w3 x h) 1), .int .i64 (Ev.sgOf (sgPlanChecks_12 b1 b3 b4 w1 w2 w3 x h) 2), .int .i64 (Ev.sgOf (sgPlanChecks_12 b1 b3 b4 w1 w2 w3 x h) 3), .int .i64 (Ev.sgOf (sgPlanChecks_12 b1 b3 b4 w1 w2 w3 x h) 4)]] w fun e w' => e = .returned (.bool true) ∧ Below w.heap.size w w' := Ev.run_law (P := Try.prog) (by kernel_rfl) Ev.namesPlanChecks Ev.eqsPlanChecks ranPlanChecks_12 (by simp [argsPlanChecks_12, Ev.AV.bd]) (Ev.sgOf (sgPlanChecks_12 b1 b3 b4 w1 w2 w3 x h)) (Ev.sgOf_ok _) w
  rw [eb3.1, eb3.2, eb1, ew1, ew2, ew3, ex, eh] at hr
  rw [qb2, hk]
  exact hr
def argsPlanChecks_13 : List Ev.AV := [.ag [.i .i64 1, .y .i64 2722259016497146122424359018585896517633000000, .y .i64 2722259016497146122424359018585896517633000000, .y .i64 2722259016497146122424359018585896517633000002, .y .i64 2722259016497146122424359018585896517633000002, .y .i64 0, .y .i64 1, .y .i64 2, .y .i64 3, .y .i64 4]]
set_option maxRecDepth 100000 in
theorem ranPlanChecks_13 : Ev.okB (Ev.callA Try.prog [3, 4, 32, 137] (Ev.lk Ev.planPlanChecks) 200 3 argsPlanChecks_13 ⟨0, .e⟩) = true := by kernel_rfl
def sgPlanChecks_13 (b1 b3 w1 w2 w3 x h : Int) (j : Nat) : Int := match Nat.beq j 2722259016497146122424359018585896517633000000 with
  | true => b1
  | false => match Nat.beq j 2722259016497146122424359018585896517633000002 with
  | true => b3
  | false => match Nat.beq j 0 with
  | true => w1
  | false => match Nat.beq j 1 with
  | true => w2
  | false => match Nat.beq j 2 with
  | true => w3
  | false => match Nat.beq j 3 with
  | true => x
  | false => match Nat.beq j 4 with
  | true => h
  | false => 0
theorem leafPlanChecks_13 (k b1 b2 b3 b4 w1 w2 w3 x h : Int) (w : World) (hk : k = 1) (lb1 : (-1099511627776) ≤ b1) (ub1 : b1 ≤ 1099511627776) (lb2 : (-1099511627776) ≤ b2) (ub2 : b2 ≤ 1099511627776) (lb3 : (-1099511627776) ≤ b3) (ub3 : b3 ≤ 1099511627776) (lb4 : (-1099511627776) ≤ b4) (ub4 : b4 ≤ 1099511627776) (qb2 : b2 = b1) (qb4 : b4 = b3) : Calls Try.prog 3 #[.agg #[.int .i64 k, .int .i64 b1, .int .i64 b2, .int .i64 b3, .int .i64 b4, .int .i64 w1, .int .i64 w2, .int .i64 w3, .int .i64 x, .int .i64 h]] w fun e w' => e = .returned (.bool true) ∧ Below w.heap.size w w' := by
  have eb1 := Ev.sgOf_at (f := sgPlanChecks_13 b1 b3 w1 w2 w3 x h) 2722259016497146122424359018585896517633000000 (a := b1) rfl (by kernel_rfl) (by kernel_rfl) (by kernel_rfl : Ev.domS 2722259016497146122424359018585896517633000000 = (some (-1099511627776), some 1099511627776)) (show (-1099511627776) ≤ b1 by omega) (show b1 ≤ 1099511627776 by omega)
  have eb3 := Ev.sgOf_at (f := sgPlanChecks_13 b1 b3 w1 w2 w3 x h) 2722259016497146122424359018585896517633000002 (a := b3) rfl (by kernel_rfl) (by kernel_rfl) (by kernel_rfl : Ev.domS 2722259016497146122424359018585896517633000002 = (some (-1099511627776), some 1099511627776)) (show (-1099511627776) ≤ b3 by omega) (show b3 ≤ 1099511627776 by omega)
  have ew1 := Ev.sgOf_at (f := sgPlanChecks_13 b1 b3 w1 w2 w3 x h) 0 (a := w1) rfl (by kernel_rfl) (by kernel_rfl) (by kernel_rfl : Ev.domS 0 = (none, none)) (trivial : True) (trivial : True)
  have ew2 := Ev.sgOf_at (f := sgPlanChecks_13 b1 b3 w1 w2 w3 x h) 1 (a := w2) rfl (by kernel_rfl) (by kernel_rfl) (by kernel_rfl : Ev.domS 1 = (none, none)) (trivial : True) (trivial : True)
  have ew3 := Ev.sgOf_at (f := sgPlanChecks_13 b1 b3 w1 w2 w3 x h) 2 (a := w3) rfl (by kernel_rfl) (by kernel_rfl) (by kernel_rfl : Ev.domS 2 = (none, none)) (trivial : True) (trivial : True)
  have ex := Ev.sgOf_at (f := sgPlanChecks_13 b1 b3 w1 w2 w3 x h) 3 (a := x) rfl (by kernel_rfl) (by kernel_rfl) (by kernel_rfl : Ev.domS 3 = (none, none)) (trivial : True) (trivial : True)
  have eh := Ev.sgOf_at (f := sgPlanChecks_13 b1 b3 w1 w2 w3 x h) 4 (a := h) rfl (by kernel_rfl) (by kernel_rfl) (by kernel_rfl : Ev.domS 4 = (none, none)) (trivial : True) (trivial : True)
  have hr : Calls Try.prog 3 #[.agg #[.int .i64 1, .int .i64 (Ev.sgOf (sgPlanChecks_13 b1 b3 w1 w2 w3 x h) 2722259016497146122424359018585896517633000000), .int .i64 (Ev.sgOf (sgPlanChecks_13 b1 b3 w1 w2 w3 x h) 2722259016497146122424359018585896517633000000), .int .i64 (Ev.sgOf (sgPlanChecks_13 b1 b3 w1 w2 w3 x h) 2722259016497146122424359018585896517633000002), .int .i64 (Ev.sgOf (sgPlanChecks_13 b1 b3 w1 w2 w3 x h) 2722259016497146122424359018585896517633000002), .int .i64 (Ev.sgOf (sgPlanChecks_13 b1 b3 w1 w2 w3 x h) 0), .int .i64 (Ev.sgOf (sgPlanChecks_13 b1 b3 w1 w2 w3 x h) 1), .int .i64 (Ev.sgOf (sgPlanChecks_13 b1 b3 w1 w2 w3 x h) 2), .int .i64 (Ev.sgOf (sgPlanChecks_13 b1 b3 w1 w2 w3 x h) 3), .int .i64 (Ev.sgOf (sgPlanChecks_13 b1 b3 w1 w2 w3 x h) 4)]] w fun e w' => e = .returned (.bool true) ∧ Below w.heap.size w w' := Ev.run_law (P := Try.prog) (by kernel_rfl) Ev.namesPlanChecks Ev.eqsPlanChecks ranPlanChecks_13 (by simp [argsPlanChecks_13, Ev.AV.bd]) (Ev.sgOf (sgPlanChecks_13 b1 b3 w1 w2 w3 x h)) (Ev.sgOf_ok _) w
  rw [eb1, eb3, ew1, ew2, ew3, ex, eh] at hr
  rw [qb2, qb4, hk]
  exact hr
def argsPlanChecks_14 : List Ev.AV := [.ag [.i .i64 1, .y .i64 2722259016497146122424359018585896517633000002, .y .i64 2722259016497146122424359018585896517633000002, .y .i64 2722259016497146122424359018585896517633001001, .y .i64 2722259016497146122424359018585896517633001000, .y .i64 0, .y .i64 1, .y .i64 2, .y .i64 3, .y .i64 4]]
set_option maxRecDepth 100000 in
theorem ranPlanChecks_14 : Ev.okB (Ev.callA Try.prog [3, 4, 32, 137] (Ev.lk Ev.planPlanChecks) 200 3 argsPlanChecks_14 ⟨0, .e⟩) = true := by kernel_rfl
def sgPlanChecks_14 (b1 b3 b4 w1 w2 w3 x h : Int) (j : Nat) : Int := match Nat.beq j 2722259016497146122424359018585896517633000002 with
  | true => b1
  | false => match Nat.beq j 2722259016497146122424359018585896517633001001 with
  | true => b3
  | false => match Nat.beq j 2722259016497146122424359018585896517633001000 with
  | true => b4
  | false => match Nat.beq j 0 with
  | true => w1
  | false => match Nat.beq j 1 with
  | true => w2
  | false => match Nat.beq j 2 with
  | true => w3
  | false => match Nat.beq j 3 with
  | true => x
  | false => match Nat.beq j 4 with
  | true => h
  | false => 0
theorem leafPlanChecks_14 (k b1 b2 b3 b4 w1 w2 w3 x h : Int) (w : World) (hk : k = 1) (lb1 : (-1099511627776) ≤ b1) (ub1 : b1 ≤ 1099511627776) (lb2 : (-1099511627776) ≤ b2) (ub2 : b2 ≤ 1099511627776) (lb3 : (-1099511627776) ≤ b3) (ub3 : b3 ≤ 1099511627776) (lb4 : (-1099511627776) ≤ b4) (ub4 : b4 ≤ 1099511627776) (qb2 : b2 = b1) (gb4b3 : b4 < b3) : Calls Try.prog 3 #[.agg #[.int .i64 k, .int .i64 b1, .int .i64 b2, .int .i64 b3, .int .i64 b4, .int .i64 w1, .int .i64 w2, .int .i64 w3, .int .i64 x, .int .i64 h]] w fun e w' => e = .returned (.bool true) ∧ Below w.heap.size w w' := by
  have eb4 := Ev.sgOf_two (f := sgPlanChecks_14 b1 b3 b4 w1 w2 w3 x h) 2722259016497146122424359018585896517633001000 2722259016497146122424359018585896517633001001 rfl (a := b4) (b := b3) rfl rfl (by kernel_rfl) (by kernel_rfl : Ev.domS 2722259016497146122424359018585896517633001000 = (some (-1099511627776), some 1099511627776)) (show (-1099511627776) ≤ b4 by omega) (show b4 ≤ 1099511627776 by omega) (show (-1099511627776) ≤ b3 by omega) (show b3 ≤ 1099511627776 by omega) (by omega)
  have eb1 := Ev.sgOf_at (f := sgPlanChecks_14 b1 b3 b4 w1 w2 w3 x h) 2722259016497146122424359018585896517633000002 (a := b1) rfl (by kernel_rfl) (by kernel_rfl) (by kernel_rfl : Ev.domS 2722259016497146122424359018585896517633000002 = (some (-1099511627776), some 1099511627776)) (show (-1099511627776) ≤ b1 by omega) (show b1 ≤ 1099511627776 by omega)
  have ew1 := Ev.sgOf_at (f := sgPlanChecks_14 b1 b3 b4 w1 w2 w3 x h) 0 (a := w1) rfl (by kernel_rfl) (by kernel_rfl) (by kernel_rfl : Ev.domS 0 = (none, none)) (trivial : True) (trivial : True)
  have ew2 := Ev.sgOf_at (f := sgPlanChecks_14 b1 b3 b4 w1 w2 w3 x h) 1 (a := w2) rfl (by kernel_rfl) (by kernel_rfl) (by kernel_rfl : Ev.domS 1 = (none, none)) (trivial : True) (trivial : True)
  have ew3 := Ev.sgOf_at (f := sgPlanChecks_14 b1 b3 b4 w1 w2 w3 x h) 2 (a := w3) rfl (by kernel_rfl) (by kernel_rfl) (by kernel_rfl : Ev.domS 2 = (none, none)) (trivial : True) (trivial : True)
  have ex := Ev.sgOf_at (f := sgPlanChecks_14 b1 b3 b4 w1 w2 w3 x h) 3 (a := x) rfl (by kernel_rfl) (by kernel_rfl) (by kernel_rfl : Ev.domS 3 = (none, none)) (trivial : True) (trivial : True)
  have eh := Ev.sgOf_at (f := sgPlanChecks_14 b1 b3 b4 w1 w2 w3 x h) 4 (a := h) rfl (by kernel_rfl) (by kernel_rfl) (by kernel_rfl : Ev.domS 4 = (none, none)) (trivial : True) (trivial : True)
  have hr : Calls Try.prog 3 #[.agg #[.int .i64 1, .int .i64 (Ev.sgOf (sgPlanChecks_14 b1 b3 b4 w1 w2 w3 x h) 2722259016497146122424359018585896517633000002), .int .i64 (Ev.sgOf (sgPlanChecks_14 b1 b3 b4 w1 w2 w3 x h) 2722259016497146122424359018585896517633000002), .int .i64 (Ev.sgOf (sgPlanChecks_14 b1 b3 b4 w1 w2 w3 x h) 2722259016497146122424359018585896517633001001), .int .i64 (Ev.sgOf (sgPlanChecks_14 b1 b3 b4 w1 w2 w3 x h) 2722259016497146122424359018585896517633001000), .int .i64 (Ev.sgOf (sgPlanChecks_14 b1 b3 b4 w1 w2 w3 x h) 0), .int .i64 (Ev.sgOf (sgPlanChecks_14 b1 b3 b4 w1 w2 w3 x h) 1), .int .i64 (Ev.sgOf (sgPlanChecks_14 b1 b3 b4 w1 w2 w3 x h) 2), .int .i64 (Ev.sgOf (sgPlanChecks_14 b1 b3 b4 w1 w2 w3 x h) 3), .int .i64 (Ev.sgOf (sgPlanChecks_14 b1 b3 b4 w1 w2 w3 x h) 4)]] w fun e w' => e = .returned (.bool true) ∧ Below w.heap.size w w' := Ev.run_law (P := Try.prog) (by kernel_rfl) Ev.namesPlanChecks Ev.eqsPlanChecks ranPlanChecks_14 (by simp [argsPlanChecks_14, Ev.AV.bd]) (Ev.sgOf (sgPlanChecks_14 b1 b3 b4 w1 w2 w3 x h)) (Ev.sgOf_ok _) w
  rw [eb4.1, eb4.2, eb1, ew1, ew2, ew3, ex, eh] at hr
  rw [qb2, hk]
  exact hr
def argsPlanChecks_15 : List Ev.AV := [.ag [.i .i64 1, .y .i64 2722259016497146122424359018585896517633001001, .y .i64 2722259016497146122424359018585896517633001000, .y .i64 2722259016497146122424359018585896517633000002, .y .i64 2722259016497146122424359018585896517633000004, .y .i64 0, .y .i64 1, .y .i64 2, .y .i64 3, .y .i64 4]]
set_option maxRecDepth 100000 in
theorem ranPlanChecks_15 : Ev.okB (Ev.callA Try.prog [3, 4, 32, 137] (Ev.lk Ev.planPlanChecks) 200 3 argsPlanChecks_15 ⟨0, .e⟩) = true := by kernel_rfl
def sgPlanChecks_15 (b1 b2 b3 b4 w1 w2 w3 x h : Int) (j : Nat) : Int := match Nat.beq j 2722259016497146122424359018585896517633001001 with
  | true => b1
  | false => match Nat.beq j 2722259016497146122424359018585896517633001000 with
  | true => b2
  | false => match Nat.beq j 2722259016497146122424359018585896517633000002 with
  | true => b3
  | false => match Nat.beq j 2722259016497146122424359018585896517633000004 with
  | true => b4
  | false => match Nat.beq j 0 with
  | true => w1
  | false => match Nat.beq j 1 with
  | true => w2
  | false => match Nat.beq j 2 with
  | true => w3
  | false => match Nat.beq j 3 with
  | true => x
  | false => match Nat.beq j 4 with
  | true => h
  | false => 0
theorem leafPlanChecks_15 (k b1 b2 b3 b4 w1 w2 w3 x h : Int) (w : World) (hk : k = 1) (lb1 : (-1099511627776) ≤ b1) (ub1 : b1 ≤ 1099511627776) (lb2 : (-1099511627776) ≤ b2) (ub2 : b2 ≤ 1099511627776) (lb3 : (-1099511627776) ≤ b3) (ub3 : b3 ≤ 1099511627776) (lb4 : (-1099511627776) ≤ b4) (ub4 : b4 ≤ 1099511627776) (gb2b1 : b2 < b1) : Calls Try.prog 3 #[.agg #[.int .i64 k, .int .i64 b1, .int .i64 b2, .int .i64 b3, .int .i64 b4, .int .i64 w1, .int .i64 w2, .int .i64 w3, .int .i64 x, .int .i64 h]] w fun e w' => e = .returned (.bool true) ∧ Below w.heap.size w w' := by
  have eb2 := Ev.sgOf_two (f := sgPlanChecks_15 b1 b2 b3 b4 w1 w2 w3 x h) 2722259016497146122424359018585896517633001000 2722259016497146122424359018585896517633001001 rfl (a := b2) (b := b1) rfl rfl (by kernel_rfl) (by kernel_rfl : Ev.domS 2722259016497146122424359018585896517633001000 = (some (-1099511627776), some 1099511627776)) (show (-1099511627776) ≤ b2 by omega) (show b2 ≤ 1099511627776 by omega) (show (-1099511627776) ≤ b1 by omega) (show b1 ≤ 1099511627776 by omega) (by omega)
  have eb3 := Ev.sgOf_at (f := sgPlanChecks_15 b1 b2 b3 b4 w1 w2 w3 x h) 2722259016497146122424359018585896517633000002 (a := b3) rfl (by kernel_rfl) (by kernel_rfl) (by kernel_rfl : Ev.domS 2722259016497146122424359018585896517633000002 = (some (-1099511627776), some 1099511627776)) (show (-1099511627776) ≤ b3 by omega) (show b3 ≤ 1099511627776 by omega)
  have eb4 := Ev.sgOf_at (f := sgPlanChecks_15 b1 b2 b3 b4 w1 w2 w3 x h) 2722259016497146122424359018585896517633000004 (a := b4) rfl (by kernel_rfl) (by kernel_rfl) (by kernel_rfl : Ev.domS 2722259016497146122424359018585896517633000004 = (some (-1099511627776), some 1099511627776)) (show (-1099511627776) ≤ b4 by omega) (show b4 ≤ 1099511627776 by omega)
  have ew1 := Ev.sgOf_at (f := sgPlanChecks_15 b1 b2 b3 b4 w1 w2 w3 x h) 0 (a := w1) rfl (by kernel_rfl) (by kernel_rfl) (by kernel_rfl : Ev.domS 0 = (none, none)) (trivial : True) (trivial : True)
  have ew2 := Ev.sgOf_at (f := sgPlanChecks_15 b1 b2 b3 b4 w1 w2 w3 x h) 1 (a := w2) rfl (by kernel_rfl) (by kernel_rfl) (by kernel_rfl : Ev.domS 1 = (none, none)) (trivial : True) (trivial : True)
  have ew3 := Ev.sgOf_at (f := sgPlanChecks_15 b1 b2 b3 b4 w1 w2 w3 x h) 2 (a := w3) rfl (by kernel_rfl) (by kernel_rfl) (by kernel_rfl : Ev.domS 2 = (none, none)) (trivial : True) (trivial : True)
  have ex := Ev.sgOf_at (f := sgPlanChecks_15 b1 b2 b3 b4 w1 w2 w3 x h) 3 (a := x) rfl (by kernel_rfl) (by kernel_rfl) (by kernel_rfl : Ev.domS 3 = (none, none)) (trivial : True) (trivial : True)
  have eh := Ev.sgOf_at (f := sgPlanChecks_15 b1 b2 b3 b4 w1 w2 w3 x h) 4 (a := h) rfl (by kernel_rfl) (by kernel_rfl) (by kernel_rfl : Ev.domS 4 = (none, none)) (trivial : True) (trivial : True)
  have hr : Calls Try.prog 3 #[.agg #[.int .i64 1, .int .i64 (Ev.sgOf (sgPlanChecks_15 b1 b2 b3 b4 w1 w2 w3 x h) 2722259016497146122424359018585896517633001001), .int .i64 (Ev.sgOf (sgPlanChecks_15 b1 b2 b3 b4 w1 w2 w3 x h) 2722259016497146122424359018585896517633001000), .int .i64 (Ev.sgOf (sgPlanChecks_15 b1 b2 b3 b4 w1 w2 w3 x h) 2722259016497146122424359018585896517633000002), .int .i64 (Ev.sgOf (sgPlanChecks_15 b1 b2 b3 b4 w1 w2 w3 x h) 2722259016497146122424359018585896517633000004), .int .i64 (Ev.sgOf (sgPlanChecks_15 b1 b2 b3 b4 w1 w2 w3 x h) 0), .int .i64 (Ev.sgOf (sgPlanChecks_15 b1 b2 b3 b4 w1 w2 w3 x h) 1), .int .i64 (Ev.sgOf (sgPlanChecks_15 b1 b2 b3 b4 w1 w2 w3 x h) 2), .int .i64 (Ev.sgOf (sgPlanChecks_15 b1 b2 b3 b4 w1 w2 w3 x h) 3), .int .i64 (Ev.sgOf (sgPlanChecks_15 b1 b2 b3 b4 w1 w2 w3 x h) 4)]] w fun e w' => e = .returned (.bool true) ∧ Below w.heap.size w w' := Ev.run_law (P := Try.prog) (by kernel_rfl) Ev.namesPlanChecks Ev.eqsPlanChecks ranPlanChecks_15 (by simp [argsPlanChecks_15, Ev.AV.bd]) (Ev.sgOf (sgPlanChecks_15 b1 b2 b3 b4 w1 w2 w3 x h)) (Ev.sgOf_ok _) w
  rw [eb2.1, eb2.2, eb3, eb4, ew1, ew2, ew3, ex, eh] at hr
  rw [hk]
  exact hr
def argsPlanChecks_16 : List Ev.AV := [.ag [.i .i64 2, .y .i64 2722258854237869293100315163665140547584000000, .y .i64 0, .y .i64 1, .y .i64 2, .y .i64 3, .y .i64 4, .y .i64 5, .y .i64 6, .y .i64 7]]
set_option maxRecDepth 100000 in
theorem ranPlanChecks_16 : Ev.okB (Ev.callA Try.prog [3, 4, 32, 137] (Ev.lk Ev.planPlanChecks) 200 3 argsPlanChecks_16 ⟨0, .e⟩) = true := by kernel_rfl
def sgPlanChecks_16 (b1 b2 b3 b4 w1 w2 w3 x h : Int) (j : Nat) : Int := match Nat.beq j 2722258854237869293100315163665140547584000000 with
  | true => b1
  | false => match Nat.beq j 0 with
  | true => b2
  | false => match Nat.beq j 1 with
  | true => b3
  | false => match Nat.beq j 2 with
  | true => b4
  | false => match Nat.beq j 3 with
  | true => w1
  | false => match Nat.beq j 4 with
  | true => w2
  | false => match Nat.beq j 5 with
  | true => w3
  | false => match Nat.beq j 6 with
  | true => x
  | false => match Nat.beq j 7 with
  | true => h
  | false => 0
theorem leafPlanChecks_16 (k b1 b2 b3 b4 w1 w2 w3 x h : Int) (w : World) (hk : k = 2) (ub1 : b1 ≤ (-1099511627777)) : Calls Try.prog 3 #[.agg #[.int .i64 k, .int .i64 b1, .int .i64 b2, .int .i64 b3, .int .i64 b4, .int .i64 w1, .int .i64 w2, .int .i64 w3, .int .i64 x, .int .i64 h]] w fun e w' => e = .returned (.bool true) ∧ Below w.heap.size w w' := by
  have eb1 := Ev.sgOf_at (f := sgPlanChecks_16 b1 b2 b3 b4 w1 w2 w3 x h) 2722258854237869293100315163665140547584000000 (a := b1) rfl (by kernel_rfl) (by kernel_rfl) (by kernel_rfl : Ev.domS 2722258854237869293100315163665140547584000000 = (none, some (-1099511627777))) (trivial : True) (show b1 ≤ (-1099511627777) by omega)
  have eb2 := Ev.sgOf_at (f := sgPlanChecks_16 b1 b2 b3 b4 w1 w2 w3 x h) 0 (a := b2) rfl (by kernel_rfl) (by kernel_rfl) (by kernel_rfl : Ev.domS 0 = (none, none)) (trivial : True) (trivial : True)
  have eb3 := Ev.sgOf_at (f := sgPlanChecks_16 b1 b2 b3 b4 w1 w2 w3 x h) 1 (a := b3) rfl (by kernel_rfl) (by kernel_rfl) (by kernel_rfl : Ev.domS 1 = (none, none)) (trivial : True) (trivial : True)
  have eb4 := Ev.sgOf_at (f := sgPlanChecks_16 b1 b2 b3 b4 w1 w2 w3 x h) 2 (a := b4) rfl (by kernel_rfl) (by kernel_rfl) (by kernel_rfl : Ev.domS 2 = (none, none)) (trivial : True) (trivial : True)
  have ew1 := Ev.sgOf_at (f := sgPlanChecks_16 b1 b2 b3 b4 w1 w2 w3 x h) 3 (a := w1) rfl (by kernel_rfl) (by kernel_rfl) (by kernel_rfl : Ev.domS 3 = (none, none)) (trivial : True) (trivial : True)
  have ew2 := Ev.sgOf_at (f := sgPlanChecks_16 b1 b2 b3 b4 w1 w2 w3 x h) 4 (a := w2) rfl (by kernel_rfl) (by kernel_rfl) (by kernel_rfl : Ev.domS 4 = (none, none)) (trivial : True) (trivial : True)
  have ew3 := Ev.sgOf_at (f := sgPlanChecks_16 b1 b2 b3 b4 w1 w2 w3 x h) 5 (a := w3) rfl (by kernel_rfl) (by kernel_rfl) (by kernel_rfl : Ev.domS 5 = (none, none)) (trivial : True) (trivial : True)
  have ex := Ev.sgOf_at (f := sgPlanChecks_16 b1 b2 b3 b4 w1 w2 w3 x h) 6 (a := x) rfl (by kernel_rfl) (by kernel_rfl) (by kernel_rfl : Ev.domS 6 = (none, none)) (trivial : True) (trivial : True)
  have eh := Ev.sgOf_at (f := sgPlanChecks_16 b1 b2 b3 b4 w1 w2 w3 x h) 7 (a := h) rfl (by kernel_rfl) (by kernel_rfl) (by kernel_rfl : Ev.domS 7 = (none, none)) (trivial : True) (trivial : True)
  have hr : Calls Try.prog 3 #[.agg #[.int .i64 2, .int .i64 (Ev.sgOf (sgPlanChecks_16 b1 b2 b3 b4 w1 w2 w3 x h) 2722258854237869293100315163665140547584000000), .int .i64 (Ev.sgOf (sgPlanChecks_16 b1 b2 b3 b4 w1 w2 w3 x h) 0), .int .i64 (Ev.sgOf (sgPlanChecks_16 b1 b2 b3 b4 w1 w2 w3 x h) 1), .int .i64 (Ev.sgOf (sgPlanChecks_16 b1 b2 b3 b4 w1 w2 w3 x h) 2), .int .i64 (Ev.sgOf (sgPlanChecks_16 b1 b2 b3 b4 w1 w2 w3 x h) 3), .int .i64 (Ev.sgOf (sgPlanChecks_16 b1 b2 b3 b4 w1 w2 w3 x h) 4), .int .i64 (Ev.sgOf (sgPlanChecks_16 b1 b2 b3 b4 w1 w2 w3 x h) 5), .int .i64 (Ev.sgOf (sgPlanChecks_16 b1 b2 b3 b4 w1 w2 w3 x h) 6), .int .i64 (Ev.sgOf (sgPlanChecks_16 b1 b2 b3 b4 w1 w2 w3 x h) 7)]] w fun e w' => e = .returned (.bool true) ∧ Below w.heap.size w w' := Ev.run_law (P := Try.prog) (by kernel_rfl) Ev.namesPlanChecks Ev.eqsPlanChecks ranPlanChecks_16 (by simp [argsPlanChecks_16, Ev.AV.bd]) (Ev.sgOf (sgPlanChecks_16 b1 b2 b3 b4 w1 w2 w3 x h)) (Ev.sgOf_ok _) w
  rw [eb1, eb2, eb3, eb4, ew1, ew2, ew3, ex, eh] at hr
  rw [hk]
  exact hr
def argsPlanChecks_17 : List Ev.AV := [.ag [.i .i64 2, .y .i64 36893489246930731010000000, .y .i64 0, .y .i64 1, .y .i64 2, .y .i64 3, .y .i64 4, .y .i64 5, .y .i64 6, .y .i64 7]]
set_option maxRecDepth 100000 in
theorem ranPlanChecks_17 : Ev.okB (Ev.callA Try.prog [3, 4, 32, 137] (Ev.lk Ev.planPlanChecks) 200 3 argsPlanChecks_17 ⟨0, .e⟩) = true := by kernel_rfl
def sgPlanChecks_17 (b1 b2 b3 b4 w1 w2 w3 x h : Int) (j : Nat) : Int := match Nat.beq j 36893489246930731010000000 with
  | true => b1
  | false => match Nat.beq j 0 with
  | true => b2
  | false => match Nat.beq j 1 with
  | true => b3
  | false => match Nat.beq j 2 with
  | true => b4
  | false => match Nat.beq j 3 with
  | true => w1
  | false => match Nat.beq j 4 with
  | true => w2
  | false => match Nat.beq j 5 with
  | true => w3
  | false => match Nat.beq j 6 with
  | true => x
  | false => match Nat.beq j 7 with
  | true => h
  | false => 0
theorem leafPlanChecks_17 (k b1 b2 b3 b4 w1 w2 w3 x h : Int) (w : World) (hk : k = 2) (lb1 : 1099511627777 ≤ b1) : Calls Try.prog 3 #[.agg #[.int .i64 k, .int .i64 b1, .int .i64 b2, .int .i64 b3, .int .i64 b4, .int .i64 w1, .int .i64 w2, .int .i64 w3, .int .i64 x, .int .i64 h]] w fun e w' => e = .returned (.bool true) ∧ Below w.heap.size w w' := by
  have eb1 := Ev.sgOf_at (f := sgPlanChecks_17 b1 b2 b3 b4 w1 w2 w3 x h) 36893489246930731010000000 (a := b1) rfl (by kernel_rfl) (by kernel_rfl) (by kernel_rfl : Ev.domS 36893489246930731010000000 = (some 1099511627777, none)) (show 1099511627777 ≤ b1 by omega) (trivial : True)
  have eb2 := Ev.sgOf_at (f := sgPlanChecks_17 b1 b2 b3 b4 w1 w2 w3 x h) 0 (a := b2) rfl (by kernel_rfl) (by kernel_rfl) (by kernel_rfl : Ev.domS 0 = (none, none)) (trivial : True) (trivial : True)
  have eb3 := Ev.sgOf_at (f := sgPlanChecks_17 b1 b2 b3 b4 w1 w2 w3 x h) 1 (a := b3) rfl (by kernel_rfl) (by kernel_rfl) (by kernel_rfl : Ev.domS 1 = (none, none)) (trivial : True) (trivial : True)
  have eb4 := Ev.sgOf_at (f := sgPlanChecks_17 b1 b2 b3 b4 w1 w2 w3 x h) 2 (a := b4) rfl (by kernel_rfl) (by kernel_rfl) (by kernel_rfl : Ev.domS 2 = (none, none)) (trivial : True) (trivial : True)
  have ew1 := Ev.sgOf_at (f := sgPlanChecks_17 b1 b2 b3 b4 w1 w2 w3 x h) 3 (a := w1) rfl (by kernel_rfl) (by kernel_rfl) (by kernel_rfl : Ev.domS 3 = (none, none)) (trivial : True) (trivial : True)
  have ew2 := Ev.sgOf_at (f := sgPlanChecks_17 b1 b2 b3 b4 w1 w2 w3 x h) 4 (a := w2) rfl (by kernel_rfl) (by kernel_rfl) (by kernel_rfl : Ev.domS 4 = (none, none)) (trivial : True) (trivial : True)
  have ew3 := Ev.sgOf_at (f := sgPlanChecks_17 b1 b2 b3 b4 w1 w2 w3 x h) 5 (a := w3) rfl (by kernel_rfl) (by kernel_rfl) (by kernel_rfl : Ev.domS 5 = (none, none)) (trivial : True) (trivial : True)
  have ex := Ev.sgOf_at (f := sgPlanChecks_17 b1 b2 b3 b4 w1 w2 w3 x h) 6 (a := x) rfl (by kernel_rfl) (by kernel_rfl) (by kernel_rfl : Ev.domS 6 = (none, none)) (trivial : True) (trivial : True)
  have eh := Ev.sgOf_at (f := sgPlanChecks_17 b1 b2 b3 b4 w1 w2 w3 x h) 7 (a := h) rfl (by kernel_rfl) (by kernel_rfl) (by kernel_rfl : Ev.domS 7 = (none, none)) (trivial : True) (trivial : True)
  have hr : Calls Try.prog 3 #[.agg #[.int .i64 2, .int .i64 (Ev.sgOf (sgPlanChecks_17 b1 b2 b3 b4 w1 w2 w3 x h) 36893489246930731010000000), .int .i64 (Ev.sgOf (sgPlanChecks_17 b1 b2 b3 b4 w1 w2 w3 x h) 0), .int .i64 (Ev.sgOf (sgPlanChecks_17 b1 b2 b3 b4 w1 w2 w3 x h) 1), .int .i64 (Ev.sgOf (sgPlanChecks_17 b1 b2 b3 b4 w1 w2 w3 x h) 2), .int .i64 (Ev.sgOf (sgPlanChecks_17 b1 b2 b3 b4 w1 w2 w3 x h) 3), .int .i64 (Ev.sgOf (sgPlanChecks_17 b1 b2 b3 b4 w1 w2 w3 x h) 4), .int .i64 (Ev.sgOf (sgPlanChecks_17 b1 b2 b3 b4 w1 w2 w3 x h) 5), .int .i64 (Ev.sgOf (sgPlanChecks_17 b1 b2 b3 b4 w1 w2 w3 x h) 6), .int .i64 (Ev.sgOf (sgPlanChecks_17 b1 b2 b3 b4 w1 w2 w3 x h) 7)]] w fun e w' => e = .returned (.bool true) ∧ Below w.heap.size w w' := Ev.run_law (P := Try.prog) (by kernel_rfl) Ev.namesPlanChecks Ev.eqsPlanChecks ranPlanChecks_17 (by simp [argsPlanChecks_17, Ev.AV.bd]) (Ev.sgOf (sgPlanChecks_17 b1 b2 b3 b4 w1 w2 w3 x h)) (Ev.sgOf_ok _) w
  rw [eb1, eb2, eb3, eb4, ew1, ew2, ew3, ex, eh] at hr
  rw [hk]
  exact hr
def argsPlanChecks_18 : List Ev.AV := [.ag [.i .i64 2, .y .i64 2722259016497146122424359018585896517633000000, .y .i64 2722258854237869293100315163665140547584000002, .y .i64 0, .y .i64 1, .y .i64 2, .y .i64 3, .y .i64 4, .y .i64 5, .y .i64 6]]
set_option maxRecDepth 100000 in
theorem ranPlanChecks_18 : Ev.okB (Ev.callA Try.prog [3, 4, 32, 137] (Ev.lk Ev.planPlanChecks) 200 3 argsPlanChecks_18 ⟨0, .e⟩) = true := by kernel_rfl
def sgPlanChecks_18 (b1 b2 b3 b4 w1 w2 w3 x h : Int) (j : Nat) : Int := match Nat.beq j 2722259016497146122424359018585896517633000000 with
  | true => b1
  | false => match Nat.beq j 2722258854237869293100315163665140547584000002 with
  | true => b2
  | false => match Nat.beq j 0 with
  | true => b3
  | false => match Nat.beq j 1 with
  | true => b4
  | false => match Nat.beq j 2 with
  | true => w1
  | false => match Nat.beq j 3 with
  | true => w2
  | false => match Nat.beq j 4 with
  | true => w3
  | false => match Nat.beq j 5 with
  | true => x
  | false => match Nat.beq j 6 with
  | true => h
  | false => 0
theorem leafPlanChecks_18 (k b1 b2 b3 b4 w1 w2 w3 x h : Int) (w : World) (hk : k = 2) (lb1 : (-1099511627776) ≤ b1) (ub1 : b1 ≤ 1099511627776) (ub2 : b2 ≤ (-1099511627777)) : Calls Try.prog 3 #[.agg #[.int .i64 k, .int .i64 b1, .int .i64 b2, .int .i64 b3, .int .i64 b4, .int .i64 w1, .int .i64 w2, .int .i64 w3, .int .i64 x, .int .i64 h]] w fun e w' => e = .returned (.bool true) ∧ Below w.heap.size w w' := by
  have eb1 := Ev.sgOf_at (f := sgPlanChecks_18 b1 b2 b3 b4 w1 w2 w3 x h) 2722259016497146122424359018585896517633000000 (a := b1) rfl (by kernel_rfl) (by kernel_rfl) (by kernel_rfl : Ev.domS 2722259016497146122424359018585896517633000000 = (some (-1099511627776), some 1099511627776)) (show (-1099511627776) ≤ b1 by omega) (show b1 ≤ 1099511627776 by omega)
  have eb2 := Ev.sgOf_at (f := sgPlanChecks_18 b1 b2 b3 b4 w1 w2 w3 x h) 2722258854237869293100315163665140547584000002 (a := b2) rfl (by kernel_rfl) (by kernel_rfl) (by kernel_rfl : Ev.domS 2722258854237869293100315163665140547584000002 = (none, some (-1099511627777))) (trivial : True) (show b2 ≤ (-1099511627777) by omega)
  have eb3 := Ev.sgOf_at (f := sgPlanChecks_18 b1 b2 b3 b4 w1 w2 w3 x h) 0 (a := b3) rfl (by kernel_rfl) (by kernel_rfl) (by kernel_rfl : Ev.domS 0 = (none, none)) (trivial : True) (trivial : True)
  have eb4 := Ev.sgOf_at (f := sgPlanChecks_18 b1 b2 b3 b4 w1 w2 w3 x h) 1 (a := b4) rfl (by kernel_rfl) (by kernel_rfl) (by kernel_rfl : Ev.domS 1 = (none, none)) (trivial : True) (trivial : True)
  have ew1 := Ev.sgOf_at (f := sgPlanChecks_18 b1 b2 b3 b4 w1 w2 w3 x h) 2 (a := w1) rfl (by kernel_rfl) (by kernel_rfl) (by kernel_rfl : Ev.domS 2 = (none, none)) (trivial : True) (trivial : True)
  have ew2 := Ev.sgOf_at (f := sgPlanChecks_18 b1 b2 b3 b4 w1 w2 w3 x h) 3 (a := w2) rfl (by kernel_rfl) (by kernel_rfl) (by kernel_rfl : Ev.domS 3 = (none, none)) (trivial : True) (trivial : True)
  have ew3 := Ev.sgOf_at (f := sgPlanChecks_18 b1 b2 b3 b4 w1 w2 w3 x h) 4 (a := w3) rfl (by kernel_rfl) (by kernel_rfl) (by kernel_rfl : Ev.domS 4 = (none, none)) (trivial : True) (trivial : True)
  have ex := Ev.sgOf_at (f := sgPlanChecks_18 b1 b2 b3 b4 w1 w2 w3 x h) 5 (a := x) rfl (by kernel_rfl) (by kernel_rfl) (by kernel_rfl : Ev.domS 5 = (none, none)) (trivial : True) (trivial : True)
  have eh := Ev.sgOf_at (f := sgPlanChecks_18 b1 b2 b3 b4 w1 w2 w3 x h) 6 (a := h) rfl (by kernel_rfl) (by kernel_rfl) (by kernel_rfl : Ev.domS 6 = (none, none)) (trivial : True) (trivial : True)
  have hr : Calls Try.prog 3 #[.agg #[.int .i64 2, .int .i64 (Ev.sgOf (sgPlanChecks_18 b1 b2 b3 b4 w1 w2 w3 x h) 2722259016497146122424359018585896517633000000), .int .i64 (Ev.sgOf (sgPlanChecks_18 b1 b2 b3 b4 w1 w2 w3 x h) 2722258854237869293100315163665140547584000002), .int .i64 (Ev.sgOf (sgPlanChecks_18 b1 b2 b3 b4 w1 w2 w3 x h) 0), .int .i64 (Ev.sgOf (sgPlanChecks_18 b1 b2 b3 b4 w1 w2 w3 x h) 1), .int .i64 (Ev.sgOf (sgPlanChecks_18 b1 b2 b3 b4 w1 w2 w3 x h) 2), .int .i64 (Ev.sgOf (sgPlanChecks_18 b1 b2 b3 b4 w1 w2 w3 x h) 3), .int .i64 (Ev.sgOf (sgPlanChecks_18 b1 b2 b3 b4 w1 w2 w3 x h) 4), .int .i64 (Ev.sgOf (sgPlanChecks_18 b1 b2 b3 b4 w1 w2 w3 x h) 5), .int .i64 (Ev.sgOf (sgPlanChecks_18 b1 b2 b3 b4 w1 w2 w3 x h) 6)]] w fun e w' => e = .returned (.bool true) ∧ Below w.heap.size w w' := Ev.run_law (P := Try.prog) (by kernel_rfl) Ev.namesPlanChecks Ev.eqsPlanChecks ranPlanChecks_18 (by simp [argsPlanChecks_18, Ev.AV.bd]) (Ev.sgOf (sgPlanChecks_18 b1 b2 b3 b4 w1 w2 w3 x h)) (Ev.sgOf_ok _) w
  rw [eb1, eb2, eb3, eb4, ew1, ew2, ew3, ex, eh] at hr
  rw [hk]
  exact hr
def argsPlanChecks_19 : List Ev.AV := [.ag [.i .i64 2, .y .i64 2722259016497146122424359018585896517633000000, .y .i64 36893489246930731010000002, .y .i64 0, .y .i64 1, .y .i64 2, .y .i64 3, .y .i64 4, .y .i64 5, .y .i64 6]]
set_option maxRecDepth 100000 in
theorem ranPlanChecks_19 : Ev.okB (Ev.callA Try.prog [3, 4, 32, 137] (Ev.lk Ev.planPlanChecks) 200 3 argsPlanChecks_19 ⟨0, .e⟩) = true := by kernel_rfl
def sgPlanChecks_19 (b1 b2 b3 b4 w1 w2 w3 x h : Int) (j : Nat) : Int := match Nat.beq j 2722259016497146122424359018585896517633000000 with
  | true => b1
  | false => match Nat.beq j 36893489246930731010000002 with
  | true => b2
  | false => match Nat.beq j 0 with
  | true => b3
  | false => match Nat.beq j 1 with
  | true => b4
  | false => match Nat.beq j 2 with
  | true => w1
  | false => match Nat.beq j 3 with
  | true => w2
  | false => match Nat.beq j 4 with
  | true => w3
  | false => match Nat.beq j 5 with
  | true => x
  | false => match Nat.beq j 6 with
  | true => h
  | false => 0
theorem leafPlanChecks_19 (k b1 b2 b3 b4 w1 w2 w3 x h : Int) (w : World) (hk : k = 2) (lb1 : (-1099511627776) ≤ b1) (ub1 : b1 ≤ 1099511627776) (lb2 : 1099511627777 ≤ b2) : Calls Try.prog 3 #[.agg #[.int .i64 k, .int .i64 b1, .int .i64 b2, .int .i64 b3, .int .i64 b4, .int .i64 w1, .int .i64 w2, .int .i64 w3, .int .i64 x, .int .i64 h]] w fun e w' => e = .returned (.bool true) ∧ Below w.heap.size w w' := by
  have eb1 := Ev.sgOf_at (f := sgPlanChecks_19 b1 b2 b3 b4 w1 w2 w3 x h) 2722259016497146122424359018585896517633000000 (a := b1) rfl (by kernel_rfl) (by kernel_rfl) (by kernel_rfl : Ev.domS 2722259016497146122424359018585896517633000000 = (some (-1099511627776), some 1099511627776)) (show (-1099511627776) ≤ b1 by omega) (show b1 ≤ 1099511627776 by omega)
  have eb2 := Ev.sgOf_at (f := sgPlanChecks_19 b1 b2 b3 b4 w1 w2 w3 x h) 36893489246930731010000002 (a := b2) rfl (by kernel_rfl) (by kernel_rfl) (by kernel_rfl : Ev.domS 36893489246930731010000002 = (some 1099511627777, none)) (show 1099511627777 ≤ b2 by omega) (trivial : True)
  have eb3 := Ev.sgOf_at (f := sgPlanChecks_19 b1 b2 b3 b4 w1 w2 w3 x h) 0 (a := b3) rfl (by kernel_rfl) (by kernel_rfl) (by kernel_rfl : Ev.domS 0 = (none, none)) (trivial : True) (trivial : True)
  have eb4 := Ev.sgOf_at (f := sgPlanChecks_19 b1 b2 b3 b4 w1 w2 w3 x h) 1 (a := b4) rfl (by kernel_rfl) (by kernel_rfl) (by kernel_rfl : Ev.domS 1 = (none, none)) (trivial : True) (trivial : True)
  have ew1 := Ev.sgOf_at (f := sgPlanChecks_19 b1 b2 b3 b4 w1 w2 w3 x h) 2 (a := w1) rfl (by kernel_rfl) (by kernel_rfl) (by kernel_rfl : Ev.domS 2 = (none, none)) (trivial : True) (trivial : True)
  have ew2 := Ev.sgOf_at (f := sgPlanChecks_19 b1 b2 b3 b4 w1 w2 w3 x h) 3 (a := w2) rfl (by kernel_rfl) (by kernel_rfl) (by kernel_rfl : Ev.domS 3 = (none, none)) (trivial : True) (trivial : True)
  have ew3 := Ev.sgOf_at (f := sgPlanChecks_19 b1 b2 b3 b4 w1 w2 w3 x h) 4 (a := w3) rfl (by kernel_rfl) (by kernel_rfl) (by kernel_rfl : Ev.domS 4 = (none, none)) (trivial : True) (trivial : True)
  have ex := Ev.sgOf_at (f := sgPlanChecks_19 b1 b2 b3 b4 w1 w2 w3 x h) 5 (a := x) rfl (by kernel_rfl) (by kernel_rfl) (by kernel_rfl : Ev.domS 5 = (none, none)) (trivial : True) (trivial : True)
  have eh := Ev.sgOf_at (f := sgPlanChecks_19 b1 b2 b3 b4 w1 w2 w3 x h) 6 (a := h) rfl (by kernel_rfl) (by kernel_rfl) (by kernel_rfl : Ev.domS 6 = (none, none)) (trivial : True) (trivial : True)
  have hr : Calls Try.prog 3 #[.agg #[.int .i64 2, .int .i64 (Ev.sgOf (sgPlanChecks_19 b1 b2 b3 b4 w1 w2 w3 x h) 2722259016497146122424359018585896517633000000), .int .i64 (Ev.sgOf (sgPlanChecks_19 b1 b2 b3 b4 w1 w2 w3 x h) 36893489246930731010000002), .int .i64 (Ev.sgOf (sgPlanChecks_19 b1 b2 b3 b4 w1 w2 w3 x h) 0), .int .i64 (Ev.sgOf (sgPlanChecks_19 b1 b2 b3 b4 w1 w2 w3 x h) 1), .int .i64 (Ev.sgOf (sgPlanChecks_19 b1 b2 b3 b4 w1 w2 w3 x h) 2), .int .i64 (Ev.sgOf (sgPlanChecks_19 b1 b2 b3 b4 w1 w2 w3 x h) 3), .int .i64 (Ev.sgOf (sgPlanChecks_19 b1 b2 b3 b4 w1 w2 w3 x h) 4), .int .i64 (Ev.sgOf (sgPlanChecks_19 b1 b2 b3 b4 w1 w2 w3 x h) 5), .int .i64 (Ev.sgOf (sgPlanChecks_19 b1 b2 b3 b4 w1 w2 w3 x h) 6)]] w fun e w' => e = .returned (.bool true) ∧ Below w.heap.size w w' := Ev.run_law (P := Try.prog) (by kernel_rfl) Ev.namesPlanChecks Ev.eqsPlanChecks ranPlanChecks_19 (by simp [argsPlanChecks_19, Ev.AV.bd]) (Ev.sgOf (sgPlanChecks_19 b1 b2 b3 b4 w1 w2 w3 x h)) (Ev.sgOf_ok _) w
  rw [eb1, eb2, eb3, eb4, ew1, ew2, ew3, ex, eh] at hr
  rw [hk]
  exact hr
def argsPlanChecks_20 : List Ev.AV := [.ag [.i .i64 2, .y .i64 2722259016497146122424359018585896517633000000, .y .i64 2722259016497146122424359018585896517633000002, .y .i64 2722258854237869293100315163665140547584000004, .y .i64 0, .y .i64 1, .y .i64 2, .y .i64 3, .y .i64 4, .y .i64 5]]
set_option maxRecDepth 100000 in
theorem ranPlanChecks_20 : Ev.okB (Ev.callA Try.prog [3, 4, 32, 137] (Ev.lk Ev.planPlanChecks) 200 3 argsPlanChecks_20 ⟨0, .e⟩) = true := by kernel_rfl
def sgPlanChecks_20 (b1 b2 b3 b4 w1 w2 w3 x h : Int) (j : Nat) : Int := match Nat.beq j 2722259016497146122424359018585896517633000000 with
  | true => b1
  | false => match Nat.beq j 2722259016497146122424359018585896517633000002 with
  | true => b2
  | false => match Nat.beq j 2722258854237869293100315163665140547584000004 with
  | true => b3
  | false => match Nat.beq j 0 with
  | true => b4
  | false => match Nat.beq j 1 with
  | true => w1
  | false => match Nat.beq j 2 with
  | true => w2
  | false => match Nat.beq j 3 with
  | true => w3
  | false => match Nat.beq j 4 with
  | true => x
  | false => match Nat.beq j 5 with
  | true => h
  | false => 0
theorem leafPlanChecks_20 (k b1 b2 b3 b4 w1 w2 w3 x h : Int) (w : World) (hk : k = 2) (lb1 : (-1099511627776) ≤ b1) (ub1 : b1 ≤ 1099511627776) (lb2 : (-1099511627776) ≤ b2) (ub2 : b2 ≤ 1099511627776) (ub3 : b3 ≤ (-1099511627777)) : Calls Try.prog 3 #[.agg #[.int .i64 k, .int .i64 b1, .int .i64 b2, .int .i64 b3, .int .i64 b4, .int .i64 w1, .int .i64 w2, .int .i64 w3, .int .i64 x, .int .i64 h]] w fun e w' => e = .returned (.bool true) ∧ Below w.heap.size w w' := by
  have eb1 := Ev.sgOf_at (f := sgPlanChecks_20 b1 b2 b3 b4 w1 w2 w3 x h) 2722259016497146122424359018585896517633000000 (a := b1) rfl (by kernel_rfl) (by kernel_rfl) (by kernel_rfl : Ev.domS 2722259016497146122424359018585896517633000000 = (some (-1099511627776), some 1099511627776)) (show (-1099511627776) ≤ b1 by omega) (show b1 ≤ 1099511627776 by omega)
  have eb2 := Ev.sgOf_at (f := sgPlanChecks_20 b1 b2 b3 b4 w1 w2 w3 x h) 2722259016497146122424359018585896517633000002 (a := b2) rfl (by kernel_rfl) (by kernel_rfl) (by kernel_rfl : Ev.domS 2722259016497146122424359018585896517633000002 = (some (-1099511627776), some 1099511627776)) (show (-1099511627776) ≤ b2 by omega) (show b2 ≤ 1099511627776 by omega)
  have eb3 := Ev.sgOf_at (f := sgPlanChecks_20 b1 b2 b3 b4 w1 w2 w3 x h) 2722258854237869293100315163665140547584000004 (a := b3) rfl (by kernel_rfl) (by kernel_rfl) (by kernel_rfl : Ev.domS 2722258854237869293100315163665140547584000004 = (none, some (-1099511627777))) (trivial : True) (show b3 ≤ (-1099511627777) by omega)
  have eb4 := Ev.sgOf_at (f := sgPlanChecks_20 b1 b2 b3 b4 w1 w2 w3 x h) 0 (a := b4) rfl (by kernel_rfl) (by kernel_rfl) (by kernel_rfl : Ev.domS 0 = (none, none)) (trivial : True) (trivial : True)
  have ew1 := Ev.sgOf_at (f := sgPlanChecks_20 b1 b2 b3 b4 w1 w2 w3 x h) 1 (a := w1) rfl (by kernel_rfl) (by kernel_rfl) (by kernel_rfl : Ev.domS 1 = (none, none)) (trivial : True) (trivial : True)
  have ew2 := Ev.sgOf_at (f := sgPlanChecks_20 b1 b2 b3 b4 w1 w2 w3 x h) 2 (a := w2) rfl (by kernel_rfl) (by kernel_rfl) (by kernel_rfl : Ev.domS 2 = (none, none)) (trivial : True) (trivial : True)
  have ew3 := Ev.sgOf_at (f := sgPlanChecks_20 b1 b2 b3 b4 w1 w2 w3 x h) 3 (a := w3) rfl (by kernel_rfl) (by kernel_rfl) (by kernel_rfl : Ev.domS 3 = (none, none)) (trivial : True) (trivial : True)
  have ex := Ev.sgOf_at (f := sgPlanChecks_20 b1 b2 b3 b4 w1 w2 w3 x h) 4 (a := x) rfl (by kernel_rfl) (by kernel_rfl) (by kernel_rfl : Ev.domS 4 = (none, none)) (trivial : True) (trivial : True)
  have eh := Ev.sgOf_at (f := sgPlanChecks_20 b1 b2 b3 b4 w1 w2 w3 x h) 5 (a := h) rfl (by kernel_rfl) (by kernel_rfl) (by kernel_rfl : Ev.domS 5 = (none, none)) (trivial : True) (trivial : True)
  have hr : Calls Try.prog 3 #[.agg #[.int .i64 2, .int .i64 (Ev.sgOf (sgPlanChecks_20 b1 b2 b3 b4 w1 w2 w3 x h) 2722259016497146122424359018585896517633000000), .int .i64 (Ev.sgOf (sgPlanChecks_20 b1 b2 b3 b4 w1 w2 w3 x h) 2722259016497146122424359018585896517633000002), .int .i64 (Ev.sgOf (sgPlanChecks_20 b1 b2 b3 b4 w1 w2 w3 x h) 2722258854237869293100315163665140547584000004), .int .i64 (Ev.sgOf (sgPlanChecks_20 b1 b2 b3 b4 w1 w2 w3 x h) 0), .int .i64 (Ev.sgOf (sgPlanChecks_20 b1 b2 b3 b4 w1 w2 w3 x h) 1), .int .i64 (Ev.sgOf (sgPlanChecks_20 b1 b2 b3 b4 w1 w2 w3 x h) 2), .int .i64 (Ev.sgOf (sgPlanChecks_20 b1 b2 b3 b4 w1 w2 w3 x h) 3), .int .i64 (Ev.sgOf (sgPlanChecks_20 b1 b2 b3 b4 w1 w2 w3 x h) 4), .int .i64 (Ev.sgOf (sgPlanChecks_20 b1 b2 b3 b4 w1 w2 w3 x h) 5)]] w fun e w' => e = .returned (.bool true) ∧ Below w.heap.size w w' := Ev.run_law (P := Try.prog) (by kernel_rfl) Ev.namesPlanChecks Ev.eqsPlanChecks ranPlanChecks_20 (by simp [argsPlanChecks_20, Ev.AV.bd]) (Ev.sgOf (sgPlanChecks_20 b1 b2 b3 b4 w1 w2 w3 x h)) (Ev.sgOf_ok _) w
  rw [eb1, eb2, eb3, eb4, ew1, ew2, ew3, ex, eh] at hr
  rw [hk]
  exact hr
def argsPlanChecks_21 : List Ev.AV := [.ag [.i .i64 2, .y .i64 2722259016497146122424359018585896517633000000, .y .i64 2722259016497146122424359018585896517633000002, .y .i64 36893489246930731010000004, .y .i64 0, .y .i64 1, .y .i64 2, .y .i64 3, .y .i64 4, .y .i64 5]]
set_option maxRecDepth 100000 in
theorem ranPlanChecks_21 : Ev.okB (Ev.callA Try.prog [3, 4, 32, 137] (Ev.lk Ev.planPlanChecks) 200 3 argsPlanChecks_21 ⟨0, .e⟩) = true := by kernel_rfl
def sgPlanChecks_21 (b1 b2 b3 b4 w1 w2 w3 x h : Int) (j : Nat) : Int := match Nat.beq j 2722259016497146122424359018585896517633000000 with
  | true => b1
  | false => match Nat.beq j 2722259016497146122424359018585896517633000002 with
  | true => b2
  | false => match Nat.beq j 36893489246930731010000004 with
  | true => b3
  | false => match Nat.beq j 0 with
  | true => b4
  | false => match Nat.beq j 1 with
  | true => w1
  | false => match Nat.beq j 2 with
  | true => w2
  | false => match Nat.beq j 3 with
  | true => w3
  | false => match Nat.beq j 4 with
  | true => x
  | false => match Nat.beq j 5 with
  | true => h
  | false => 0
theorem leafPlanChecks_21 (k b1 b2 b3 b4 w1 w2 w3 x h : Int) (w : World) (hk : k = 2) (lb1 : (-1099511627776) ≤ b1) (ub1 : b1 ≤ 1099511627776) (lb2 : (-1099511627776) ≤ b2) (ub2 : b2 ≤ 1099511627776) (lb3 : 1099511627777 ≤ b3) : Calls Try.prog 3 #[.agg #[.int .i64 k, .int .i64 b1, .int .i64 b2, .int .i64 b3, .int .i64 b4, .int .i64 w1, .int .i64 w2, .int .i64 w3, .int .i64 x, .int .i64 h]] w fun e w' => e = .returned (.bool true) ∧ Below w.heap.size w w' := by
  have eb1 := Ev.sgOf_at (f := sgPlanChecks_21 b1 b2 b3 b4 w1 w2 w3 x h) 2722259016497146122424359018585896517633000000 (a := b1) rfl (by kernel_rfl) (by kernel_rfl) (by kernel_rfl : Ev.domS 2722259016497146122424359018585896517633000000 = (some (-1099511627776), some 1099511627776)) (show (-1099511627776) ≤ b1 by omega) (show b1 ≤ 1099511627776 by omega)
  have eb2 := Ev.sgOf_at (f := sgPlanChecks_21 b1 b2 b3 b4 w1 w2 w3 x h) 2722259016497146122424359018585896517633000002 (a := b2) rfl (by kernel_rfl) (by kernel_rfl) (by kernel_rfl : Ev.domS 2722259016497146122424359018585896517633000002 = (some (-1099511627776), some 1099511627776)) (show (-1099511627776) ≤ b2 by omega) (show b2 ≤ 1099511627776 by omega)
  have eb3 := Ev.sgOf_at (f := sgPlanChecks_21 b1 b2 b3 b4 w1 w2 w3 x h) 36893489246930731010000004 (a := b3) rfl (by kernel_rfl) (by kernel_rfl) (by kernel_rfl : Ev.domS 36893489246930731010000004 = (some 1099511627777, none)) (show 1099511627777 ≤ b3 by omega) (trivial : True)
  have eb4 := Ev.sgOf_at (f := sgPlanChecks_21 b1 b2 b3 b4 w1 w2 w3 x h) 0 (a := b4) rfl (by kernel_rfl) (by kernel_rfl) (by kernel_rfl : Ev.domS 0 = (none, none)) (trivial : True) (trivial : True)
  have ew1 := Ev.sgOf_at (f := sgPlanChecks_21 b1 b2 b3 b4 w1 w2 w3 x h) 1 (a := w1) rfl (by kernel_rfl) (by kernel_rfl) (by kernel_rfl : Ev.domS 1 = (none, none)) (trivial : True) (trivial : True)
  have ew2 := Ev.sgOf_at (f := sgPlanChecks_21 b1 b2 b3 b4 w1 w2 w3 x h) 2 (a := w2) rfl (by kernel_rfl) (by kernel_rfl) (by kernel_rfl : Ev.domS 2 = (none, none)) (trivial : True) (trivial : True)
  have ew3 := Ev.sgOf_at (f := sgPlanChecks_21 b1 b2 b3 b4 w1 w2 w3 x h) 3 (a := w3) rfl (by kernel_rfl) (by kernel_rfl) (by kernel_rfl : Ev.domS 3 = (none, none)) (trivial : True) (trivial : True)
  have ex := Ev.sgOf_at (f := sgPlanChecks_21 b1 b2 b3 b4 w1 w2 w3 x h) 4 (a := x) rfl (by kernel_rfl) (by kernel_rfl) (by kernel_rfl : Ev.domS 4 = (none, none)) (trivial : True) (trivial : True)
  have eh := Ev.sgOf_at (f := sgPlanChecks_21 b1 b2 b3 b4 w1 w2 w3 x h) 5 (a := h) rfl (by kernel_rfl) (by kernel_rfl) (by kernel_rfl : Ev.domS 5 = (none, none)) (trivial : True) (trivial : True)
  have hr : Calls Try.prog 3 #[.agg #[.int .i64 2, .int .i64 (Ev.sgOf (sgPlanChecks_21 b1 b2 b3 b4 w1 w2 w3 x h) 2722259016497146122424359018585896517633000000), .int .i64 (Ev.sgOf (sgPlanChecks_21 b1 b2 b3 b4 w1 w2 w3 x h) 2722259016497146122424359018585896517633000002), .int .i64 (Ev.sgOf (sgPlanChecks_21 b1 b2 b3 b4 w1 w2 w3 x h) 36893489246930731010000004), .int .i64 (Ev.sgOf (sgPlanChecks_21 b1 b2 b3 b4 w1 w2 w3 x h) 0), .int .i64 (Ev.sgOf (sgPlanChecks_21 b1 b2 b3 b4 w1 w2 w3 x h) 1), .int .i64 (Ev.sgOf (sgPlanChecks_21 b1 b2 b3 b4 w1 w2 w3 x h) 2), .int .i64 (Ev.sgOf (sgPlanChecks_21 b1 b2 b3 b4 w1 w2 w3 x h) 3), .int .i64 (Ev.sgOf (sgPlanChecks_21 b1 b2 b3 b4 w1 w2 w3 x h) 4), .int .i64 (Ev.sgOf (sgPlanChecks_21 b1 b2 b3 b4 w1 w2 w3 x h) 5)]] w fun e w' => e = .returned (.bool true) ∧ Below w.heap.size w w' := Ev.run_law (P := Try.prog) (by kernel_rfl) Ev.namesPlanChecks Ev.eqsPlanChecks ranPlanChecks_21 (by simp [argsPlanChecks_21, Ev.AV.bd]) (Ev.sgOf (sgPlanChecks_21 b1 b2 b3 b4 w1 w2 w3 x h)) (Ev.sgOf_ok _) w
  rw [eb1, eb2, eb3, eb4, ew1, ew2, ew3, ex, eh] at hr
  rw [hk]
  exact hr
def argsPlanChecks_22 : List Ev.AV := [.ag [.i .i64 2, .y .i64 2722259016497146122424359018585896517633000000, .y .i64 2722259016497146122424359018585896517633000002, .y .i64 2722259016497146122424359018585896517633000004, .y .i64 2722258854237869293100315163665140547584000006, .y .i64 0, .y .i64 1, .y .i64 2, .y .i64 3, .y .i64 4]]
set_option maxRecDepth 100000 in
theorem ranPlanChecks_22 : Ev.okB (Ev.callA Try.prog [3, 4, 32, 137] (Ev.lk Ev.planPlanChecks) 200 3 argsPlanChecks_22 ⟨0, .e⟩) = true := by kernel_rfl
def sgPlanChecks_22 (b1 b2 b3 b4 w1 w2 w3 x h : Int) (j : Nat) : Int := match Nat.beq j 2722259016497146122424359018585896517633000000 with
  | true => b1
  | false => match Nat.beq j 2722259016497146122424359018585896517633000002 with
  | true => b2
  | false => match Nat.beq j 2722259016497146122424359018585896517633000004 with
  | true => b3
  | false => match Nat.beq j 2722258854237869293100315163665140547584000006 with
  | true => b4
  | false => match Nat.beq j 0 with
  | true => w1
  | false => match Nat.beq j 1 with
  | true => w2
  | false => match Nat.beq j 2 with
  | true => w3
  | false => match Nat.beq j 3 with
  | true => x
  | false => match Nat.beq j 4 with
  | true => h
  | false => 0
theorem leafPlanChecks_22 (k b1 b2 b3 b4 w1 w2 w3 x h : Int) (w : World) (hk : k = 2) (lb1 : (-1099511627776) ≤ b1) (ub1 : b1 ≤ 1099511627776) (lb2 : (-1099511627776) ≤ b2) (ub2 : b2 ≤ 1099511627776) (lb3 : (-1099511627776) ≤ b3) (ub3 : b3 ≤ 1099511627776) (ub4 : b4 ≤ (-1099511627777)) : Calls Try.prog 3 #[.agg #[.int .i64 k, .int .i64 b1, .int .i64 b2, .int .i64 b3, .int .i64 b4, .int .i64 w1, .int .i64 w2, .int .i64 w3, .int .i64 x, .int .i64 h]] w fun e w' => e = .returned (.bool true) ∧ Below w.heap.size w w' := by
  have eb1 := Ev.sgOf_at (f := sgPlanChecks_22 b1 b2 b3 b4 w1 w2 w3 x h) 2722259016497146122424359018585896517633000000 (a := b1) rfl (by kernel_rfl) (by kernel_rfl) (by kernel_rfl : Ev.domS 2722259016497146122424359018585896517633000000 = (some (-1099511627776), some 1099511627776)) (show (-1099511627776) ≤ b1 by omega) (show b1 ≤ 1099511627776 by omega)
  have eb2 := Ev.sgOf_at (f := sgPlanChecks_22 b1 b2 b3 b4 w1 w2 w3 x h) 2722259016497146122424359018585896517633000002 (a := b2) rfl (by kernel_rfl) (by kernel_rfl) (by kernel_rfl : Ev.domS 2722259016497146122424359018585896517633000002 = (some (-1099511627776), some 1099511627776)) (show (-1099511627776) ≤ b2 by omega) (show b2 ≤ 1099511627776 by omega)
  have eb3 := Ev.sgOf_at (f := sgPlanChecks_22 b1 b2 b3 b4 w1 w2 w3 x h) 2722259016497146122424359018585896517633000004 (a := b3) rfl (by kernel_rfl) (by kernel_rfl) (by kernel_rfl : Ev.domS 2722259016497146122424359018585896517633000004 = (some (-1099511627776), some 1099511627776)) (show (-1099511627776) ≤ b3 by omega) (show b3 ≤ 1099511627776 by omega)
  have eb4 := Ev.sgOf_at (f := sgPlanChecks_22 b1 b2 b3 b4 w1 w2 w3 x h) 2722258854237869293100315163665140547584000006 (a := b4) rfl (by kernel_rfl) (by kernel_rfl) (by kernel_rfl : Ev.domS 2722258854237869293100315163665140547584000006 = (none, some (-1099511627777))) (trivial : True) (show b4 ≤ (-1099511627777) by omega)
  have ew1 := Ev.sgOf_at (f := sgPlanChecks_22 b1 b2 b3 b4 w1 w2 w3 x h) 0 (a := w1) rfl (by kernel_rfl) (by kernel_rfl) (by kernel_rfl : Ev.domS 0 = (none, none)) (trivial : True) (trivial : True)
  have ew2 := Ev.sgOf_at (f := sgPlanChecks_22 b1 b2 b3 b4 w1 w2 w3 x h) 1 (a := w2) rfl (by kernel_rfl) (by kernel_rfl) (by kernel_rfl : Ev.domS 1 = (none, none)) (trivial : True) (trivial : True)
  have ew3 := Ev.sgOf_at (f := sgPlanChecks_22 b1 b2 b3 b4 w1 w2 w3 x h) 2 (a := w3) rfl (by kernel_rfl) (by kernel_rfl) (by kernel_rfl : Ev.domS 2 = (none, none)) (trivial : True) (trivial : True)
  have ex := Ev.sgOf_at (f := sgPlanChecks_22 b1 b2 b3 b4 w1 w2 w3 x h) 3 (a := x) rfl (by kernel_rfl) (by kernel_rfl) (by kernel_rfl : Ev.domS 3 = (none, none)) (trivial : True) (trivial : True)
  have eh := Ev.sgOf_at (f := sgPlanChecks_22 b1 b2 b3 b4 w1 w2 w3 x h) 4 (a := h) rfl (by kernel_rfl) (by kernel_rfl) (by kernel_rfl : Ev.domS 4 = (none, none)) (trivial : True) (trivial : True)
  have hr : Calls Try.prog 3 #[.agg #[.int .i64 2, .int .i64 (Ev.sgOf (sgPlanChecks_22 b1 b2 b3 b4 w1 w2 w3 x h) 2722259016497146122424359018585896517633000000), .int .i64 (Ev.sgOf (sgPlanChecks_22 b1 b2 b3 b4 w1 w2 w3 x h) 2722259016497146122424359018585896517633000002), .int .i64 (Ev.sgOf (sgPlanChecks_22 b1 b2 b3 b4 w1 w2 w3 x h) 2722259016497146122424359018585896517633000004), .int .i64 (Ev.sgOf (sgPlanChecks_22 b1 b2 b3 b4 w1 w2 w3 x h) 2722258854237869293100315163665140547584000006), .int .i64 (Ev.sgOf (sgPlanChecks_22 b1 b2 b3 b4 w1 w2 w3 x h) 0), .int .i64 (Ev.sgOf (sgPlanChecks_22 b1 b2 b3 b4 w1 w2 w3 x h) 1), .int .i64 (Ev.sgOf (sgPlanChecks_22 b1 b2 b3 b4 w1 w2 w3 x h) 2), .int .i64 (Ev.sgOf (sgPlanChecks_22 b1 b2 b3 b4 w1 w2 w3 x h) 3), .int .i64 (Ev.sgOf (sgPlanChecks_22 b1 b2 b3 b4 w1 w2 w3 x h) 4)]] w fun e w' => e = .returned (.bool true) ∧ Below w.heap.size w w' := Ev.run_law (P := Try.prog) (by kernel_rfl) Ev.namesPlanChecks Ev.eqsPlanChecks ranPlanChecks_22 (by simp [argsPlanChecks_22, Ev.AV.bd]) (Ev.sgOf (sgPlanChecks_22 b1 b2 b3 b4 w1 w2 w3 x h)) (Ev.sgOf_ok _) w
  rw [eb1, eb2, eb3, eb4, ew1, ew2, ew3, ex, eh] at hr
  rw [hk]
  exact hr
def argsPlanChecks_23 : List Ev.AV := [.ag [.i .i64 2, .y .i64 2722259016497146122424359018585896517633000000, .y .i64 2722259016497146122424359018585896517633000002, .y .i64 2722259016497146122424359018585896517633000004, .y .i64 36893489246930731010000006, .y .i64 0, .y .i64 1, .y .i64 2, .y .i64 3, .y .i64 4]]
set_option maxRecDepth 100000 in
theorem ranPlanChecks_23 : Ev.okB (Ev.callA Try.prog [3, 4, 32, 137] (Ev.lk Ev.planPlanChecks) 200 3 argsPlanChecks_23 ⟨0, .e⟩) = true := by kernel_rfl
def sgPlanChecks_23 (b1 b2 b3 b4 w1 w2 w3 x h : Int) (j : Nat) : Int := match Nat.beq j 2722259016497146122424359018585896517633000000 with
  | true => b1
  | false => match Nat.beq j 2722259016497146122424359018585896517633000002 with
  | true => b2
  | false => match Nat.beq j 2722259016497146122424359018585896517633000004 with
  | true => b3
  | false => match Nat.beq j 36893489246930731010000006 with
  | true => b4
  | false => match Nat.beq j 0 with
  | true => w1
  | false => match Nat.beq j 1 with
  | true => w2
  | false => match Nat.beq j 2 with
  | true => w3
  | false => match Nat.beq j 3 with
  | true => x
  | false => match Nat.beq j 4 with
  | true => h
  | false => 0
theorem leafPlanChecks_23 (k b1 b2 b3 b4 w1 w2 w3 x h : Int) (w : World) (hk : k = 2) (lb1 : (-1099511627776) ≤ b1) (ub1 : b1 ≤ 1099511627776) (lb2 : (-1099511627776) ≤ b2) (ub2 : b2 ≤ 1099511627776) (lb3 : (-1099511627776) ≤ b3) (ub3 : b3 ≤ 1099511627776) (lb4 : 1099511627777 ≤ b4) : Calls Try.prog 3 #[.agg #[.int .i64 k, .int .i64 b1, .int .i64 b2, .int .i64 b3, .int .i64 b4, .int .i64 w1, .int .i64 w2, .int .i64 w3, .int .i64 x, .int .i64 h]] w fun e w' => e = .returned (.bool true) ∧ Below w.heap.size w w' := by
  have eb1 := Ev.sgOf_at (f := sgPlanChecks_23 b1 b2 b3 b4 w1 w2 w3 x h) 2722259016497146122424359018585896517633000000 (a := b1) rfl (by kernel_rfl) (by kernel_rfl) (by kernel_rfl : Ev.domS 2722259016497146122424359018585896517633000000 = (some (-1099511627776), some 1099511627776)) (show (-1099511627776) ≤ b1 by omega) (show b1 ≤ 1099511627776 by omega)
  have eb2 := Ev.sgOf_at (f := sgPlanChecks_23 b1 b2 b3 b4 w1 w2 w3 x h) 2722259016497146122424359018585896517633000002 (a := b2) rfl (by kernel_rfl) (by kernel_rfl) (by kernel_rfl : Ev.domS 2722259016497146122424359018585896517633000002 = (some (-1099511627776), some 1099511627776)) (show (-1099511627776) ≤ b2 by omega) (show b2 ≤ 1099511627776 by omega)
  have eb3 := Ev.sgOf_at (f := sgPlanChecks_23 b1 b2 b3 b4 w1 w2 w3 x h) 2722259016497146122424359018585896517633000004 (a := b3) rfl (by kernel_rfl) (by kernel_rfl) (by kernel_rfl : Ev.domS 2722259016497146122424359018585896517633000004 = (some (-1099511627776), some 1099511627776)) (show (-1099511627776) ≤ b3 by omega) (show b3 ≤ 1099511627776 by omega)
  have eb4 := Ev.sgOf_at (f := sgPlanChecks_23 b1 b2 b3 b4 w1 w2 w3 x h) 36893489246930731010000006 (a := b4) rfl (by kernel_rfl) (by kernel_rfl) (by kernel_rfl : Ev.domS 36893489246930731010000006 = (some 1099511627777, none)) (show 1099511627777 ≤ b4 by omega) (trivial : True)
  have ew1 := Ev.sgOf_at (f := sgPlanChecks_23 b1 b2 b3 b4 w1 w2 w3 x h) 0 (a := w1) rfl (by kernel_rfl) (by kernel_rfl) (by kernel_rfl : Ev.domS 0 = (none, none)) (trivial : True) (trivial : True)
  have ew2 := Ev.sgOf_at (f := sgPlanChecks_23 b1 b2 b3 b4 w1 w2 w3 x h) 1 (a := w2) rfl (by kernel_rfl) (by kernel_rfl) (by kernel_rfl : Ev.domS 1 = (none, none)) (trivial : True) (trivial : True)
  have ew3 := Ev.sgOf_at (f := sgPlanChecks_23 b1 b2 b3 b4 w1 w2 w3 x h) 2 (a := w3) rfl (by kernel_rfl) (by kernel_rfl) (by kernel_rfl : Ev.domS 2 = (none, none)) (trivial : True) (trivial : True)
  have ex := Ev.sgOf_at (f := sgPlanChecks_23 b1 b2 b3 b4 w1 w2 w3 x h) 3 (a := x) rfl (by kernel_rfl) (by kernel_rfl) (by kernel_rfl : Ev.domS 3 = (none, none)) (trivial : True) (trivial : True)
  have eh := Ev.sgOf_at (f := sgPlanChecks_23 b1 b2 b3 b4 w1 w2 w3 x h) 4 (a := h) rfl (by kernel_rfl) (by kernel_rfl) (by kernel_rfl : Ev.domS 4 = (none, none)) (trivial : True) (trivial : True)
  have hr : Calls Try.prog 3 #[.agg #[.int .i64 2, .int .i64 (Ev.sgOf (sgPlanChecks_23 b1 b2 b3 b4 w1 w2 w3 x h) 2722259016497146122424359018585896517633000000), .int .i64 (Ev.sgOf (sgPlanChecks_23 b1 b2 b3 b4 w1 w2 w3 x h) 2722259016497146122424359018585896517633000002), .int .i64 (Ev.sgOf (sgPlanChecks_23 b1 b2 b3 b4 w1 w2 w3 x h) 2722259016497146122424359018585896517633000004), .int .i64 (Ev.sgOf (sgPlanChecks_23 b1 b2 b3 b4 w1 w2 w3 x h) 36893489246930731010000006), .int .i64 (Ev.sgOf (sgPlanChecks_23 b1 b2 b3 b4 w1 w2 w3 x h) 0), .int .i64 (Ev.sgOf (sgPlanChecks_23 b1 b2 b3 b4 w1 w2 w3 x h) 1), .int .i64 (Ev.sgOf (sgPlanChecks_23 b1 b2 b3 b4 w1 w2 w3 x h) 2), .int .i64 (Ev.sgOf (sgPlanChecks_23 b1 b2 b3 b4 w1 w2 w3 x h) 3), .int .i64 (Ev.sgOf (sgPlanChecks_23 b1 b2 b3 b4 w1 w2 w3 x h) 4)]] w fun e w' => e = .returned (.bool true) ∧ Below w.heap.size w w' := Ev.run_law (P := Try.prog) (by kernel_rfl) Ev.namesPlanChecks Ev.eqsPlanChecks ranPlanChecks_23 (by simp [argsPlanChecks_23, Ev.AV.bd]) (Ev.sgOf (sgPlanChecks_23 b1 b2 b3 b4 w1 w2 w3 x h)) (Ev.sgOf_ok _) w
  rw [eb1, eb2, eb3, eb4, ew1, ew2, ew3, ex, eh] at hr
  rw [hk]
  exact hr
end Go.Proofs.Ytencgokpbfkeiaa
