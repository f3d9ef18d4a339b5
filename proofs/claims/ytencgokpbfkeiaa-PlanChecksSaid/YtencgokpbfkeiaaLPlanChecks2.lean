/- 'alidadelaw25.PlanChecks' comes out true: cases 24 to 35. -/
import Derived.Test.YtencgokpbfkeiaaPPlanChecks
import Derived.WalkKit
set_option linter.unusedVariables false
namespace Go.Proofs.Ytencgokpbfkeiaa
open Go Go.RowKit
def argsPlanChecks_24 : List Ev.AV := [.ag [.i .i64 2, .y .i64 2722259016497146122424359018585896517633001000, .y .i64 2722259016497146122424359018585896517633001001, .y .i64 2722259016497146122424359018585896517633001002, .y .i64 2722259016497146122424359018585896517633001003, .y .i64 0, .y .i64 1, .y .i64 2, .y .i64 3, .y .i64 4]]
set_option maxRecDepth 100000 in
theorem ranPlanChecks_24 : Ev.okB (Ev.callA Try.prog [3, 4, 32, 137] (Ev.lk Ev.planPlanChecks) 200 3 argsPlanChecks_24 ⟨0, .e⟩) = true := by kernel_rfl
def sgPlanChecks_24 (b1 b2 b3 b4 w1 w2 w3 x h : Int) (j : Nat) : Int := match Nat.beq j 2722259016497146122424359018585896517633001000 with
  | true => b1
  | false => match Nat.beq j 2722259016497146122424359018585896517633001001 with
  | true => b2
  | false => match Nat.beq j 2722259016497146122424359018585896517633001002 with
  | true => b3
  | false => match Nat.beq j 2722259016497146122424359018585896517633001003 with
  | true => b4
  | false => match Nat.beq j 0 with
  | true => w1
  | false => match Nat.beq j 1 with
  | true => w2
  | false => match Nat.beq j 2 with
  | true => w3
  | false => match Nat.beq j 3 with
  | true => x
  | false => match Nat.beq j 4 with
  | true => h
  | false => 0
theorem leafPlanChecks_24 (k b1 b2 b3 b4 w1 w2 w3 x h : Int) (w : World) (hk : k = 2) (lb1 : (-1099511627776) ≤ b1) (ub1 : b1 ≤ 1099511627776) (lb2 : (-1099511627776) ≤ b2) (ub2 : b2 ≤ 1099511627776) (lb3 : (-1099511627776) ≤ b3) (ub3 : b3 ≤ 1099511627776) (lb4 : (-1099511627776) ≤ b4) (ub4 : b4 ≤ 1099511627776) (gb1b2 : b1 < b2) (gb3b4 : b3 < b4) : Calls Try.prog 3 #[.agg #[.int .i64 k, .int .i64 b1, .int .i64 b2, .int .i64 b3, .int .i64 b4, .int .i64 w1, .int .i64 w2, .int .i64 w3, .int .i64 x, .int .i64 h]] w fun e w' => e = .returned (.bool true) ∧ Below w.heap.size w w' := by
  have eb1 := Ev.sgOf_two (f := sgPlanChecks_24 b1 b2 b3 b4 w1 w2 w3 x h) 2722259016497146122424359018585896517633001000 2722259016497146122424359018585896517633001001 rfl (a := b1) (b := b2) rfl rfl (by kernel_rfl) (by kernel_rfl : Ev.domS 2722259016497146122424359018585896517633001000 = (some (-1099511627776), some 1099511627776)) (show (-1099511627776) ≤ b1 by omega) (show b1 ≤ 1099511627776 by omega) (show (-1099511627776) ≤ b2 by omega) (show b2 ≤ 1099511627776 by omega) (by omega)
  have eb3 := Ev.sgOf_two (f := sgPlanChecks_24 b1 b2 b3 b4 w1 w2 w3 x h) 2722259016497146122424359018585896517633001002 2722259016497146122424359018585896517633001003 rfl (a := b3) (b := b4) rfl rfl (by kernel_rfl) (by kernel_rfl : Ev.domS 2722259016497146122424359018585896517633001002 = (some (-1099511627776), some 1099511627776)) (show (-1099511627776) ≤ b3 by omega) (show b3 ≤ 1099511627776 by omega) (show (-1099511627776) ≤ b4 by omega) (show b4 ≤ 1099511627776 by omega) (by omega)
  have ew1 := Ev.sgOf_at (f := sgPlanChecks_24 b1 b2 b3 b4 w1 w2 w3 x h) 0 (a := w1) rfl (by kernel_rfl) (by kernel_rfl) (by kernel_rfl : Ev.domS 0 = (none, none)) (trivial : True) (trivial : True)
  have ew2 := Ev.sgOf_at (f := sgPlanChecks_24 b1 b2 b3 b4 w1 w2 w3 x h) 1 (a := w2) rfl (by kernel_rfl) (by kernel_rfl) (by kernel_rfl : Ev.domS 1 = (none, none)) (trivial : True) (trivial : True)
  have ew3 := Ev.sgOf_at (f := sgPlanChecks_24 b1 b2 b3 b4 w1 w2 w3 x h) 2 (a := w3) rfl (by kernel_rfl) (by kernel_rfl) (by kernel_rfl : Ev.domS 2 = (none, none)) (trivial : True) (trivial : True)
  have ex := Ev.sgOf_at (f := sgPlanChecks_24 b1 b2 b3 b4 w1 w2 w3 x h) 3 (a := x) rfl (by kernel_rfl) (by kernel_rfl) (by kernel_rfl : Ev.domS 3 = (none, none)) (trivial : True) (trivial : True)
  have eh := Ev.sgOf_at (f := sgPlanChecks_24 b1 b2 b3 b4 w1 w2 w3 x h) 4 (a := h) rfl (by kernel_rfl) (by kernel_rfl) (by kernel_rfl : Ev.domS 4 = (none, none)) (trivial : True) (trivial : True)
  have hr : Calls Try.prog 3 #[.agg #[.int .i64 2, .int .i64 (Ev.sgOf (sgPlanChecks_24 b1 b2 b3 b4 w1 w2 w3 x h) 2722259016497146122424359018585896517633001000), .int .i64 (Ev.sgOf (sgPlanChecks_24 b1 b2 b3 b4 w1 w2 w3 x h) 2722259016497146122424359018585896517633001001), .int .i64 (Ev.sgOf (sgPlanChecks_24 b1 b2 b3 b4 w1 w2 w3 x h) 2722259016497146122424359018585896517633001002), .int .i64 (Ev.sgOf (sgPlanChecks_24 b1 b2 b3 b4 w1 w2 w3 x h) 2722259016497146122424359018585896517633001003), .int .i64 (Ev.sgOf (sgPlanChecks_24 b1 b2 b3 b4 w1 w2 w3 x h) 0), .int .i64 (Ev.sgOf (sgPlanChecks_24 b1 b2 b3 b4 w1 w2 w3 x h) 1), .int .i64 (Ev.sgOf (sgPlanChecks_24 b1 b2 b3 b4 w1 w2 w3 x h) 2), .int .i64 (Ev.sgOf (sgPlanChecks_24 b1 b2 b3 b4 w1 w2 w3 x h) 3), .int .i64 (Ev.sgOf (sgPlanChecks_24 b1 b2 b3 b4 w1 w2 w3 x h) 4)]] w fun e w' => e = .returned (.bool true) ∧ Below w.heap.size w w' := Ev.run_law (P := Try.prog) (by kernel_rfl) Ev.namesPlanChecks Ev.eqsPlanChecks ranPlanChecks_24 (by simp [argsPlanChecks_24, Ev.AV.bd]) (Ev.sgOf (sgPlanChecks_24 b1 b2 b3 b4 w1 w2 w3 x h)) (Ev.sgOf_ok _) w
  rw [eb1.1, eb1.2, eb3.1, eb3.2, ew1, ew2, ew3, ex, eh] at hr
  rw [hk]
  exact hr
def argsPlanChecks_25 : List Ev.AV := [.ag [.i .i64 2, .y .i64 2722259016497146122424359018585896517633001000, .y .i64 2722259016497146122424359018585896517633001001, .y .i64 2722259016497146122424359018585896517633000002, .y .i64 2722259016497146122424359018585896517633000002, .y .i64 0, .y .i64 1, .y .i64 2, .y .i64 3, .y .i64 4]]
set_option maxRecDepth 100000 in
theorem ranPlanChecks_25 : Ev.okB (Ev.callA Try.prog [3, 4, 32, 137] (Ev.lk Ev.planPlanChecks) 200 3 argsPlanChecks_25 ⟨0, .e⟩) = true := by kernel_rfl
def sgPlanChecks_25 (b1 b2 b3 w1 w2 w3 x h : Int) (j : Nat) : Int := match Nat.beq j 2722259016497146122424359018585896517633001000 with
  | true => b1
  | false => match Nat.beq j 2722259016497146122424359018585896517633001001 with
  | true => b2
  | false => match Nat.beq j 2722259016497146122424359018585896517633000002 with
  | true => b3
  | false => match Nat.beq j 0 with
  | true => w1
  | false => match Nat.beq j 1 with
  | true => w2
  | false => match Nat.beq j 2 with
  | true => w3
  | false => match Nat.beq j 3 with
  | true => x
  | false => match Nat.beq j 4 with
  | true => h
  | false => 0
theorem leafPlanChecks_25 (k b1 b2 b3 b4 w1 w2 w3 x h : Int) (w : World) (hk : k = 2) (lb1 : (-1099511627776) ≤ b1) (ub1 : b1 ≤ 1099511627776) (lb2 : (-1099511627776) ≤ b2) (ub2 : b2 ≤ 1099511627776) (lb3 : (-1099511627776) ≤ b3) (ub3 : b3 ≤ 1099511627776) (lb4 : (-1099511627776) ≤ b4) (ub4 : b4 ≤ 1099511627776) (qb4 : b4 = b3) (gb1b2 : b1 < b2) : Calls Try.prog 3 #[.agg #[.int .i64 k, .int .i64 b1, .int .i64 b2, .int .i64 b3, .int .i64 b4, .int .i64 w1, .int .i64 w2, .int .i64 w3, .int .i64 x, .int .i64 h]] w fun e w' => e = .returned (.bool true) ∧ Below w.heap.size w w' := by
  have eb1 := Ev.sgOf_two (f := sgPlanChecks_25 b1 b2 b3 w1 w2 w3 x h) 2722259016497146122424359018585896517633001000 2722259016497146122424359018585896517633001001 rfl (a := b1) (b := b2) rfl rfl (by kernel_rfl) (by kernel_rfl : Ev.domS 2722259016497146122424359018585896517633001000 = (some (-1099511627776), some 1099511627776)) (show (-1099511627776) ≤ b1 by omega) (show b1 ≤ 1099511627776 by omega) (show (-1099511627776) ≤ b2 by omega) (show b2 ≤ 1099511627776 by omega) (by omega)
  have eb3 := Ev.sgOf_at (f := sgPlanChecks_25 b1 b2 b3 w1 w2 w3 x h) 2722259016497146122424359018585896517633000002 (a := b3) rfl (by kernel_rfl) (by kernel_rfl) (by kernel_rfl : Ev.domS 2722259016497146122424359018585896517633000002 = (some (-1099511627776), some 1099511627776)) (show (-1099511627776) ≤ b3 by omega) (show b3 ≤ 1099511627776 by omega)
  have ew1 := Ev.sgOf_at (f := sgPlanChecks_25 b1 b2 b3 w1 w2 w3 x h) 0 (a := w1) rfl (by kernel_rfl) (by kernel_rfl) (by kernel_rfl : Ev.domS 0 = (none, none)) (trivial : True) (trivial : True)
  have ew2 := Ev.sgOf_at (f := sgPlanChecks_25 b1 b2 b3 w1 w2 w3 x h) 1 (a := w2) rfl (by kernel_rfl) (by kernel_rfl) (by kernel_rfl : Ev.domS 1 = (none, none)) (trivial : True) (trivial : True)
  have ew3 := Ev.sgOf_at (f := sgPlanChecks_25 b1 b2 b3 w1 w2 w3 x h) 2 (a := w3) rfl (by kernel_rfl) (by kernel_rfl) (by kernel_rfl : Ev.domS 2 = (none, none)) (trivial : True) (trivial : True)
  have ex := Ev.sgOf_at (f := sgPlanChecks_25 b1 b2 b3 w1 w2 w3 x h) 3 (a := x) rfl (by kernel_rfl) (by kernel_rfl) (by kernel_rfl : Ev.domS 3 = (none, none)) (trivial : True) (trivial : True)
  have eh := Ev.sgOf_at (f := sgPlanChecks_25 b1 b2 b3 w1 w2 w3 x h) 4 (a := h) rfl (by kernel_rfl) (by kernel_rfl) (by kernel_rfl : Ev.domS 4 = (none, none)) (trivial : True) (trivial : True)
  have hr : Calls Try.prog 3 #[.agg #[.int .i64 2, .int .i64 (Ev.sgOf (sgPlanChecks_25 b1 b2 b3 w1 w2 w3 x h) 2722259016497146122424359018585896517633001000), .int .i64 (Ev.sgOf (sgPlanChecks_25 b1 b2 b3 w1 w2 w3 x h) 2722259016497146122424359018585896517633001001), .int .i64 (Ev.sgOf (sgPlanChecks_25 b1 b2 b3 w1 w2 w3 x h) 2722259016497146122424359018585896517633000002), .int .i64 (Ev.sgOf (sgPlanChecks_25 b1 b2 b3 w1 w2 w3 x h) 2722259016497146122424359018585896517633000002), .int .i64 (Ev.sgOf (sgPlanChecks_25 b1 b2 b3 w1 w2 w3 x h) 0), .int .i64 (Ev.sgOf (sgPlanChecks_25 b1 b2 b3 w1 w2 w3 x h) 1), .int .i64 (Ev.sgOf (sgPlanChecks_25 b1 b2 b3 w1 w2 w3 x h) 2), .int .i64 (Ev.sgOf (sgPlanChecks_25 b1 b2 b3 w1 w2 w3 x h) 3), .int .i64 (Ev.sgOf (sgPlanChecks_25 b1 b2 b3 w1 w2 w3 x h) 4)]] w fun e w' => e = .returned (.bool true) ∧ Below w.heap.size w w' := Ev.run_law (P := Try.prog) (by kernel_rfl) Ev.namesPlanChecks Ev.eqsPlanChecks ranPlanChecks_25 (by simp [argsPlanChecks_25, Ev.AV.bd]) (Ev.sgOf (sgPlanChecks_25 b1 b2 b3 w1 w2 w3 x h)) (Ev.sgOf_ok _) w
  rw [eb1.1, eb1.2, eb3, ew1, ew2, ew3, ex, eh] at hr
  rw [qb4, hk]
  exact hr
def argsPlanChecks_26 : List Ev.AV := [.ag [.i .i64 2, .y .i64 2722259016497146122424359018585896517633001000, .y .i64 2722259016497146122424359018585896517633001001, .y .i64 2722259016497146122424359018585896517633001003, .y .i64 2722259016497146122424359018585896517633001002, .y .i64 0, .y .i64 1, .y .i64 2, .y .i64 3, .y .i64 4]]
set_option maxRecDepth 100000 in
theorem ranPlanChecks_26 : Ev.okB (Ev.callA Try.prog [3, 4, 32, 137] (Ev.lk Ev.planPlanChecks) 200 3 argsPlanChecks_26 ⟨0, .e⟩) = true := by kernel_rfl
def sgPlanChecks_26 (b1 b2 b3 b4 w1 w2 w3 x h : Int) (j : Nat) : Int := match Nat.beq j 2722259016497146122424359018585896517633001000 with
  | true => b1
  | false => match Nat.beq j 2722259016497146122424359018585896517633001001 with
  | true => b2
  | false => match Nat.beq j 2722259016497146122424359018585896517633001003 with
  | true => b3
  | false => match Nat.beq j 2722259016497146122424359018585896517633001002 with
  | true => b4
  | false => match Nat.beq j 0 with
  | true => w1
  | false => match Nat.beq j 1 with
  | true => w2
  | false => match Nat.beq j 2 with
  | true => w3
  | false => match Nat.beq j 3 with
  | true => x
  | false => match Nat.beq j 4 with
  | true => h
  | false => 0
theorem leafPlanChecks_26 (k b1 b2 b3 b4 w1 w2 w3 x h : Int) (w : World) (hk : k = 2) (lb1 : (-1099511627776) ≤ b1) (ub1 : b1 ≤ 1099511627776) (lb2 : (-1099511627776) ≤ b2) (ub2 : b2 ≤ 1099511627776) (lb3 : (-1099511627776) ≤ b3) (ub3 : b3 ≤ 1099511627776) (lb4 : (-1099511627776) ≤ b4) (ub4 : b4 ≤ 1099511627776) (gb1b2 : b1 < b2) (gb4b3 : b4 < b3) : Calls Try.prog 3 #[.agg #[.int .i64 k, .int .i64 b1, .int .i64 b2, .int .i64 b3, .int .i64 b4, .int .i64 w1, .int .i64 w2, .int .i64 w3, .int .i64 x, .int .i64 h]] w fun e w' => e = .returned (.bool true) ∧ Below w.heap.size w w' := by
  have eb1 := Ev.sgOf_two (f := sgPlanChecks_26 b1 b2 b3 b4 w1 w2 w3 x h) 2722259016497146122424359018585896517633001000 2722259016497146122424359018585896517633001001 rfl (a := b1) (b := b2) rfl rfl (by kernel_rfl) (by kernel_rfl : Ev.domS 2722259016497146122424359018585896517633001000 = (some (-1099511627776), some 1099511627776)) (show (-1099511627776) ≤ b1 by omega) (show b1 ≤ 1099511627776 by omega) (show (-1099511627776) ≤ b2 by omega) (show b2 ≤ 1099511627776 by omega) (by omega)
  have eb4 := Ev.sgOf_two (f := sgPlanChecks_26 b1 b2 b3 b4 w1 w2 w3 x h) 2722259016497146122424359018585896517633001002 2722259016497146122424359018585896517633001003 rfl (a := b4) (b := b3) rfl rfl (by kernel_rfl) (by kernel_rfl : Ev.domS 2722259016497146122424359018585896517633001002 = (some (-1099511627776), some 1099511627776)) (show (-1099511627776) ≤ b4 by omega) (show b4 ≤ 1099511627776 by omega) (show (-1099511627776) ≤ b3 by omega) (show b3 ≤ 1099511627776 by omega) (by omega)
  have ew1 := Ev.sgOf_at (f := sgPlanChecks_26 b1 b2 b3 b4 w1 w2 w3 x h) 0 (a := w1) rfl (by kernel_rfl) (by kernel_rfl) (by kernel_rfl : Ev.domS 0 = (none, none)) (trivial : True) (trivial : True)
  have ew2 := Ev.sgOf_at (f := sgPlanChecks_26 b1 b2 b3 b4 w1 w2 w3 x h) 1 (a := w2) rfl (by kernel_rfl) (by kernel_rfl) (by kernel_rfl : Ev.domS 1 = (none, none)) (trivial : True) (trivial : True)
  have ew3 := Ev.sgOf_at (f := sgPlanChecks_26 b1 b2 b3 b4 w1 w2 w3 x h) 2 (a := w3) rfl (by kernel_rfl) (by kernel_rfl) (by kernel_rfl : Ev.domS 2 = (none, none)) (trivial : True) (trivial : True)
  have ex := Ev.sgOf_at (f := sgPlanChecks_26 b1 b2 b3 b4 w1 w2 w3 x h) 3 (a := x) rfl (by kernel_rfl) (by kernel_rfl) (by kernel_rfl : Ev.domS 3 = (none, none)) (trivial : True) (trivial : True)
  have eh := Ev.sgOf_at (f := sgPlanChecks_26 b1 b2 b3 b4 w1 w2 w3 x h) 4 (a := h) rfl (by kernel_rfl) (by kernel_rfl) (by kernel_rfl : Ev.domS 4 = (none, none)) (trivial : True) (trivial : True)
  have hr : Calls Try.prog 3 #[.agg #[.int .i64 2, .int .i64 (Ev.sgOf (sgPlanChecks_26 b1 b2 b3 b4 w1 w2 w3 x h) 2722259016497146122424359018585896517633001000), .int .i64 (Ev.sgOf (sgPlanChecks_26 b1 b2 b3 b4 w1 w2 w3 x h) 2722259016497146122424359018585896517633001001), .int .i64 (Ev.sgOf (sgPlanChecks_26 b1 b2 b3 b4 w1 w2 w3 x h) 2722259016497146122424359018585896517633001003), .int .i64 (Ev.sgOf (sgPlanChecks_26 b1 b2 b3 b4 w1 w2 w3 x h) 2722259016497146122424359018585896517633001002), .int .i64 (Ev.sgOf (sgPlanChecks_26 b1 b2 b3 b4 w1 w2 w3 x h) 0), .int .i64 (Ev.sgOf (sgPlanChecks_26 b1 b2 b3 b4 w1 w2 w3 x h) 1), .int .i64 (Ev.sgOf (sgPlanChecks_26 b1 b2 b3 b4 w1 w2 w3 x h) 2), .int .i64 (Ev.sgOf (sgPlanChecks_26 b1 b2 b3 b4 w1 w2 w3 x h) 3), .int .i64 (Ev.sgOf (sgPlanChecks_26 b1 b2 b3 b4 w1 w2 w3 x h) 4)]] w fun e w' => e = .returned (.bool true) ∧ Below w.heap.size w w' := Ev.run_law (P := Try.prog) (by kernel_rfl) Ev.namesPlanChecks Ev.eqsPlanChecks ranPlanChecks_26 (by simp [argsPlanChecks_26, Ev.AV.bd]) (Ev.sgOf (sgPlanChecks_26 b1 b2 b3 b4 w1 w2 w3 x h)) (Ev.sgOf_ok _) w
  rw [eb1.1, eb1.2, eb4.1, eb4.2, ew1, ew2, ew3, ex, eh] at hr
  rw [hk]
  exact hr
def argsPlanChecks_27 : List Ev.AV := [.ag [.i .i64 2, .y .i64 2722259016497146122424359018585896517633000002, .y .i64 2722259016497146122424359018585896517633000002, .y .i64 2722259016497146122424359018585896517633001000, .y .i64 2722259016497146122424359018585896517633001001, .y .i64 0, .y .i64 1, .y .i64 2, .y .i64 3, .y .i64 4]]
set_option maxRecDepth 100000 in
theorem ranPlanChecks_27 : Ev.okB (Ev.callA Try.prog [3, 4, 32, 137] (Ev.lk Ev.planPlanChecks) 200 3 argsPlanChecks_27 ⟨0, .e⟩) = true := by kernel_rfl
def sgPlanChecks_27 (b1 b3 b4 w1 w2 w3 x h : Int) (j : Nat) : Int := match Nat.beq j 2722259016497146122424359018585896517633000002 with
  | true => b1
  | false => match Nat.beq j 2722259016497146122424359018585896517633001000 with
  | true => b3
  | false => match Nat.beq j 2722259016497146122424359018585896517633001001 with
  | true => b4
  | false => match Nat.beq j 0 with
  | true => w1
  | false => match Nat.beq j 1 with
  | true => w2
  | false => match Nat.beq j 2 with
  | true => w3
  | false => match Nat.beq j 3 with
  | true => x
  | false => match Nat.beq j 4 with
  | true => h
  | false => 0
theorem leafPlanChecks_27 (k b1 b2 b3 b4 w1 w2 w3 x h : Int) (w : World) (hk : k = 2) (lb1 : (-1099511627776) ≤ b1) (ub1 : b1 ≤ 1099511627776) (lb2 : (-1099511627776) ≤ b2) (ub2 : b2 ≤ 1099511627776) (lb3 : (-1099511627776) ≤ b3) (ub3 : b3 ≤ 1099511627776) (lb4 : (-1099511627776) ≤ b4) (ub4 : b4 ≤ 1099511627776) (qb2 : b2 = b1) (gb3b4 : b3 < b4) : Calls Try.prog 3 #[.agg #[.int .i64 k, .int .i64 b1, .int .i64 b2, .int .i64 b3, .int .i64 b4, .int .i64 w1, .int .i64 w2, .int .i64 w3, .int .i64 x, .int .i64 h]] w fun e w' => e = .returned (.bool true) ∧ Below w.heap.size w w' := by
  have eb3 := Ev.sgOf_two (f := sgPlanChecks_27 b1 b3 b4 w1 w2 w3 x h) 2722259016497146122424359018585896517633001000 2722259016497146122424359018585896517633001001 rfl (a := b3) (b := b4) rfl rfl (by kernel_rfl) (by kernel_rfl : Ev.domS 2722259016497146122424359018585896517633001000 = (some (-1099511627776), some 1099511627776)) (show (-1099511627776) ≤ b3 by omega) (show b3 ≤ 1099511627776 by omega) (show (-1099511627776) ≤ b4 by omega) (show b4 ≤ 1099511627776 by omega) (by omega)
  have eb1 := Ev.sgOf_at (f := sgPlanChecks_27 b1 b3 b4 w1 w2 w3 x h) 2722259016497146122424359018585896517633000002 (a := b1) rfl (by kernel_rfl) (by kernel_rfl) (by kernel_rfl : Ev.domS 2722259016497146122424359018585896517633000002 = (some (-1099511627776), some 1099511627776)) (show (-1099511627776) ≤ b1 by omega) (show b1 ≤ 1099511627776 by omega)
  have ew1 := Ev.sgOf_at (f := sgPlanChecks_27 b1 b3 b4 w1 w2 w3 x h) 0 (a := w1) rfl (by kernel_rfl) (by kernel_rfl) (by kernel_rfl : Ev.domS 0 = (none, none)) (trivial : True) (trivial : True)
  have ew2 := Ev.sgOf_at (f := sgPlanChecks_27 b1 b3 b4 w1 w2 w3 x h) 1 (a := w2) rfl (by kernel_rfl) (by kernel_rfl) (by kernel_rfl : Ev.domS 1 = (none, none)) (trivial : True) (trivial : True)
  have ew3 := Ev.sgOf_at (f := sgPlanChecks_27 b1 b3 b4 w1 w2 w3 x h) 2 (a := w3) rfl (by kernel_rfl) (by kernel_rfl) (by kernel_rfl : Ev.domS 2 = (none, none)) (trivial : True) (trivial : True)
  have ex := Ev.sgOf_at (f := sgPlanChecks_27 b1 b3 b4 w1 w2 w3 x h) 3 (a := x) rfl (by kernel_rfl) (by kernel_rfl) (by kernel_rfl : Ev.domS 3 = (none, none)) (trivial : True) (trivial : True)
  have eh := Ev.sgOf_at (f := sgPlanChecks_27 b1 b3 b4 w1 w2 w3 x h) 4 (a := h) rfl (by kernel_rfl) (by kernel_rfl) (by kernel_rfl : Ev.domS 4 = (none, none)) (trivial : True) (trivial : True)
  have hr : Calls Try.prog 3 #[.agg #[.int .i64 2, .int .i64 (Ev.sgOf (sgPlanChecks_27 b1 b3 b4 w1 w2 w3 x h) 2722259016497146122424359018585896517633000002), .int .i64 (Ev.sgOf (sgPlanChecks_27 b1 b3 b4 w1 w2 w3 x h) 2722259016497146122424359018585896517633000002), .int .i64 (Ev.sgOf (sgPlanChecks_27 b1 b3 b4 w1 w2 w3 x h) 2722259016497146122424359018585896517633001000), .int .i64 (Ev.sgOf (sgPlanChecks_27 b1 b3 b4 w1 w2 w3 x h) 2722259016497146122424359018585896517633001001), .int .i64 (Ev.sgOf (sgPlanChecks_27 b1 b3 b4 w1 w2 w3 x h) 0), .int .i64 (Ev.sgOf (sgPlanChecks_27 b1 b3 b4 w1 w2 w3 x h) 1), .int .i64 (Ev.sgOf (sgPlanChecks_27 b1 b3 b4 w1 w2 w3 x h) 2), .int .i64 (Ev.sgOf (sgPlanChecks_27 b1 b3 b4 w1 w2 w3 x h) 3), .int .i64 (Ev.sgOf (sgPlanChecks_27 b1 b3 b4 w1 w2 w3 x h) 4)]] w fun e w' => e = .returned (.bool true) ∧ Below w.heap.size w w' := Ev.run_law (P := Try.prog) (by kernel_rfl) Ev.namesPlanChecks Ev.eqsPlanChecks ranPlanChecks_27 (by simp [argsPlanChecks_27, Ev.AV.bd]) (Ev.sgOf (sgPlanChecks_27 b1 b3 b4 w1 w2 w3 x h)) (Ev.sgOf_ok _) w
  rw [eb3.1, eb3.2, eb1, ew1, ew2, ew3, ex, eh] at hr
  rw [qb2, hk]
  exact hr
def argsPlanChecks_28 : List Ev.AV := [.ag [.i .i64 2, .y .i64 2722259016497146122424359018585896517633000000, .y .i64 2722259016497146122424359018585896517633000000, .y .i64 2722259016497146122424359018585896517633000002, .y .i64 2722259016497146122424359018585896517633000002, .y .i64 0, .y .i64 1, .y .i64 2, .y .i64 3, .y .i64 4]]
set_option maxRecDepth 100000 in
theorem ranPlanChecks_28 : Ev.okB (Ev.callA Try.prog [3, 4, 32, 137] (Ev.lk Ev.planPlanChecks) 200 3 argsPlanChecks_28 ⟨0, .e⟩) = true := by kernel_rfl
def sgPlanChecks_28 (b1 b3 w1 w2 w3 x h : Int) (j : Nat) : Int := match Nat.beq j 2722259016497146122424359018585896517633000000 with
  | true => b1
  | false => match Nat.beq j 2722259016497146122424359018585896517633000002 with
  | true => b3
  | false => match Nat.beq j 0 with
  | true => w1
  | false => match Nat.beq j 1 with
  | true => w2
  | false => match Nat.beq j 2 with
  | true => w3
  | false => match Nat.beq j 3 with
  | true => x
  | false => match Nat.beq j 4 with
  | true => h
  | false => 0
theorem leafPlanChecks_28 (k b1 b2 b3 b4 w1 w2 w3 x h : Int) (w : World) (hk : k = 2) (lb1 : (-1099511627776) ≤ b1) (ub1 : b1 ≤ 1099511627776) (lb2 : (-1099511627776) ≤ b2) (ub2 : b2 ≤ 1099511627776) (lb3 : (-1099511627776) ≤ b3) (ub3 : b3 ≤ 1099511627776) (lb4 : (-1099511627776) ≤ b4) (ub4 : b4 ≤ 1099511627776) (qb2 : b2 = b1) (qb4 : b4 = b3) : Calls Try.prog 3 #[.agg #[.int .i64 k, .int .i64 b1, .int .i64 b2, .int .i64 b3, .int .i64 b4, .int .i64 w1, .int .i64 w2, .int .i64 w3, .int .i64 x, .int .i64 h]] w fun e w' => e = .returned (.bool true) ∧ Below w.heap.size w w' := by
  have eb1 := Ev.sgOf_at (f := sgPlanChecks_28 b1 b3 w1 w2 w3 x h) 2722259016497146122424359018585896517633000000 (a := b1) rfl (by kernel_rfl) (by kernel_rfl) (by kernel_rfl : Ev.domS 2722259016497146122424359018585896517633000000 = (some (-1099511627776), some 1099511627776)) (show (-1099511627776) ≤ b1 by omega) (show b1 ≤ 1099511627776 by omega)
  have eb3 := Ev.sgOf_at (f := sgPlanChecks_28 b1 b3 w1 w2 w3 x h) 2722259016497146122424359018585896517633000002 (a := b3) rfl (by kernel_rfl) (by kernel_rfl) (by kernel_rfl : Ev.domS 2722259016497146122424359018585896517633000002 = (some (-1099511627776), some 1099511627776)) (show (-1099511627776) ≤ b3 by omega) (show b3 ≤ 1099511627776 by omega)
  have ew1 := Ev.sgOf_at (f := sgPlanChecks_28 b1 b3 w1 w2 w3 x h) 0 (a := w1) rfl (by kernel_rfl) (by kernel_rfl) (by kernel_rfl : Ev.domS 0 = (none, none)) (trivial : True) (trivial : True)
  have ew2 := Ev.sgOf_at (f := sgPlanChecks_28 b1 b3 w1 w2 w3 x h) 1 (a := w2) rfl (by kernel_rfl) (by kernel_rfl) (by kernel_rfl : Ev.domS 1 = (none, none)) (trivial : True) (trivial : True)
  have ew3 := Ev.sgOf_at (f := sgPlanChecks_28 b1 b3 w1 w2 w3 x h) 2 (a := w3) rfl (by kernel_rfl) (by kernel_rfl) (by kernel_rfl : Ev.domS 2 = (none, none)) (trivial : True) (trivial : True)
  have ex := Ev.sgOf_at (f := sgPlanChecks_28 b1 b3 w1 w2 w3 x h) 3 (a := x) rfl (by kernel_rfl) (by kernel_rfl) (by kernel_rfl : Ev.domS 3 = (none, none)) (trivial : True) (trivial : True)
  have eh := Ev.sgOf_at (f := sgPlanChecks_28 b1 b3 w1 w2 w3 x h) 4 (a := h) rfl (by kernel_rfl) (by kernel_rfl) (by kernel_rfl : Ev.domS 4 = (none, none)) (trivial : True) (trivial : True)
  have hr : Calls Try.prog 3 #[.agg #[.int .i64 2, .int .i64 (Ev.sgOf (sgPlanChecks_28 b1 b3 w1 w2 w3 x h) 2722259016497146122424359018585896517633000000), .int .i64 (Ev.sgOf (sgPlanChecks_28 b1 b3 w1 w2 w3 x h) 2722259016497146122424359018585896517633000000), .int .i64 (Ev.sgOf (sgPlanChecks_28 b1 b3 w1 w2 w3 x h) 2722259016497146122424359018585896517633000002), .int .i64 (Ev.sgOf (sgPlanChecks_28 b1 b3 w1 w2 w3 x h) 2722259016497146122424359018585896517633000002), .int .i64 (Ev.sgOf (sgPlanChecks_28 b1 b3 w1 w2 w3 x h) 0), .int .i64 (Ev.sgOf (sgPlanChecks_28 b1 b3 w1 w2 w3 x h) 1), .int .i64 (Ev.sgOf (sgPlanChecks_28 b1 b3 w1 w2 w3 x h) 2), .int .i64 (Ev.sgOf (sgPlanChecks_28 b1 b3 w1 w2 w3 x h) 3), .int .i64 (Ev.sgOf (sgPlanChecks_28 b1 b3 w1 w2 w3 x h) 4)]] w fun e w' => e = .returned (.bool true) ∧ Below w.heap.size w w' := Ev.run_law (P := Try.prog) (by kernel_rfl) Ev.namesPlanChecks Ev.eqsPlanChecks ranPlanChecks_28 (by simp [argsPlanChecks_28, Ev.AV.bd]) (Ev.sgOf (sgPlanChecks_28 b1 b3 w1 w2 w3 x h)) (Ev.sgOf_ok _) w
  rw [eb1, eb3, ew1, ew2, ew3, ex, eh] at hr
  rw [qb2, qb4, hk]
  exact hr
def argsPlanChecks_29 : List Ev.AV := [.ag [.i .i64 2, .y .i64 2722259016497146122424359018585896517633000002, .y .i64 2722259016497146122424359018585896517633000002, .y .i64 2722259016497146122424359018585896517633001001, .y .i64 2722259016497146122424359018585896517633001000, .y .i64 0, .y .i64 1, .y .i64 2, .y .i64 3, .y .i64 4]]
set_option maxRecDepth 100000 in
theorem ranPlanChecks_29 : Ev.okB (Ev.callA Try.prog [3, 4, 32, 137] (Ev.lk Ev.planPlanChecks) 200 3 argsPlanChecks_29 ⟨0, .e⟩) = true := by kernel_rfl
def sgPlanChecks_29 (b1 b3 b4 w1 w2 w3 x h : Int) (j : Nat) : Int := match Nat.beq j 2722259016497146122424359018585896517633000002 with
  | true => b1
  | false => match Nat.beq j 2722259016497146122424359018585896517633001001 with
  | true => b3
  | false => match Nat.beq j 2722259016497146122424359018585896517633001000 with
  | true => b4
  | false => match Nat.beq j 0 with
  | true => w1
  | false => match Nat.beq j 1 with
  | true => w2
  | false => match Nat.beq j 2 with
  | true => w3
  | false => match Nat.beq j 3 with
  | true => x
  | false => match Nat.beq j 4 with
  | true => h
  | false => 0
theorem leafPlanChecks_29 (k b1 b2 b3 b4 w1 w2 w3 x h : Int) (w : World) (hk : k = 2) (lb1 : (-1099511627776) ≤ b1) (ub1 : b1 ≤ 1099511627776) (lb2 : (-1099511627776) ≤ b2) (ub2 : b2 ≤ 1099511627776) (lb3 : (-1099511627776) ≤ b3) (ub3 : b3 ≤ 1099511627776) (lb4 : (-1099511627776) ≤ b4) (ub4 : b4 ≤ 1099511627776) (qb2 : b2 = b1) (gb4b3 : b4 < b3) : Calls Try.prog 3 #[.agg #[.int .i64 k, .int .i64 b1, .int .i64 b2, .int .i64 b3, .int .i64 b4, .int .i64 w1, .int .i64 w2, .int .i64 w3, .int .i64 x, .int .i64 h]] w fun e w' => e = .returned (.bool true) ∧ Below w.heap.size w w' := by
  have eb4 := Ev.sgOf_two (f := sgPlanChecks_29 b1 b3 b4 w1 w2 w3 x h) 2722259016497146122424359018585896517633001000 2722259016497146122424359018585896517633001001 rfl (a := b4) (b := b3) rfl rfl (by kernel_rfl) (by kernel_rfl : Ev.domS 2722259016497146122424359018585896517633001000 = (some (-1099511627776), some 1099511627776)) (show (-1099511627776) ≤ b4 by omega) (show b4 ≤ 1099511627776 by omega) (show (-1099511627776) ≤ b3 by omega) (show b3 ≤ 1099511627776 by omega) (by omega)
  have eb1 := Ev.sgOf_at (f := sgPlanChecks_29 b1 b3 b4 w1 w2 w3 x h) 2722259016497146122424359018585896517633000002 (a := b1) rfl (by kernel_rfl) (by kernel_rfl) (by kernel_rfl : Ev.domS 2722259016497146122424359018585896517633000002 = (some (-1099511627776), some 1099511627776)) (show (-1099511627776) ≤ b1 by omega) (show b1 ≤ 1099511627776 by omega)
  have ew1 := Ev.sgOf_at (f := sgPlanChecks_29 b1 b3 b4 w1 w2 w3 x h) 0 (a := w1) rfl (by kernel_rfl) (by kernel_rfl) (by kernel_rfl : Ev.domS 0 = (none, none)) (trivial : True) (trivial : True)
  have ew2 := Ev.sgOf_at (f := sgPlanChecks_29 b1 b3 b4 w1 w2 w3 x h) 1 (a := w2) rfl (by kernel_rfl) (by kernel_rfl) (by kernel_rfl : Ev.domS 1 = (none, none)) (trivial : True) (trivial : True)
  have ew3 := Ev.sgOf_at (f := sgPlanChecks_29 b1 b3 b4 w1 w2 w3 x h) 2 (a := w3) rfl (by kernel_rfl) (by kernel_rfl) (by kernel_rfl : Ev.domS 2 = (none, none)) (trivial : True) (trivial : True)
  have ex := Ev.sgOf_at (f := sgPlanChecks_29 b1 b3 b4 w1 w2 w3 x h) 3 (a := x) rfl (by kernel_rfl) (by kernel_rfl) (by kernel_rfl : Ev.domS 3 = (none, none)) (trivial : True) (trivial : True)
  have eh := Ev.sgOf_at (f := sgPlanChecks_29 b1 b3 b4 w1 w2 w3 x h) 4 (a := h) rfl (by kernel_rfl) (by kernel_rfl) (by kernel_rfl : Ev.domS 4 = (none, none)) (trivial : True) (trivial : True)
  have hr : Calls Try.prog 3 #[.agg #[.int .i64 2, .int .i64 (Ev.sgOf (sgPlanChecks_29 b1 b3 b4 w1 w2 w3 x h) 2722259016497146122424359018585896517633000002), .int .i64 (Ev.sgOf (sgPlanChecks_29 b1 b3 b4 w1 w2 w3 x h) 2722259016497146122424359018585896517633000002), .int .i64 (Ev.sgOf (sgPlanChecks_29 b1 b3 b4 w1 w2 w3 x h) 2722259016497146122424359018585896517633001001), .int .i64 (Ev.sgOf (sgPlanChecks_29 b1 b3 b4 w1 w2 w3 x h) 2722259016497146122424359018585896517633001000), .int .i64 (Ev.sgOf (sgPlanChecks_29 b1 b3 b4 w1 w2 w3 x h) 0), .int .i64 (Ev.sgOf (sgPlanChecks_29 b1 b3 b4 w1 w2 w3 x h) 1), .int .i64 (Ev.sgOf (sgPlanChecks_29 b1 b3 b4 w1 w2 w3 x h) 2), .int .i64 (Ev.sgOf (sgPlanChecks_29 b1 b3 b4 w1 w2 w3 x h) 3), .int .i64 (Ev.sgOf (sgPlanChecks_29 b1 b3 b4 w1 w2 w3 x h) 4)]] w fun e w' => e = .returned (.bool true) ∧ Below w.heap.size w w' := Ev.run_law (P := Try.prog) (by kernel_rfl) Ev.namesPlanChecks Ev.eqsPlanChecks ranPlanChecks_29 (by simp [argsPlanChecks_29, Ev.AV.bd]) (Ev.sgOf (sgPlanChecks_29 b1 b3 b4 w1 w2 w3 x h)) (Ev.sgOf_ok _) w
  rw [eb4.1, eb4.2, eb1, ew1, ew2, ew3, ex, eh] at hr
  rw [qb2, hk]
  exact hr
def argsPlanChecks_30 : List Ev.AV := [.ag [.i .i64 2, .y .i64 2722259016497146122424359018585896517633001001, .y .i64 2722259016497146122424359018585896517633001000, .y .i64 2722259016497146122424359018585896517633000002, .y .i64 2722259016497146122424359018585896517633000004, .y .i64 0, .y .i64 1, .y .i64 2, .y .i64 3, .y .i64 4]]
set_option maxRecDepth 100000 in
theorem ranPlanChecks_30 : Ev.okB (Ev.callA Try.prog [3, 4, 32, 137] (Ev.lk Ev.planPlanChecks) 200 3 argsPlanChecks_30 ⟨0, .e⟩) = true := by kernel_rfl
def sgPlanChecks_30 (b1 b2 b3 b4 w1 w2 w3 x h : Int) (j : Nat) : Int := match Nat.beq j 2722259016497146122424359018585896517633001001 with
  | true => b1
  | false => match Nat.beq j 2722259016497146122424359018585896517633001000 with
  | true => b2
  | false => match Nat.beq j 2722259016497146122424359018585896517633000002 with
  | true => b3
  | false => match Nat.beq j 2722259016497146122424359018585896517633000004 with
  | true => b4
  | false => match Nat.beq j 0 with
  | true => w1
  | false => match Nat.beq j 1 with
  | true => w2
  | false => match Nat.beq j 2 with
  | true => w3
  | false => match Nat.beq j 3 with
  | true => x
  | false => match Nat.beq j 4 with
  | true => h
  | false => 0
theorem leafPlanChecks_30 (k b1 b2 b3 b4 w1 w2 w3 x h : Int) (w : World) (hk : k = 2) (lb1 : (-1099511627776) ≤ b1) (ub1 : b1 ≤ 1099511627776) (lb2 : (-1099511627776) ≤ b2) (ub2 : b2 ≤ 1099511627776) (lb3 : (-1099511627776) ≤ b3) (ub3 : b3 ≤ 1099511627776) (lb4 : (-1099511627776) ≤ b4) (ub4 : b4 ≤ 1099511627776) (gb2b1 : b2 < b1) : Calls Try.prog 3 #[.agg #[.int .i64 k, .int .i64 b1, .int .i64 b2, .int .i64 b3, .int .i64 b4, .int .i64 w1, .int .i64 w2, .int .i64 w3, .int .i64 x, .int .i64 h]] w fun e w' => e = .returned (.bool true) ∧ Below w.heap.size w w' := by
  have eb2 := Ev.sgOf_two (f := sgPlanChecks_30 b1 b2 b3 b4 w1 w2 w3 x h) 2722259016497146122424359018585896517633001000 2722259016497146122424359018585896517633001001 rfl (a := b2) (b := b1) rfl rfl (by kernel_rfl) (by kernel_rfl : Ev.domS 2722259016497146122424359018585896517633001000 = (some (-1099511627776), some 1099511627776)) (show (-1099511627776) ≤ b2 by omega) (show b2 ≤ 1099511627776 by omega) (show (-1099511627776) ≤ b1 by omega) (show b1 ≤ 1099511627776 by omega) (by omega)
  have eb3 := Ev.sgOf_at (f := sgPlanChecks_30 b1 b2 b3 b4 w1 w2 w3 x h) 2722259016497146122424359018585896517633000002 (a := b3) rfl (by kernel_rfl) (by kernel_rfl) (by kernel_rfl : Ev.domS 2722259016497146122424359018585896517633000002 = (some (-1099511627776), some 1099511627776)) (show (-1099511627776) ≤ b3 by omega) (show b3 ≤ 1099511627776 by omega)
  have eb4 := Ev.sgOf_at (f := sgPlanChecks_30 b1 b2 b3 b4 w1 w2 w3 x h) 2722259016497146122424359018585896517633000004 (a := b4) rfl (by kernel_rfl) (by kernel_rfl) (by kernel_rfl : Ev.domS 2722259016497146122424359018585896517633000004 = (some (-1099511627776), some 1099511627776)) (show (-1099511627776) ≤ b4 by omega) (show b4 ≤ 1099511627776 by omega)
  have ew1 := Ev.sgOf_at (f := sgPlanChecks_30 b1 b2 b3 b4 w1 w2 w3 x h) 0 (a := w1) rfl (by kernel_rfl) (by kernel_rfl) (by kernel_rfl : Ev.domS 0 = (none, none)) (trivial : True) (trivial : True)
  have ew2 := Ev.sgOf_at (f := sgPlanChecks_30 b1 b2 b3 b4 w1 w2 w3 x h) 1 (a := w2) rfl (by kernel_rfl) (by kernel_rfl) (by kernel_rfl : Ev.domS 1 = (none, none)) (trivial : True) (trivial : True)
  have ew3 := Ev.sgOf_at (f := sgPlanChecks_30 b1 b2 b3 b4 w1 w2 w3 x h) 2 (a := w3) rfl (by kernel_rfl) (by kernel_rfl) (by kernel_rfl : Ev.domS 2 = (none, none)) (trivial : True) (trivial : True)
  have ex := Ev.sgOf_at (f := sgPlanChecks_30 b1 b2 b3 b4 w1 w2 w3 x h) 3 (a := x) rfl (by kernel_rfl) (by kernel_rfl) (by kernel_rfl : Ev.domS 3 = (none, none)) (trivial : True) (trivial : True)
  have eh := Ev.sgOf_at (f := sgPlanChecks_30 b1 b2 b3 b4 w1 w2 w3 x h) 4 (a := h) rfl (by kernel_rfl) (by kernel_rfl) (by kernel_rfl : Ev.domS 4 = (none, none)) (trivial : True) (trivial : True)
  have hr : Calls Try.prog 3 #[.agg #[.int .i64 2, .int .i64 (Ev.sgOf (sgPlanChecks_30 b1 b2 b3 b4 w1 w2 w3 x h) 2722259016497146122424359018585896517633001001), .int .i64 (Ev.sgOf (sgPlanChecks_30 b1 b2 b3 b4 w1 w2 w3 x h) 2722259016497146122424359018585896517633001000), .int .i64 (Ev.sgOf (sgPlanChecks_30 b1 b2 b3 b4 w1 w2 w3 x h) 2722259016497146122424359018585896517633000002), .int .i64 (Ev.sgOf (sgPlanChecks_30 b1 b2 b3 b4 w1 w2 w3 x h) 2722259016497146122424359018585896517633000004), .int .i64 (Ev.sgOf (sgPlanChecks_30 b1 b2 b3 b4 w1 w2 w3 x h) 0), .int .i64 (Ev.sgOf (sgPlanChecks_30 b1 b2 b3 b4 w1 w2 w3 x h) 1), .int .i64 (Ev.sgOf (sgPlanChecks_30 b1 b2 b3 b4 w1 w2 w3 x h) 2), .int .i64 (Ev.sgOf (sgPlanChecks_30 b1 b2 b3 b4 w1 w2 w3 x h) 3), .int .i64 (Ev.sgOf (sgPlanChecks_30 b1 b2 b3 b4 w1 w2 w3 x h) 4)]] w fun e w' => e = .returned (.bool true) ∧ Below w.heap.size w w' := Ev.run_law (P := Try.prog) (by kernel_rfl) Ev.namesPlanChecks Ev.eqsPlanChecks ranPlanChecks_30 (by simp [argsPlanChecks_30, Ev.AV.bd]) (Ev.sgOf (sgPlanChecks_30 b1 b2 b3 b4 w1 w2 w3 x h)) (Ev.sgOf_ok _) w
  rw [eb2.1, eb2.2, eb3, eb4, ew1, ew2, ew3, ex, eh] at hr
  rw [hk]
  exact hr
def argsPlanChecks_31 : List Ev.AV := [.ag [.i .i64 3, .y .i64 0, .y .i64 1, .y .i64 2, .y .i64 3, .y .i64 2722258854237869293100315163665140547584000000, .y .i64 4, .y .i64 5, .y .i64 6, .y .i64 7]]
set_option maxRecDepth 100000 in
theorem ranPlanChecks_31 : Ev.okB (Ev.callA Try.prog [3, 4, 32, 137] (Ev.lk Ev.planPlanChecks) 200 3 argsPlanChecks_31 ⟨0, .e⟩) = true := by kernel_rfl
def sgPlanChecks_31 (b1 b2 b3 b4 w1 w2 w3 x h : Int) (j : Nat) : Int := match Nat.beq j 0 with
  | true => b1
  | false => match Nat.beq j 1 with
  | true => b2
  | false => match Nat.beq j 2 with
  | true => b3
  | false => match Nat.beq j 3 with
  | true => b4
  | false => match Nat.beq j 2722258854237869293100315163665140547584000000 with
  | true => w1
  | false => match Nat.beq j 4 with
  | true => w2
  | false => match Nat.beq j 5 with
  | true => w3
  | false => match Nat.beq j 6 with
  | true => x
  | false => match Nat.beq j 7 with
  | true => h
  | false => 0
theorem leafPlanChecks_31 (k b1 b2 b3 b4 w1 w2 w3 x h : Int) (w : World) (hk : k = 3) (uw1 : w1 ≤ (-1099511627777)) : Calls Try.prog 3 #[.agg #[.int .i64 k, .int .i64 b1, .int .i64 b2, .int .i64 b3, .int .i64 b4, .int .i64 w1, .int .i64 w2, .int .i64 w3, .int .i64 x, .int .i64 h]] w fun e w' => e = .returned (.bool true) ∧ Below w.heap.size w w' := by
  have eb1 := Ev.sgOf_at (f := sgPlanChecks_31 b1 b2 b3 b4 w1 w2 w3 x h) 0 (a := b1) rfl (by kernel_rfl) (by kernel_rfl) (by kernel_rfl : Ev.domS 0 = (none, none)) (trivial : True) (trivial : True)
  have eb2 := Ev.sgOf_at (f := sgPlanChecks_31 b1 b2 b3 b4 w1 w2 w3 x h) 1 (a := b2) rfl (by kernel_rfl) (by kernel_rfl) (by kernel_rfl : Ev.domS 1 = (none, none)) (trivial : True) (trivial : True)
  have eb3 := Ev.sgOf_at (f := sgPlanChecks_31 b1 b2 b3 b4 w1 w2 w3 x h) 2 (a := b3) rfl (by kernel_rfl) (by kernel_rfl) (by kernel_rfl : Ev.domS 2 = (none, none)) (trivial : True) (trivial : True)
  have eb4 := Ev.sgOf_at (f := sgPlanChecks_31 b1 b2 b3 b4 w1 w2 w3 x h) 3 (a := b4) rfl (by kernel_rfl) (by kernel_rfl) (by kernel_rfl : Ev.domS 3 = (none, none)) (trivial : True) (trivial : True)
  have ew1 := Ev.sgOf_at (f := sgPlanChecks_31 b1 b2 b3 b4 w1 w2 w3 x h) 2722258854237869293100315163665140547584000000 (a := w1) rfl (by kernel_rfl) (by kernel_rfl) (by kernel_rfl : Ev.domS 2722258854237869293100315163665140547584000000 = (none, some (-1099511627777))) (trivial : True) (show w1 ≤ (-1099511627777) by omega)
  have ew2 := Ev.sgOf_at (f := sgPlanChecks_31 b1 b2 b3 b4 w1 w2 w3 x h) 4 (a := w2) rfl (by kernel_rfl) (by kernel_rfl) (by kernel_rfl : Ev.domS 4 = (none, none)) (trivial : True) (trivial : True)
  have ew3 := Ev.sgOf_at (f := sgPlanChecks_31 b1 b2 b3 b4 w1 w2 w3 x h) 5 (a := w3) rfl (by kernel_rfl) (by kernel_rfl) (by kernel_rfl : Ev.domS 5 = (none, none)) (trivial : True) (trivial : True)
  have ex := Ev.sgOf_at (f := sgPlanChecks_31 b1 b2 b3 b4 w1 w2 w3 x h) 6 (a := x) rfl (by kernel_rfl) (by kernel_rfl) (by kernel_rfl : Ev.domS 6 = (none, none)) (trivial : True) (trivial : True)
  have eh := Ev.sgOf_at (f := sgPlanChecks_31 b1 b2 b3 b4 w1 w2 w3 x h) 7 (a := h) rfl (by kernel_rfl) (by kernel_rfl) (by kernel_rfl : Ev.domS 7 = (none, none)) (trivial : True) (trivial : True)
  have hr : Calls Try.prog 3 #[.agg #[.int .i64 3, .int .i64 (Ev.sgOf (sgPlanChecks_31 b1 b2 b3 b4 w1 w2 w3 x h) 0), .int .i64 (Ev.sgOf (sgPlanChecks_31 b1 b2 b3 b4 w1 w2 w3 x h) 1), .int .i64 (Ev.sgOf (sgPlanChecks_31 b1 b2 b3 b4 w1 w2 w3 x h) 2), .int .i64 (Ev.sgOf (sgPlanChecks_31 b1 b2 b3 b4 w1 w2 w3 x h) 3), .int .i64 (Ev.sgOf (sgPlanChecks_31 b1 b2 b3 b4 w1 w2 w3 x h) 2722258854237869293100315163665140547584000000), .int .i64 (Ev.sgOf (sgPlanChecks_31 b1 b2 b3 b4 w1 w2 w3 x h) 4), .int .i64 (Ev.sgOf (sgPlanChecks_31 b1 b2 b3 b4 w1 w2 w3 x h) 5), .int .i64 (Ev.sgOf (sgPlanChecks_31 b1 b2 b3 b4 w1 w2 w3 x h) 6), .int .i64 (Ev.sgOf (sgPlanChecks_31 b1 b2 b3 b4 w1 w2 w3 x h) 7)]] w fun e w' => e = .returned (.bool true) ∧ Below w.heap.size w w' := Ev.run_law (P := Try.prog) (by kernel_rfl) Ev.namesPlanChecks Ev.eqsPlanChecks ranPlanChecks_31 (by simp [argsPlanChecks_31, Ev.AV.bd]) (Ev.sgOf (sgPlanChecks_31 b1 b2 b3 b4 w1 w2 w3 x h)) (Ev.sgOf_ok _) w
  rw [eb1, eb2, eb3, eb4, ew1, ew2, ew3, ex, eh] at hr
  rw [hk]
  exact hr
def argsPlanChecks_32 : List Ev.AV := [.ag [.i .i64 3, .y .i64 0, .y .i64 1, .y .i64 2, .y .i64 3, .y .i64 36893489246930731010000000, .y .i64 4, .y .i64 5, .y .i64 6, .y .i64 7]]
set_option maxRecDepth 100000 in
theorem ranPlanChecks_32 : Ev.okB (Ev.callA Try.prog [3, 4, 32, 137] (Ev.lk Ev.planPlanChecks) 200 3 argsPlanChecks_32 ⟨0, .e⟩) = true := by kernel_rfl
def sgPlanChecks_32 (b1 b2 b3 b4 w1 w2 w3 x h : Int) (j : Nat) : Int := match Nat.beq j 0 with
  | true => b1
  | false => match Nat.beq j 1 with
  | true => b2
  | false => match Nat.beq j 2 with
  | true => b3
  | false => match Nat.beq j 3 with
  | true => b4
  | false => match Nat.beq j 36893489246930731010000000 with
  | true => w1
  | false => match Nat.beq j 4 with
  | true => w2
  | false => match Nat.beq j 5 with
  | true => w3
  | false => match Nat.beq j 6 with
  | true => x
  | false => match Nat.beq j 7 with
  | true => h
  | false => 0
theorem leafPlanChecks_32 (k b1 b2 b3 b4 w1 w2 w3 x h : Int) (w : World) (hk : k = 3) (lw1 : 1099511627777 ≤ w1) : Calls Try.prog 3 #[.agg #[.int .i64 k, .int .i64 b1, .int .i64 b2, .int .i64 b3, .int .i64 b4, .int .i64 w1, .int .i64 w2, .int .i64 w3, .int .i64 x, .int .i64 h]] w fun e w' => e = .returned (.bool true) ∧ Below w.heap.size w w' := by
  have eb1 := Ev.sgOf_at (f := sgPlanChecks_32 b1 b2 b3 b4 w1 w2 w3 x h) 0 (a := b1) rfl (by kernel_rfl) (by kernel_rfl) (by kernel_rfl : Ev.domS 0 = (none, none)) (trivial : True) (trivial : True)
  have eb2 := Ev.sgOf_at (f := sgPlanChecks_32 b1 b2 b3 b4 w1 w2 w3 x h) 1 (a := b2) rfl (by kernel_rfl) (by kernel_rfl) (by kernel_rfl : Ev.domS 1 = (none, none)) (trivial : True) (trivial : True)
  have eb3 := Ev.sgOf_at (f := sgPlanChecks_32 b1 b2 b3 b4 w1 w2 w3 x h) 2 (a := b3) rfl (by kernel_rfl) (by kernel_rfl) (by kernel_rfl : Ev.domS 2 = (none, none)) (trivial : True) (trivial : True)
  have eb4 := Ev.sgOf_at (f := sgPlanChecks_32 b1 b2 b3 b4 w1 w2 w3 x h) 3 (a := b4) rfl (by kernel_rfl) (by kernel_rfl) (by kernel_rfl : Ev.domS 3 = (none, none)) (trivial : True) (trivial : True)
  have ew1 := Ev.sgOf_at (f := sgPlanChecks_32 b1 b2 b3 b4 w1 w2 w3 x h) 36893489246930731010000000 (a := w1) rfl (by kernel_rfl) (by kernel_rfl) (by kernel_rfl : Ev.domS 36893489246930731010000000 = (some 1099511627777, none)) (show 1099511627777 ≤ w1 by omega) (trivial : True)
  have ew2 := Ev.sgOf_at (f := sgPlanChecks_32 b1 b2 b3 b4 w1 w2 w3 x h) 4 (a := w2) rfl (by kernel_rfl) (by kernel_rfl) (by kernel_rfl : Ev.domS 4 = (none, none)) (trivial : True) (trivial : True)
  have ew3 := Ev.sgOf_at (f := sgPlanChecks_32 b1 b2 b3 b4 w1 w2 w3 x h) 5 (a := w3) rfl (by kernel_rfl) (by kernel_rfl) (by kernel_rfl : Ev.domS 5 = (none, none)) (trivial : True) (trivial : True)
  have ex := Ev.sgOf_at (f := sgPlanChecks_32 b1 b2 b3 b4 w1 w2 w3 x h) 6 (a := x) rfl (by kernel_rfl) (by kernel_rfl) (by kernel_rfl : Ev.domS 6 = (none, none)) (trivial : True) (trivial : True)
  have eh := Ev.sgOf_at (f := sgPlanChecks_32 b1 b2 b3 b4 w1 w2 w3 x h) 7 (a := h) rfl (by kernel_rfl) (by kernel_rfl) (by kernel_rfl : Ev.domS 7 = (none, none)) (trivial : True) (trivial : True)
  have hr : Calls Try.prog 3 #[.agg #[.int .i64 3, .int .i64 (Ev.sgOf (sgPlanChecks_32 b1 b2 b3 b4 w1 w2 w3 x h) 0), .int .i64 (Ev.sgOf (sgPlanChecks_32 b1 b2 b3 b4 w1 w2 w3 x h) 1), .int .i64 (Ev.sgOf (sgPlanChecks_32 b1 b2 b3 b4 w1 w2 w3 x h) 2), .int .i64 (Ev.sgOf (sgPlanChecks_32 b1 b2 b3 b4 w1 w2 w3 x h) 3), .int .i64 (Ev.sgOf (sgPlanChecks_32 b1 b2 b3 b4 w1 w2 w3 x h) 36893489246930731010000000), .int .i64 (Ev.sgOf (sgPlanChecks_32 b1 b2 b3 b4 w1 w2 w3 x h) 4), .int .i64 (Ev.sgOf (sgPlanChecks_32 b1 b2 b3 b4 w1 w2 w3 x h) 5), .int .i64 (Ev.sgOf (sgPlanChecks_32 b1 b2 b3 b4 w1 w2 w3 x h) 6), .int .i64 (Ev.sgOf (sgPlanChecks_32 b1 b2 b3 b4 w1 w2 w3 x h) 7)]] w fun e w' => e = .returned (.bool true) ∧ Below w.heap.size w w' := Ev.run_law (P := Try.prog) (by kernel_rfl) Ev.namesPlanChecks Ev.eqsPlanChecks ranPlanChecks_32 (by simp [argsPlanChecks_32, Ev.AV.bd]) (Ev.sgOf (sgPlanChecks_32 b1 b2 b3 b4 w1 w2 w3 x h)) (Ev.sgOf_ok _) w
  rw [eb1, eb2, eb3, eb4, ew1, ew2, ew3, ex, eh] at hr
  rw [hk]
  exact hr
def argsPlanChecks_33 : List Ev.AV := [.ag [.i .i64 3, .y .i64 0, .y .i64 1, .y .i64 2, .y .i64 3, .y .i64 2722259016497146122424359018585896517633000000, .y .i64 2722258854237869293100315163665140547584000002, .y .i64 4, .y .i64 5, .y .i64 6]]
set_option maxRecDepth 100000 in
theorem ranPlanChecks_33 : Ev.okB (Ev.callA Try.prog [3, 4, 32, 137] (Ev.lk Ev.planPlanChecks) 200 3 argsPlanChecks_33 ⟨0, .e⟩) = true := by kernel_rfl
def sgPlanChecks_33 (b1 b2 b3 b4 w1 w2 w3 x h : Int) (j : Nat) : Int := match Nat.beq j 0 with
  | true => b1
  | false => match Nat.beq j 1 with
  | true => b2
  | false => match Nat.beq j 2 with
  | true => b3
  | false => match Nat.beq j 3 with
  | true => b4
  | false => match Nat.beq j 2722259016497146122424359018585896517633000000 with
  | true => w1
  | false => match Nat.beq j 2722258854237869293100315163665140547584000002 with
  | true => w2
  | false => match Nat.beq j 4 with
  | true => w3
  | false => match Nat.beq j 5 with
  | true => x
  | false => match Nat.beq j 6 with
  | true => h
  | false => 0
theorem leafPlanChecks_33 (k b1 b2 b3 b4 w1 w2 w3 x h : Int) (w : World) (hk : k = 3) (lw1 : (-1099511627776) ≤ w1) (uw1 : w1 ≤ 1099511627776) (uw2 : w2 ≤ (-1099511627777)) : Calls Try.prog 3 #[.agg #[.int .i64 k, .int .i64 b1, .int .i64 b2, .int .i64 b3, .int .i64 b4, .int .i64 w1, .int .i64 w2, .int .i64 w3, .int .i64 x, .int .i64 h]] w fun e w' => e = .returned (.bool true) ∧ Below w.heap.size w w' := by
  have eb1 := Ev.sgOf_at (f := sgPlanChecks_33 b1 b2 b3 b4 w1 w2 w3 x h) 0 (a := b1) rfl (by kernel_rfl) (by kernel_rfl) (by kernel_rfl : Ev.domS 0 = (none, none)) (trivial : True) (trivial : True)
  have eb2 := Ev.sgOf_at (f := sgPlanChecks_33 b1 b2 b3 b4 w1 w2 w3 x h) 1 (a := b2) rfl (by kernel_rfl) (by kernel_rfl) (by kernel_rfl : Ev.domS 1 = (none, none)) (trivial : True) (trivial : True)
  have eb3 := Ev.sgOf_at (f := sgPlanChecks_33 b1 b2 b3 b4 w1 w2 w3 x h) 2 (a := b3) rfl (by kernel_rfl) (by kernel_rfl) (by kernel_rfl : Ev.domS 2 = (none, none)) (trivial : True) (trivial : True)
  have eb4 := Ev.sgOf_at (f := sgPlanChecks_33 b1 b2 b3 b4 w1 w2 w3 x h) 3 (a := b4) rfl (by kernel_rfl) (by kernel_rfl) (by kernel_rfl : Ev.domS 3 = (none, none)) (trivial : True) (trivial : True)
  have ew1 := Ev.sgOf_at (f := sgPlanChecks_33 b1 b2 b3 b4 w1 w2 w3 x h) 2722259016497146122424359018585896517633000000 (a := w1) rfl (by kernel_rfl) (by kernel_rfl) (by kernel_rfl : Ev.domS 2722259016497146122424359018585896517633000000 = (some (-1099511627776), some 1099511627776)) (show (-1099511627776) ≤ w1 by omega) (show w1 ≤ 1099511627776 by omega)
  have ew2 := Ev.sgOf_at (f := sgPlanChecks_33 b1 b2 b3 b4 w1 w2 w3 x h) 2722258854237869293100315163665140547584000002 (a := w2) rfl (by kernel_rfl) (by kernel_rfl) (by kernel_rfl : Ev.domS 2722258854237869293100315163665140547584000002 = (none, some (-1099511627777))) (trivial : True) (show w2 ≤ (-1099511627777) by omega)
  have ew3 := Ev.sgOf_at (f := sgPlanChecks_33 b1 b2 b3 b4 w1 w2 w3 x h) 4 (a := w3) rfl (by kernel_rfl) (by kernel_rfl) (by kernel_rfl : Ev.domS 4 = (none, none)) (trivial : True) (trivial : True)
  have ex := Ev.sgOf_at (f := sgPlanChecks_33 b1 b2 b3 b4 w1 w2 w3 x h) 5 (a := x) rfl (by kernel_rfl) (by kernel_rfl) (by kernel_rfl : Ev.domS 5 = (none, none)) (trivial : True) (trivial : True)
  have eh := Ev.sgOf_at (f := sgPlanChecks_33 b1 b2 b3 b4 w1 w2 w3 x h) 6 (a := h) rfl (by kernel_rfl) (by kernel_rfl) (by kernel_rfl : Ev.domS 6 = (none, none)) (trivial : True) (trivial : True)
  have hr : Calls Try.prog 3 #[.agg #[.int .i64 3, .int .i64 (Ev.sgOf (sgPlanChecks_33 b1 b2 b3 b4 w1 w2 w3 x h) 0), .int .i64 (Ev.sgOf (sgPlanChecks_33 b1 b2 b3 b4 w1 w2 w3 x h) 1), .int .i64 (Ev.sgOf (sgPlanChecks_33 b1 b2 b3 b4 w1 w2 w3 x h) 2), .int .i64 (Ev.sgOf (sgPlanChecks_33 b1 b2 b3 b4 w1 w2 w3 x h) 3), .int .i64 (Ev.sgOf (sgPlanChecks_33 b1 b2 b3 b4 w1 w2 w3 x h) 2722259016497146122424359018585896517633000000), .int .i64 (Ev.sgOf (sgPlanChecks_33 b1 b2 b3 b4 w1 w2 w3 x h) 2722258854237869293100315163665140547584000002), .int .i64 (Ev.sgOf (sgPlanChecks_33 b1 b2 b3 b4 w1 w2 w3 x h) 4), .int .i64 (Ev.sgOf (sgPlanChecks_33 b1 b2 b3 b4 w1 w2 w3 x h) 5), .int .i64 (Ev.sgOf (sgPlanChecks_33 b1 b2 b3 b4 w1 w2 w3 x h) 6)]] w fun e w' => e = .returned (.bool true) ∧ Below w.heap.size w w' := Ev.run_law (P := Try.prog) (by kernel_rfl) Ev.namesPlanChecks Ev.eqsPlanChecks ranPlanChecks_33 (by simp [argsPlanChecks_33, Ev.AV.bd]) (Ev.sgOf (sgPlanChecks_33 b1 b2 b3 b4 w1 w2 w3 x h)) (Ev.sgOf_ok _) w
  rw [eb1, eb2, eb3, eb4, ew1, ew2, ew3, ex, eh] at hr
  rw [hk]
  exact hr
def argsPlanChecks_34 : List Ev.AV := [.ag [.i .i64 3, .y .i64 0, .y .i64 1, .y .i64 2, .y .i64 3, .y .i64 2722259016497146122424359018585896517633000000, .y .i64 36893489246930731010000002, .y .i64 4, .y .i64 5, .y .i64 6]]
set_option maxRecDepth 100000 in
theorem ranPlanChecks_34 : Ev.okB (Ev.callA Try.prog [3, 4, 32, 137] (Ev.lk Ev.planPlanChecks) 200 3 argsPlanChecks_34 ⟨0, .e⟩) = true := by kernel_rfl
def sgPlanChecks_34 (b1 b2 b3 b4 w1 w2 w3 x h : Int) (j : Nat) : Int := match Nat.beq j 0 with
  | true => b1
  | false => match Nat.beq j 1 with
  | true => b2
  | false => match Nat.beq j 2 with
  | true => b3
  | false => match Nat.beq j 3 with
  | true => b4
  | false => match Nat.beq j 2722259016497146122424359018585896517633000000 with
  | true => w1
  | false => match Nat.beq j 36893489246930731010000002 with
  | true => w2
  | false => match Nat.beq j 4 with
  | true => w3
  | false => match Nat.beq j 5 with
  | true => x
  | false => match Nat.beq j 6 with
  | true => h
  | false => 0
theorem leafPlanChecks_34 (k b1 b2 b3 b4 w1 w2 w3 x h : Int) (w : World) (hk : k = 3) (lw1 : (-1099511627776) ≤ w1) (uw1 : w1 ≤ 1099511627776) (lw2 : 1099511627777 ≤ w2) : Calls Try.prog 3 #[.agg #[.int .i64 k, .int .i64 b1, .int .i64 b2, .int .i64 b3, .int .i64 b4, .int .i64 w1, .int .i64 w2, .int .i64 w3, .int .i64 x, .int .i64 h]] w fun e w' => e = .returned (.bool true) ∧ Below w.heap.size w w' := by
  have eb1 := Ev.sgOf_at (f := sgPlanChecks_34 b1 b2 b3 b4 w1 w2 w3 x h) 0 (a := b1) rfl (by kernel_rfl) (by kernel_rfl) (by kernel_rfl : Ev.domS 0 = (none, none)) (trivial : True) (trivial : True)
  have eb2 := Ev.sgOf_at (f := sgPlanChecks_34 b1 b2 b3 b4 w1 w2 w3 x h) 1 (a := b2) rfl (by kernel_rfl) (by kernel_rfl) (by kernel_rfl : Ev.domS 1 = (none, none)) (trivial : True) (trivial : True)
  have eb3 := Ev.sgOf_at (f := sgPlanChecks_34 b1 b2 b3 b4 w1 w2 w3 x h) 2 (a := b3) rfl (by kernel_rfl) (by kernel_rfl) (by kernel_rfl : Ev.domS 2 = (none, none)) (trivial : True) (trivial : True)
  have eb4 := Ev.sgOf_at (f := sgPlanChecks_34 b1 b2 b3 b4 w1 w2 w3 x h) 3 (a := b4) rfl (by kernel_rfl) (by kernel_rfl) (by kernel_rfl : Ev.domS 3 = (none, none)) (trivial : True) (trivial : True)
  have ew1 := Ev.sgOf_at (f := sgPlanChecks_34 b1 b2 b3 b4 w1 w2 w3 x h) 2722259016497146122424359018585896517633000000 (a := w1) rfl (by kernel_rfl) (by kernel_rfl) (by kernel_rfl : Ev.domS 2722259016497146122424359018585896517633000000 = (some (-1099511627776), some 1099511627776)) (show (-1099511627776) ≤ w1 by omega) (show w1 ≤ 1099511627776 by omega)
  have ew2 := Ev.sgOf_at (f := sgPlanChecks_34 b1 b2 b3 b4 w1 w2 w3 x h) 36893489246930731010000002 (a := w2) rfl (by kernel_rfl) (by kernel_rfl) (by kernel_rfl : Ev.domS 36893489246930731010000002 = (some 1099511627777, none)) (show 1099511627777 ≤ w2 by omega) (trivial : True)
  have ew3 := Ev.sgOf_at (f := sgPlanChecks_34 b1 b2 b3 b4 w1 w2 w3 x h) 4 (a := w3) rfl (by kernel_rfl) (by kernel_rfl) (by kernel_rfl : Ev.domS 4 = (none, none)) (trivial : True) (trivial : True)
  have ex := Ev.sgOf_at (f := sgPlanChecks_34 b1 b2 b3 b4 w1 w2 w3 x h) 5 (a := x) rfl (by kernel_rfl) (by kernel_rfl) (by kernel_rfl : Ev.domS 5 = (none, none)) (trivial : True) (trivial : True)
  have eh := Ev.sgOf_at (f := sgPlanChecks_34 b1 b2 b3 b4 w1 w2 w3 x h) 6 (a := h) rfl (by kernel_rfl) (by kernel_rfl) (by kernel_rfl : Ev.domS 6 = (none, none)) (trivial : True) (trivial : True)
  have hr : Calls Try.prog 3 #[.agg #[.int .i64 3, .int .i64 (Ev.sgOf (sgPlanChecks_34 b1 b2 b3 b4 w1 w2 w3 x h) 0), .int .i64 (Ev.sgOf (sgPlanChecks_34 b1 b2 b3 b4 w1 w2 w3 x h) 1), .int .i64 (Ev.sgOf (sgPlanChecks_34 b1 b2 b3 b4 w1 w2 w3 x h) 2), .int .i64 (Ev.sgOf (sgPlanChecks_34 b1 b2 b3 b4 w1 w2 w3 x h) 3), .int .i64 (Ev.sgOf (sgPlanChecks_34 b1 b2 b3 b4 w1 w2 w3 x h) 2722259016497146122424359018585896517633000000), .int .i64 (Ev.sgOf (sgPlanChecks_34 b1 b2 b3 b4 w1 w2 w3 x h) 36893489246930731010000002), .int .i64 (Ev.sgOf (sgPlanChecks_34 b1 b2 b3 b4 w1 w2 w3 x h) 4), .int .i64 (Ev.sgOf (sgPlanChecks_34 b1 b2 b3 b4 w1 w2 w3 x h) 5), .int .i64 (Ev.sgOf (sgPlanChecks_34 b1 b2 b3 b4 w1 w2 w3 x h) 6)]] w fun e w' => e = .returned (.bool true) ∧ Below w.heap.size w w' := Ev.run_law (P := Try.prog) (by kernel_rfl) Ev.namesPlanChecks Ev.eqsPlanChecks ranPlanChecks_34 (by simp [argsPlanChecks_34, Ev.AV.bd]) (Ev.sgOf (sgPlanChecks_34 b1 b2 b3 b4 w1 w2 w3 x h)) (Ev.sgOf_ok _) w
  rw [eb1, eb2, eb3, eb4, ew1, ew2, ew3, ex, eh] at hr
  rw [hk]
  exact hr
def argsPlanChecks_35 : List Ev.AV := [.ag [.i .i64 3, .y .i64 0, .y .i64 1, .y .i64 2, .y .i64 3, .y .i64 2722259016497146122424359018585896517633000000, .y .i64 2722259016497146122424359018585896517633000002, .y .i64 2722258854237869293100315163665140547584000004, .y .i64 4, .y .i64 5]]
set_option maxRecDepth 100000 in
theorem ranPlanChecks_35 : Ev.okB (Ev.callA Try.prog [3, 4, 32, 137] (Ev.lk Ev.planPlanChecks) 200 3 argsPlanChecks_35 ⟨0, .e⟩) = true := by kernel_rfl
def sgPlanChecks_35 (b1 b2 b3 b4 w1 w2 w3 x h : Int) (j : Nat) : Int := match Nat.beq j 0 with
  | true => b1
  | false => match Nat.beq j 1 with
  | true => b2
  | false => match Nat.beq j 2 with
  | true => b3
  | false => match Nat.beq j 3 with
  | true => b4
  | false => match Nat.beq j 2722259016497146122424359018585896517633000000 with
  | true => w1
  | false => match Nat.beq j 2722259016497146122424359018585896517633000002 with
  | true => w2
  | false => match Nat.beq j 2722258854237869293100315163665140547584000004 with
  | true => w3
  | false => match Nat.beq j 4 with
  | true => x
  | false => match Nat.beq j 5 with
  | true => h
  | false => 0
theorem leafPlanChecks_35 (k b1 b2 b3 b4 w1 w2 w3 x h : Int) (w : World) (hk : k = 3) (lw1 : (-1099511627776) ≤ w1) (uw1 : w1 ≤ 1099511627776) (lw2 : (-1099511627776) ≤ w2) (uw2 : w2 ≤ 1099511627776) (uw3 : w3 ≤ (-1099511627777)) : Calls Try.prog 3 #[.agg #[.int .i64 k, .int .i64 b1, .int .i64 b2, .int .i64 b3, .int .i64 b4, .int .i64 w1, .int .i64 w2, .int .i64 w3, .int .i64 x, .int .i64 h]] w fun e w' => e = .returned (.bool true) ∧ Below w.heap.size w w' := by
  have eb1 := Ev.sgOf_at (f := sgPlanChecks_35 b1 b2 b3 b4 w1 w2 w3 x h) 0 (a := b1) rfl (by kernel_rfl) (by kernel_rfl) (by kernel_rfl : Ev.domS 0 = (none, none)) (trivial : True) (trivial : True)
  have eb2 := Ev.sgOf_at (f := sgPlanChecks_35 b1 b2 b3 b4 w1 w2 w3 x h) 1 (a := b2) rfl (by kernel_rfl) (by kernel_rfl) (by kernel_rfl : Ev.domS 1 = (none, none)) (trivial : True) (trivial : True)
  have eb3 := Ev.sgOf_at (f := sgPlanChecks_35 b1 b2 b3 b4 w1 w2 w3 x h) 2 (a := b3) rfl (by kernel_rfl) (by kernel_rfl) (by kernel_rfl : Ev.domS 2 = (none, none)) (trivial : True) (trivial : True)
  have eb4 := Ev.sgOf_at (f := sgPlanChecks_35 b1 b2 b3 b4 w1 w2 w3 x h) 3 (a := b4) rfl (by kernel_rfl) (by kernel_rfl) (by kernel_rfl : Ev.domS 3 = (none, none)) (trivial : True) (trivial : True)
  have ew1 := Ev.sgOf_at (f := sgPlanChecks_35 b1 b2 b3 b4 w1 w2 w3 x h) 2722259016497146122424359018585896517633000000 (a := w1) rfl (by kernel_rfl) (by kernel_rfl) (by kernel_rfl : Ev.domS 2722259016497146122424359018585896517633000000 = (some (-1099511627776), some 1099511627776)) (show (-1099511627776) ≤ w1 by omega) (show w1 ≤ 1099511627776 by omega)
  have ew2 := Ev.sgOf_at (f := sgPlanChecks_35 b1 b2 b3 b4 w1 w2 w3 x h) 2722259016497146122424359018585896517633000002 (a := w2) rfl (by kernel_rfl) (by kernel_rfl) (by kernel_rfl : Ev.domS 2722259016497146122424359018585896517633000002 = (some (-1099511627776), some 1099511627776)) (show (-1099511627776) ≤ w2 by omega) (show w2 ≤ 1099511627776 by omega)
  have ew3 := Ev.sgOf_at (f := sgPlanChecks_35 b1 b2 b3 b4 w1 w2 w3 x h) 2722258854237869293100315163665140547584000004 (a := w3) rfl (by kernel_rfl) (by kernel_rfl) (by kernel_rfl : Ev.domS 2722258854237869293100315163665140547584000004 = (none, some (-1099511627777))) (trivial : True) (show w3 ≤ (-1099511627777) by omega)
  have ex := Ev.sgOf_at (f := sgPlanChecks_35 b1 b2 b3 b4 w1 w2 w3 x h) 4 (a := x) rfl (by kernel_rfl) (by kernel_rfl) (by kernel_rfl : Ev.domS 4 = (none, none)) (trivial : True) (trivial : True)
  have eh := Ev.sgOf_at (f := sgPlanChecks_35 b1 b2 b3 b4 w1 w2 w3 x h) 5 (a := h) rfl (by kernel_rfl) (by kernel_rfl) (by kernel_rfl : Ev.domS 5 = (none, none)) (trivial : True) (trivial : True)
  have hr : Calls Try.prog 3 #[.agg #[.int .i64 3, .int .i64 (Ev.sgOf (sgPlanChecks_35 b1 b2 b3 b4 w1 w2 w3 x h) 0), .int .i64 (Ev.sgOf (sgPlanChecks_35 b1 b2 b3 b4 w1 w2 w3 x h) 1), .int .i64 (Ev.sgOf (sgPlanChecks_35 b1 b2 b3 b4 w1 w2 w3 x h) 2), .int .i64 (Ev.sgOf (sgPlanChecks_35 b1 b2 b3 b4 w1 w2 w3 x h) 3), .int .i64 (Ev.sgOf (sgPlanChecks_35 b1 b2 b3 b4 w1 w2 w3 x h) 2722259016497146122424359018585896517633000000), .int .i64 (Ev.sgOf (sgPlanChecks_35 b1 b2 b3 b4 w1 w2 w3 x h) 2722259016497146122424359018585896517633000002), .int .i64 (Ev.sgOf (sgPlanChecks_35 b1 b2 b3 b4 w1 w2 w3 x h) 2722258854237869293100315163665140547584000004), .int .i64 (Ev.sgOf (sgPlanChecks_35 b1 b2 b3 b4 w1 w2 w3 x h) 4), .int .i64 (Ev.sgOf (sgPlanChecks_35 b1 b2 b3 b4 w1 w2 w3 x h) 5)]] w fun e w' => e = .returned (.bool true) ∧ Below w.heap.size w w' := Ev.run_law (P := Try.prog) (by kernel_rfl) Ev.namesPlanChecks Ev.eqsPlanChecks ranPlanChecks_35 (by simp [argsPlanChecks_35, Ev.AV.bd]) (Ev.sgOf (sgPlanChecks_35 b1 b2 b3 b4 w1 w2 w3 x h)) (Ev.sgOf_ok _) w
  rw [eb1, eb2, eb3, eb4, ew1, ew2, ew3, ex, eh] at hr
  rw [hk]
  exact hr
end Go.Proofs.Ytencgokpbfkeiaa
