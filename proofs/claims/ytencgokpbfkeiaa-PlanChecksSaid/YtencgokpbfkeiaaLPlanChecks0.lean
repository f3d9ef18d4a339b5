/- 'alidadelaw25.PlanChecks' comes out true: cases 0 to 11. -/
import Derived.Test.YtencgokpbfkeiaaPPlanChecks
import Derived.WalkKit
set_option linter.unusedVariables false
namespace Go.Proofs.Ytencgokpbfkeiaa
open Go Go.RowKit
def argsPlanChecks_0 : List Ev.AV := [.ag [.y .i64 2722258935367507707780783835748983898112000000, .y .i64 0, .y .i64 1, .y .i64 2, .y .i64 3, .y .i64 4, .y .i64 5, .y .i64 6, .y .i64 7, .y .i64 8]]
set_option maxRecDepth 100000 in
theorem ranPlanChecks_0 : Ev.okB (Ev.callA Try.prog [3, 4, 32, 137] (Ev.lk Ev.planPlanChecks) 200 3 argsPlanChecks_0 ⟨0, .e⟩) = true := by kernel_rfl
def sgPlanChecks_0 (k b1 b2 b3 b4 w1 w2 w3 x h : Int) (j : Nat) : Int := match Nat.beq j 2722258935367507707780783835748983898112000000 with
  | true => k
  | false => match Nat.beq j 0 with
  | true => b1
  | false => match Nat.beq j 1 with
  | true => b2
  | false => match Nat.beq j 2 with
  | true => b3
  | false => match Nat.beq j 3 with
  | true => b4
  | false => match Nat.beq j 4 with
  | true => w1
  | false => match Nat.beq j 5 with
  | true => w2
  | false => match Nat.beq j 6 with
  | true => w3
  | false => match Nat.beq j 7 with
  | true => x
  | false => match Nat.beq j 8 with
  | true => h
  | false => 0
theorem leafPlanChecks_0 (k b1 b2 b3 b4 w1 w2 w3 x h : Int) (w : World) (uk : k ≤ 0) : Calls Try.prog 3 #[.agg #[.int .i64 k, .int .i64 b1, .int .i64 b2, .int .i64 b3, .int .i64 b4, .int .i64 w1, .int .i64 w2, .int .i64 w3, .int .i64 x, .int .i64 h]] w fun e w' => e = .returned (.bool true) ∧ Below w.heap.size w w' := by
  have ek := Ev.sgOf_at (f := sgPlanChecks_0 k b1 b2 b3 b4 w1 w2 w3 x h) 2722258935367507707780783835748983898112000000 (a := k) rfl (by kernel_rfl) (by kernel_rfl) (by kernel_rfl : Ev.domS 2722258935367507707780783835748983898112000000 = (none, some 0)) (trivial : True) (show k ≤ 0 by omega)
  have eb1 := Ev.sgOf_at (f := sgPlanChecks_0 k b1 b2 b3 b4 w1 w2 w3 x h) 0 (a := b1) rfl (by kernel_rfl) (by kernel_rfl) (by kernel_rfl : Ev.domS 0 = (none, none)) (trivial : True) (trivial : True)
  have eb2 := Ev.sgOf_at (f := sgPlanChecks_0 k b1 b2 b3 b4 w1 w2 w3 x h) 1 (a := b2) rfl (by kernel_rfl) (by kernel_rfl) (by kernel_rfl : Ev.domS 1 = (none, none)) (trivial : True) (trivial : True)
  have eb3 := Ev.sgOf_at (f := sgPlanChecks_0 k b1 b2 b3 b4 w1 w2 w3 x h) 2 (a := b3) rfl (by kernel_rfl) (by kernel_rfl) (by kernel_rfl : Ev.domS 2 = (none, none)) (trivial : True) (trivial : True)
  have eb4 := Ev.sgOf_at (f := sgPlanChecks_0 k b1 b2 b3 b4 w1 w2 w3 x h) 3 (a := b4) rfl (by kernel_rfl) (by kernel_rfl) (by kernel_rfl : Ev.domS 3 = (none, none)) (trivial : True) (trivial : True)
  have ew1 := Ev.sgOf_at (f := sgPlanChecks_0 k b1 b2 b3 b4 w1 w2 w3 x h) 4 (a := w1) rfl (by kernel_rfl) (by kernel_rfl) (by kernel_rfl : Ev.domS 4 = (none, none)) (trivial : True) (trivial : True)
  have ew2 := Ev.sgOf_at (f := sgPlanChecks_0 k b1 b2 b3 b4 w1 w2 w3 x h) 5 (a := w2) rfl (by kernel_rfl) (by kernel_rfl) (by kernel_rfl : Ev.domS 5 = (none, none)) (trivial : True) (trivial : True)
  have ew3 := Ev.sgOf_at (f := sgPlanChecks_0 k b1 b2 b3 b4 w1 w2 w3 x h) 6 (a := w3) rfl (by kernel_rfl) (by kernel_rfl) (by kernel_rfl : Ev.domS 6 = (none, none)) (trivial : True) (trivial : True)
  have ex := Ev.sgOf_at (f := sgPlanChecks_0 k b1 b2 b3 b4 w1 w2 w3 x h) 7 (a := x) rfl (by kernel_rfl) (by kernel_rfl) (by kernel_rfl : Ev.domS 7 = (none, none)) (trivial : True) (trivial : True)
  have eh := Ev.sgOf_at (f := sgPlanChecks_0 k b1 b2 b3 b4 w1 w2 w3 x h) 8 (a := h) rfl (by kernel_rfl) (by kernel_rfl) (by kernel_rfl : Ev.domS 8 = (none, none)) (trivial : True) (trivial : True)
  have hr : Calls Try.prog 3 #[.agg #[.int .i64 (Ev.sgOf (sgPlanChecks_0 k b1 b2 b3 b4 w1 w2 w3 x h) 2722258935367507707780783835748983898112000000), .int .i64 (Ev.sgOf (sgPlanChecks_0 k b1 b2 b3 b4 w1 w2 w3 x h) 0), .int .i64 (Ev.sgOf (sgPlanChecks_0 k b1 b2 b3 b4 w1 w2 w3 x h) 1), .int .i64 (Ev.sgOf (sgPlanChecks_0 k b1 b2 b3 b4 w1 w2 w3 x h) 2), .int .i64 (Ev.sgOf (sgPlanChecks_0 k b1 b2 b3 b4 w1 w2 w3 x h) 3), .int .i64 (Ev.sgOf (sgPlanChecks_0 k b1 b2 b3 b4 w1 w2 w3 x h) 4), .int .i64 (Ev.sgOf (sgPlanChecks_0 k b1 b2 b3 b4 w1 w2 w3 x h) 5), .int .i64 (Ev.sgOf (sgPlanChecks_0 k b1 b2 b3 b4 w1 w2 w3 x h) 6), .int .i64 (Ev.sgOf (sgPlanChecks_0 k b1 b2 b3 b4 w1 w2 w3 x h) 7), .int .i64 (Ev.sgOf (sgPlanChecks_0 k b1 b2 b3 b4 w1 w2 w3 x h) 8)]] w fun e w' => e = .returned (.bool true) ∧ Below w.heap.size w w' := Ev.run_law (P := Try.prog) (by kernel_rfl) Ev.namesPlanChecks Ev.eqsPlanChecks ranPlanChecks_0 (by simp [argsPlanChecks_0, Ev.AV.bd]) (Ev.sgOf (sgPlanChecks_0 k b1 b2 b3 b4 w1 w2 w3 x h)) (Ev.sgOf_ok _) w
  rw [ek, eb1, eb2, eb3, eb4, ew1, ew2, ew3, ex, eh] at hr
  exact hr
def argsPlanChecks_1 : List Ev.AV := [.ag [.i .i64 1, .y .i64 2722258854237869293100315163665140547584000000, .y .i64 0, .y .i64 1, .y .i64 2, .y .i64 3, .y .i64 4, .y .i64 5, .y .i64 6, .y .i64 7]]
set_option maxRecDepth 100000 in
theorem ranPlanChecks_1 : Ev.okB (Ev.callA Try.prog [3, 4, 32, 137] (Ev.lk Ev.planPlanChecks) 200 3 argsPlanChecks_1 ⟨0, .e⟩) = true := by kernel_rfl
def sgPlanChecks_1 (b1 b2 b3 b4 w1 w2 w3 x h : Int) (j : Nat) : Int := match Nat.beq j 2722258854237869293100315163665140547584000000 with
  | true => b1
  | false => match Nat.beq j 0 with
  | true => b2
  | false => match Nat.beq j 1 with
  | true => b3
  | false => match Nat.beq j 2 with
  | true => b4
  | false => match Nat.beq j 3 with
  | true => w1
  | false => match Nat.beq j 4 with
  | true => w2
  | false => match Nat.beq j 5 with
  | true => w3
  | false => match Nat.beq j 6 with
  | true => x
  | false => match Nat.beq j 7 with
  | true => h
  | false => 0
theorem leafPlanChecks_1 (k b1 b2 b3 b4 w1 w2 w3 x h : Int) (w : World) (hk : k = 1) (ub1 : b1 ≤ (-1099511627777)) : Calls Try.prog 3 #[.agg #[.int .i64 k, .int .i64 b1, .int .i64 b2, .int .i64 b3, .int .i64 b4, .int .i64 w1, .int .i64 w2, .int .i64 w3, .int .i64 x, .int .i64 h]] w fun e w' => e = .returned (.bool true) ∧ Below w.heap.size w w' := by
  have eb1 := Ev.sgOf_at (f := sgPlanChecks_1 b1 b2 b3 b4 w1 w2 w3 x h) 2722258854237869293100315163665140547584000000 (a := b1) rfl (by kernel_rfl) (by kernel_rfl) (by kernel_rfl : Ev.domS 2722258854237869293100315163665140547584000000 = (none, some (-1099511627777))) (trivial : True) (show b1 ≤ (-1099511627777) by omega)
  have eb2 := Ev.sgOf_at (f := sgPlanChecks_1 b1 b2 b3 b4 w1 w2 w3 x h) 0 (a := b2) rfl (by kernel_rfl) (by kernel_rfl) (by kernel_rfl : Ev.domS 0 = (none, none)) (trivial : True) (trivial : True)
  have eb3 := Ev.sgOf_at (f := sgPlanChecks_1 b1 b2 b3 b4 w1 w2 w3 x h) 1 (a := b3) rfl (by kernel_rfl) (by kernel_rfl) (by kernel_rfl : Ev.domS 1 = (none, none)) (trivial : True) (trivial : True)
  have eb4 := Ev.sgOf_at (f := sgPlanChecks_1 b1 b2 b3 b4 w1 w2 w3 x h) 2 (a := b4) rfl (by kernel_rfl) (by kernel_rfl) (by kernel_rfl : Ev.domS 2 = (none, none)) (trivial : True) (trivial : True)
  have ew1 := Ev.sgOf_at (f := sgPlanChecks_1 b1 b2 b3 b4 w1 w2 w3 x h) 3 (a := w1) rfl (by kernel_rfl) (by kernel_rfl) (by kernel_rfl : Ev.domS 3 = (none, none)) (trivial : True) (trivial : True)
  have ew2 := Ev.sgOf_at (f := sgPlanChecks_1 b1 b2 b3 b4 w1 w2 w3 x h) 4 (a := w2) rfl (by kernel_rfl) (by kernel_rfl) (by kernel_rfl : Ev.domS 4 = (none, none)) (trivial : True) (trivial : True)
  have ew3 := Ev.sgOf_at (f := sgPlanChecks_1 b1 b2 b3 b4 w1 w2 w3 x h) 5 (a := w3) rfl (by kernel_rfl) (by kernel_rfl) (by kernel_rfl : Ev.domS 5 = (none, none)) (trivial : True) (trivial : True)
  have ex := Ev.sgOf_at (f := sgPlanChecks_1 b1 b2 b3 b4 w1 w2 w3 x h) 6 (a := x) rfl (by kernel_rfl) (by kernel_rfl) (by kernel_rfl : Ev.domS 6 = (none, none)) (trivial : True) (trivial : True)
  have eh := Ev.sgOf_at (f := sgPlanChecks_1 b1 b2 b3 b4 w1 w2 w3 x h) 7 (a := h) rfl (by kernel_rfl) (by kernel_rfl) (by kernel_rfl : Ev.domS 7 = (none, none)) (trivial : True) (trivial : True)
  have hr : Calls Try.prog 3 #[.agg #[.int .i64 1, .int .i64 (Ev.sgOf (sgPlanChecks_1 b1 b2 b3 b4 w1 w2 w3 x h) 2722258854237869293100315163665140547584000000), .int .i64 (Ev.sgOf (sgPlanChecks_1 b1 b2 b3 b4 w1 w2 w3 x h) 0), .int .i64 (Ev.sgOf (sgPlanChecks_1 b1 b2 b3 b4 w1 w2 w3 x h) 1), .int .i64 (Ev.sgOf (sgPlanChecks_1 b1 b2 b3 b4 w1 w2 w3 x h) 2), .int .i64 (Ev.sgOf (sgPlanChecks_1 b1 b2 b3 b4 w1 w2 w3 x h) 3), .int .i64 (Ev.sgOf (sgPlanChecks_1 b1 b2 b3 b4 w1 w2 w3 x h) 4), .int .i64 (Ev.sgOf (sgPlanChecks_1 b1 b2 b3 b4 w1 w2 w3 x h) 5), .int .i64 (Ev.sgOf (sgPlanChecks_1 b1 b2 b3 b4 w1 w2 w3 x h) 6), .int .i64 (Ev.sgOf (sgPlanChecks_1 b1 b2 b3 b4 w1 w2 w3 x h) 7)]] w fun e w' => e = .returned (.bool true) ∧ Below w.heap.size w w' := Ev.run_law (P := Try.prog) (by kernel_rfl) Ev.namesPlanChecks Ev.eqsPlanChecks ranPlanChecks_1 (by simp [argsPlanChecks_1, Ev.AV.bd]) (Ev.sgOf (sgPlanChecks_1 b1 b2 b3 b4 w1 w2 w3 x h)) (Ev.sgOf_ok _) w
  rw [eb1, eb2, eb3, eb4, ew1, ew2, ew3, ex, eh] at hr
  rw [hk]
  exact hr
def argsPlanChecks_2 : List Ev.AV := [.ag [.i .i64 1, .y .i64 36893489246930731010000000, .y .i64 0, .y .i64 1, .y .i64 2, .y .i64 3, .y .i64 4, .y .i64 5, .y .i64 6, .y .i64 7]]
set_option maxRecDepth 100000 in
theorem ranPlanChecks_2 : Ev.okB (Ev.callA Try.prog [3, 4, 32, 137] (Ev.lk Ev.planPlanChecks) 200 3 argsPlanChecks_2 ⟨0, .e⟩) = true := by kernel_rfl
def sgPlanChecks_2 (b1 b2 b3 b4 w1 w2 w3 x h : Int) (j : Nat) : Int := match Nat.beq j 36893489246930731010000000 with
  | true => b1
  | false => match Nat.beq j 0 with
  | true => b2
  | false => match Nat.beq j 1 with
  | true => b3
  | false => match Nat.beq j 2 with
  | true => b4
  | false => match Nat.beq j 3 with
  | true => w1
  | false => match Nat.beq j 4 with
  | true => w2
  | false => match Nat.beq j 5 with
  | true => w3
  | false => match Nat.beq j 6 with
  | true => x
  | false => match Nat.beq j 7 with
  | true => h
  | false => 0
theorem leafPlanChecks_2 (k b1 b2 b3 b4 w1 w2 w3 x h : Int) (w : World) (hk : k = 1) (lb1 : 1099511627777 ≤ b1) : Calls Try.prog 3 #[.agg #[.int .i64 k, .int .i64 b1, .int .i64 b2, .int .i64 b3, .int .i64 b4, .int .i64 w1, .int .i64 w2, .int .i64 w3, .int .i64 x, .int .i64 h]] w fun e w' => e = .returned (.bool true) ∧ Below w.heap.size w w' := by
  have eb1 := Ev.sgOf_at (f := sgPlanChecks_2 b1 b2 b3 b4 w1 w2 w3 x h) 36893489246930731010000000 (a := b1) rfl (by kernel_rfl) (by kernel_rfl) (by kernel_rfl : Ev.domS 36893489246930731010000000 = (some 1099511627777, none)) (show 1099511627777 ≤ b1 by omega) (trivial : True)
  have eb2 := Ev.sgOf_at (f := sgPlanChecks_2 b1 b2 b3 b4 w1 w2 w3 x h) 0 (a := b2) rfl (by kernel_rfl) (by kernel_rfl) (by kernel_rfl : Ev.domS 0 = (none, none)) (trivial : True) (trivial : True)
  have eb3 := Ev.sgOf_at (f := sgPlanChecks_2 b1 b2 b3 b4 w1 w2 w3 x h) 1 (a := b3) rfl (by kernel_rfl) (by kernel_rfl) (by kernel_rfl : Ev.domS 1 = (none, none)) (trivial : True) (trivial : True)
  have eb4 := Ev.sgOf_at (f := sgPlanChecks_2 b1 b2 b3 b4 w1 w2 w3 x h) 2 (a := b4) rfl (by kernel_rfl) (by kernel_rfl) (by kernel_rfl : Ev.domS 2 = (none, none)) (trivial : True) (trivial : True)
  have ew1 := Ev.sgOf_at (f := sgPlanChecks_2 b1 b2 b3 b4 w1 w2 w3 x h) 3 (a := w1) rfl (by kernel_rfl) (by kernel_rfl) (by kernel_rfl : Ev.domS 3 = (none, none)) (trivial : True) (trivial : True)
  have ew2 := Ev.sgOf_at (f := sgPlanChecks_2 b1 b2 b3 b4 w1 w2 w3 x h) 4 (a := w2) rfl (by kernel_rfl) (by kernel_rfl) (by kernel_rfl : Ev.domS 4 = (none, none)) (trivial : True) (trivial : True)
  have ew3 := Ev.sgOf_at (f := sgPlanChecks_2 b1 b2 b3 b4 w1 w2 w3 x h) 5 (a := w3) rfl (by kernel_rfl) (by kernel_rfl) (by kernel_rfl : Ev.domS 5 = (none, none)) (trivial : True) (trivial : True)
  have ex := Ev.sgOf_at (f := sgPlanChecks_2 b1 b2 b3 b4 w1 w2 w3 x h) 6 (a := x) rfl (by kernel_rfl) (by kernel_rfl) (by kernel_rfl : Ev.domS 6 = (none, none)) (trivial : True) (trivial : True)
  have eh := Ev.sgOf_at (f := sgPlanChecks_2 b1 b2 b3 b4 w1 w2 w3 x h) 7 (a := h) rfl (by kernel_rfl) (by kernel_rfl) (by kernel_rfl : Ev.domS 7 = (none, none)) (trivial : True) (trivial : True)
  have hr : Calls Try.prog 3 #[.agg #[.int .i64 1, .int .i64 (Ev.sgOf (sgPlanChecks_2 b1 b2 b3 b4 w1 w2 w3 x h) 36893489246930731010000000), .int .i64 (Ev.sgOf (sgPlanChecks_2 b1 b2 b3 b4 w1 w2 w3 x h) 0), .int .i64 (Ev.sgOf (sgPlanChecks_2 b1 b2 b3 b4 w1 w2 w3 x h) 1), .int .i64 (Ev.sgOf (sgPlanChecks_2 b1 b2 b3 b4 w1 w2 w3 x h) 2), .int .i64 (Ev.sgOf (sgPlanChecks_2 b1 b2 b3 b4 w1 w2 w3 x h) 3), .int .i64 (Ev.sgOf (sgPlanChecks_2 b1 b2 b3 b4 w1 w2 w3 x h) 4), .int .i64 (Ev.sgOf (sgPlanChecks_2 b1 b2 b3 b4 w1 w2 w3 x h) 5), .int .i64 (Ev.sgOf (sgPlanChecks_2 b1 b2 b3 b4 w1 w2 w3 x h) 6), .int .i64 (Ev.sgOf (sgPlanChecks_2 b1 b2 b3 b4 w1 w2 w3 x h) 7)]] w fun e w' => e = .returned (.bool true) ∧ Below w.heap.size w w' := Ev.run_law (P := Try.prog) (by kernel_rfl) Ev.namesPlanChecks Ev.eqsPlanChecks ranPlanChecks_2 (by simp [argsPlanChecks_2, Ev.AV.bd]) (Ev.sgOf (sgPlanChecks_2 b1 b2 b3 b4 w1 w2 w3 x h)) (Ev.sgOf_ok _) w
  rw [eb1, eb2, eb3, eb4, ew1, ew2, ew3, ex, eh] at hr
  rw [hk]
  exact hr
def argsPlanChecks_3 : List Ev.AV := [.ag [.i .i64 1, .y .i64 2722259016497146122424359018585896517633000000, .y .i64 2722258854237869293100315163665140547584000002, .y .i64 0, .y .i64 1, .y .i64 2, .y .i64 3, .y .i64 4, .y .i64 5, .y .i64 6]]
set_option maxRecDepth 100000 in
theorem ranPlanChecks_3 : Ev.okB (Ev.callA Try.prog [3, 4, 32, 137] (Ev.lk Ev.planPlanChecks) 200 3 argsPlanChecks_3 ⟨0, .e⟩) = true := by kernel_rfl
def sgPlanChecks_3 (b1 b2 b3 b4 w1 w2 w3 x h : Int) (j : Nat) : Int := match Nat.beq j 2722259016497146122424359018585896517633000000 with
  | true => b1
  | false => match Nat.beq j 2722258854237869293100315163665140547584000002 with
  | true => b2
  | false => match Nat.beq j 0 with
  | true => b3
  | false => match Nat.beq j 1 with
  | true => b4
  | false => match Nat.beq j 2 with
  | true => w1
  | false => match Nat.beq j 3 with
  | true => w2
  | false => match Nat.beq j 4 with
  | true => w3
  | false => match Nat.beq j 5 with
  | true => x
  | false => match Nat.beq j 6 with
  | true => h
  | false => 0
theorem leafPlanChecks_3 (k b1 b2 b3 b4 w1 w2 w3 x h : Int) (w : World) (hk : k = 1) (lb1 : (-1099511627776) ≤ b1) (ub1 : b1 ≤ 1099511627776) (ub2 : b2 ≤ (-1099511627777)) : Calls Try.prog 3 #[.agg #[.int .i64 k, .int .i64 b1, .int .i64 b2, .int .i64 b3, .int .i64 b4, .int .i64 w1, .int .i64 w2, .int .i64 w3, .int .i64 x, .int .i64 h]] w fun e w' => e = .returned (.bool true) ∧ Below w.heap.size w w' := by
  have eb1 := Ev.sgOf_at (f := sgPlanChecks_3 b1 b2 b3 b4 w1 w2 w3 x h) 2722259016497146122424359018585896517633000000 (a := b1) rfl (by kernel_rfl) (by kernel_rfl) (by kernel_rfl : Ev.domS 2722259016497146122424359018585896517633000000 = (some (-1099511627776), some 1099511627776)) (show (-1099511627776) ≤ b1 by omega) (show b1 ≤ 1099511627776 by omega)
  have eb2 := Ev.sgOf_at (f := sgPlanChecks_3 b1 b2 b3 b4 w1 w2 w3 x h) 2722258854237869293100315163665140547584000002 (a := b2) rfl (by kernel_rfl) (by kernel_rfl) (by kernel_rfl : Ev.domS 2722258854237869293100315163665140547584000002 = (none, some (-1099511627777))) (trivial : True) (show b2 ≤ (-1099511627777) by omega)
  have eb3 := Ev.sgOf_at (f := sgPlanChecks_3 b1 b2 b3 b4 w1 w2 w3 x h) 0 (a := b3) rfl (by kernel_rfl) (by kernel_rfl) (by kernel_rfl : Ev.domS 0 = (none, none)) (trivial : True) (trivial : True)
  have eb4 := Ev.sgOf_at (f := sgPlanChecks_3 b1 b2 b3 b4 w1 w2 w3 x h) 1 (a := b4) rfl (by kernel_rfl) (by kernel_rfl) (by kernel_rfl : Ev.domS 1 = (none, none)) (trivial : True) (trivial : True)
  have ew1 := Ev.sgOf_at (f := sgPlanChecks_3 b1 b2 b3 b4 w1 w2 w3 x h) 2 (a := w1) rfl (by kernel_rfl) (by kernel_rfl) (by kernel_rfl : Ev.domS 2 = (none, none)) (trivial : True) (trivial : True)
  have ew2 := Ev.sgOf_at (f := sgPlanChecks_3 b1 b2 b3 b4 w1 w2 w3 x h) 3 (a := w2) rfl (by kernel_rfl) (by kernel_rfl) (by kernel_rfl : Ev.domS 3 = (none, none)) (trivial : True) (trivial : True)
  have ew3 := Ev.sgOf_at (f := sgPlanChecks_3 b1 b2 b3 b4 w1 w2 w3 x h) 4 (a := w3) rfl (by kernel_rfl) (by kernel_rfl) (by kernel_rfl : Ev.domS 4 = (none, none)) (trivial : True) (trivial : True)
  have ex := Ev.sgOf_at (f := sgPlanChecks_3 b1 b2 b3 b4 w1 w2 w3 x h) 5 (a := x) rfl (by kernel_rfl) (by kernel_rfl) (by kernel_rfl : Ev.domS 5 = (none, none)) (trivial : True) (trivial : True)
  have eh := Ev.sgOf_at (f := sgPlanChecks_3 b1 b2 b3 b4 w1 w2 w3 x h) 6 (a := h) rfl (by kernel_rfl) (by kernel_rfl) (by kernel_rfl : Ev.domS 6 = (none, none)) (trivial : True) (trivial : True)
  have hr : Calls Try.prog 3 #[.agg #[.int .i64 1, .int .i64 (Ev.sgOf (sgPlanChecks_3 b1 b2 b3 b4 w1 w2 w3 x h) 2722259016497146122424359018585896517633000000), .int .i64 (Ev.sgOf (sgPlanChecks_3 b1 b2 b3 b4 w1 w2 w3 x h) 2722258854237869293100315163665140547584000002), .int .i64 (Ev.sgOf (sgPlanChecks_3 b1 b2 b3 b4 w1 w2 w3 x h) 0), .int .i64 (Ev.sgOf (sgPlanChecks_3 b1 b2 b3 b4 w1 w2 w3 x h) 1), .int .i64 (Ev.sgOf (sgPlanChecks_3 b1 b2 b3 b4 w1 w2 w3 x h) 2), .int .i64 (Ev.sgOf (sgPlanChecks_3 b1 b2 b3 b4 w1 w2 w3 x h) 3), .int .i64 (Ev.sgOf (sgPlanChecks_3 b1 b2 b3 b4 w1 w2 w3 x h) 4), .int .i64 (Ev.sgOf (sgPlanChecks_3 b1 b2 b3 b4 w1 w2 w3 x h) 5), .int .i64 (Ev.sgOf (sgPlanChecks_3 b1 b2 b3 b4 w1 w2 w3 x h) 6)]] w fun e w' => e = .returned (.bool true) ∧ Below w.heap.size w w' := Ev.run_law (P := Try.prog) (by kernel_rfl) Ev.namesPlanChecks Ev.eqsPlanChecks ranPlanChecks_3 (by simp [argsPlanChecks_3, Ev.AV.bd]) (Ev.sgOf (sgPlanChecks_3 b1 b2 b3 b4 w1 w2 w3 x h)) (Ev.sgOf_ok _) w
  rw [eb1, eb2, eb3, eb4, ew1, ew2, ew3, ex, eh] at hr
  rw [hk]
  exact hr
def argsPlanChecks_4 : List Ev.AV := [.ag [.i .i64 1, .y .i64 2722259016497146122424359018585896517633000000, .y .i64 36893489246930731010000002, .y .i64 0, .y .i64 1, .y .i64 2, .y .i64 3, .y .i64 4, .y .i64 5, .y .i64 6]]
set_option maxRecDepth 100000 in
theorem ranPlanChecks_4 : Ev.okB (Ev.callA Try.prog [3, 4, 32, 137] (Ev.lk Ev.planPlanChecks) 200 3 argsPlanChecks_4 ⟨0, .e⟩) = true := by kernel_rfl
def sgPlanChecks_4 (b1 b2 b3 b4 w1 w2 w3 x h : Int) (j : Nat) : Int := match Nat.beq j 2722259016497146122424359018585896517633000000 with
  | true => b1
  | false => match Nat.beq j 36893489246930731010000002 with
  | true => b2
  | false => match Nat.beq j 0 with
  | true => b3
  | false => match Nat.beq j 1 with
  | true => b4
  | false => match Nat.beq j 2 with
  | true => w1
  | false => match Nat.beq j 3 with
  | true => w2
  | false => match Nat.beq j 4 with
  | true => w3
  | false => match Nat.beq j 5 with
  | true => x
  | false => match Nat.beq j 6 with
  | true => h
  | false => 0
theorem leafPlanChecks_4 (k b1 b2 b3 b4 w1 w2 w3 x h : Int) (w : World) (hk : k = 1) (lb1 : (-1099511627776) ≤ b1) (ub1 : b1 ≤ 1099511627776) (lb2 : 1099511627777 ≤ b2) : Calls Try.prog 3 #[.agg #[.int .i64 k, .int .i64 b1, .int .i64 b2, .int .i64 b3, .int .i64 b4, .int .i64 w1, .int .i64 w2, .int .i64 w3, .int .i64 x, .int .i64 h]] w fun e w' => e = .returned (.bool true) ∧ Below w.heap.size w w' := by
  have eb1 := Ev.sgOf_at (f := sgPlanChecks_4 b1 b2 b3 b4 w1 w2 w3 x h) 2722259016497146122424359018585896517633000000 (a := b1) rfl (by kernel_rfl) (by kernel_rfl) (by kernel_rfl : Ev.domS 2722259016497146122424359018585896517633000000 = (some (-1099511627776), some 1099511627776)) (show (-1099511627776) ≤ b1 by omega) (show b1 ≤ 1099511627776 by omega)
  have eb2 := Ev.sgOf_at (f := sgPlanChecks_4 b1 b2 b3 b4 w1 w2 w3 x h) 36893489246930731010000002 (a := b2) rfl (by kernel_rfl) (by kernel_rfl) (by kernel_rfl : Ev.domS 36893489246930731010000002 = (some 1099511627777, none)) (show 1099511627777 ≤ b2 by omega) (trivial : True)
  have eb3 := Ev.sgOf_at (f := sgPlanChecks_4 b1 b2 b3 b4 w1 w2 w3 x h) 0 (a := b3) rfl (by kernel_rfl) (by kernel_rfl) (by kernel_rfl : Ev.domS 0 = (none, none)) (trivial : True) (trivial : True)
  have eb4 := Ev.sgOf_at (f := sgPlanChecks_4 b1 b2 b3 b4 w1 w2 w3 x h) 1 (a := b4) rfl (by kernel_rfl) (by kernel_rfl) (by kernel_rfl : Ev.domS 1 = (none, none)) (trivial : True) (trivial : True)
  have ew1 := Ev.sgOf_at (f := sgPlanChecks_4 b1 b2 b3 b4 w1 w2 w3 x h) 2 (a := w1) rfl (by kernel_rfl) (by kernel_rfl) (by kernel_rfl : Ev.domS 2 = (none, none)) (trivial : True) (trivial : True)
  have ew2 := Ev.sgOf_at (f := sgPlanChecks_4 b1 b2 b3 b4 w1 w2 w3 x h) 3 (a := w2) rfl (by kernel_rfl) (by kernel_rfl) (by kernel_rfl : Ev.domS 3 = (none, none)) (trivial : True) (trivial : True)
  have ew3 := Ev.sgOf_at (f := sgPlanChecks_4 b1 b2 b3 b4 w1 w2 w3 x h) 4 (a := w3) rfl (by kernel_rfl) (by kernel_rfl) (by kernel_rfl : Ev.domS 4 = (none, none)) (trivial : True) (trivial : True)
  have ex := Ev.sgOf_at (f := sgPlanChecks_4 b1 b2 b3 b4 w1 w2 w3 x h) 5 (a := x) rfl (by kernel_rfl) (by kernel_rfl) (by kernel_rfl : Ev.domS 5 = (none, none)) (trivial : True) (trivial : True)
  have eh := Ev.sgOf_at (f := sgPlanChecks_4 b1 b2 b3 b4 w1 w2 w3 x h) 6 (a := h) rfl (by kernel_rfl) (by kernel_rfl) (by kernel_rfl : Ev.domS 6 = (none, none)) (trivial : True) (trivial : True)
  have hr : Calls Try.prog 3 #[.agg #[.int .i64 1, .int .i64 (Ev.sgOf (sgPlanChecks_4 b1 b2 b3 b4 w1 w2 w3 x h) 2722259016497146122424359018585896517633000000), .int .i64 (Ev.sgOf (sgPlanChecks_4 b1 b2 b3 b4 w1 w2 w3 x h) 36893489246930731010000002), .int .i64 (Ev.sgOf (sgPlanChecks_4 b1 b2 b3 b4 w1 w2 w3 x h) 0), .int .i64 (Ev.sgOf (sgPlanChecks_4 b1 b2 b3 b4 w1 w2 w3 x h) 1), .int .i64 (Ev.sgOf (sgPlanChecks_4 b1 b2 b3 b4 w1 w2 w3 x h) 2), .int .i64 (Ev.sgOf (sgPlanChecks_4 b1 b2 b3 b4 w1 w2 w3 x h) 3), .int .i64 (Ev.sgOf (sgPlanChecks_4 b1 b2 b3 b4 w1 w2 w3 x h) 4), .int .i64 (Ev.sgOf (sgPlanChecks_4 b1 b2 b3 b4 w1 w2 w3 x h) 5), .int .i64 (Ev.sgOf (sgPlanChecks_4 b1 b2 b3 b4 w1 w2 w3 x h) 6)]] w fun e w' => e = .returned (.bool true) ∧ Below w.heap.size w w' := Ev.run_law (P := Try.prog) (by kernel_rfl) Ev.namesPlanChecks Ev.eqsPlanChecks ranPlanChecks_4 (by simp [argsPlanChecks_4, Ev.AV.bd]) (Ev.sgOf (sgPlanChecks_4 b1 b2 b3 b4 w1 w2 w3 x h)) (Ev.sgOf_ok _) w
  rw [eb1, eb2, eb3, eb4, ew1, ew2, ew3, ex, eh] at hr
  rw [hk]
  exact hr
def argsPlanChecks_5 : List Ev.AV := [.ag [.i .i64 1, .y .i64 2722259016497146122424359018585896517633000000, .y .i64 2722259016497146122424359018585896517633000002, .y .i64 2722258854237869293100315163665140547584000004, .y .i64 0, .y .i64 1, .y .i64 2, .y .i64 3, .y .i64 4, .y .i64 5]]
set_option maxRecDepth 100000 in
theorem ranPlanChecks_5 : Ev.okB (Ev.callA Try.prog [3, 4, 32, 137] (Ev.lk Ev.planPlanChecks) 200 3 argsPlanChecks_5 ⟨0, .e⟩) = true := by kernel_rfl
def sgPlanChecks_5 (b1 b2 b3 b4 w1 w2 w3 x h : Int) (j : Nat) : Int := match Nat.beq j 2722259016497146122424359018585896517633000000 with
  | true => b1
  | false => match Nat.beq j 2722259016497146122424359018585896517633000002 with
  | true => b2
  | false => match Nat.beq j 2722258854237869293100315163665140547584000004 with
  | true => b3
  | false => match Nat.beq j 0 with
  | true => b4
  | false => match Nat.beq j 1 with
  | true => w1
  | false => match Nat.beq j 2 with
  | true => w2
  | false => match Nat.beq j 3 with
  | true => w3
  | false => match Nat.beq j 4 with
  | true => x
  | false => match Nat.beq j 5 with
  | true => h
  | false => 0
theorem leafPlanChecks_5 (k b1 b2 b3 b4 w1 w2 w3 x h : Int) (w : World) (hk : k = 1) (lb1 : (-1099511627776) ≤ b1) (ub1 : b1 ≤ 1099511627776) (lb2 : (-1099511627776) ≤ b2) (ub2 : b2 ≤ 1099511627776) (ub3 : b3 ≤ (-1099511627777)) : Calls Try.prog 3 #[.agg #[.int .i64 k, .int .i64 b1, .int .i64 b2, .int .i64 b3, .int .i64 b4, .int .i64 w1, .int .i64 w2, .int .i64 w3, .int .i64 x, .int .i64 h]] w fun e w' => e = .returned (.bool true) ∧ Below w.heap.size w w' := by
  have eb1 := Ev.sgOf_at (f := sgPlanChecks_5 b1 b2 b3 b4 w1 w2 w3 x h) 2722259016497146122424359018585896517633000000 (a := b1) rfl (by kernel_rfl) (by kernel_rfl) (by kernel_rfl : Ev.domS 2722259016497146122424359018585896517633000000 = (some (-1099511627776), some 1099511627776)) (show (-1099511627776) ≤ b1 by omega) (show b1 ≤ 1099511627776 by omega)
  have eb2 := Ev.sgOf_at (f := sgPlanChecks_5 b1 b2 b3 b4 w1 w2 w3 x h) 2722259016497146122424359018585896517633000002 (a := b2) rfl (by kernel_rfl) (by kernel_rfl) (by kernel_rfl : Ev.domS 2722259016497146122424359018585896517633000002 = (some (-1099511627776), some 1099511627776)) (show (-1099511627776) ≤ b2 by omega) (show b2 ≤ 1099511627776 by omega)
  have eb3 := Ev.sgOf_at (f := sgPlanChecks_5 b1 b2 b3 b4 w1 w2 w3 x h) 2722258854237869293100315163665140547584000004 (a := b3) rfl (by kernel_rfl) (by kernel_rfl) (by kernel_rfl : Ev.domS 2722258854237869293100315163665140547584000004 = (none, some (-1099511627777))) (trivial : True) (show b3 ≤ (-1099511627777) by omega)
  have eb4 := Ev.sgOf_at (f := sgPlanChecks_5 b1 b2 b3 b4 w1 w2 w3 x h) 0 (a := b4) rfl (by kernel_rfl) (by kernel_rfl) (by kernel_rfl : Ev.domS 0 = (none, none)) (trivial : True) (trivial : True)
  have ew1 := Ev.sgOf_at (f := sgPlanChecks_5 b1 b2 b3 b4 w1 w2 w3 x h) 1 (a := w1) rfl (by kernel_rfl) (by kernel_rfl) (by kernel_rfl : Ev.domS 1 = (none, none)) (trivial : True) (trivial : True)
  have ew2 := Ev.sgOf_at (f := sgPlanChecks_5 b1 b2 b3 b4 w1 w2 w3 x h) 2 (a := w2) rfl (by kernel_rfl) (by kernel_rfl) (by kernel_rfl : Ev.domS 2 = (none, none)) (trivial : True) (trivial : True)
  have ew3 := Ev.sgOf_at (f := sgPlanChecks_5 b1 b2 b3 b4 w1 w2 w3 x h) 3 (a := w3) rfl (by kernel_rfl) (by kernel_rfl) (by kernel_rfl : Ev.domS 3 = (none, none)) (trivial : True) (trivial : True)
  have ex := Ev.sgOf_at (f := sgPlanChecks_5 b1 b2 b3 b4 w1 w2 w3 x h) 4 (a := x) rfl (by kernel_rfl) (by kernel_rfl) (by kernel_rfl : Ev.domS 4 = (none, none)) (trivial : True) (trivial : True)
  have eh := Ev.sgOf_at (f := sgPlanChecks_5 b1 b2 b3 b4 w1 w2 w3 x h) 5 (a := h) rfl (by kernel_rfl) (by kernel_rfl) (by kernel_rfl : Ev.domS 5 = (none, none)) (trivial : True) (trivial : True)
  have hr : Calls Try.prog 3 #[.agg #[.int .i64 1, .int .i64 (Ev.sgOf (sgPlanChecks_5 b1 b2 b3 b4 w1 w2 w3 x h) 2722259016497146122424359018585896517633000000), .int .i64 (Ev.sgOf (sgPlanChecks_5 b1 b2 b3 b4 w1 w2 w3 x h) 2722259016497146122424359018585896517633000002), .int .i64 (Ev.sgOf (sgPlanChecks_5 b1 b2 b3 b4 w1 w2 w3 x h) 2722258854237869293100315163665140547584000004), .int .i64 (Ev.sgOf (sgPlanChecks_5 b1 b2 b3 b4 w1 w2 w3 x h) 0), .int .i64 (Ev.sgOf (sgPlanChecks_5 b1 b2 b3 b4 w1 w2 w3 x h) 1), .int .i64 (Ev.sgOf (sgPlanChecks_5 b1 b2 b3 b4 w1 w2 w3 x h) 2), .int .i64 (Ev.sgOf (sgPlanChecks_5 b1 b2 b3 b4 w1 w2 w3 x h) 3), .int .i64 (Ev.sgOf (sgPlanChecks_5 b1 b2 b3 b4 w1 w2 w3 x h) 4), .int .i64 (Ev.sgOf (sgPlanChecks_5 b1 b2 b3 b4 w1 w2 w3 x h) 5)]] w fun e w' => e = .returned (.bool true) ∧ Below w.heap.size w w' := Ev.run_law (P := Try.prog) (by kernel_rfl) Ev.namesPlanChecks Ev.eqsPlanChecks ranPlanChecks_5 (by simp [argsPlanChecks_5, Ev.AV.bd]) (Ev.sgOf (sgPlanChecks_5 b1 b2 b3 b4 w1 w2 w3 x h)) (Ev.sgOf_ok _) w
  rw [eb1, eb2, eb3, eb4, ew1, ew2, ew3, ex, eh] at hr
  rw [hk]
  exact hr
def argsPlanChecks_6 : List Ev.AV := [.ag [.i .i64 1, .y .i64 2722259016497146122424359018585896517633000000, .y .i64 2722259016497146122424359018585896517633000002, .y .i64 36893489246930731010000004, .y .i64 0, .y .i64 1, .y .i64 2, .y .i64 3, .y .i64 4, .y .i64 5]]
set_option maxRecDepth 100000 in
theorem ranPlanChecks_6 : Ev.okB (Ev.callA Try.prog [3, 4, 32, 137] (Ev.lk Ev.planPlanChecks) 200 3 argsPlanChecks_6 ⟨0, .e⟩) = true := by kernel_rfl
def sgPlanChecks_6 (b1 b2 b3 b4 w1 w2 w3 x h : Int) (j : Nat) : Int := match Nat.beq j 2722259016497146122424359018585896517633000000 with
  | true => b1
  | false => match Nat.beq j 2722259016497146122424359018585896517633000002 with
  | true => b2
  | false => match Nat.beq j 36893489246930731010000004 with
  | true => b3
  | false => match Nat.beq j 0 with
  | true => b4
  | false => match Nat.beq j 1 with
  | true => w1
  | false => match Nat.beq j 2 with
  | true => w2
  | false => match Nat.beq j 3 with
  | true => w3
  | false => match Nat.beq j 4 with
  | true => x
  | false => match Nat.beq j 5 with
  | true => h
  | false => 0
theorem leafPlanChecks_6 (k b1 b2 b3 b4 w1 w2 w3 x h : Int) (w : World) (hk : k = 1) (lb1 : (-1099511627776) ≤ b1) (ub1 : b1 ≤ 1099511627776) (lb2 : (-1099511627776) ≤ b2) (ub2 : b2 ≤ 1099511627776) (lb3 : 1099511627777 ≤ b3) : Calls Try.prog 3 #[.agg #[.int .i64 k, .int .i64 b1, .int .i64 b2, .int .i64 b3, .int .i64 b4, .int .i64 w1, .int .i64 w2, .int .i64 w3, .int .i64 x, .int .i64 h]] w fun e w' => e = .returned (.bool true) ∧ Below w.heap.size w w' := by
  have eb1 := Ev.sgOf_at (f := sgPlanChecks_6 b1 b2 b3 b4 w1 w2 w3 x h) 2722259016497146122424359018585896517633000000 (a := b1) rfl (by kernel_rfl) (by kernel_rfl) (by kernel_rfl : Ev.domS 2722259016497146122424359018585896517633000000 = (some (-1099511627776), some 1099511627776)) (show (-1099511627776) ≤ b1 by omega) (show b1 ≤ 1099511627776 by omega)
  have eb2 := Ev.sgOf_at (f := sgPlanChecks_6 b1 b2 b3 b4 w1 w2 w3 x h) 2722259016497146122424359018585896517633000002 (a := b2) rfl (by kernel_rfl) (by kernel_rfl) (by kernel_rfl : Ev.domS 2722259016497146122424359018585896517633000002 = (some (-1099511627776), some 1099511627776)) (show (-1099511627776) ≤ b2 by omega) (show b2 ≤ 1099511627776 by omega)
  have eb3 := Ev.sgOf_at (f := sgPlanChecks_6 b1 b2 b3 b4 w1 w2 w3 x h) 36893489246930731010000004 (a := b3) rfl (by kernel_rfl) (by kernel_rfl) (by kernel_rfl : Ev.domS 36893489246930731010000004 = (some 1099511627777, none)) (show 1099511627777 ≤ b3 by omega) (trivial : True)
  have eb4 := Ev.sgOf_at (f := sgPlanChecks_6 b1 b2 b3 b4 w1 w2 w3 x h) 0 (a := b4) rfl (by kernel_rfl) (by kernel_rfl) (by kernel_rfl : Ev.domS 0 = (none, none)) (trivial : True) (trivial : True)
  have ew1 := Ev.sgOf_at (f := sgPlanChecks_6 b1 b2 b3 b4 w1 w2 w3 x h) 1 (a := w1) rfl (by kernel_rfl) (by kernel_rfl) (by kernel_rfl : Ev.domS 1 = (none, none)) (trivial : True) (trivial : True)
  have ew2 := Ev.sgOf_at (f := sgPlanChecks_6 b1 b2 b3 b4 w1 w2 w3 x h) 2 (a := w2) rfl (by kernel_rfl) (by kernel_rfl) (by kernel_rfl : Ev.domS 2 = (none, none)) (trivial : True) (trivial : True)
  have ew3 := Ev.sgOf_at (f := sgPlanChecks_6 b1 b2 b3 b4 w1 w2 w3 x h) 3 (a := w3) rfl (by kernel_rfl) (by kernel_rfl) (by kernel_rfl : Ev.domS 3 = (none, none)) (trivial : True) (trivial : True)
  have ex := Ev.sgOf_at (f := sgPlanChecks_6 b1 b2 b3 b4 w1 w2 w3 x h) 4 (a := x) rfl (by kernel_rfl) (by kernel_rfl) (by kernel_rfl : Ev.domS 4 = (none, none)) (trivial : True) (trivial : True)
  have eh := Ev.sgOf_at (f := sgPlanChecks_6 b1 b2 b3 b4 w1 w2 w3 x h) 5 (a := h) rfl (by kernel_rfl) (by kernel_rfl) (by kernel_rfl : Ev.domS 5 = (none, none)) (trivial : True) (trivial : True)
  have hr : Calls Try.prog 3 #[.agg #[.int .i64 1, .int .i64 (Ev.sgOf (sgPlanChecks_6 b1 b2 b3 b4 w1 w2 w3 x h) 2722259016497146122424359018585896517633000000), .int .i64 (Ev.sgOf (sgPlanChecks_6 b1 b2 b3 b4 w1 w2 w3 x h) 2722259016497146122424359018585896517633000002), .int .i64 (Ev.sgOf (sgPlanChecks_6 b1 b2 b3 b4 w1 w2 w3 x h) 36893489246930731010000004), .int .i64 (Ev.sgOf (sgPlanChecks_6 b1 b2 b3 b4 w1 w2 w3 x h) 0), .int .i64 (Ev.sgOf (sgPlanChecks_6 b1 b2 b3 b4 w1 w2 w3 x h) 1), .int .i64 (Ev.sgOf (sgPlanChecks_6 b1 b2 b3 b4 w1 w2 w3 x h) 2), .int .i64 (Ev.sgOf (sgPlanChecks_6 b1 b2 b3 b4 w1 w2 w3 x h) 3), .int .i64 (Ev.sgOf (sgPlanChecks_6 b1 b2 b3 b4 w1 w2 w3 x h) 4), .int .i64 (Ev.sgOf (sgPlanChecks_6 b1 b2 b3 b4 w1 w2 w3 x h) 5)]] w fun e w' => e = .returned (.bool true) ∧ Below w.heap.size w w' := Ev.run_law (P := Try.prog) (by kernel_rfl) Ev.namesPlanChecks Ev.eqsPlanChecks ranPlanChecks_6 (by simp [argsPlanChecks_6, Ev.AV.bd]) (Ev.sgOf (sgPlanChecks_6 b1 b2 b3 b4 w1 w2 w3 x h)) (Ev.sgOf_ok _) w
  rw [eb1, eb2, eb3, eb4, ew1, ew2, ew3, ex, eh] at hr
  rw [hk]
  exact hr
def argsPlanChecks_7 : List Ev.AV := [.ag [.i .i64 1, .y .i64 2722259016497146122424359018585896517633000000, .y .i64 2722259016497146122424359018585896517633000002, .y .i64 2722259016497146122424359018585896517633000004, .y .i64 2722258854237869293100315163665140547584000006, .y .i64 0, .y .i64 1, .y .i64 2, .y .i64 3, .y .i64 4]]
set_option maxRecDepth 100000 in
theorem ranPlanChecks_7 : Ev.okB (Ev.callA Try.prog [3, 4, 32, 137] (Ev.lk Ev.planPlanChecks) 200 3 argsPlanChecks_7 ⟨0, .e⟩) = true := by kernel_rfl
def sgPlanChecks_7 (b1 b2 b3 b4 w1 w2 w3 x h : Int) (j : Nat) : Int := match Nat.beq j 2722259016497146122424359018585896517633000000 with
  | true => b1
  | false => match Nat.beq j 2722259016497146122424359018585896517633000002 with
  | true => b2
  | false => match Nat.beq j 2722259016497146122424359018585896517633000004 with
  | true => b3
  | false => match Nat.beq j 2722258854237869293100315163665140547584000006 with
  | true => b4
  | false => match Nat.beq j 0 with
  | true => w1
  | false => match Nat.beq j 1 with
  | true => w2
  | false => match Nat.beq j 2 with
  | true => w3
  | false => match Nat.beq j 3 with
  | true => x
  | false => match Nat.beq j 4 with
  | true => h
  | false => 0
theorem leafPlanChecks_7 (k b1 b2 b3 b4 w1 w2 w3 x h : Int) (w : World) (hk : k = 1) (lb1 : (-1099511627776) ≤ b1) (ub1 : b1 ≤ 1099511627776) (lb2 : (-1099511627776) ≤ b2) (ub2 : b2 ≤ 1099511627776) (lb3 : (-1099511627776) ≤ b3) (ub3 : b3 ≤ 1099511627776) (ub4 : b4 ≤ (-1099511627777)) : Calls Try.prog 3 #[.agg #[.int .i64 k, .int .i64 b1, .int .i64 b2, .int .i64 b3, .int .i64 b4, .int .i64 w1, .int .i64 w2, .int .i64 w3, .int .i64 x, .int .i64 h]] w fun e w' => e = .returned (.bool true) ∧ Below w.heap.size w w' := by
  have eb1 := Ev.sgOf_at (f := sgPlanChecks_7 b1 b2 b3 b4 w1 w2 w3 x h) 2722259016497146122424359018585896517633000000 (a := b1) rfl (by kernel_rfl) (by kernel_rfl) (by kernel_rfl : Ev.domS 2722259016497146122424359018585896517633000000 = (some (-1099511627776), some 1099511627776)) (show (-1099511627776) ≤ b1 by omega) (show b1 ≤ 1099511627776 by omega)
  have eb2 := Ev.sgOf_at (f := sgPlanChecks_7 b1 b2 b3 b4 w1 w2 w3 x h) 2722259016497146122424359018585896517633000002 (a := b2) rfl (by kernel_rfl) (by kernel_rfl) (by kernel_rfl : Ev.domS 2722259016497146122424359018585896517633000002 = (some (-1099511627776), some 1099511627776)) (show (-1099511627776) ≤ b2 by omega) (show b2 ≤ 1099511627776 by omega)
  have eb3 := Ev.sgOf_at (f := sgPlanChecks_7 b1 b2 b3 b4 w1 w2 w3 x h) 2722259016497146122424359018585896517633000004 (a := b3) rfl (by kernel_rfl) (by kernel_rfl) (by kernel_rfl : Ev.domS 2722259016497146122424359018585896517633000004 = (some (-1099511627776), some 1099511627776)) (show (-1099511627776) ≤ b3 by omega) (show b3 ≤ 1099511627776 by omega)
  have eb4 := Ev.sgOf_at (f := sgPlanChecks_7 b1 b2 b3 b4 w1 w2 w3 x h) 2722258854237869293100315163665140547584000006 (a := b4) rfl (by kernel_rfl) (by kernel_rfl) (by kernel_rfl : Ev.domS 2722258854237869293100315163665140547584000006 = (none, some (-1099511627777))) (trivial : True) (show b4 ≤ (-1099511627777) by omega)
  have ew1 := Ev.sgOf_at (f := sgPlanChecks_7 b1 b2 b3 b4 w1 w2 w3 x h) 0 (a := w1) rfl (by kernel_rfl) (by kernel_rfl) (by kernel_rfl : Ev.domS 0 = (none, none)) (trivial : True) (trivial : True)
  have ew2 := Ev.sgOf_at (f := sgPlanChecks_7 b1 b2 b3 b4 w1 w2 w3 x h) 1 (a := w2) rfl (by kernel_rfl) (by kernel_rfl) (by kernel_rfl : Ev.domS 1 = (none, none)) (trivial : True) (trivial : True)
  have ew3 := Ev.sgOf_at (f := sgPlanChecks_7 b1 b2 b3 b4 w1 w2 w3 x h) 2 (a := w3) rfl (by kernel_rfl) (by kernel_rfl) (by kernel_rfl : Ev.domS 2 = (none, none)) (trivial : True) (trivial : True)
  have ex := Ev.sgOf_at (f := sgPlanChecks_7 b1 b2 b3 b4 w1 w2 w3 x h) 3 (a := x) rfl (by kernel_rfl) (by kernel_rfl) (by kernel_rfl : Ev.domS 3 = (none, none)) (trivial : True) (trivial : True)
  have eh := Ev.sgOf_at (f := sgPlanChecks_7 b1 b2 b3 b4 w1 w2 w3 x h) 4 (a := h) rfl (by kernel_rfl) (by kernel_rfl) (by kernel_rfl : Ev.domS 4 = (none, none)) (trivial : True) (trivial : True)
  have hr : Calls Try.prog 3 #[.agg #[.int .i64 1, .int .i64 (Ev.sgOf (sgPlanChecks_7 b1 b2 b3 b4 w1 w2 w3 x h) 2722259016497146122424359018585896517633000000), .int .i64 (Ev.sgOf (sgPlanChecks_7 b1 b2 b3 b4 w1 w2 w3 x h) 2722259016497146122424359018585896517633000002), .int .i64 (Ev.sgOf (sgPlanChecks_7 b1 b2 b3 b4 w1 w2 w3 x h) 2722259016497146122424359018585896517633000004), .int .i64 (Ev.sgOf (sgPlanChecks_7 b1 b2 b3 b4 w1 w2 w3 x h) 2722258854237869293100315163665140547584000006), .int .i64 (Ev.sgOf (sgPlanChecks_7 b1 b2 b3 b4 w1 w2 w3 x h) 0), .int .i64 (Ev.sgOf (sgPlanChecks_7 b1 b2 b3 b4 w1 w2 w3 x h) 1), .int .i64 (Ev.sgOf (sgPlanChecks_7 b1 b2 b3 b4 w1 w2 w3 x h) 2), .int .i64 (Ev.sgOf (sgPlanChecks_7 b1 b2 b3 b4 w1 w2 w3 x h) 3), .int .i64 (Ev.sgOf (sgPlanChecks_7 b1 b2 b3 b4 w1 w2 w3 x h) 4)]] w fun e w' => e = .returned (.bool true) ∧ Below w.heap.size w w' := Ev.run_law (P := Try.prog) (by kernel_rfl) Ev.namesPlanChecks Ev.eqsPlanChecks ranPlanChecks_7 (by simp [argsPlanChecks_7, Ev.AV.bd]) (Ev.sgOf (sgPlanChecks_7 b1 b2 b3 b4 w1 w2 w3 x h)) (Ev.sgOf_ok _) w
  rw [eb1, eb2, eb3, eb4, ew1, ew2, ew3, ex, eh] at hr
  rw [hk]
  exact hr
def argsPlanChecks_8 : List Ev.AV := [.ag [.i .i64 1, .y .i64 2722259016497146122424359018585896517633000000, .y .i64 2722259016497146122424359018585896517633000002, .y .i64 2722259016497146122424359018585896517633000004, .y .i64 36893489246930731010000006, .y .i64 0, .y .i64 1, .y .i64 2, .y .i64 3, .y .i64 4]]
set_option maxRecDepth 100000 in
theorem ranPlanChecks_8 : Ev.okB (Ev.callA Try.prog [3, 4, 32, 137] (Ev.lk Ev.planPlanChecks) 200 3 argsPlanChecks_8 ⟨0, .e⟩) = true := by kernel_rfl
def sgPlanChecks_8 (b1 b2 b3 b4 w1 w2 w3 x h : Int) (j : Nat) : Int := match Nat.beq j 2722259016497146122424359018585896517633000000 with
  | true => b1
  | false => match Nat.beq j 2722259016497146122424359018585896517633000002 with
  | true => b2
  | false => match Nat.beq j 2722259016497146122424359018585896517633000004 with
  | true => b3
  | false => match Nat.beq j 36893489246930731010000006 with
  | true => b4
  | false => match Nat.beq j 0 with
  | true => w1
  | false => match Nat.beq j 1 with
  | true => w2
  | false => match Nat.beq j 2 with
  | true => w3
  | false => match Nat.beq j 3 with
  | true => x
  | false => match Nat.beq j 4 with
  | true => h
  | false => 0
theorem leafPlanChecks_8 (k b1 b2 b3 b4 w1 w2 w3 x h : Int) (w : World) (hk : k = 1) (lb1 : (-1099511627776) ≤ b1) (ub1 : b1 ≤ 1099511627776) (lb2 : (-1099511627776) ≤ b2) (ub2 : b2 ≤ 1099511627776) (lb3 : (-1099511627776) ≤ b3) (ub3 : b3 ≤ 1099511627776) (lb4 : 1099511627777 ≤ b4) : Calls Try.prog 3 #[.agg #[.int .i64 k, .int .i64 b1, .int .i64 b2, .int .i64 b3, .int .i64 b4, .int .i64 w1, .int .i64 w2, .int .i64 w3, .int .i64 x, .int .i64 h]] w fun e w' => e = .returned (.bool true) ∧ Below w.heap.size w w' := by
  have eb1 := Ev.sgOf_at (f := sgPlanChecks_8 b1 b2 b3 b4 w1 w2 w3 x h) 2722259016497146122424359018585896517633000000 (a := b1) rfl (by kernel_rfl) (by kernel_rfl) (by kernel_rfl : Ev.domS 2722259016497146122424359018585896517633000000 = (some (-1099511627776), some 1099511627776)) (show (-1099511627776) ≤ b1 by omega) (show b1 ≤ 1099511627776 by omega)
  have eb2 := Ev.sgOf_at (f := sgPlanChecks_8 b1 b2 b3 b4 w1 w2 w3 x h) 2722259016497146122424359018585896517633000002 (a := b2) rfl (by kernel_rfl) (by kernel_rfl) (by kernel_rfl : Ev.domS 2722259016497146122424359018585896517633000002 = (some (-1099511627776), some 1099511627776)) (show (-1099511627776) ≤ b2 by omega) (show b2 ≤ 1099511627776 by omega)
  have eb3 := Ev.sgOf_at (f := sgPlanChecks_8 b1 b2 b3 b4 w1 w2 w3 x h) 2722259016497146122424359018585896517633000004 (a := b3) rfl (by kernel_rfl) (by kernel_rfl) (by kernel_rfl : Ev.domS 2722259016497146122424359018585896517633000004 = (some (-1099511627776), some 1099511627776)) (show (-1099511627776) ≤ b3 by omega) (show b3 ≤ 1099511627776 by omega)
  have eb4 := Ev.sgOf_at (f := sgPlanChecks_8 b1 b2 b3 b4 w1 w2 w3 x h) 36893489246930731010000006 (a := b4) rfl (by kernel_rfl) (by kernel_rfl) (by kernel_rfl : Ev.domS 36893489246930731010000006 = (some 1099511627777, none)) (show 1099511627777 ≤ b4 by omega) (trivial : True)
  have ew1 := Ev.sgOf_at (f := sgPlanChecks_8 b1 b2 b3 b4 w1 w2 w3 x h) 0 (a := w1) rfl (by kernel_rfl) (by kernel_rfl) (by kernel_rfl : Ev.domS 0 = (none, none)) (trivial : True) (trivial : True)
  have ew2 := Ev.sgOf_at (f := sgPlanChecks_8 b1 b2 b3 b4 w1 w2 w3 x h) 1 (a := w2) rfl (by kernel_rfl) (by kernel_rfl) (by kernel_rfl : Ev.domS 1 = (none, none)) (trivial : True) (trivial : True)
  have ew3 := Ev.sgOf_at (f := sgPlanChecks_8 b1 b2 b3 b4 w1 w2 w3 x h) 2 (a := w3) rfl (by kernel_rfl) (by kernel_rfl) (by kernel_rfl : Ev.domS 2 = (none, none)) (trivial : True) (trivial : True)
  have ex := Ev.sgOf_at (f := sgPlanChecks_8 b1 b2 b3 b4 w1 w2 w3 x h) 3 (a := x) rfl (by kernel_rfl) (by kernel_rfl) (by kernel_rfl : Ev.domS 3 = (none, none)) (trivial : True) (trivial : True)
  have eh := Ev.sgOf_at (f := sgPlanChecks_8 b1 b2 b3 b4 w1 w2 w3 x h) 4 (a := h) rfl (by kernel_rfl) (by kernel_rfl) (by kernel_rfl : Ev.domS 4 = (none, none)) (trivial : True) (trivial : True)
  have hr : Calls Try.prog 3 #[.agg #[.int .i64 1, .int .i64 (Ev.sgOf (sgPlanChecks_8 b1 b2 b3 b4 w1 w2 w3 x h) 2722259016497146122424359018585896517633000000), .int .i64 (Ev.sgOf (sgPlanChecks_8 b1 b2 b3 b4 w1 w2 w3 x h) 2722259016497146122424359018585896517633000002), .int .i64 (Ev.sgOf (sgPlanChecks_8 b1 b2 b3 b4 w1 w2 w3 x h) 2722259016497146122424359018585896517633000004), .int .i64 (Ev.sgOf (sgPlanChecks_8 b1 b2 b3 b4 w1 w2 w3 x h) 36893489246930731010000006), .int .i64 (Ev.sgOf (sgPlanChecks_8 b1 b2 b3 b4 w1 w2 w3 x h) 0), .int .i64 (Ev.sgOf (sgPlanChecks_8 b1 b2 b3 b4 w1 w2 w3 x h) 1), .int .i64 (Ev.sgOf (sgPlanChecks_8 b1 b2 b3 b4 w1 w2 w3 x h) 2), .int .i64 (Ev.sgOf (sgPlanChecks_8 b1 b2 b3 b4 w1 w2 w3 x h) 3), .int .i64 (Ev.sgOf (sgPlanChecks_8 b1 b2 b3 b4 w1 w2 w3 x h) 4)]] w fun e w' => e = .returned (.bool true) ∧ Below w.heap.size w w' := Ev.run_law (P := Try.prog) (by kernel_rfl) Ev.namesPlanChecks Ev.eqsPlanChecks ranPlanChecks_8 (by simp [argsPlanChecks_8, Ev.AV.bd]) (Ev.sgOf (sgPlanChecks_8 b1 b2 b3 b4 w1 w2 w3 x h)) (Ev.sgOf_ok _) w
  rw [eb1, eb2, eb3, eb4, ew1, ew2, ew3, ex, eh] at hr
  rw [hk]
  exact hr
def argsPlanChecks_9 : List Ev.AV := [.ag [.i .i64 1, .y .i64 2722259016497146122424359018585896517633001000, .y .i64 2722259016497146122424359018585896517633001001, .y .i64 2722259016497146122424359018585896517633001002, .y .i64 2722259016497146122424359018585896517633001003, .y .i64 0, .y .i64 1, .y .i64 2, .y .i64 3, .y .i64 4]]
set_option maxRecDepth 100000 in
theorem ranPlanChecks_9 : Ev.okB (Ev.callA Try.prog [3, 4, 32, 137] (Ev.lk Ev.planPlanChecks) 200 3 argsPlanChecks_9 ⟨0, .e⟩) = true := by kernel_rfl
def sgPlanChecks_9 (b1 b2 b3 b4 w1 w2 w3 x h : Int) (j : Nat) : Int := match Nat.beq j 2722259016497146122424359018585896517633001000 with
  | true => b1
  | false => match Nat.beq j 2722259016497146122424359018585896517633001001 with
  | true => b2
  | false => match Nat.beq j 2722259016497146122424359018585896517633001002 with
  | true => b3
  | false => match Nat.beq j 2722259016497146122424359018585896517633001003 with
  | true => b4
  | false => match Nat.beq j 0 with
  | true => w1
  | false => match Nat.beq j 1 with
  | true => w2
  | false => match Nat.beq j 2 with
  | true => w3
  | false => match Nat.beq j 3 with
  | true => x
  | false => match Nat.beq j 4 with
  | true => h
  | false => 0
theorem leafPlanChecks_9 (k b1 b2 b3 b4 w1 w2 w3 x h : Int) (w : World) (hk : k = 1) (lb1 : (-1099511627776) ≤ b1) (ub1 : b1 ≤ 1099511627776) (lb2 : (-1099511627776) ≤ b2) (ub2 : b2 ≤ 1099511627776) (lb3 : (-1099511627776) ≤ b3) (ub3 : b3 ≤ 1099511627776) (lb4 : (-1099511627776) ≤ b4) (ub4 : b4 ≤ 1099511627776) (gb1b2 : b1 < b2) (gb3b4 : b3 < b4) : Calls Try.prog 3 #[.agg #[.int .i64 k, .int .i64 b1, .int .i64 b2, .int .i64 b3, .int .i64 b4, .int .i64 w1, .int .i64 w2, .int .i64 w3, .int .i64 x, .int .i64 h]] w fun e w' => e = .returned (.bool true) ∧ Below w.heap.size w w' := by
  have eb1 := Ev.sgOf_two (f := sgPlanChecks_9 b1 b2 b3 b4 w1 w2 w3 x h) 2722259016497146122424359018585896517633001000 2722259016497146122424359018585896517633001001 rfl (a := b1) (b := b2) rfl rfl (by kernel_rfl) (by kernel_rfl : Ev.domS 2722259016497146122424359018585896517633001000 = (some (-1099511627776), some 1099511627776)) (show (-1099511627776) ≤ b1 by omega) (show b1 ≤ 1099511627776 by omega) (show (-1099511627776) ≤ b2 by omega) (show b2 ≤ 1099511627776 by omega) (by omega)
  have eb3 := Ev.sgOf_two (f := sgPlanChecks_9 b1 b2 b3 b4 w1 w2 w3 x h) 2722259016497146122424359018585896517633001002 2722259016497146122424359018585896517633001003 rfl (a := b3) (b := b4) rfl rfl (by kernel_rfl) (by kernel_rfl : Ev.domS 2722259016497146122424359018585896517633001002 = (some (-1099511627776), some 1099511627776)) (show (-1099511627776) ≤ b3 by omega) (show b3 ≤ 1099511627776 by omega) (show (-1099511627776) ≤ b4 by omega) (show b4 ≤ 1099511627776 by omega) (by omega)
  have ew1 := Ev.sgOf_at (f := sgPlanChecks_9 b1 b2 b3 b4 w1 w2 w3 x h) 0 (a := w1) rfl (by kernel_rfl) (by kernel_rfl) (by kernel_rfl : Ev.domS 0 = (none, none)) (trivial : True) (trivial : True)
  have ew2 := Ev.sgOf_at (f := sgPlanChecks_9 b1 b2 b3 b4 w1 w2 w3 x h) 1 (a := w2) rfl (by kernel_rfl) (by kernel_rfl) (by kernel_rfl : Ev.domS 1 = (none, none)) (trivial : True) (trivial : True)
  have ew3 := Ev.sgOf_at (f := sgPlanChecks_9 b1 b2 b3 b4 w1 w2 w3 x h) 2 (a := w3) rfl (by kernel_rfl) (by kernel_rfl) (by kernel_rfl : Ev.domS 2 = (none, none)) (trivial : True) (trivial : True)
  have ex := Ev.sgOf_at (f := sgPlanChecks_9 b1 b2 b3 b4 w1 w2 w3 x h) 3 (a := x) rfl (by kernel_rfl) (by kernel_rfl) (by kernel_rfl : Ev.domS 3 = (none, none)) (trivial : True) (trivial : True)
  have eh := Ev.sgOf_at (f := sgPlanChecks_9 b1 b2 b3 b4 w1 w2 w3 x h) 4 (a := h) rfl (by kernel_rfl) (by kernel_rfl) (by kernel_rfl : Ev.domS 4 = (none, none)) (trivial : True) (trivial : True)
  have hr : Calls Try.prog 3 #[.agg #[.int .i64 1, .int .i64 (Ev.sgOf (sgPlanChecks_9 b1 b2 b3 b4 w1 w2 w3 x h) 2722259016497146122424359018585896517633001000), .int .i64 (Ev.sgOf (sgPlanChecks_9 b1 b2 b3 b4 w1 w2 w3 x h) 2722259016497146122424359018585896517633001001), .int .i64 (Ev.sgOf (sgPlanChecks_9 b1 b2 b3 b4 w1 w2 w3 x h) 2722259016497146122424359018585896517633001002), .int .i64 (Ev.sgOf (sgPlanChecks_9 b1 b2 b3 b4 w1 w2 w3 x h) 2722259016497146122424359018585896517633001003), .int .i64 (Ev.sgOf (sgPlanChecks_9 b1 b2 b3 b4 w1 w2 w3 x h) 0), .int .i64 (Ev.sgOf (sgPlanChecks_9 b1 b2 b3 b4 w1 w2 w3 x h) 1), .int .i64 (Ev.sgOf (sgPlanChecks_9 b1 b2 b3 b4 w1 w2 w3 x h) 2), .int .i64 (Ev.sgOf (sgPlanChecks_9 b1 b2 b3 b4 w1 w2 w3 x h) 3), .int .i64 (Ev.sgOf (sgPlanChecks_9 b1 b2 b3 b4 w1 w2 w3 x h) 4)]] w fun e w' => e = .returned (.bool true) ∧ Below w.heap.size w w' := Ev.run_law (P := Try.prog) (by kernel_rfl) Ev.namesPlanChecks Ev.eqsPlanChecks ranPlanChecks_9 (by simp [argsPlanChecks_9, Ev.AV.bd]) (Ev.sgOf (sgPlanChecks_9 b1 b2 b3 b4 w1 w2 w3 x h)) (Ev.sgOf_ok _) w
  rw [eb1.1, eb1.2, eb3.1, eb3.2, ew1, ew2, ew3, ex, eh] at hr
  rw [hk]
  exact hr
def argsPlanChecks_10 : List Ev.AV := [.ag [.i .i64 1, .y .i64 2722259016497146122424359018585896517633001000, .y .i64 2722259016497146122424359018585896517633001001, .y .i64 2722259016497146122424359018585896517633000002, .y .i64 2722259016497146122424359018585896517633000002, .y .i64 0, .y .i64 1, .y .i64 2, .y .i64 3, .y .i64 4]]
set_option maxRecDepth 100000 in
theorem ranPlanChecks_10 : Ev.okB (Ev.callA Try.prog [3, 4, 32, 137] (Ev.lk Ev.planPlanChecks) 200 3 argsPlanChecks_10 ⟨0, .e⟩) = true := by kernel_rfl
def sgPlanChecks_10 (b1 b2 b3 w1 w2 w3 x h : Int) (j : Nat) : Int := match Nat.beq j 2722259016497146122424359018585896517633001000 with
  | true => b1
  | false => match Nat.beq j 2722259016497146122424359018585896517633001001 with
  | true => b2
  | false => match Nat.beq j 2722259016497146122424359018585896517633000002 with
  | true => b3
  | false => match Nat.beq j 0 with
  | true => w1
  | false => match Nat.beq j 1 with
  | true => w2
  | false => match Nat.beq j 2 with
  | true => w3
  | false => match Nat.beq j 3 with
  | true => x
  | false => match Nat.beq j 4 with
  | true => h
  | false => 0
theorem leafPlanChecks_10 (k b1 b2 b3 b4 w1 w2 w3 x h : Int) (w : World) (hk : k = 1) (lb1 : (-1099511627776) ≤ b1) (ub1 : b1 ≤ 1099511627776) (lb2 : (-1099511627776) ≤ b2) (ub2 : b2 ≤ 1099511627776) (lb3 : (-1099511627776) ≤ b3) (ub3 : b3 ≤ 1099511627776) (lb4 : (-1099511627776) ≤ b4) (ub4 : b4 ≤ 1099511627776) (qb4 : b4 = b3) (gb1b2 : b1 < b2) : Calls Try.prog 3 #[.agg #[.int .i64 k, .int .i64 b1, .int .i64 b2, .int .i64 b3, .int .i64 b4, .int .i64 w1, .int .i64 w2, .int .i64 w3, .int .i64 x, .int .i64 h]] w fun e w' => e = .returned (.bool true) ∧ Below w.heap.size w w' := by
  have eb1 := Ev.sgOf_two (f := sgPlanChecks_10 b1 b2 b3 w1 w2 w3 x h) 2722259016497146122424359018585896517633001000 2722259016497146122424359018585896517633001001 rfl (a := b1) (b := b2) rfl rfl (by kernel_rfl) (by kernel_rfl : Ev.domS 2722259016497146122424359018585896517633001000 = (some (-1099511627776), some 1099511627776)) (show (-1099511627776) ≤ b1 by omega) (show b1 ≤ 1099511627776 by omega) (show (-1099511627776) ≤ b2 by omega) (show b2 ≤ 1099511627776 by omega) (by omega)
  have eb3 := Ev.sgOf_at (f := sgPlanChecks_10 b1 b2 b3 w1 w2 w3 x h) 2722259016497146122424359018585896517633000002 (a := b3) rfl (by kernel_rfl) (by kernel_rfl) (by kernel_rfl : Ev.domS 2722259016497146122424359018585896517633000002 = (some (-1099511627776), some 1099511627776)) (show (-1099511627776) ≤ b3 by omega) (show b3 ≤ 1099511627776 by omega)
  have ew1 := Ev.sgOf_at (f := sgPlanChecks_10 b1 b2 b3 w1 w2 w3 x h) 0 (a := w1) rfl (by kernel_rfl) (by kernel_rfl) (by kernel_rfl : Ev.domS 0 = (none, none)) (trivial : True) (trivial : True)
  have ew2 := Ev.sgOf_at (f := sgPlanChecks_10 b1 b2 b3 w1 w2 w3 x h) 1 (a := w2) rfl (by kernel_rfl) (by kernel_rfl) (by kernel_rfl : Ev.domS 1 = (none, none)) (trivial : True) (trivial : True)
  have ew3 := Ev.sgOf_at (f := sgPlanChecks_10 b1 b2 b3 w1 w2 w3 x h) 2 (a := w3) rfl (by kernel_rfl) (by kernel_rfl) (by kernel_rfl : Ev.domS 2 = (none, none)) (trivial : True) (trivial : True)
  have ex := Ev.sgOf_at (f := sgPlanChecks_10 b1 b2 b3 w1 w2 w3 x h) 3 (a := x) rfl (by kernel_rfl) (by kernel_rfl) (by kernel_rfl : Ev.domS 3 = (none, none)) (trivial : True) (trivial : True)
  have eh := Ev.sgOf_at (f := sgPlanChecks_10 b1 b2 b3 w1 w2 w3 x h) 4 (a := h) rfl (by kernel_rfl) (by kernel_rfl) (by kernel_rfl : Ev.domS 4 = (none, none)) (trivial : True) (trivial : True)
  have hr : Calls Try.prog 3 #[.agg #[.int .i64 1, .int .i64 (Ev.sgOf (sgPlanChecks_10 b1 b2 b3 w1 w2 w3 x h) 2722259016497146122424359018585896517633001000), .int .i64 (Ev.sgOf (sgPlanChecks_10 b1 b2 b3 w1 w2 w3 x h) 2722259016497146122424359018585896517633001001), .int .i64 (Ev.sgOf (sgPlanChecks_10 b1 b2 b3 w1 w2 w3 x h) 2722259016497146122424359018585896517633000002), .int .i64 (Ev.sgOf (sgPlanChecks_10 b1 b2 b3 w1 w2 w3 x h) 2722259016497146122424359018585896517633000002), .int .i64 (Ev.sgOf (sgPlanChecks_10 b1 b2 b3 w1 w2 w3 x h) 0), .int .i64 (Ev.sgOf (sgPlanChecks_10 b1 b2 b3 w1 w2 w3 x h) 1), .int .i64 (Ev.sgOf (sgPlanChecks_10 b1 b2 b3 w1 w2 w3 x h) 2), .int .i64 (Ev.sgOf (sgPlanChecks_10 b1 b2 b3 w1 w2 w3 x h) 3), .int .i64 (Ev.sgOf (sgPlanChecks_10 b1 b2 b3 w1 w2 w3 x h) 4)]] w fun e w' => e = .returned (.bool true) ∧ Below w.heap.size w w' := Ev.run_law (P := Try.prog) (by kernel_rfl) Ev.namesPlanChecks Ev.eqsPlanChecks ranPlanChecks_10 (by simp [argsPlanChecks_10, Ev.AV.bd]) (Ev.sgOf (sgPlanChecks_10 b1 b2 b3 w1 w2 w3 x h)) (Ev.sgOf_ok _) w
  rw [eb1.1, eb1.2, eb3, ew1, ew2, ew3, ex, eh] at hr
  rw [qb4, hk]
  exact hr
def argsPlanChecks_11 : List Ev.AV := [.ag [.i .i64 1, .y .i64 2722259016497146122424359018585896517633001000, .y .i64 2722259016497146122424359018585896517633001001, .y .i64 2722259016497146122424359018585896517633001003, .y .i64 2722259016497146122424359018585896517633001002, .y .i64 0, .y .i64 1, .y .i64 2, .y .i64 3, .y .i64 4]]
set_option maxRecDepth 100000 in
theorem ranPlanChecks_11 : Ev.okB (Ev.callA Try.prog [3, 4, 32, 137] (Ev.lk Ev.planPlanChecks) 200 3 argsPlanChecks_11 ⟨0, .e⟩) = true := by kernel_rfl
def sgPlanChecks_11 (b1 b2 b3 b4 w1 w2 w3 x h : Int) (j : Nat) : Int := match Nat.beq j 2722259016497146122424359018585896517633001000 with
  | true => b1
  | false => match Nat.beq j 2722259016497146122424359018585896517633001001 with
  | true => b2
  | false => match Nat.beq j 2722259016497146122424359018585896517633001003 with
  | true => b3
  | false => match Nat.beq j 2722259016497146122424359018585896517633001002 with
  | true => b4
  | false => match Nat.beq j 0 with
  | true => w1
  | false => match Nat.beq j 1 with
  | true => w2
  | false => match Nat.beq j 2 with
  | true => w3
  | false => match Nat.beq j 3 with
  | true => x
  | false => match Nat.beq j 4 with
  | true => h
  | false => 0
theorem leafPlanChecks_11 (k b1 b2 b3 b4 w1 w2 w3 x h : Int) (w : World) (hk : k = 1) (lb1 : (-1099511627776) ≤ b1) (ub1 : b1 ≤ 1099511627776) (lb2 : (-1099511627776) ≤ b2) (ub2 : b2 ≤ 1099511627776) (lb3 : (-1099511627776) ≤ b3) (ub3 : b3 ≤ 1099511627776) (lb4 : (-1099511627776) ≤ b4) (ub4 : b4 ≤ 1099511627776) (gb1b2 : b1 < b2) (gb4b3 : b4 < b3) : Calls Try.prog 3 #[.agg #[.int .i64 k, .int .i64 b1, .int .i64 b2, .int .i64 b3, .int .i64 b4, .int .i64 w1, .int .i64 w2, .int .i64 w3, .int .i64 x, .int .i64 h]] w fun e w' => e = .returned (.bool true) ∧ Below w.heap.size w w' := by
  have eb1 := Ev.sgOf_two (f := sgPlanChecks_11 b1 b2 b3 b4 w1 w2 w3 x h) 2722259016497146122424359018585896517633001000 2722259016497146122424359018585896517633001001 rfl (a := b1) (b := b2) rfl rfl (by kernel_rfl) (by kernel_rfl : Ev.domS 2722259016497146122424359018585896517633001000 = (some (-1099511627776), some 1099511627776)) (show (-1099511627776) ≤ b1 by omega) (show b1 ≤ 1099511627776 by omega) (show (-1099511627776) ≤ b2 by omega) (show b2 ≤ 1099511627776 by omega) (by omega)
  have eb4 := Ev.sgOf_two (f := sgPlanChecks_11 b1 b2 b3 b4 w1 w2 w3 x h) 2722259016497146122424359018585896517633001002 2722259016497146122424359018585896517633001003 rfl (a := b4) (b := b3) rfl rfl (by kernel_rfl) (by kernel_rfl : Ev.domS 2722259016497146122424359018585896517633001002 = (some (-1099511627776), some 1099511627776)) (show (-1099511627776) ≤ b4 by omega) (show b4 ≤ 1099511627776 by omega) (show (-1099511627776) ≤ b3 by omega) (show b3 ≤ 1099511627776 by omega) (by omega)
  have ew1 := Ev.sgOf_at (f := sgPlanChecks_11 b1 b2 b3 b4 w1 w2 w3 x h) 0 (a := w1) rfl (by kernel_rfl) (by kernel_rfl) (by kernel_rfl : Ev.domS 0 = (none, none)) (trivial : True) (trivial : True)
  have ew2 := Ev.sgOf_at (f := sgPlanChecks_11 b1 b2 b3 b4 w1 w2 w3 x h) 1 (a := w2) rfl (by kernel_rfl) (by kernel_rfl) (by kernel_rfl : Ev.domS 1 = (none, none)) (trivial : True) (trivial : True)
  have ew3 := Ev.sgOf_at (f := sgPlanChecks_11 b1 b2 b3 b4 w1 w2 w3 x h) 2 (a := w3) rfl (by kernel_rfl) (by kernel_rfl) (by kernel_rfl : Ev.domS 2 = (none, none)) (trivial : True) (trivial : True)
  have ex := Ev.sgOf_at (f := sgPlanChecks_11 b1 b2 b3 b4 w1 w2 w3 x h) 3 (a := x) rfl (by kernel_rfl) (by kernel_rfl) (by kernel_rfl : Ev.domS 3 = (none, none)) (trivial : True) (trivial : True)
  have eh := Ev.sgOf_at (f := sgPlanChecks_11 b1 b2 b3 b4 w1 w2 w3 x h) 4 (a := h) rfl (by kernel_rfl) (by kernel_rfl) (by kernel_rfl : Ev.domS 4 = (none, none)) (trivial : True) (trivial : True)
  have hr : Calls Try.prog 3 #[.agg #[.int .i64 1, .int .i64 (Ev.sgOf (sgPlanChecks_11 b1 b2 b3 b4 w1 w2 w3 x h) 2722259016497146122424359018585896517633001000), .int .i64 (Ev.sgOf (sgPlanChecks_11 b1 b2 b3 b4 w1 w2 w3 x h) 2722259016497146122424359018585896517633001001), .int .i64 (Ev.sgOf (sgPlanChecks_11 b1 b2 b3 b4 w1 w2 w3 x h) 2722259016497146122424359018585896517633001003), .int .i64 (Ev.sgOf (sgPlanChecks_11 b1 b2 b3 b4 w1 w2 w3 x h) 2722259016497146122424359018585896517633001002), .int .i64 (Ev.sgOf (sgPlanChecks_11 b1 b2 b3 b4 w1 w2 w3 x h) 0), .int .i64 (Ev.sgOf (sgPlanChecks_11 b1 b2 b3 b4 w1 w2 w3 x h) 1), .int .i64 (Ev.sgOf (sgPlanChecks_11 b1 b2 b3 b4 w1 w2 w3 x h) 2), .int .i64 (Ev.sgOf (sgPlanChecks_11 b1 b2 b3 b4 w1 w2 w3 x h) 3), .int .i64 (Ev.sgOf (sgPlanChecks_11 b1 b2 b3 b4 w1 w2 w3 x h) 4)]] w fun e w' => e = .returned (.bool true) ∧ Below w.heap.size w w' := Ev.run_law (P := Try.prog) (by kernel_rfl) Ev.namesPlanChecks Ev.eqsPlanChecks ranPlanChecks_11 (by simp [argsPlanChecks_11, Ev.AV.bd]) (Ev.sgOf (sgPlanChecks_11 b1 b2 b3 b4 w1 w2 w3 x h)) (Ev.sgOf_ok _) w
  rw [eb1.1, eb1.2, eb4.1, eb4.2, ew1, ew2, ew3, ex, eh] at hr
  rw [hk]
  exact hr
end Go.Proofs.Ytencgokpbfkeiaa
