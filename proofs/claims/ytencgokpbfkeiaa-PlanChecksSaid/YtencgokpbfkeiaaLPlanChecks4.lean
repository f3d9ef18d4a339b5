/- 'alidadelaw25.PlanChecks' comes out true: cases 48 to 59. -/
import Derived.Test.YtencgokpbfkeiaaPPlanChecks
import Derived.WalkKit
set_option linter.unusedVariables false
namespace Go.Proofs.Ytencgokpbfkeiaa
open Go Go.RowKit
def argsPlanChecks_48 : List Ev.AV := [.ag [.i .i64 4, .y .i64 0, .y .i64 1, .y .i64 2, .y .i64 3, .y .i64 2722259016497146122424359018585896517633001001, .y .i64 2722259016497146122424359018585896517633001000, .y .i64 2722259016497146122424359018585896517633000002, .y .i64 4, .y .i64 5]]
set_option maxRecDepth 100000 in
theorem ranPlanChecks_48 : Ev.okB (Ev.callA Try.prog [3, 4, 32, 137] (Ev.lk Ev.planPlanChecks) 200 3 argsPlanChecks_48 ⟨0, .e⟩) = true := by kernel_rfl
def sgPlanChecks_48 (b1 b2 b3 b4 w1 w2 w3 x h : Int) (j : Nat) : Int := match Nat.beq j 0 with
  | true => b1
  | false => match Nat.beq j 1 with
  | true => b2
  | false => match Nat.beq j 2 with
  | true => b3
  | false => match Nat.beq j 3 with
  | true => b4
  | false => match Nat.beq j 2722259016497146122424359018585896517633001001 with
  | true => w1
  | false => match Nat.beq j 2722259016497146122424359018585896517633001000 with
  | true => w2
  | false => match Nat.beq j 2722259016497146122424359018585896517633000002 with
  | true => w3
  | false => match Nat.beq j 4 with
  | true => x
  | false => match Nat.beq j 5 with
  | true => h
  | false => 0
theorem leafPlanChecks_48 (k b1 b2 b3 b4 w1 w2 w3 x h : Int) (w : World) (hk : k = 4) (lw1 : (-1099511627776) ≤ w1) (uw1 : w1 ≤ 1099511627776) (lw2 : (-1099511627776) ≤ w2) (uw2 : w2 ≤ 1099511627776) (lw3 : (-1099511627776) ≤ w3) (uw3 : w3 ≤ 1099511627776) (gw2w1 : w2 < w1) : Calls Try.prog 3 #[.agg #[.int .i64 k, .int .i64 b1, .int .i64 b2, .int .i64 b3, .int .i64 b4, .int .i64 w1, .int .i64 w2, .int .i64 w3, .int .i64 x, .int .i64 h]] w fun e w' => e = .returned (.bool true) ∧ Below w.heap.size w w' := by
  have ew2 := Ev.sgOf_two (f := sgPlanChecks_48 b1 b2 b3 b4 w1 w2 w3 x h) 2722259016497146122424359018585896517633001000 2722259016497146122424359018585896517633001001 rfl (a := w2) (b := w1) rfl rfl (by kernel_rfl) (by kernel_rfl : Ev.domS 2722259016497146122424359018585896517633001000 = (some (-1099511627776), some 1099511627776)) (show (-1099511627776) ≤ w2 by omega) (show w2 ≤ 1099511627776 by omega) (show (-1099511627776) ≤ w1 by omega) (show w1 ≤ 1099511627776 by omega) (by omega)
  have eb1 := Ev.sgOf_at (f := sgPlanChecks_48 b1 b2 b3 b4 w1 w2 w3 x h) 0 (a := b1) rfl (by kernel_rfl) (by kernel_rfl) (by kernel_rfl : Ev.domS 0 = (none, none)) (trivial : True) (trivial : True)
  have eb2 := Ev.sgOf_at (f := sgPlanChecks_48 b1 b2 b3 b4 w1 w2 w3 x h) 1 (a := b2) rfl (by kernel_rfl) (by kernel_rfl) (by kernel_rfl : Ev.domS 1 = (none, none)) (trivial : True) (trivial : True)
  have eb3 := Ev.sgOf_at (f := sgPlanChecks_48 b1 b2 b3 b4 w1 w2 w3 x h) 2 (a := b3) rfl (by kernel_rfl) (by kernel_rfl) (by kernel_rfl : Ev.domS 2 = (none, none)) (trivial : True) (trivial : True)
  have eb4 := Ev.sgOf_at (f := sgPlanChecks_48 b1 b2 b3 b4 w1 w2 w3 x h) 3 (a := b4) rfl (by kernel_rfl) (by kernel_rfl) (by kernel_rfl : Ev.domS 3 = (none, none)) (trivial : True) (trivial : True)
  have ew3 := Ev.sgOf_at (f := sgPlanChecks_48 b1 b2 b3 b4 w1 w2 w3 x h) 2722259016497146122424359018585896517633000002 (a := w3) rfl (by kernel_rfl) (by kernel_rfl) (by kernel_rfl : Ev.domS 2722259016497146122424359018585896517633000002 = (some (-1099511627776), some 1099511627776)) (show (-1099511627776) ≤ w3 by omega) (show w3 ≤ 1099511627776 by omega)
  have ex := Ev.sgOf_at (f := sgPlanChecks_48 b1 b2 b3 b4 w1 w2 w3 x h) 4 (a := x) rfl (by kernel_rfl) (by kernel_rfl) (by kernel_rfl : Ev.domS 4 = (none, none)) (trivial : True) (trivial : True)
  have eh := Ev.sgOf_at (f := sgPlanChecks_48 b1 b2 b3 b4 w1 w2 w3 x h) 5 (a := h) rfl (by kernel_rfl) (by kernel_rfl) (by kernel_rfl : Ev.domS 5 = (none, none)) (trivial : True) (trivial : True)
  have hr : Calls Try.prog 3 #[.agg #[.int .i64 4, .int .i64 (Ev.sgOf (sgPlanChecks_48 b1 b2 b3 b4 w1 w2 w3 x h) 0), .int .i64 (Ev.sgOf (sgPlanChecks_48 b1 b2 b3 b4 w1 w2 w3 x h) 1), .int .i64 (Ev.sgOf (sgPlanChecks_48 b1 b2 b3 b4 w1 w2 w3 x h) 2), .int .i64 (Ev.sgOf (sgPlanChecks_48 b1 b2 b3 b4 w1 w2 w3 x h) 3), .int .i64 (Ev.sgOf (sgPlanChecks_48 b1 b2 b3 b4 w1 w2 w3 x h) 2722259016497146122424359018585896517633001001), .int .i64 (Ev.sgOf (sgPlanChecks_48 b1 b2 b3 b4 w1 w2 w3 x h) 2722259016497146122424359018585896517633001000), .int .i64 (Ev.sgOf (sgPlanChecks_48 b1 b2 b3 b4 w1 w2 w3 x h) 2722259016497146122424359018585896517633000002), .int .i64 (Ev.sgOf (sgPlanChecks_48 b1 b2 b3 b4 w1 w2 w3 x h) 4), .int .i64 (Ev.sgOf (sgPlanChecks_48 b1 b2 b3 b4 w1 w2 w3 x h) 5)]] w fun e w' => e = .returned (.bool true) ∧ Below w.heap.size w w' := Ev.run_law (P := Try.prog) (by kernel_rfl) Ev.namesPlanChecks Ev.eqsPlanChecks ranPlanChecks_48 (by simp [argsPlanChecks_48, Ev.AV.bd]) (Ev.sgOf (sgPlanChecks_48 b1 b2 b3 b4 w1 w2 w3 x h)) (Ev.sgOf_ok _) w
  rw [ew2.1, ew2.2, eb1, eb2, eb3, eb4, ew3, ex, eh] at hr
  rw [hk]
  exact hr
def argsPlanChecks_49 : List Ev.AV := [.ag [.i .i64 5, .y .i64 0, .y .i64 1, .y .i64 2, .y .i64 3, .y .i64 4, .y .i64 5, .y .i64 6, .y .i64 2722258854237869293100315163665140547584000000, .y .i64 7]]
set_option maxRecDepth 100000 in
theorem ranPlanChecks_49 : Ev.okB (Ev.callA Try.prog [3, 4, 32, 137] (Ev.lk Ev.planPlanChecks) 200 3 argsPlanChecks_49 ⟨0, .e⟩) = true := by kernel_rfl
def sgPlanChecks_49 (b1 b2 b3 b4 w1 w2 w3 x h : Int) (j : Nat) : Int := match Nat.beq j 0 with
  | true => b1
  | false => match Nat.beq j 1 with
  | true => b2
  | false => match Nat.beq j 2 with
  | true => b3
  | false => match Nat.beq j 3 with
  | true => b4
  | false => match Nat.beq j 4 with
  | true => w1
  | false => match Nat.beq j 5 with
  | true => w2
  | false => match Nat.beq j 6 with
  | true => w3
  | false => match Nat.beq j 2722258854237869293100315163665140547584000000 with
  | true => x
  | false => match Nat.beq j 7 with
  | true => h
  | false => 0
theorem leafPlanChecks_49 (k b1 b2 b3 b4 w1 w2 w3 x h : Int) (w : World) (hk : k = 5) (ux : x ≤ (-1099511627777)) : Calls Try.prog 3 #[.agg #[.int .i64 k, .int .i64 b1, .int .i64 b2, .int .i64 b3, .int .i64 b4, .int .i64 w1, .int .i64 w2, .int .i64 w3, .int .i64 x, .int .i64 h]] w fun e w' => e = .returned (.bool true) ∧ Below w.heap.size w w' := by
  have eb1 := Ev.sgOf_at (f := sgPlanChecks_49 b1 b2 b3 b4 w1 w2 w3 x h) 0 (a := b1) rfl (by kernel_rfl) (by kernel_rfl) (by kernel_rfl : Ev.domS 0 = (none, none)) (trivial : True) (trivial : True)
  have eb2 := Ev.sgOf_at (f := sgPlanChecks_49 b1 b2 b3 b4 w1 w2 w3 x h) 1 (a := b2) rfl (by kernel_rfl) (by kernel_rfl) (by kernel_rfl : Ev.domS 1 = (none, none)) (trivial : True) (trivial : True)
  have eb3 := Ev.sgOf_at (f := sgPlanChecks_49 b1 b2 b3 b4 w1 w2 w3 x h) 2 (a := b3) rfl (by kernel_rfl) (by kernel_rfl) (by kernel_rfl : Ev.domS 2 = (none, none)) (trivial : True) (trivial : True)
  have eb4 := Ev.sgOf_at (f := sgPlanChecks_49 b1 b2 b3 b4 w1 w2 w3 x h) 3 (a := b4) rfl (by kernel_rfl) (by kernel_rfl) (by kernel_rfl : Ev.domS 3 = (none, none)) (trivial : True) (trivial : True)
  have ew1 := Ev.sgOf_at (f := sgPlanChecks_49 b1 b2 b3 b4 w1 w2 w3 x h) 4 (a := w1) rfl (by kernel_rfl) (by kernel_rfl) (by kernel_rfl : Ev.domS 4 = (none, none)) (trivial : True) (trivial : True)
  have ew2 := Ev.sgOf_at (f := sgPlanChecks_49 b1 b2 b3 b4 w1 w2 w3 x h) 5 (a := w2) rfl (by kernel_rfl) (by kernel_rfl) (by kernel_rfl : Ev.domS 5 = (none, none)) (trivial : True) (trivial : True)
  have ew3 := Ev.sgOf_at (f := sgPlanChecks_49 b1 b2 b3 b4 w1 w2 w3 x h) 6 (a := w3) rfl (by kernel_rfl) (by kernel_rfl) (by kernel_rfl : Ev.domS 6 = (none, none)) (trivial : True) (trivial : True)
  have ex := Ev.sgOf_at (f := sgPlanChecks_49 b1 b2 b3 b4 w1 w2 w3 x h) 2722258854237869293100315163665140547584000000 (a := x) rfl (by kernel_rfl) (by kernel_rfl) (by kernel_rfl : Ev.domS 2722258854237869293100315163665140547584000000 = (none, some (-1099511627777))) (trivial : True) (show x ≤ (-1099511627777) by omega)
  have eh := Ev.sgOf_at (f := sgPlanChecks_49 b1 b2 b3 b4 w1 w2 w3 x h) 7 (a := h) rfl (by kernel_rfl) (by kernel_rfl) (by kernel_rfl : Ev.domS 7 = (none, none)) (trivial : True) (trivial : True)
  have hr : Calls Try.prog 3 #[.agg #[.int .i64 5, .int .i64 (Ev.sgOf (sgPlanChecks_49 b1 b2 b3 b4 w1 w2 w3 x h) 0), .int .i64 (Ev.sgOf (sgPlanChecks_49 b1 b2 b3 b4 w1 w2 w3 x h) 1), .int .i64 (Ev.sgOf (sgPlanChecks_49 b1 b2 b3 b4 w1 w2 w3 x h) 2), .int .i64 (Ev.sgOf (sgPlanChecks_49 b1 b2 b3 b4 w1 w2 w3 x h) 3), .int .i64 (Ev.sgOf (sgPlanChecks_49 b1 b2 b3 b4 w1 w2 w3 x h) 4), .int .i64 (Ev.sgOf (sgPlanChecks_49 b1 b2 b3 b4 w1 w2 w3 x h) 5), .int .i64 (Ev.sgOf (sgPlanChecks_49 b1 b2 b3 b4 w1 w2 w3 x h) 6), .int .i64 (Ev.sgOf (sgPlanChecks_49 b1 b2 b3 b4 w1 w2 w3 x h) 2722258854237869293100315163665140547584000000), .int .i64 (Ev.sgOf (sgPlanChecks_49 b1 b2 b3 b4 w1 w2 w3 x h) 7)]] w fun e w' => e = .returned (.bool true) ∧ Below w.heap.size w w' := Ev.run_law (P := Try.prog) (by kernel_rfl) Ev.namesPlanChecks Ev.eqsPlanChecks ranPlanChecks_49 (by simp [argsPlanChecks_49, Ev.AV.bd]) (Ev.sgOf (sgPlanChecks_49 b1 b2 b3 b4 w1 w2 w3 x h)) (Ev.sgOf_ok _) w
  rw [eb1, eb2, eb3, eb4, ew1, ew2, ew3, ex, eh] at hr
  rw [hk]
  exact hr
def argsPlanChecks_50 : List Ev.AV := [.ag [.i .i64 5, .y .i64 0, .y .i64 1, .y .i64 2, .y .i64 3, .y .i64 4, .y .i64 5, .y .i64 6, .y .i64 36893489246930731010000000, .y .i64 7]]
set_option maxRecDepth 100000 in
theorem ranPlanChecks_50 : Ev.okB (Ev.callA Try.prog [3, 4, 32, 137] (Ev.lk Ev.planPlanChecks) 200 3 argsPlanChecks_50 ⟨0, .e⟩) = true := by kernel_rfl
def sgPlanChecks_50 (b1 b2 b3 b4 w1 w2 w3 x h : Int) (j : Nat) : Int := match Nat.beq j 0 with
  | true => b1
  | false => match Nat.beq j 1 with
  | true => b2
  | false => match Nat.beq j 2 with
  | true => b3
  | false => match Nat.beq j 3 with
  | true => b4
  | false => match Nat.beq j 4 with
  | true => w1
  | false => match Nat.beq j 5 with
  | true => w2
  | false => match Nat.beq j 6 with
  | true => w3
  | false => match Nat.beq j 36893489246930731010000000 with
  | true => x
  | false => match Nat.beq j 7 with
  | true => h
  | false => 0
theorem leafPlanChecks_50 (k b1 b2 b3 b4 w1 w2 w3 x h : Int) (w : World) (hk : k = 5) (lx : 1099511627777 ≤ x) : Calls Try.prog 3 #[.agg #[.int .i64 k, .int .i64 b1, .int .i64 b2, .int .i64 b3, .int .i64 b4, .int .i64 w1, .int .i64 w2, .int .i64 w3, .int .i64 x, .int .i64 h]] w fun e w' => e = .returned (.bool true) ∧ Below w.heap.size w w' := by
  have eb1 := Ev.sgOf_at (f := sgPlanChecks_50 b1 b2 b3 b4 w1 w2 w3 x h) 0 (a := b1) rfl (by kernel_rfl) (by kernel_rfl) (by kernel_rfl : Ev.domS 0 = (none, none)) (trivial : True) (trivial : True)
  have eb2 := Ev.sgOf_at (f := sgPlanChecks_50 b1 b2 b3 b4 w1 w2 w3 x h) 1 (a := b2) rfl (by kernel_rfl) (by kernel_rfl) (by kernel_rfl : Ev.domS 1 = (none, none)) (trivial : True) (trivial : True)
  have eb3 := Ev.sgOf_at (f := sgPlanChecks_50 b1 b2 b3 b4 w1 w2 w3 x h) 2 (a := b3) rfl (by kernel_rfl) (by kernel_rfl) (by kernel_rfl : Ev.domS 2 = (none, none)) (trivial : True) (trivial : True)
  have eb4 := Ev.sgOf_at (f := sgPlanChecks_50 b1 b2 b3 b4 w1 w2 w3 x h) 3 (a := b4) rfl (by kernel_rfl) (by kernel_rfl) (by kernel_rfl : Ev.domS 3 = (none, none)) (trivial : True) (trivial : True)
  have ew1 := Ev.sgOf_at (f := sgPlanChecks_50 b1 b2 b3 b4 w1 w2 w3 x h) 4 (a := w1) rfl (by kernel_rfl) (by kernel_rfl) (by kernel_rfl : Ev.domS 4 = (none, none)) (trivial : True) (trivial : True)
  have ew2 := Ev.sgOf_at (f := sgPlanChecks_50 b1 b2 b3 b4 w1 w2 w3 x h) 5 (a := w2) rfl (by kernel_rfl) (by kernel_rfl) (by kernel_rfl : Ev.domS 5 = (none, none)) (trivial : True) (trivial : True)
  have ew3 := Ev.sgOf_at (f := sgPlanChecks_50 b1 b2 b3 b4 w1 w2 w3 x h) 6 (a := w3) rfl (by kernel_rfl) (by kernel_rfl) (by kernel_rfl : Ev.domS 6 = (none, none)) (trivial : True) (trivial : True)
  have ex := Ev.sgOf_at (f := sgPlanChecks_50 b1 b2 b3 b4 w1 w2 w3 x h) 36893489246930731010000000 (a := x) rfl (by kernel_rfl) (by kernel_rfl) (by kernel_rfl : Ev.domS 36893489246930731010000000 = (some 1099511627777, none)) (show 1099511627777 ≤ x by omega) (trivial : True)
  have eh := Ev.sgOf_at (f := sgPlanChecks_50 b1 b2 b3 b4 w1 w2 w3 x h) 7 (a := h) rfl (by kernel_rfl) (by kernel_rfl) (by kernel_rfl : Ev.domS 7 = (none, none)) (trivial : True) (trivial : True)
  have hr : Calls Try.prog 3 #[.agg #[.int .i64 5, .int .i64 (Ev.sgOf (sgPlanChecks_50 b1 b2 b3 b4 w1 w2 w3 x h) 0), .int .i64 (Ev.sgOf (sgPlanChecks_50 b1 b2 b3 b4 w1 w2 w3 x h) 1), .int .i64 (Ev.sgOf (sgPlanChecks_50 b1 b2 b3 b4 w1 w2 w3 x h) 2), .int .i64 (Ev.sgOf (sgPlanChecks_50 b1 b2 b3 b4 w1 w2 w3 x h) 3), .int .i64 (Ev.sgOf (sgPlanChecks_50 b1 b2 b3 b4 w1 w2 w3 x h) 4), .int .i64 (Ev.sgOf (sgPlanChecks_50 b1 b2 b3 b4 w1 w2 w3 x h) 5), .int .i64 (Ev.sgOf (sgPlanChecks_50 b1 b2 b3 b4 w1 w2 w3 x h) 6), .int .i64 (Ev.sgOf (sgPlanChecks_50 b1 b2 b3 b4 w1 w2 w3 x h) 36893489246930731010000000), .int .i64 (Ev.sgOf (sgPlanChecks_50 b1 b2 b3 b4 w1 w2 w3 x h) 7)]] w fun e w' => e = .returned (.bool true) ∧ Below w.heap.size w w' := Ev.run_law (P := Try.prog) (by kernel_rfl) Ev.namesPlanChecks Ev.eqsPlanChecks ranPlanChecks_50 (by simp [argsPlanChecks_50, Ev.AV.bd]) (Ev.sgOf (sgPlanChecks_50 b1 b2 b3 b4 w1 w2 w3 x h)) (Ev.sgOf_ok _) w
  rw [eb1, eb2, eb3, eb4, ew1, ew2, ew3, ex, eh] at hr
  rw [hk]
  exact hr
def argsPlanChecks_51 : List Ev.AV := [.ag [.i .i64 5, .y .i64 0, .y .i64 1, .y .i64 2, .y .i64 3, .y .i64 4, .y .i64 5, .y .i64 6, .y .i64 2722259016497146122424359018585896517633000000, .y .i64 7]]
set_option maxRecDepth 100000 in
theorem ranPlanChecks_51 : Ev.okB (Ev.callA Try.prog [3, 4, 32, 137] (Ev.lk Ev.planPlanChecks) 200 3 argsPlanChecks_51 ⟨0, .e⟩) = true := by kernel_rfl
def sgPlanChecks_51 (b1 b2 b3 b4 w1 w2 w3 x h : Int) (j : Nat) : Int := match Nat.beq j 0 with
  | true => b1
  | false => match Nat.beq j 1 with
  | true => b2
  | false => match Nat.beq j 2 with
  | true => b3
  | false => match Nat.beq j 3 with
  | true => b4
  | false => match Nat.beq j 4 with
  | true => w1
  | false => match Nat.beq j 5 with
  | true => w2
  | false => match Nat.beq j 6 with
  | true => w3
  | false => match Nat.beq j 2722259016497146122424359018585896517633000000 with
  | true => x
  | false => match Nat.beq j 7 with
  | true => h
  | false => 0
theorem leafPlanChecks_51 (k b1 b2 b3 b4 w1 w2 w3 x h : Int) (w : World) (hk : k = 5) (lx : (-1099511627776) ≤ x) (ux : x ≤ 1099511627776) : Calls Try.prog 3 #[.agg #[.int .i64 k, .int .i64 b1, .int .i64 b2, .int .i64 b3, .int .i64 b4, .int .i64 w1, .int .i64 w2, .int .i64 w3, .int .i64 x, .int .i64 h]] w fun e w' => e = .returned (.bool true) ∧ Below w.heap.size w w' := by
  have eb1 := Ev.sgOf_at (f := sgPlanChecks_51 b1 b2 b3 b4 w1 w2 w3 x h) 0 (a := b1) rfl (by kernel_rfl) (by kernel_rfl) (by kernel_rfl : Ev.domS 0 = (none, none)) (trivial : True) (trivial : True)
  have eb2 := Ev.sgOf_at (f := sgPlanChecks_51 b1 b2 b3 b4 w1 w2 w3 x h) 1 (a := b2) rfl (by kernel_rfl) (by kernel_rfl) (by kernel_rfl : Ev.domS 1 = (none, none)) (trivial : True) (trivial : True)
  have eb3 := Ev.sgOf_at (f := sgPlanChecks_51 b1 b2 b3 b4 w1 w2 w3 x h) 2 (a := b3) rfl (by kernel_rfl) (by kernel_rfl) (by kernel_rfl : Ev.domS 2 = (none, none)) (trivial : True) (trivial : True)
  have eb4 := Ev.sgOf_at (f := sgPlanChecks_51 b1 b2 b3 b4 w1 w2 w3 x h) 3 (a := b4) rfl (by kernel_rfl) (by kernel_rfl) (by kernel_rfl : Ev.domS 3 = (none, none)) (trivial : True) (trivial : True)
  have ew1 := Ev.sgOf_at (f := sgPlanChecks_51 b1 b2 b3 b4 w1 w2 w3 x h) 4 (a := w1) rfl (by kernel_rfl) (by kernel_rfl) (by kernel_rfl : Ev.domS 4 = (none, none)) (trivial : True) (trivial : True)
  have ew2 := Ev.sgOf_at (f := sgPlanChecks_51 b1 b2 b3 b4 w1 w2 w3 x h) 5 (a := w2) rfl (by kernel_rfl) (by kernel_rfl) (by kernel_rfl : Ev.domS 5 = (none, none)) (trivial : True) (trivial : True)
  have ew3 := Ev.sgOf_at (f := sgPlanChecks_51 b1 b2 b3 b4 w1 w2 w3 x h) 6 (a := w3) rfl (by kernel_rfl) (by kernel_rfl) (by kernel_rfl : Ev.domS 6 = (none, none)) (trivial : True) (trivial : True)
  have ex := Ev.sgOf_at (f := sgPlanChecks_51 b1 b2 b3 b4 w1 w2 w3 x h) 2722259016497146122424359018585896517633000000 (a := x) rfl (by kernel_rfl) (by kernel_rfl) (by kernel_rfl : Ev.domS 2722259016497146122424359018585896517633000000 = (some (-1099511627776), some 1099511627776)) (show (-1099511627776) ≤ x by omega) (show x ≤ 1099511627776 by omega)
  have eh := Ev.sgOf_at (f := sgPlanChecks_51 b1 b2 b3 b4 w1 w2 w3 x h) 7 (a := h) rfl (by kernel_rfl) (by kernel_rfl) (by kernel_rfl : Ev.domS 7 = (none, none)) (trivial : True) (trivial : True)
  have hr : Calls Try.prog 3 #[.agg #[.int .i64 5, .int .i64 (Ev.sgOf (sgPlanChecks_51 b1 b2 b3 b4 w1 w2 w3 x h) 0), .int .i64 (Ev.sgOf (sgPlanChecks_51 b1 b2 b3 b4 w1 w2 w3 x h) 1), .int .i64 (Ev.sgOf (sgPlanChecks_51 b1 b2 b3 b4 w1 w2 w3 x h) 2), .int .i64 (Ev.sgOf (sgPlanChecks_51 b1 b2 b3 b4 w1 w2 w3 x h) 3), .int .i64 (Ev.sgOf (sgPlanChecks_51 b1 b2 b3 b4 w1 w2 w3 x h) 4), .int .i64 (Ev.sgOf (sgPlanChecks_51 b1 b2 b3 b4 w1 w2 w3 x h) 5), .int .i64 (Ev.sgOf (sgPlanChecks_51 b1 b2 b3 b4 w1 w2 w3 x h) 6), .int .i64 (Ev.sgOf (sgPlanChecks_51 b1 b2 b3 b4 w1 w2 w3 x h) 2722259016497146122424359018585896517633000000), .int .i64 (Ev.sgOf (sgPlanChecks_51 b1 b2 b3 b4 w1 w2 w3 x h) 7)]] w fun e w' => e = .returned (.bool true) ∧ Below w.heap.size w w' := Ev.run_law (P := Try.prog) (by kernel_rfl) Ev.namesPlanChecks Ev.eqsPlanChecks ranPlanChecks_51 (by simp [argsPlanChecks_51, Ev.AV.bd]) (Ev.sgOf (sgPlanChecks_51 b1 b2 b3 b4 w1 w2 w3 x h)) (Ev.sgOf_ok _) w
  rw [eb1, eb2, eb3, eb4, ew1, ew2, ew3, ex, eh] at hr
  rw [hk]
  exact hr
def argsPlanChecks_52 : List Ev.AV := [.ag [.i .i64 6, .y .i64 0, .y .i64 1, .y .i64 2, .y .i64 3, .y .i64 4, .y .i64 5, .y .i64 6, .y .i64 2722258854237869293100315163665140547584000000, .y .i64 7]]
set_option maxRecDepth 100000 in
theorem ranPlanChecks_52 : Ev.okB (Ev.callA Try.prog [3, 4, 32, 137] (Ev.lk Ev.planPlanChecks) 200 3 argsPlanChecks_52 ⟨0, .e⟩) = true := by kernel_rfl
def sgPlanChecks_52 (b1 b2 b3 b4 w1 w2 w3 x h : Int) (j : Nat) : Int := match Nat.beq j 0 with
  | true => b1
  | false => match Nat.beq j 1 with
  | true => b2
  | false => match Nat.beq j 2 with
  | true => b3
  | false => match Nat.beq j 3 with
  | true => b4
  | false => match Nat.beq j 4 with
  | true => w1
  | false => match Nat.beq j 5 with
  | true => w2
  | false => match Nat.beq j 6 with
  | true => w3
  | false => match Nat.beq j 2722258854237869293100315163665140547584000000 with
  | true => x
  | false => match Nat.beq j 7 with
  | true => h
  | false => 0
theorem leafPlanChecks_52 (k b1 b2 b3 b4 w1 w2 w3 x h : Int) (w : World) (hk : k = 6) (ux : x ≤ (-1099511627777)) : Calls Try.prog 3 #[.agg #[.int .i64 k, .int .i64 b1, .int .i64 b2, .int .i64 b3, .int .i64 b4, .int .i64 w1, .int .i64 w2, .int .i64 w3, .int .i64 x, .int .i64 h]] w fun e w' => e = .returned (.bool true) ∧ Below w.heap.size w w' := by
  have eb1 := Ev.sgOf_at (f := sgPlanChecks_52 b1 b2 b3 b4 w1 w2 w3 x h) 0 (a := b1) rfl (by kernel_rfl) (by kernel_rfl) (by kernel_rfl : Ev.domS 0 = (none, none)) (trivial : True) (trivial : True)
  have eb2 := Ev.sgOf_at (f := sgPlanChecks_52 b1 b2 b3 b4 w1 w2 w3 x h) 1 (a := b2) rfl (by kernel_rfl) (by kernel_rfl) (by kernel_rfl : Ev.domS 1 = (none, none)) (trivial : True) (trivial : True)
  have eb3 := Ev.sgOf_at (f := sgPlanChecks_52 b1 b2 b3 b4 w1 w2 w3 x h) 2 (a := b3) rfl (by kernel_rfl) (by kernel_rfl) (by kernel_rfl : Ev.domS 2 = (none, none)) (trivial : True) (trivial : True)
  have eb4 := Ev.sgOf_at (f := sgPlanChecks_52 b1 b2 b3 b4 w1 w2 w3 x h) 3 (a := b4) rfl (by kernel_rfl) (by kernel_rfl) (by kernel_rfl : Ev.domS 3 = (none, none)) (trivial : True) (trivial : True)
  have ew1 := Ev.sgOf_at (f := sgPlanChecks_52 b1 b2 b3 b4 w1 w2 w3 x h) 4 (a := w1) rfl (by kernel_rfl) (by kernel_rfl) (by kernel_rfl : Ev.domS 4 = (none, none)) (trivial : True) (trivial : True)
  have ew2 := Ev.sgOf_at (f := sgPlanChecks_52 b1 b2 b3 b4 w1 w2 w3 x h) 5 (a := w2) rfl (by kernel_rfl) (by kernel_rfl) (by kernel_rfl : Ev.domS 5 = (none, none)) (trivial : True) (trivial : True)
  have ew3 := Ev.sgOf_at (f := sgPlanChecks_52 b1 b2 b3 b4 w1 w2 w3 x h) 6 (a := w3) rfl (by kernel_rfl) (by kernel_rfl) (by kernel_rfl : Ev.domS 6 = (none, none)) (trivial : True) (trivial : True)
  have ex := Ev.sgOf_at (f := sgPlanChecks_52 b1 b2 b3 b4 w1 w2 w3 x h) 2722258854237869293100315163665140547584000000 (a := x) rfl (by kernel_rfl) (by kernel_rfl) (by kernel_rfl : Ev.domS 2722258854237869293100315163665140547584000000 = (none, some (-1099511627777))) (trivial : True) (show x ≤ (-1099511627777) by omega)
  have eh := Ev.sgOf_at (f := sgPlanChecks_52 b1 b2 b3 b4 w1 w2 w3 x h) 7 (a := h) rfl (by kernel_rfl) (by kernel_rfl) (by kernel_rfl : Ev.domS 7 = (none, none)) (trivial : True) (trivial : True)
  have hr : Calls Try.prog 3 #[.agg #[.int .i64 6, .int .i64 (Ev.sgOf (sgPlanChecks_52 b1 b2 b3 b4 w1 w2 w3 x h) 0), .int .i64 (Ev.sgOf (sgPlanChecks_52 b1 b2 b3 b4 w1 w2 w3 x h) 1), .int .i64 (Ev.sgOf (sgPlanChecks_52 b1 b2 b3 b4 w1 w2 w3 x h) 2), .int .i64 (Ev.sgOf (sgPlanChecks_52 b1 b2 b3 b4 w1 w2 w3 x h) 3), .int .i64 (Ev.sgOf (sgPlanChecks_52 b1 b2 b3 b4 w1 w2 w3 x h) 4), .int .i64 (Ev.sgOf (sgPlanChecks_52 b1 b2 b3 b4 w1 w2 w3 x h) 5), .int .i64 (Ev.sgOf (sgPlanChecks_52 b1 b2 b3 b4 w1 w2 w3 x h) 6), .int .i64 (Ev.sgOf (sgPlanChecks_52 b1 b2 b3 b4 w1 w2 w3 x h) 2722258854237869293100315163665140547584000000), .int .i64 (Ev.sgOf (sgPlanChecks_52 b1 b2 b3 b4 w1 w2 w3 x h) 7)]] w fun e w' => e = .returned (.bool true) ∧ Below w.heap.size w w' := Ev.run_law (P := Try.prog) (by kernel_rfl) Ev.namesPlanChecks Ev.eqsPlanChecks ranPlanChecks_52 (by simp [argsPlanChecks_52, Ev.AV.bd]) (Ev.sgOf (sgPlanChecks_52 b1 b2 b3 b4 w1 w2 w3 x h)) (Ev.sgOf_ok _) w
  rw [eb1, eb2, eb3, eb4, ew1, ew2, ew3, ex, eh] at hr
  rw [hk]
  exact hr
def argsPlanChecks_53 : List Ev.AV := [.ag [.i .i64 6, .y .i64 0, .y .i64 1, .y .i64 2, .y .i64 3, .y .i64 4, .y .i64 5, .y .i64 6, .y .i64 36893489246930731010000000, .y .i64 7]]
set_option maxRecDepth 100000 in
theorem ranPlanChecks_53 : Ev.okB (Ev.callA Try.prog [3, 4, 32, 137] (Ev.lk Ev.planPlanChecks) 200 3 argsPlanChecks_53 ⟨0, .e⟩) = true := by kernel_rfl
def sgPlanChecks_53 (b1 b2 b3 b4 w1 w2 w3 x h : Int) (j : Nat) : Int := match Nat.beq j 0 with
  | true => b1
  | false => match Nat.beq j 1 with
  | true => b2
  | false => match Nat.beq j 2 with
  | true => b3
  | false => match Nat.beq j 3 with
  | true => b4
  | false => match Nat.beq j 4 with
  | true => w1
  | false => match Nat.beq j 5 with
  | true => w2
  | false => match Nat.beq j 6 with
  | true => w3
  | false => match Nat.beq j 36893489246930731010000000 with
  | true => x
  | false => match Nat.beq j 7 with
  | true => h
  | false => 0
theorem leafPlanChecks_53 (k b1 b2 b3 b4 w1 w2 w3 x h : Int) (w : World) (hk : k = 6) (lx : 1099511627777 ≤ x) : Calls Try.prog 3 #[.agg #[.int .i64 k, .int .i64 b1, .int .i64 b2, .int .i64 b3, .int .i64 b4, .int .i64 w1, .int .i64 w2, .int .i64 w3, .int .i64 x, .int .i64 h]] w fun e w' => e = .returned (.bool true) ∧ Below w.heap.size w w' := by
  have eb1 := Ev.sgOf_at (f := sgPlanChecks_53 b1 b2 b3 b4 w1 w2 w3 x h) 0 (a := b1) rfl (by kernel_rfl) (by kernel_rfl) (by kernel_rfl : Ev.domS 0 = (none, none)) (trivial : True) (trivial : True)
  have eb2 := Ev.sgOf_at (f := sgPlanChecks_53 b1 b2 b3 b4 w1 w2 w3 x h) 1 (a := b2) rfl (by kernel_rfl) (by kernel_rfl) (by kernel_rfl : Ev.domS 1 = (none, none)) (trivial : True) (trivial : True)
  have eb3 := Ev.sgOf_at (f := sgPlanChecks_53 b1 b2 b3 b4 w1 w2 w3 x h) 2 (a := b3) rfl (by kernel_rfl) (by kernel_rfl) (by kernel_rfl : Ev.domS 2 = (none, none)) (trivial : True) (trivial : True)
  have eb4 := Ev.sgOf_at (f := sgPlanChecks_53 b1 b2 b3 b4 w1 w2 w3 x h) 3 (a := b4) rfl (by kernel_rfl) (by kernel_rfl) (by kernel_rfl : Ev.domS 3 = (none, none)) (trivial : True) (trivial : True)
  have ew1 := Ev.sgOf_at (f := sgPlanChecks_53 b1 b2 b3 b4 w1 w2 w3 x h) 4 (a := w1) rfl (by kernel_rfl) (by kernel_rfl) (by kernel_rfl : Ev.domS 4 = (none, none)) (trivial : True) (trivial : True)
  have ew2 := Ev.sgOf_at (f := sgPlanChecks_53 b1 b2 b3 b4 w1 w2 w3 x h) 5 (a := w2) rfl (by kernel_rfl) (by kernel_rfl) (by kernel_rfl : Ev.domS 5 = (none, none)) (trivial : True) (trivial : True)
  have ew3 := Ev.sgOf_at (f := sgPlanChecks_53 b1 b2 b3 b4 w1 w2 w3 x h) 6 (a := w3) rfl (by kernel_rfl) (by kernel_rfl) (by kernel_rfl : Ev.domS 6 = (none, none)) (trivial : True) (trivial : True)
  have ex := Ev.sgOf_at (f := sgPlanChecks_53 b1 b2 b3 b4 w1 w2 w3 x h) 36893489246930731010000000 (a := x) rfl (by kernel_rfl) (by kernel_rfl) (by kernel_rfl : Ev.domS 36893489246930731010000000 = (some 1099511627777, none)) (show 1099511627777 ≤ x by omega) (trivial : True)
  have eh := Ev.sgOf_at (f := sgPlanChecks_53 b1 b2 b3 b4 w1 w2 w3 x h) 7 (a := h) rfl (by kernel_rfl) (by kernel_rfl) (by kernel_rfl : Ev.domS 7 = (none, none)) (trivial : True) (trivial : True)
  have hr : Calls Try.prog 3 #[.agg #[.int .i64 6, .int .i64 (Ev.sgOf (sgPlanChecks_53 b1 b2 b3 b4 w1 w2 w3 x h) 0), .int .i64 (Ev.sgOf (sgPlanChecks_53 b1 b2 b3 b4 w1 w2 w3 x h) 1), .int .i64 (Ev.sgOf (sgPlanChecks_53 b1 b2 b3 b4 w1 w2 w3 x h) 2), .int .i64 (Ev.sgOf (sgPlanChecks_53 b1 b2 b3 b4 w1 w2 w3 x h) 3), .int .i64 (Ev.sgOf (sgPlanChecks_53 b1 b2 b3 b4 w1 w2 w3 x h) 4), .int .i64 (Ev.sgOf (sgPlanChecks_53 b1 b2 b3 b4 w1 w2 w3 x h) 5), .int .i64 (Ev.sgOf (sgPlanChecks_53 b1 b2 b3 b4 w1 w2 w3 x h) 6), .int .i64 (Ev.sgOf (sgPlanChecks_53 b1 b2 b3 b4 w1 w2 w3 x h) 36893489246930731010000000), .int .i64 (Ev.sgOf (sgPlanChecks_53 b1 b2 b3 b4 w1 w2 w3 x h) 7)]] w fun e w' => e = .returned (.bool true) ∧ Below w.heap.size w w' := Ev.run_law (P := Try.prog) (by kernel_rfl) Ev.namesPlanChecks Ev.eqsPlanChecks ranPlanChecks_53 (by simp [argsPlanChecks_53, Ev.AV.bd]) (Ev.sgOf (sgPlanChecks_53 b1 b2 b3 b4 w1 w2 w3 x h)) (Ev.sgOf_ok _) w
  rw [eb1, eb2, eb3, eb4, ew1, ew2, ew3, ex, eh] at hr
  rw [hk]
  exact hr
def argsPlanChecks_54 : List Ev.AV := [.ag [.i .i64 6, .y .i64 0, .y .i64 1, .y .i64 2, .y .i64 3, .y .i64 4, .y .i64 5, .y .i64 6, .y .i64 2722259016497146122424359018585896517633000000, .y .i64 2722258854237869293100315163665140547584000002]]
set_option maxRecDepth 100000 in
theorem ranPlanChecks_54 : Ev.okB (Ev.callA Try.prog [3, 4, 32, 137] (Ev.lk Ev.planPlanChecks) 200 3 argsPlanChecks_54 ⟨0, .e⟩) = true := by kernel_rfl
def sgPlanChecks_54 (b1 b2 b3 b4 w1 w2 w3 x h : Int) (j : Nat) : Int := match Nat.beq j 0 with
  | true => b1
  | false => match Nat.beq j 1 with
  | true => b2
  | false => match Nat.beq j 2 with
  | true => b3
  | false => match Nat.beq j 3 with
  | true => b4
  | false => match Nat.beq j 4 with
  | true => w1
  | false => match Nat.beq j 5 with
  | true => w2
  | false => match Nat.beq j 6 with
  | true => w3
  | false => match Nat.beq j 2722259016497146122424359018585896517633000000 with
  | true => x
  | false => match Nat.beq j 2722258854237869293100315163665140547584000002 with
  | true => h
  | false => 0
theorem leafPlanChecks_54 (k b1 b2 b3 b4 w1 w2 w3 x h : Int) (w : World) (hk : k = 6) (lx : (-1099511627776) ≤ x) (ux : x ≤ 1099511627776) (uh : h ≤ (-1099511627777)) : Calls Try.prog 3 #[.agg #[.int .i64 k, .int .i64 b1, .int .i64 b2, .int .i64 b3, .int .i64 b4, .int .i64 w1, .int .i64 w2, .int .i64 w3, .int .i64 x, .int .i64 h]] w fun e w' => e = .returned (.bool true) ∧ Below w.heap.size w w' := by
  have eb1 := Ev.sgOf_at (f := sgPlanChecks_54 b1 b2 b3 b4 w1 w2 w3 x h) 0 (a := b1) rfl (by kernel_rfl) (by kernel_rfl) (by kernel_rfl : Ev.domS 0 = (none, none)) (trivial : True) (trivial : True)
  have eb2 := Ev.sgOf_at (f := sgPlanChecks_54 b1 b2 b3 b4 w1 w2 w3 x h) 1 (a := b2) rfl (by kernel_rfl) (by kernel_rfl) (by kernel_rfl : Ev.domS 1 = (none, none)) (trivial : True) (trivial : True)
  have eb3 := Ev.sgOf_at (f := sgPlanChecks_54 b1 b2 b3 b4 w1 w2 w3 x h) 2 (a := b3) rfl (by kernel_rfl) (by kernel_rfl) (by kernel_rfl : Ev.domS 2 = (none, none)) (trivial : True) (trivial : True)
  have eb4 := Ev.sgOf_at (f := sgPlanChecks_54 b1 b2 b3 b4 w1 w2 w3 x h) 3 (a := b4) rfl (by kernel_rfl) (by kernel_rfl) (by kernel_rfl : Ev.domS 3 = (none, none)) (trivial : True) (trivial : True)
  have ew1 := Ev.sgOf_at (f := sgPlanChecks_54 b1 b2 b3 b4 w1 w2 w3 x h) 4 (a := w1) rfl (by kernel_rfl) (by kernel_rfl) (by kernel_rfl : Ev.domS 4 = (none, none)) (trivial : True) (trivial : True)
  have ew2 := Ev.sgOf_at (f := sgPlanChecks_54 b1 b2 b3 b4 w1 w2 w3 x h) 5 (a := w2) rfl (by kernel_rfl) (by kernel_rfl) (by kernel_rfl : Ev.domS 5 = (none, none)) (trivial : True) (trivial : True)
  have ew3 := Ev.sgOf_at (f := sgPlanChecks_54 b1 b2 b3 b4 w1 w2 w3 x h) 6 (a := w3) rfl (by kernel_rfl) (by kernel_rfl) (by kernel_rfl : Ev.domS 6 = (none, none)) (trivial : True) (trivial : True)
  have ex := Ev.sgOf_at (f := sgPlanChecks_54 b1 b2 b3 b4 w1 w2 w3 x h) 2722259016497146122424359018585896517633000000 (a := x) rfl (by kernel_rfl) (by kernel_rfl) (by kernel_rfl : Ev.domS 2722259016497146122424359018585896517633000000 = (some (-1099511627776), some 1099511627776)) (show (-1099511627776) ≤ x by omega) (show x ≤ 1099511627776 by omega)
  have eh := Ev.sgOf_at (f := sgPlanChecks_54 b1 b2 b3 b4 w1 w2 w3 x h) 2722258854237869293100315163665140547584000002 (a := h) rfl (by kernel_rfl) (by kernel_rfl) (by kernel_rfl : Ev.domS 2722258854237869293100315163665140547584000002 = (none, some (-1099511627777))) (trivial : True) (show h ≤ (-1099511627777) by omega)
  have hr : Calls Try.prog 3 #[.agg #[.int .i64 6, .int .i64 (Ev.sgOf (sgPlanChecks_54 b1 b2 b3 b4 w1 w2 w3 x h) 0), .int .i64 (Ev.sgOf (sgPlanChecks_54 b1 b2 b3 b4 w1 w2 w3 x h) 1), .int .i64 (Ev.sgOf (sgPlanChecks_54 b1 b2 b3 b4 w1 w2 w3 x h) 2), .int .i64 (Ev.sgOf (sgPlanChecks_54 b1 b2 b3 b4 w1 w2 w3 x h) 3), .int .i64 (Ev.sgOf (sgPlanChecks_54 b1 b2 b3 b4 w1 w2 w3 x h) 4), .int .i64 (Ev.sgOf (sgPlanChecks_54 b1 b2 b3 b4 w1 w2 w3 x h) 5), .int .i64 (Ev.sgOf (sgPlanChecks_54 b1 b2 b3 b4 w1 w2 w3 x h) 6), .int .i64 (Ev.sgOf (sgPlanChecks_54 b1 b2 b3 b4 w1 w2 w3 x h) 2722259016497146122424359018585896517633000000), .int .i64 (Ev.sgOf (sgPlanChecks_54 b1 b2 b3 b4 w1 w2 w3 x h) 2722258854237869293100315163665140547584000002)]] w fun e w' => e = .returned (.bool true) ∧ Below w.heap.size w w' := Ev.run_law (P := Try.prog) (by kernel_rfl) Ev.namesPlanChecks Ev.eqsPlanChecks ranPlanChecks_54 (by simp [argsPlanChecks_54, Ev.AV.bd]) (Ev.sgOf (sgPlanChecks_54 b1 b2 b3 b4 w1 w2 w3 x h)) (Ev.sgOf_ok _) w
  rw [eb1, eb2, eb3, eb4, ew1, ew2, ew3, ex, eh] at hr
  rw [hk]
  exact hr
def argsPlanChecks_55 : List Ev.AV := [.ag [.i .i64 6, .y .i64 0, .y .i64 1, .y .i64 2, .y .i64 3, .y .i64 4, .y .i64 5, .y .i64 6, .y .i64 2722259016497146122424359018585896517633000000, .y .i64 36893489246930731010000002]]
set_option maxRecDepth 100000 in
theorem ranPlanChecks_55 : Ev.okB (Ev.callA Try.prog [3, 4, 32, 137] (Ev.lk Ev.planPlanChecks) 200 3 argsPlanChecks_55 ⟨0, .e⟩) = true := by kernel_rfl
def sgPlanChecks_55 (b1 b2 b3 b4 w1 w2 w3 x h : Int) (j : Nat) : Int := match Nat.beq j 0 with
  | true => b1
  | false => match Nat.beq j 1 with
  | true => b2
  | false => match Nat.beq j 2 with
  | true => b3
  | false => match Nat.beq j 3 with
  | true => b4
  | false => match Nat.beq j 4 with
  | true => w1
  | false => match Nat.beq j 5 with
  | true => w2
  | false => match Nat.beq j 6 with
  | true => w3
  | false => match Nat.beq j 2722259016497146122424359018585896517633000000 with
  | true => x
  | false => match Nat.beq j 36893489246930731010000002 with
  | true => h
  | false => 0
theorem leafPlanChecks_55 (k b1 b2 b3 b4 w1 w2 w3 x h : Int) (w : World) (hk : k = 6) (lx : (-1099511627776) ≤ x) (ux : x ≤ 1099511627776) (lh : 1099511627777 ≤ h) : Calls Try.prog 3 #[.agg #[.int .i64 k, .int .i64 b1, .int .i64 b2, .int .i64 b3, .int .i64 b4, .int .i64 w1, .int .i64 w2, .int .i64 w3, .int .i64 x, .int .i64 h]] w fun e w' => e = .returned (.bool true) ∧ Below w.heap.size w w' := by
  have eb1 := Ev.sgOf_at (f := sgPlanChecks_55 b1 b2 b3 b4 w1 w2 w3 x h) 0 (a := b1) rfl (by kernel_rfl) (by kernel_rfl) (by kernel_rfl : Ev.domS 0 = (none, none)) (trivial : True) (trivial : True)
  have eb2 := Ev.sgOf_at (f := sgPlanChecks_55 b1 b2 b3 b4 w1 w2 w3 x h) 1 (a := b2) rfl (by kernel_rfl) (by kernel_rfl) (by kernel_rfl : Ev.domS 1 = (none, none)) (trivial : True) (trivial : True)
  have eb3 := Ev.sgOf_at (f := sgPlanChecks_55 b1 b2 b3 b4 w1 w2 w3 x h) 2 (a := b3) rfl (by kernel_rfl) (by kernel_rfl) (by kernel_rfl : Ev.domS 2 = (none, none)) (trivial : True) (trivial : True)
  have eb4 := Ev.sgOf_at (f := sgPlanChecks_55 b1 b2 b3 b4 w1 w2 w3 x h) 3 (a := b4) rfl (by kernel_rfl) (by kernel_rfl) (by kernel_rfl : Ev.domS 3 = (none, none)) (trivial : True) (trivial : True)
  have ew1 := Ev.sgOf_at (f := sgPlanChecks_55 b1 b2 b3 b4 w1 w2 w3 x h) 4 (a := w1) rfl (by kernel_rfl) (by kernel_rfl) (by kernel_rfl : Ev.domS 4 = (none, none)) (trivial : True) (trivial : True)
  have ew2 := Ev.sgOf_at (f := sgPlanChecks_55 b1 b2 b3 b4 w1 w2 w3 x h) 5 (a := w2) rfl (by kernel_rfl) (by kernel_rfl) (by kernel_rfl : Ev.domS 5 = (none, none)) (trivial : True) (trivial : True)
  have ew3 := Ev.sgOf_at (f := sgPlanChecks_55 b1 b2 b3 b4 w1 w2 w3 x h) 6 (a := w3) rfl (by kernel_rfl) (by kernel_rfl) (by kernel_rfl : Ev.domS 6 = (none, none)) (trivial : True) (trivial : True)
  have ex := Ev.sgOf_at (f := sgPlanChecks_55 b1 b2 b3 b4 w1 w2 w3 x h) 2722259016497146122424359018585896517633000000 (a := x) rfl (by kernel_rfl) (by kernel_rfl) (by kernel_rfl : Ev.domS 2722259016497146122424359018585896517633000000 = (some (-1099511627776), some 1099511627776)) (show (-1099511627776) ≤ x by omega) (show x ≤ 1099511627776 by omega)
  have eh := Ev.sgOf_at (f := sgPlanChecks_55 b1 b2 b3 b4 w1 w2 w3 x h) 36893489246930731010000002 (a := h) rfl (by kernel_rfl) (by kernel_rfl) (by kernel_rfl : Ev.domS 36893489246930731010000002 = (some 1099511627777, none)) (show 1099511627777 ≤ h by omega) (trivial : True)
  have hr : Calls Try.prog 3 #[.agg #[.int .i64 6, .int .i64 (Ev.sgOf (sgPlanChecks_55 b1 b2 b3 b4 w1 w2 w3 x h) 0), .int .i64 (Ev.sgOf (sgPlanChecks_55 b1 b2 b3 b4 w1 w2 w3 x h) 1), .int .i64 (Ev.sgOf (sgPlanChecks_55 b1 b2 b3 b4 w1 w2 w3 x h) 2), .int .i64 (Ev.sgOf (sgPlanChecks_55 b1 b2 b3 b4 w1 w2 w3 x h) 3), .int .i64 (Ev.sgOf (sgPlanChecks_55 b1 b2 b3 b4 w1 w2 w3 x h) 4), .int .i64 (Ev.sgOf (sgPlanChecks_55 b1 b2 b3 b4 w1 w2 w3 x h) 5), .int .i64 (Ev.sgOf (sgPlanChecks_55 b1 b2 b3 b4 w1 w2 w3 x h) 6), .int .i64 (Ev.sgOf (sgPlanChecks_55 b1 b2 b3 b4 w1 w2 w3 x h) 2722259016497146122424359018585896517633000000), .int .i64 (Ev.sgOf (sgPlanChecks_55 b1 b2 b3 b4 w1 w2 w3 x h) 36893489246930731010000002)]] w fun e w' => e = .returned (.bool true) ∧ Below w.heap.size w w' := Ev.run_law (P := Try.prog) (by kernel_rfl) Ev.namesPlanChecks Ev.eqsPlanChecks ranPlanChecks_55 (by simp [argsPlanChecks_55, Ev.AV.bd]) (Ev.sgOf (sgPlanChecks_55 b1 b2 b3 b4 w1 w2 w3 x h)) (Ev.sgOf_ok _) w
  rw [eb1, eb2, eb3, eb4, ew1, ew2, ew3, ex, eh] at hr
  rw [hk]
  exact hr
def argsPlanChecks_56 : List Ev.AV := [.ag [.i .i64 6, .y .i64 0, .y .i64 1, .y .i64 2, .y .i64 3, .y .i64 4, .y .i64 5, .y .i64 6, .y .i64 2722259016497146122424359018585896517633001000, .y .i64 2722259016497146122424359018585896517633001001]]
set_option maxRecDepth 100000 in
theorem ranPlanChecks_56 : Ev.okB (Ev.callA Try.prog [3, 4, 32, 137] (Ev.lk Ev.planPlanChecks) 200 3 argsPlanChecks_56 ⟨0, .e⟩) = true := by kernel_rfl
def sgPlanChecks_56 (b1 b2 b3 b4 w1 w2 w3 x h : Int) (j : Nat) : Int := match Nat.beq j 0 with
  | true => b1
  | false => match Nat.beq j 1 with
  | true => b2
  | false => match Nat.beq j 2 with
  | true => b3
  | false => match Nat.beq j 3 with
  | true => b4
  | false => match Nat.beq j 4 with
  | true => w1
  | false => match Nat.beq j 5 with
  | true => w2
  | false => match Nat.beq j 6 with
  | true => w3
  | false => match Nat.beq j 2722259016497146122424359018585896517633001000 with
  | true => x
  | false => match Nat.beq j 2722259016497146122424359018585896517633001001 with
  | true => h
  | false => 0
theorem leafPlanChecks_56 (k b1 b2 b3 b4 w1 w2 w3 x h : Int) (w : World) (hk : k = 6) (lx : (-1099511627776) ≤ x) (ux : x ≤ 1099511627776) (lh : (-1099511627776) ≤ h) (uh : h ≤ 1099511627776) (gxh : x < h) : Calls Try.prog 3 #[.agg #[.int .i64 k, .int .i64 b1, .int .i64 b2, .int .i64 b3, .int .i64 b4, .int .i64 w1, .int .i64 w2, .int .i64 w3, .int .i64 x, .int .i64 h]] w fun e w' => e = .returned (.bool true) ∧ Below w.heap.size w w' := by
  have ex := Ev.sgOf_two (f := sgPlanChecks_56 b1 b2 b3 b4 w1 w2 w3 x h) 2722259016497146122424359018585896517633001000 2722259016497146122424359018585896517633001001 rfl (a := x) (b := h) rfl rfl (by kernel_rfl) (by kernel_rfl : Ev.domS 2722259016497146122424359018585896517633001000 = (some (-1099511627776), some 1099511627776)) (show (-1099511627776) ≤ x by omega) (show x ≤ 1099511627776 by omega) (show (-1099511627776) ≤ h by omega) (show h ≤ 1099511627776 by omega) (by omega)
  have eb1 := Ev.sgOf_at (f := sgPlanChecks_56 b1 b2 b3 b4 w1 w2 w3 x h) 0 (a := b1) rfl (by kernel_rfl) (by kernel_rfl) (by kernel_rfl : Ev.domS 0 = (none, none)) (trivial : True) (trivial : True)
  have eb2 := Ev.sgOf_at (f := sgPlanChecks_56 b1 b2 b3 b4 w1 w2 w3 x h) 1 (a := b2) rfl (by kernel_rfl) (by kernel_rfl) (by kernel_rfl : Ev.domS 1 = (none, none)) (trivial : True) (trivial : True)
  have eb3 := Ev.sgOf_at (f := sgPlanChecks_56 b1 b2 b3 b4 w1 w2 w3 x h) 2 (a := b3) rfl (by kernel_rfl) (by kernel_rfl) (by kernel_rfl : Ev.domS 2 = (none, none)) (trivial : True) (trivial : True)
  have eb4 := Ev.sgOf_at (f := sgPlanChecks_56 b1 b2 b3 b4 w1 w2 w3 x h) 3 (a := b4) rfl (by kernel_rfl) (by kernel_rfl) (by kernel_rfl : Ev.domS 3 = (none, none)) (trivial : True) (trivial : True)
  have ew1 := Ev.sgOf_at (f := sgPlanChecks_56 b1 b2 b3 b4 w1 w2 w3 x h) 4 (a := w1) rfl (by kernel_rfl) (by kernel_rfl) (by kernel_rfl : Ev.domS 4 = (none, none)) (trivial : True) (trivial : True)
  have ew2 := Ev.sgOf_at (f := sgPlanChecks_56 b1 b2 b3 b4 w1 w2 w3 x h) 5 (a := w2) rfl (by kernel_rfl) (by kernel_rfl) (by kernel_rfl : Ev.domS 5 = (none, none)) (trivial : True) (trivial : True)
  have ew3 := Ev.sgOf_at (f := sgPlanChecks_56 b1 b2 b3 b4 w1 w2 w3 x h) 6 (a := w3) rfl (by kernel_rfl) (by kernel_rfl) (by kernel_rfl : Ev.domS 6 = (none, none)) (trivial : True) (trivial : True)
  have hr : Calls Try.prog 3 #[.agg #[.int .i64 6, .int .i64 (Ev.sgOf (sgPlanChecks_56 b1 b2 b3 b4 w1 w2 w3 x h) 0), .int .i64 (Ev.sgOf (sgPlanChecks_56 b1 b2 b3 b4 w1 w2 w3 x h) 1), .int .i64 (Ev.sgOf (sgPlanChecks_56 b1 b2 b3 b4 w1 w2 w3 x h) 2), .int .i64 (Ev.sgOf (sgPlanChecks_56 b1 b2 b3 b4 w1 w2 w3 x h) 3), .int .i64 (Ev.sgOf (sgPlanChecks_56 b1 b2 b3 b4 w1 w2 w3 x h) 4), .int .i64 (Ev.sgOf (sgPlanChecks_56 b1 b2 b3 b4 w1 w2 w3 x h) 5), .int .i64 (Ev.sgOf (sgPlanChecks_56 b1 b2 b3 b4 w1 w2 w3 x h) 6), .int .i64 (Ev.sgOf (sgPlanChecks_56 b1 b2 b3 b4 w1 w2 w3 x h) 2722259016497146122424359018585896517633001000), .int .i64 (Ev.sgOf (sgPlanChecks_56 b1 b2 b3 b4 w1 w2 w3 x h) 2722259016497146122424359018585896517633001001)]] w fun e w' => e = .returned (.bool true) ∧ Below w.heap.size w w' := Ev.run_law (P := Try.prog) (by kernel_rfl) Ev.namesPlanChecks Ev.eqsPlanChecks ranPlanChecks_56 (by simp [argsPlanChecks_56, Ev.AV.bd]) (Ev.sgOf (sgPlanChecks_56 b1 b2 b3 b4 w1 w2 w3 x h)) (Ev.sgOf_ok _) w
  rw [ex.1, ex.2, eb1, eb2, eb3, eb4, ew1, ew2, ew3] at hr
  rw [hk]
  exact hr
def argsPlanChecks_57 : List Ev.AV := [.ag [.i .i64 6, .y .i64 0, .y .i64 1, .y .i64 2, .y .i64 3, .y .i64 4, .y .i64 5, .y .i64 6, .y .i64 2722259016497146122424359018585896517633000000, .y .i64 2722259016497146122424359018585896517633000000]]
set_option maxRecDepth 100000 in
theorem ranPlanChecks_57 : Ev.okB (Ev.callA Try.prog [3, 4, 32, 137] (Ev.lk Ev.planPlanChecks) 200 3 argsPlanChecks_57 ⟨0, .e⟩) = true := by kernel_rfl
def sgPlanChecks_57 (b1 b2 b3 b4 w1 w2 w3 x : Int) (j : Nat) : Int := match Nat.beq j 0 with
  | true => b1
  | false => match Nat.beq j 1 with
  | true => b2
  | false => match Nat.beq j 2 with
  | true => b3
  | false => match Nat.beq j 3 with
  | true => b4
  | false => match Nat.beq j 4 with
  | true => w1
  | false => match Nat.beq j 5 with
  | true => w2
  | false => match Nat.beq j 6 with
  | true => w3
  | false => match Nat.beq j 2722259016497146122424359018585896517633000000 with
  | true => x
  | false => 0
theorem leafPlanChecks_57 (k b1 b2 b3 b4 w1 w2 w3 x h : Int) (w : World) (hk : k = 6) (lx : (-1099511627776) ≤ x) (ux : x ≤ 1099511627776) (lh : (-1099511627776) ≤ h) (uh : h ≤ 1099511627776) (qh : h = x) : Calls Try.prog 3 #[.agg #[.int .i64 k, .int .i64 b1, .int .i64 b2, .int .i64 b3, .int .i64 b4, .int .i64 w1, .int .i64 w2, .int .i64 w3, .int .i64 x, .int .i64 h]] w fun e w' => e = .returned (.bool true) ∧ Below w.heap.size w w' := by
  have eb1 := Ev.sgOf_at (f := sgPlanChecks_57 b1 b2 b3 b4 w1 w2 w3 x) 0 (a := b1) rfl (by kernel_rfl) (by kernel_rfl) (by kernel_rfl : Ev.domS 0 = (none, none)) (trivial : True) (trivial : True)
  have eb2 := Ev.sgOf_at (f := sgPlanChecks_57 b1 b2 b3 b4 w1 w2 w3 x) 1 (a := b2) rfl (by kernel_rfl) (by kernel_rfl) (by kernel_rfl : Ev.domS 1 = (none, none)) (trivial : True) (trivial : True)
  have eb3 := Ev.sgOf_at (f := sgPlanChecks_57 b1 b2 b3 b4 w1 w2 w3 x) 2 (a := b3) rfl (by kernel_rfl) (by kernel_rfl) (by kernel_rfl : Ev.domS 2 = (none, none)) (trivial : True) (trivial : True)
  have eb4 := Ev.sgOf_at (f := sgPlanChecks_57 b1 b2 b3 b4 w1 w2 w3 x) 3 (a := b4) rfl (by kernel_rfl) (by kernel_rfl) (by kernel_rfl : Ev.domS 3 = (none, none)) (trivial : True) (trivial : True)
  have ew1 := Ev.sgOf_at (f := sgPlanChecks_57 b1 b2 b3 b4 w1 w2 w3 x) 4 (a := w1) rfl (by kernel_rfl) (by kernel_rfl) (by kernel_rfl : Ev.domS 4 = (none, none)) (trivial : True) (trivial : True)
  have ew2 := Ev.sgOf_at (f := sgPlanChecks_57 b1 b2 b3 b4 w1 w2 w3 x) 5 (a := w2) rfl (by kernel_rfl) (by kernel_rfl) (by kernel_rfl : Ev.domS 5 = (none, none)) (trivial : True) (trivial : True)
  have ew3 := Ev.sgOf_at (f := sgPlanChecks_57 b1 b2 b3 b4 w1 w2 w3 x) 6 (a := w3) rfl (by kernel_rfl) (by kernel_rfl) (by kernel_rfl : Ev.domS 6 = (none, none)) (trivial : True) (trivial : True)
  have ex := Ev.sgOf_at (f := sgPlanChecks_57 b1 b2 b3 b4 w1 w2 w3 x) 2722259016497146122424359018585896517633000000 (a := x) rfl (by kernel_rfl) (by kernel_rfl) (by kernel_rfl : Ev.domS 2722259016497146122424359018585896517633000000 = (some (-1099511627776), some 1099511627776)) (show (-1099511627776) ≤ x by omega) (show x ≤ 1099511627776 by omega)
  have hr : Calls Try.prog 3 #[.agg #[.int .i64 6, .int .i64 (Ev.sgOf (sgPlanChecks_57 b1 b2 b3 b4 w1 w2 w3 x) 0), .int .i64 (Ev.sgOf (sgPlanChecks_57 b1 b2 b3 b4 w1 w2 w3 x) 1), .int .i64 (Ev.sgOf (sgPlanChecks_57 b1 b2 b3 b4 w1 w2 w3 x) 2), .int .i64 (Ev.sgOf (sgPlanChecks_57 b1 b2 b3 b4 w1 w2 w3 x) 3), .int .i64 (Ev.sgOf (sgPlanChecks_57 b1 b2 b3 b4 w1 w2 w3 x) 4), .int .i64 (Ev.sgOf (sgPlanChecks_57 b1 b2 b3 b4 w1 w2 w3 x) 5), .int .i64 (Ev.sgOf (sgPlanChecks_57 b1 b2 b3 b4 w1 w2 w3 x) 6), .int .i64 (Ev.sgOf (sgPlanChecks_57 b1 b2 b3 b4 w1 w2 w3 x) 2722259016497146122424359018585896517633000000), .int .i64 (Ev.sgOf (sgPlanChecks_57 b1 b2 b3 b4 w1 w2 w3 x) 2722259016497146122424359018585896517633000000)]] w fun e w' => e = .returned (.bool true) ∧ Below w.heap.size w w' := Ev.run_law (P := Try.prog) (by kernel_rfl) Ev.namesPlanChecks Ev.eqsPlanChecks ranPlanChecks_57 (by simp [argsPlanChecks_57, Ev.AV.bd]) (Ev.sgOf (sgPlanChecks_57 b1 b2 b3 b4 w1 w2 w3 x)) (Ev.sgOf_ok _) w
  rw [eb1, eb2, eb3, eb4, ew1, ew2, ew3, ex] at hr
  rw [qh, hk]
  exact hr
def argsPlanChecks_58 : List Ev.AV := [.ag [.i .i64 6, .y .i64 0, .y .i64 1, .y .i64 2, .y .i64 3, .y .i64 4, .y .i64 5, .y .i64 6, .y .i64 2722259016497146122424359018585896517633001001, .y .i64 2722259016497146122424359018585896517633001000]]
set_option maxRecDepth 100000 in
theorem ranPlanChecks_58 : Ev.okB (Ev.callA Try.prog [3, 4, 32, 137] (Ev.lk Ev.planPlanChecks) 200 3 argsPlanChecks_58 ⟨0, .e⟩) = true := by kernel_rfl
def sgPlanChecks_58 (b1 b2 b3 b4 w1 w2 w3 x h : Int) (j : Nat) : Int := match Nat.beq j 0 with
  | true => b1
  | false => match Nat.beq j 1 with
  | true => b2
  | false => match Nat.beq j 2 with
  | true => b3
  | false => match Nat.beq j 3 with
  | true => b4
  | false => match Nat.beq j 4 with
  | true => w1
  | false => match Nat.beq j 5 with
  | true => w2
  | false => match Nat.beq j 6 with
  | true => w3
  | false => match Nat.beq j 2722259016497146122424359018585896517633001001 with
  | true => x
  | false => match Nat.beq j 2722259016497146122424359018585896517633001000 with
  | true => h
  | false => 0
theorem leafPlanChecks_58 (k b1 b2 b3 b4 w1 w2 w3 x h : Int) (w : World) (hk : k = 6) (lx : (-1099511627776) ≤ x) (ux : x ≤ 1099511627776) (lh : (-1099511627776) ≤ h) (uh : h ≤ 1099511627776) (ghx : h < x) : Calls Try.prog 3 #[.agg #[.int .i64 k, .int .i64 b1, .int .i64 b2, .int .i64 b3, .int .i64 b4, .int .i64 w1, .int .i64 w2, .int .i64 w3, .int .i64 x, .int .i64 h]] w fun e w' => e = .returned (.bool true) ∧ Below w.heap.size w w' := by
  have eh := Ev.sgOf_two (f := sgPlanChecks_58 b1 b2 b3 b4 w1 w2 w3 x h) 2722259016497146122424359018585896517633001000 2722259016497146122424359018585896517633001001 rfl (a := h) (b := x) rfl rfl (by kernel_rfl) (by kernel_rfl : Ev.domS 2722259016497146122424359018585896517633001000 = (some (-1099511627776), some 1099511627776)) (show (-1099511627776) ≤ h by omega) (show h ≤ 1099511627776 by omega) (show (-1099511627776) ≤ x by omega) (show x ≤ 1099511627776 by omega) (by omega)
  have eb1 := Ev.sgOf_at (f := sgPlanChecks_58 b1 b2 b3 b4 w1 w2 w3 x h) 0 (a := b1) rfl (by kernel_rfl) (by kernel_rfl) (by kernel_rfl : Ev.domS 0 = (none, none)) (trivial : True) (trivial : True)
  have eb2 := Ev.sgOf_at (f := sgPlanChecks_58 b1 b2 b3 b4 w1 w2 w3 x h) 1 (a := b2) rfl (by kernel_rfl) (by kernel_rfl) (by kernel_rfl : Ev.domS 1 = (none, none)) (trivial : True) (trivial : True)
  have eb3 := Ev.sgOf_at (f := sgPlanChecks_58 b1 b2 b3 b4 w1 w2 w3 x h) 2 (a := b3) rfl (by kernel_rfl) (by kernel_rfl) (by kernel_rfl : Ev.domS 2 = (none, none)) (trivial : True) (trivial : True)
  have eb4 := Ev.sgOf_at (f := sgPlanChecks_58 b1 b2 b3 b4 w1 w2 w3 x h) 3 (a := b4) rfl (by kernel_rfl) (by kernel_rfl) (by kernel_rfl : Ev.domS 3 = (none, none)) (trivial : True) (trivial : True)
  have ew1 := Ev.sgOf_at (f := sgPlanChecks_58 b1 b2 b3 b4 w1 w2 w3 x h) 4 (a := w1) rfl (by kernel_rfl) (by kernel_rfl) (by kernel_rfl : Ev.domS 4 = (none, none)) (trivial : True) (trivial : True)
  have ew2 := Ev.sgOf_at (f := sgPlanChecks_58 b1 b2 b3 b4 w1 w2 w3 x h) 5 (a := w2) rfl (by kernel_rfl) (by kernel_rfl) (by kernel_rfl : Ev.domS 5 = (none, none)) (trivial : True) (trivial : True)
  have ew3 := Ev.sgOf_at (f := sgPlanChecks_58 b1 b2 b3 b4 w1 w2 w3 x h) 6 (a := w3) rfl (by kernel_rfl) (by kernel_rfl) (by kernel_rfl : Ev.domS 6 = (none, none)) (trivial : True) (trivial : True)
  have hr : Calls Try.prog 3 #[.agg #[.int .i64 6, .int .i64 (Ev.sgOf (sgPlanChecks_58 b1 b2 b3 b4 w1 w2 w3 x h) 0), .int .i64 (Ev.sgOf (sgPlanChecks_58 b1 b2 b3 b4 w1 w2 w3 x h) 1), .int .i64 (Ev.sgOf (sgPlanChecks_58 b1 b2 b3 b4 w1 w2 w3 x h) 2), .int .i64 (Ev.sgOf (sgPlanChecks_58 b1 b2 b3 b4 w1 w2 w3 x h) 3), .int .i64 (Ev.sgOf (sgPlanChecks_58 b1 b2 b3 b4 w1 w2 w3 x h) 4), .int .i64 (Ev.sgOf (sgPlanChecks_58 b1 b2 b3 b4 w1 w2 w3 x h) 5), .int .i64 (Ev.sgOf (sgPlanChecks_58 b1 b2 b3 b4 w1 w2 w3 x h) 6), .int .i64 (Ev.sgOf (sgPlanChecks_58 b1 b2 b3 b4 w1 w2 w3 x h) 2722259016497146122424359018585896517633001001), .int .i64 (Ev.sgOf (sgPlanChecks_58 b1 b2 b3 b4 w1 w2 w3 x h) 2722259016497146122424359018585896517633001000)]] w fun e w' => e = .returned (.bool true) ∧ Below w.heap.size w w' := Ev.run_law (P := Try.prog) (by kernel_rfl) Ev.namesPlanChecks Ev.eqsPlanChecks ranPlanChecks_58 (by simp [argsPlanChecks_58, Ev.AV.bd]) (Ev.sgOf (sgPlanChecks_58 b1 b2 b3 b4 w1 w2 w3 x h)) (Ev.sgOf_ok _) w
  rw [eh.1, eh.2, eb1, eb2, eb3, eb4, ew1, ew2, ew3] at hr
  rw [hk]
  exact hr
def argsPlanChecks_59 : List Ev.AV := [.ag [.i .i64 7, .y .i64 0, .y .i64 1, .y .i64 2, .y .i64 3, .y .i64 4, .y .i64 5, .y .i64 6, .y .i64 2722258854237869293100315163665140547584000000, .y .i64 7]]
set_option maxRecDepth 100000 in
theorem ranPlanChecks_59 : Ev.okB (Ev.callA Try.prog [3, 4, 32, 137] (Ev.lk Ev.planPlanChecks) 200 3 argsPlanChecks_59 ⟨0, .e⟩) = true := by kernel_rfl
def sgPlanChecks_59 (b1 b2 b3 b4 w1 w2 w3 x h : Int) (j : Nat) : Int := match Nat.beq j 0 with
  | true => b1
  | false => match Nat.beq j 1 with
  | true => b2
  | false => match Nat.beq j 2 with
  | true => b3
  | false => match Nat.beq j 3 with
  | true => b4
  | false => match Nat.beq j 4 with
  | true => w1
  | false => match Nat.beq j 5 with
  | true => w2
  | false => match Nat.beq j 6 with
  | true => w3
  | false => match Nat.beq j 2722258854237869293100315163665140547584000000 with
  | true => x
  | false => match Nat.beq j 7 with
  | true => h
  | false => 0
theorem leafPlanChecks_59 (k b1 b2 b3 b4 w1 w2 w3 x h : Int) (w : World) (hk : k = 7) (ux : x ≤ (-1099511627777)) : Calls Try.prog 3 #[.agg #[.int .i64 k, .int .i64 b1, .int .i64 b2, .int .i64 b3, .int .i64 b4, .int .i64 w1, .int .i64 w2, .int .i64 w3, .int .i64 x, .int .i64 h]] w fun e w' => e = .returned (.bool true) ∧ Below w.heap.size w w' := by
  have eb1 := Ev.sgOf_at (f := sgPlanChecks_59 b1 b2 b3 b4 w1 w2 w3 x h) 0 (a := b1) rfl (by kernel_rfl) (by kernel_rfl) (by kernel_rfl : Ev.domS 0 = (none, none)) (trivial : True) (trivial : True)
  have eb2 := Ev.sgOf_at (f := sgPlanChecks_59 b1 b2 b3 b4 w1 w2 w3 x h) 1 (a := b2) rfl (by kernel_rfl) (by kernel_rfl) (by kernel_rfl : Ev.domS 1 = (none, none)) (trivial : True) (trivial : True)
  have eb3 := Ev.sgOf_at (f := sgPlanChecks_59 b1 b2 b3 b4 w1 w2 w3 x h) 2 (a := b3) rfl (by kernel_rfl) (by kernel_rfl) (by kernel_rfl : Ev.domS 2 = (none, none)) (trivial : True) (trivial : True)
  have eb4 := Ev.sgOf_at (f := sgPlanChecks_59 b1 b2 b3 b4 w1 w2 w3 x h) 3 (a := b4) rfl (by kernel_rfl) (by kernel_rfl) (by kernel_rfl : Ev.domS 3 = (none, none)) (trivial : True) (trivial : True)
  have ew1 := Ev.sgOf_at (f := sgPlanChecks_59 b1 b2 b3 b4 w1 w2 w3 x h) 4 (a := w1) rfl (by kernel_rfl) (by kernel_rfl) (by kernel_rfl : Ev.domS 4 = (none, none)) (trivial : True) (trivial : True)
  have ew2 := Ev.sgOf_at (f := sgPlanChecks_59 b1 b2 b3 b4 w1 w2 w3 x h) 5 (a := w2) rfl (by kernel_rfl) (by kernel_rfl) (by kernel_rfl : Ev.domS 5 = (none, none)) (trivial : True) (trivial : True)
  have ew3 := Ev.sgOf_at (f := sgPlanChecks_59 b1 b2 b3 b4 w1 w2 w3 x h) 6 (a := w3) rfl (by kernel_rfl) (by kernel_rfl) (by kernel_rfl : Ev.domS 6 = (none, none)) (trivial : True) (trivial : True)
  have ex := Ev.sgOf_at (f := sgPlanChecks_59 b1 b2 b3 b4 w1 w2 w3 x h) 2722258854237869293100315163665140547584000000 (a := x) rfl (by kernel_rfl) (by kernel_rfl) (by kernel_rfl : Ev.domS 2722258854237869293100315163665140547584000000 = (none, some (-1099511627777))) (trivial : True) (show x ≤ (-1099511627777) by omega)
  have eh := Ev.sgOf_at (f := sgPlanChecks_59 b1 b2 b3 b4 w1 w2 w3 x h) 7 (a := h) rfl (by kernel_rfl) (by kernel_rfl) (by kernel_rfl : Ev.domS 7 = (none, none)) (trivial : True) (trivial : True)
  have hr : Calls Try.prog 3 #[.agg #[.int .i64 7, .int .i64 (Ev.sgOf (sgPlanChecks_59 b1 b2 b3 b4 w1 w2 w3 x h) 0), .int .i64 (Ev.sgOf (sgPlanChecks_59 b1 b2 b3 b4 w1 w2 w3 x h) 1), .int .i64 (Ev.sgOf (sgPlanChecks_59 b1 b2 b3 b4 w1 w2 w3 x h) 2), .int .i64 (Ev.sgOf (sgPlanChecks_59 b1 b2 b3 b4 w1 w2 w3 x h) 3), .int .i64 (Ev.sgOf (sgPlanChecks_59 b1 b2 b3 b4 w1 w2 w3 x h) 4), .int .i64 (Ev.sgOf (sgPlanChecks_59 b1 b2 b3 b4 w1 w2 w3 x h) 5), .int .i64 (Ev.sgOf (sgPlanChecks_59 b1 b2 b3 b4 w1 w2 w3 x h) 6), .int .i64 (Ev.sgOf (sgPlanChecks_59 b1 b2 b3 b4 w1 w2 w3 x h) 2722258854237869293100315163665140547584000000), .int .i64 (Ev.sgOf (sgPlanChecks_59 b1 b2 b3 b4 w1 w2 w3 x h) 7)]] w fun e w' => e = .returned (.bool true) ∧ Below w.heap.size w w' := Ev.run_law (P := Try.prog) (by kernel_rfl) Ev.namesPlanChecks Ev.eqsPlanChecks ranPlanChecks_59 (by simp [argsPlanChecks_59, Ev.AV.bd]) (Ev.sgOf (sgPlanChecks_59 b1 b2 b3 b4 w1 w2 w3 x h)) (Ev.sgOf_ok _) w
  rw [eb1, eb2, eb3, eb4, ew1, ew2, ew3, ex, eh] at hr
  rw [hk]
  exact hr
end Go.Proofs.Ytencgokpbfkeiaa
