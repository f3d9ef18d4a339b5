/- 'alidadelaw25.PlanChecks' comes out true: cases 36 to 47. -/
import Derived.Test.YtencgokpbfkeiaaPPlanChecks
import Derived.WalkKit
set_option linter.unusedVariables false
namespace Go.Proofs.Ytencgokpbfkeiaa
open Go Go.RowKit
def argsPlanChecks_36 : List Ev.AV := [.ag [.i .i64 3, .y .i64 0, .y .i64 1, .y .i64 2, .y .i64 3, .y .i64 2722259016497146122424359018585896517633000000, .y .i64 2722259016497146122424359018585896517633000002, .y .i64 36893489246930731010000004, .y .i64 4, .y .i64 5]]
set_option maxRecDepth 100000 in
theorem ranPlanChecks_36 : Ev.okB (Ev.callA Try.prog [3, 4, 32, 137] (Ev.lk Ev.planPlanChecks) 200 3 argsPlanChecks_36 ⟨0, .e⟩) = true := by kernel_rfl
def sgPlanChecks_36 (b1 b2 b3 b4 w1 w2 w3 x h : Int) (j : Nat) : Int := match Nat.beq j 0 with
  | true => b1
  | false => match Nat.beq j 1 with
  | true => b2
  | false => match Nat.beq j 2 with
  | true => b3
  | false => match Nat.beq j 3 with
  | true => b4
  | false => match Nat.beq j 2722259016497146122424359018585896517633000000 with
  | true => w1
  | false => match Nat.beq j 2722259016497146122424359018585896517633000002 with
  | true => w2
  | false => match Nat.beq j 36893489246930731010000004 with
  | true => w3
  | false => match Nat.beq j 4 with
  | true => x
  | false => match Nat.beq j 5 with
  | true => h
  | false => 0
theorem leafPlanChecks_36 (k b1 b2 b3 b4 w1 w2 w3 x h : Int) (w : World) (hk : k = 3) (lw1 : (-1099511627776) ≤ w1) (uw1 : w1 ≤ 1099511627776) (lw2 : (-1099511627776) ≤ w2) (uw2 : w2 ≤ 1099511627776) (lw3 : 1099511627777 ≤ w3) : Calls Try.prog 3 #[.agg #[.int .i64 k, .int .i64 b1, .int .i64 b2, .int .i64 b3, .int .i64 b4, .int .i64 w1, .int .i64 w2, .int .i64 w3, .int .i64 x, .int .i64 h]] w fun e w' => e = .returned (.bool true) ∧ Below w.heap.size w w' := by
  have eb1 := Ev.sgOf_at (f := sgPlanChecks_36 b1 b2 b3 b4 w1 w2 w3 x h) 0 (a := b1) rfl (by kernel_rfl) (by kernel_rfl) (by kernel_rfl : Ev.domS 0 = (none, none)) (trivial : True) (trivial : True)
  have eb2 := Ev.sgOf_at (f := sgPlanChecks_36 b1 b2 b3 b4 w1 w2 w3 x h) 1 (a := b2) rfl (by kernel_rfl) (by kernel_rfl) (by kernel_rfl : Ev.domS 1 = (none, none)) (trivial : True) (trivial : True)
  have eb3 := Ev.sgOf_at (f := sgPlanChecks_36 b1 b2 b3 b4 w1 w2 w3 x h) 2 (a := b3) rfl (by kernel_rfl) (by kernel_rfl) (by kernel_rfl : Ev.domS 2 = (none, none)) (trivial : True) (trivial : True)
  have eb4 := Ev.sgOf_at (f := sgPlanChecks_36 b1 b2 b3 b4 w1 w2 w3 x h) 3 (a := b4) rfl (by kernel_rfl) (by kernel_rfl) (by kernel_rfl : Ev.domS 3 = (none, none)) (trivial : True) (trivial : True)
  have ew1 := Ev.sgOf_at (f := sgPlanChecks_36 b1 b2 b3 b4 w1 w2 w3 x h) 2722259016497146122424359018585896517633000000 (a := w1) rfl (by kernel_rfl) (by kernel_rfl) (by kernel_rfl : Ev.domS 2722259016497146122424359018585896517633000000 = (some (-1099511627776), some 1099511627776)) (show (-1099511627776) ≤ w1 by omega) (show w1 ≤ 1099511627776 by omega)
  have ew2 := Ev.sgOf_at (f := sgPlanChecks_36 b1 b2 b3 b4 w1 w2 w3 x h) 2722259016497146122424359018585896517633000002 (a := w2) rfl (by kernel_rfl) (by kernel_rfl) (by kernel_rfl : Ev.domS 2722259016497146122424359018585896517633000002 = (some (-1099511627776), some 1099511627776)) (show (-1099511627776) ≤ w2 by omega) (show w2 ≤ 1099511627776 by omega)
  have ew3 := Ev.sgOf_at (f := sgPlanChecks_36 b1 b2 b3 b4 w1 w2 w3 x h) 36893489246930731010000004 (a := w3) rfl (by kernel_rfl) (by kernel_rfl) (by kernel_rfl : Ev.domS 36893489246930731010000004 = (some 1099511627777, none)) (show 1099511627777 ≤ w3 by omega) (trivial : True)
  have ex := Ev.sgOf_at (f := sgPlanChecks_36 b1 b2 b3 b4 w1 w2 w3 x h) 4 (a := x) rfl (by kernel_rfl) (by kernel_rfl) (by kernel_rfl : Ev.domS 4 = (none, none)) (trivial : True) (trivial : True)
  have eh := Ev.sgOf_at (f := sgPlanChecks_36 b1 b2 b3 b4 w1 w2 w3 x h) 5 (a := h) rfl (by kernel_rfl) (by kernel_rfl) (by kernel_rfl : Ev.domS 5 = (none, none)) (trivial : True) (trivial : True)
  have hr : Calls Try.prog 3 #[.agg #[.int .i64 3, .int .i64 (Ev.sgOf (sgPlanChecks_36 b1 b2 b3 b4 w1 w2 w3 x h) 0), .int .i64 (Ev.sgOf (sgPlanChecks_36 b1 b2 b3 b4 w1 w2 w3 x h) 1), .int .i64 (Ev.sgOf (sgPlanChecks_36 b1 b2 b3 b4 w1 w2 w3 x h) 2), .int .i64 (Ev.sgOf (sgPlanChecks_36 b1 b2 b3 b4 w1 w2 w3 x h) 3), .int .i64 (Ev.sgOf (sgPlanChecks_36 b1 b2 b3 b4 w1 w2 w3 x h) 2722259016497146122424359018585896517633000000), .int .i64 (Ev.sgOf (sgPlanChecks_36 b1 b2 b3 b4 w1 w2 w3 x h) 2722259016497146122424359018585896517633000002), .int .i64 (Ev.sgOf (sgPlanChecks_36 b1 b2 b3 b4 w1 w2 w3 x h) 36893489246930731010000004), .int .i64 (Ev.sgOf (sgPlanChecks_36 b1 b2 b3 b4 w1 w2 w3 x h) 4), .int .i64 (Ev.sgOf (sgPlanChecks_36 b1 b2 b3 b4 w1 w2 w3 x h) 5)]] w fun e w' => e = .returned (.bool true) ∧ Below w.heap.size w w' := Ev.run_law (P := Try.prog) (by kernel_rfl) Ev.namesPlanChecks Ev.eqsPlanChecks ranPlanChecks_36 (by simp [argsPlanChecks_36, Ev.AV.bd]) (Ev.sgOf (sgPlanChecks_36 b1 b2 b3 b4 w1 w2 w3 x h)) (Ev.sgOf_ok _) w
  rw [eb1, eb2, eb3, eb4, ew1, ew2, ew3, ex, eh] at hr
  rw [hk]
  exact hr
def argsPlanChecks_37 : List Ev.AV := [.ag [.i .i64 3, .y .i64 0, .y .i64 1, .y .i64 2, .y .i64 3, .y .i64 2722259016497146122424359018585896517633001000, .y .i64 2722259016497146122424359018585896517633001001, .y .i64 2722259016497146122424359018585896517633000002, .y .i64 4, .y .i64 5]]
set_option maxRecDepth 100000 in
theorem ranPlanChecks_37 : Ev.okB (Ev.callA Try.prog [3, 4, 32, 137] (Ev.lk Ev.planPlanChecks) 200 3 argsPlanChecks_37 ⟨0, .e⟩) = true := by kernel_rfl
def sgPlanChecks_37 (b1 b2 b3 b4 w1 w2 w3 x h : Int) (j : Nat) : Int := match Nat.beq j 0 with
  | true => b1
  | false => match Nat.beq j 1 with
  | true => b2
  | false => match Nat.beq j 2 with
  | true => b3
  | false => match Nat.beq j 3 with
  | true => b4
  | false => match Nat.beq j 2722259016497146122424359018585896517633001000 with
  | true => w1
  | false => match Nat.beq j 2722259016497146122424359018585896517633001001 with
  | true => w2
  | false => match Nat.beq j 2722259016497146122424359018585896517633000002 with
  | true => w3
  | false => match Nat.beq j 4 with
  | true => x
  | false => match Nat.beq j 5 with
  | true => h
  | false => 0
theorem leafPlanChecks_37 (k b1 b2 b3 b4 w1 w2 w3 x h : Int) (w : World) (hk : k = 3) (lw1 : (-1099511627776) ≤ w1) (uw1 : w1 ≤ 1099511627776) (lw2 : (-1099511627776) ≤ w2) (uw2 : w2 ≤ 1099511627776) (lw3 : (-1099511627776) ≤ w3) (uw3 : w3 ≤ 1099511627776) (gw1w2 : w1 < w2) : Calls Try.prog 3 #[.agg #[.int .i64 k, .int .i64 b1, .int .i64 b2, .int .i64 b3, .int .i64 b4, .int .i64 w1, .int .i64 w2, .int .i64 w3, .int .i64 x, .int .i64 h]] w fun e w' => e = .returned (.bool true) ∧ Below w.heap.size w w' := by
  have ew1 := Ev.sgOf_two (f := sgPlanChecks_37 b1 b2 b3 b4 w1 w2 w3 x h) 2722259016497146122424359018585896517633001000 2722259016497146122424359018585896517633001001 rfl (a := w1) (b := w2) rfl rfl (by kernel_rfl) (by kernel_rfl : Ev.domS 2722259016497146122424359018585896517633001000 = (some (-1099511627776), some 1099511627776)) (show (-1099511627776) ≤ w1 by omega) (show w1 ≤ 1099511627776 by omega) (show (-1099511627776) ≤ w2 by omega) (show w2 ≤ 1099511627776 by omega) (by omega)
  have eb1 := Ev.sgOf_at (f := sgPlanChecks_37 b1 b2 b3 b4 w1 w2 w3 x h) 0 (a := b1) rfl (by kernel_rfl) (by kernel_rfl) (by kernel_rfl : Ev.domS 0 = (none, none)) (trivial : True) (trivial : True)
  have eb2 := Ev.sgOf_at (f := sgPlanChecks_37 b1 b2 b3 b4 w1 w2 w3 x h) 1 (a := b2) rfl (by kernel_rfl) (by kernel_rfl) (by kernel_rfl : Ev.domS 1 = (none, none)) (trivial : True) (trivial : True)
  have eb3 := Ev.sgOf_at (f := sgPlanChecks_37 b1 b2 b3 b4 w1 w2 w3 x h) 2 (a := b3) rfl (by kernel_rfl) (by kernel_rfl) (by kernel_rfl : Ev.domS 2 = (none, none)) (trivial : True) (trivial : True)
  have eb4 := Ev.sgOf_at (f := sgPlanChecks_37 b1 b2 b3 b4 w1 w2 w3 x h) 3 (a := b4) rfl (by kernel_rfl) (by kernel_rfl) (by kernel_rfl : Ev.domS 3 = (none, none)) (trivial : True) (trivial : True)
  have ew3 := Ev.sgOf_at (f := sgPlanChecks_37 b1 b2 b3 b4 w1 w2 w3 x h) 2722259016497146122424359018585896517633000002 (a := w3) rfl (by kernel_rfl) (by kernel_rfl) (by kernel_rfl : Ev.domS 2722259016497146122424359018585896517633000002 = (some (-1099511627776), some 1099511627776)) (show (-1099511627776) ≤ w3 by omega) (show w3 ≤ 1099511627776 by omega)
  have ex := Ev.sgOf_at (f := sgPlanChecks_37 b1 b2 b3 b4 w1 w2 w3 x h) 4 (a := x) rfl (by kernel_rfl) (by kernel_rfl) (by kernel_rfl : Ev.domS 4 = (none, none)) (trivial : True) (trivial : True)
  have eh := Ev.sgOf_at (f := sgPlanChecks_37 b1 b2 b3 b4 w1 w2 w3 x h) 5 (a := h) rfl (by kernel_rfl) (by kernel_rfl) (by kernel_rfl : Ev.domS 5 = (none, none)) (trivial : True) (trivial : True)
  have hr : Calls Try.prog 3 #[.agg #[.int .i64 3, .int .i64 (Ev.sgOf (sgPlanChecks_37 b1 b2 b3 b4 w1 w2 w3 x h) 0), .int .i64 (Ev.sgOf (sgPlanChecks_37 b1 b2 b3 b4 w1 w2 w3 x h) 1), .int .i64 (Ev.sgOf (sgPlanChecks_37 b1 b2 b3 b4 w1 w2 w3 x h) 2), .int .i64 (Ev.sgOf (sgPlanChecks_37 b1 b2 b3 b4 w1 w2 w3 x h) 3), .int .i64 (Ev.sgOf (sgPlanChecks_37 b1 b2 b3 b4 w1 w2 w3 x h) 2722259016497146122424359018585896517633001000), .int .i64 (Ev.sgOf (sgPlanChecks_37 b1 b2 b3 b4 w1 w2 w3 x h) 2722259016497146122424359018585896517633001001), .int .i64 (Ev.sgOf (sgPlanChecks_37 b1 b2 b3 b4 w1 w2 w3 x h) 2722259016497146122424359018585896517633000002), .int .i64 (Ev.sgOf (sgPlanChecks_37 b1 b2 b3 b4 w1 w2 w3 x h) 4), .int .i64 (Ev.sgOf (sgPlanChecks_37 b1 b2 b3 b4 w1 w2 w3 x h) 5)]] w fun e w' => e = .returned (.bool true) ∧ Below w.heap.size w w' := Ev.run_law (P := Try.prog) (by kernel_rfl) Ev.namesPlanChecks Ev.eqsPlanChecks ranPlanChecks_37 (by simp [argsPlanChecks_37, Ev.AV.bd]) (Ev.sgOf (sgPlanChecks_37 b1 b2 b3 b4 w1 w2 w3 x h)) (Ev.sgOf_ok _) w
  rw [ew1.1, ew1.2, eb1, eb2, eb3, eb4, ew3, ex, eh] at hr
  rw [hk]
  exact hr
def argsPlanChecks_38 : List Ev.AV := [.ag [.i .i64 3, .y .i64 0, .y .i64 1, .y .i64 2, .y .i64 3, .y .i64 2722259016497146122424359018585896517633000000, .y .i64 2722259016497146122424359018585896517633000000, .y .i64 2722259016497146122424359018585896517633000002, .y .i64 4, .y .i64 5]]
set_option maxRecDepth 100000 in
theorem ranPlanChecks_38 : Ev.okB (Ev.callA Try.prog [3, 4, 32, 137] (Ev.lk Ev.planPlanChecks) 200 3 argsPlanChecks_38 ⟨0, .e⟩) = true := by kernel_rfl
def sgPlanChecks_38 (b1 b2 b3 b4 w1 w3 x h : Int) (j : Nat) : Int := match Nat.beq j 0 with
  | true => b1
  | false => match Nat.beq j 1 with
  | true => b2
  | false => match Nat.beq j 2 with
  | true => b3
  | false => match Nat.beq j 3 with
  | true => b4
  | false => match Nat.beq j 2722259016497146122424359018585896517633000000 with
  | true => w1
  | false => match Nat.beq j 2722259016497146122424359018585896517633000002 with
  | true => w3
  | false => match Nat.beq j 4 with
  | true => x
  | false => match Nat.beq j 5 with
  | true => h
  | false => 0
theorem leafPlanChecks_38 (k b1 b2 b3 b4 w1 w2 w3 x h : Int) (w : World) (hk : k = 3) (lw1 : (-1099511627776) ≤ w1) (uw1 : w1 ≤ 1099511627776) (lw2 : (-1099511627776) ≤ w2) (uw2 : w2 ≤ 1099511627776) (lw3 : (-1099511627776) ≤ w3) (uw3 : w3 ≤ 1099511627776) (qw2 : w2 = w1) : Calls Try.prog 3 #[.agg #[.int .i64 k, .int .i64 b1, .int .i64 b2, .int .i64 b3, .int .i64 b4, .int .i64 w1, .int .i64 w2, .int .i64 w3, .int .i64 x, .int .i64 h]] w fun e w' => e = .returned (.bool true) ∧ Below w.heap.size w w' := by
  have eb1 := Ev.sgOf_at (f := sgPlanChecks_38 b1 b2 b3 b4 w1 w3 x h) 0 (a := b1) rfl (by kernel_rfl) (by kernel_rfl) (by kernel_rfl : Ev.domS 0 = (none, none)) (trivial : True) (trivial : True)
  have eb2 := Ev.sgOf_at (f := sgPlanChecks_38 b1 b2 b3 b4 w1 w3 x h) 1 (a := b2) rfl (by kernel_rfl) (by kernel_rfl) (by kernel_rfl : Ev.domS 1 = (none, none)) (trivial : True) (trivial : True)
  have eb3 := Ev.sgOf_at (f := sgPlanChecks_38 b1 b2 b3 b4 w1 w3 x h) 2 (a := b3) rfl (by kernel_rfl) (by kernel_rfl) (by kernel_rfl : Ev.domS 2 = (none, none)) (trivial : True) (trivial : True)
  have eb4 := Ev.sgOf_at (f := sgPlanChecks_38 b1 b2 b3 b4 w1 w3 x h) 3 (a := b4) rfl (by kernel_rfl) (by kernel_rfl) (by kernel_rfl : Ev.domS 3 = (none, none)) (trivial : True) (trivial : True)
  have ew1 := Ev.sgOf_at (f := sgPlanChecks_38 b1 b2 b3 b4 w1 w3 x h) 2722259016497146122424359018585896517633000000 (a := w1) rfl (by kernel_rfl) (by kernel_rfl) (by kernel_rfl : Ev.domS 2722259016497146122424359018585896517633000000 = (some (-1099511627776), some 1099511627776)) (show (-1099511627776) ≤ w1 by omega) (show w1 ≤ 1099511627776 by omega)
  have ew3 := Ev.sgOf_at (f := sgPlanChecks_38 b1 b2 b3 b4 w1 w3 x h) 2722259016497146122424359018585896517633000002 (a := w3) rfl (by kernel_rfl) (by kernel_rfl) (by kernel_rfl : Ev.domS 2722259016497146122424359018585896517633000002 = (some (-1099511627776), some 1099511627776)) (show (-1099511627776) ≤ w3 by omega) (show w3 ≤ 1099511627776 by omega)
  have ex := Ev.sgOf_at (f := sgPlanChecks_38 b1 b2 b3 b4 w1 w3 x h) 4 (a := x) rfl (by kernel_rfl) (by kernel_rfl) (by kernel_rfl : Ev.domS 4 = (none, none)) (trivial : True) (trivial : True)
  have eh := Ev.sgOf_at (f := sgPlanChecks_38 b1 b2 b3 b4 w1 w3 x h) 5 (a := h) rfl (by kernel_rfl) (by kernel_rfl) (by kernel_rfl : Ev.domS 5 = (none, none)) (trivial : True) (trivial : True)
  have hr : Calls Try.prog 3 #[.agg #[.int .i64 3, .int .i64 (Ev.sgOf (sgPlanChecks_38 b1 b2 b3 b4 w1 w3 x h) 0), .int .i64 (Ev.sgOf (sgPlanChecks_38 b1 b2 b3 b4 w1 w3 x h) 1), .int .i64 (Ev.sgOf (sgPlanChecks_38 b1 b2 b3 b4 w1 w3 x h) 2), .int .i64 (Ev.sgOf (sgPlanChecks_38 b1 b2 b3 b4 w1 w3 x h) 3), .int .i64 (Ev.sgOf (sgPlanChecks_38 b1 b2 b3 b4 w1 w3 x h) 2722259016497146122424359018585896517633000000), .int .i64 (Ev.sgOf (sgPlanChecks_38 b1 b2 b3 b4 w1 w3 x h) 2722259016497146122424359018585896517633000000), .int .i64 (Ev.sgOf (sgPlanChecks_38 b1 b2 b3 b4 w1 w3 x h) 2722259016497146122424359018585896517633000002), .int .i64 (Ev.sgOf (sgPlanChecks_38 b1 b2 b3 b4 w1 w3 x h) 4), .int .i64 (Ev.sgOf (sgPlanChecks_38 b1 b2 b3 b4 w1 w3 x h) 5)]] w fun e w' => e = .returned (.bool true) ∧ Below w.heap.size w w' := Ev.run_law (P := Try.prog) (by kernel_rfl) Ev.namesPlanChecks Ev.eqsPlanChecks ranPlanChecks_38 (by simp [argsPlanChecks_38, Ev.AV.bd]) (Ev.sgOf (sgPlanChecks_38 b1 b2 b3 b4 w1 w3 x h)) (Ev.sgOf_ok _) w
  rw [eb1, eb2, eb3, eb4, ew1, ew3, ex, eh] at hr
  rw [qw2, hk]
  exact hr
def argsPlanChecks_39 : List Ev.AV := [.ag [.i .i64 3, .y .i64 0, .y .i64 1, .y .i64 2, .y .i64 3, .y .i64 2722259016497146122424359018585896517633001001, .y .i64 2722259016497146122424359018585896517633001000, .y .i64 2722259016497146122424359018585896517633000002, .y .i64 4, .y .i64 5]]
set_option maxRecDepth 100000 in
theorem ranPlanChecks_39 : Ev.okB (Ev.callA Try.prog [3, 4, 32, 137] (Ev.lk Ev.planPlanChecks) 200 3 argsPlanChecks_39 ⟨0, .e⟩) = true := by kernel_rfl
def sgPlanChecks_39 (b1 b2 b3 b4 w1 w2 w3 x h : Int) (j : Nat) : Int := match Nat.beq j 0 with
  | true => b1
  | false => match Nat.beq j 1 with
  | true => b2
  | false => match Nat.beq j 2 with
  | true => b3
  | false => match Nat.beq j 3 with
  | true => b4
  | false => match Nat.beq j 2722259016497146122424359018585896517633001001 with
  | true => w1
  | false => match Nat.beq j 2722259016497146122424359018585896517633001000 with
  | true => w2
  | false => match Nat.beq j 2722259016497146122424359018585896517633000002 with
  | true => w3
  | false => match Nat.beq j 4 with
  | true => x
  | false => match Nat.beq j 5 with
  | true => h
  | false => 0
theorem leafPlanChecks_39 (k b1 b2 b3 b4 w1 w2 w3 x h : Int) (w : World) (hk : k = 3) (lw1 : (-1099511627776) ≤ w1) (uw1 : w1 ≤ 1099511627776) (lw2 : (-1099511627776) ≤ w2) (uw2 : w2 ≤ 1099511627776) (lw3 : (-1099511627776) ≤ w3) (uw3 : w3 ≤ 1099511627776) (gw2w1 : w2 < w1) : Calls Try.prog 3 #[.agg #[.int .i64 k, .int .i64 b1, .int .i64 b2, .int .i64 b3, .int .i64 b4, .int .i64 w1, .int .i64 w2, .int .i64 w3, .int .i64 x, .int .i64 h]] w fun e w' => e = .returned (.bool true) ∧ Below w.heap.size w w' := by
  have ew2 := Ev.sgOf_two (f := sgPlanChecks_39 b1 b2 b3 b4 w1 w2 w3 x h) 2722259016497146122424359018585896517633001000 2722259016497146122424359018585896517633001001 rfl (a := w2) (b := w1) rfl rfl (by kernel_rfl) (by kernel_rfl : Ev.domS 2722259016497146122424359018585896517633001000 = (some (-1099511627776), some 1099511627776)) (show (-1099511627776) ≤ w2 by omega) (show w2 ≤ 1099511627776 by omega) (show (-1099511627776) ≤ w1 by omega) (show w1 ≤ 1099511627776 by omega) (by omega)
  have eb1 := Ev.sgOf_at (f := sgPlanChecks_39 b1 b2 b3 b4 w1 w2 w3 x h) 0 (a := b1) rfl (by kernel_rfl) (by kernel_rfl) (by kernel_rfl : Ev.domS 0 = (none, none)) (trivial : True) (trivial : True)
  have eb2 := Ev.sgOf_at (f := sgPlanChecks_39 b1 b2 b3 b4 w1 w2 w3 x h) 1 (a := b2) rfl (by kernel_rfl) (by kernel_rfl) (by kernel_rfl : Ev.domS 1 = (none, none)) (trivial : True) (trivial : True)
  have eb3 := Ev.sgOf_at (f := sgPlanChecks_39 b1 b2 b3 b4 w1 w2 w3 x h) 2 (a := b3) rfl (by kernel_rfl) (by kernel_rfl) (by kernel_rfl : Ev.domS 2 = (none, none)) (trivial : True) (trivial : True)
  have eb4 := Ev.sgOf_at (f := sgPlanChecks_39 b1 b2 b3 b4 w1 w2 w3 x h) 3 (a := b4) rfl (by kernel_rfl) (by kernel_rfl) (by kernel_rfl : Ev.domS 3 = (none, none)) (trivial : True) (trivial : True)
  have ew3 := Ev.sgOf_at (f := sgPlanChecks_39 b1 b2 b3 b4 w1 w2 w3 x h) 2722259016497146122424359018585896517633000002 (a := w3) rfl (by kernel_rfl) (by kernel_rfl) (by kernel_rfl : Ev.domS 2722259016497146122424359018585896517633000002 = (some (-1099511627776), some 1099511627776)) (show (-1099511627776) ≤ w3 by omega) (show w3 ≤ 1099511627776 by omega)
  have ex := Ev.sgOf_at (f := sgPlanChecks_39 b1 b2 b3 b4 w1 w2 w3 x h) 4 (a := x) rfl (by kernel_rfl) (by kernel_rfl) (by kernel_rfl : Ev.domS 4 = (none, none)) (trivial : True) (trivial : True)
  have eh := Ev.sgOf_at (f := sgPlanChecks_39 b1 b2 b3 b4 w1 w2 w3 x h) 5 (a := h) rfl (by kernel_rfl) (by kernel_rfl) (by kernel_rfl : Ev.domS 5 = (none, none)) (trivial : True) (trivial : True)
  have hr : Calls Try.prog 3 #[.agg #[.int .i64 3, .int .i64 (Ev.sgOf (sgPlanChecks_39 b1 b2 b3 b4 w1 w2 w3 x h) 0), .int .i64 (Ev.sgOf (sgPlanChecks_39 b1 b2 b3 b4 w1 w2 w3 x h) 1), .int .i64 (Ev.sgOf (sgPlanChecks_39 b1 b2 b3 b4 w1 w2 w3 x h) 2), .int .i64 (Ev.sgOf (sgPlanChecks_39 b1 b2 b3 b4 w1 w2 w3 x h) 3), .int .i64 (Ev.sgOf (sgPlanChecks_39 b1 b2 b3 b4 w1 w2 w3 x h) 2722259016497146122424359018585896517633001001), .int .i64 (Ev.sgOf (sgPlanChecks_39 b1 b2 b3 b4 w1 w2 w3 x h) 2722259016497146122424359018585896517633001000), .int .i64 (Ev.sgOf (sgPlanChecks_39 b1 b2 b3 b4 w1 w2 w3 x h) 2722259016497146122424359018585896517633000002), .int .i64 (Ev.sgOf (sgPlanChecks_39 b1 b2 b3 b4 w1 w2 w3 x h) 4), .int .i64 (Ev.sgOf (sgPlanChecks_39 b1 b2 b3 b4 w1 w2 w3 x h) 5)]] w fun e w' => e = .returned (.bool true) ∧ Below w.heap.size w w' := Ev.run_law (P := Try.prog) (by kernel_rfl) Ev.namesPlanChecks Ev.eqsPlanChecks ranPlanChecks_39 (by simp [argsPlanChecks_39, Ev.AV.bd]) (Ev.sgOf (sgPlanChecks_39 b1 b2 b3 b4 w1 w2 w3 x h)) (Ev.sgOf_ok _) w
  rw [ew2.1, ew2.2, eb1, eb2, eb3, eb4, ew3, ex, eh] at hr
  rw [hk]
  exact hr
def argsPlanChecks_40 : List Ev.AV := [.ag [.i .i64 4, .y .i64 0, .y .i64 1, .y .i64 2, .y .i64 3, .y .i64 2722258854237869293100315163665140547584000000, .y .i64 4, .y .i64 5, .y .i64 6, .y .i64 7]]
set_option maxRecDepth 100000 in
theorem ranPlanChecks_40 : Ev.okB (Ev.callA Try.prog [3, 4, 32, 137] (Ev.lk Ev.planPlanChecks) 200 3 argsPlanChecks_40 ⟨0, .e⟩) = true := by kernel_rfl
def sgPlanChecks_40 (b1 b2 b3 b4 w1 w2 w3 x h : Int) (j : Nat) : Int := match Nat.beq j 0 with
  | true => b1
  | false => match Nat.beq j 1 with
  | true => b2
  | false => match Nat.beq j 2 with
  | true => b3
  | false => match Nat.beq j 3 with
  | true => b4
  | false => match Nat.beq j 2722258854237869293100315163665140547584000000 with
  | true => w1
  | false => match Nat.beq j 4 with
  | true => w2
  | false => match Nat.beq j 5 with
  | true => w3
  | false => match Nat.beq j 6 with
  | true => x
  | false => match Nat.beq j 7 with
  | true => h
  | false => 0
theorem leafPlanChecks_40 (k b1 b2 b3 b4 w1 w2 w3 x h : Int) (w : World) (hk : k = 4) (uw1 : w1 ≤ (-1099511627777)) : Calls Try.prog 3 #[.agg #[.int .i64 k, .int .i64 b1, .int .i64 b2, .int .i64 b3, .int .i64 b4, .int .i64 w1, .int .i64 w2, .int .i64 w3, .int .i64 x, .int .i64 h]] w fun e w' => e = .returned (.bool true) ∧ Below w.heap.size w w' := by
  have eb1 := Ev.sgOf_at (f := sgPlanChecks_40 b1 b2 b3 b4 w1 w2 w3 x h) 0 (a := b1) rfl (by kernel_rfl) (by kernel_rfl) (by kernel_rfl : Ev.domS 0 = (none, none)) (trivial : True) (trivial : True)
  have eb2 := Ev.sgOf_at (f := sgPlanChecks_40 b1 b2 b3 b4 w1 w2 w3 x h) 1 (a := b2) rfl (by kernel_rfl) (by kernel_rfl) (by kernel_rfl : Ev.domS 1 = (none, none)) (trivial : True) (trivial : True)
  have eb3 := Ev.sgOf_at (f := sgPlanChecks_40 b1 b2 b3 b4 w1 w2 w3 x h) 2 (a := b3) rfl (by kernel_rfl) (by kernel_rfl) (by kernel_rfl : Ev.domS 2 = (none, none)) (trivial : True) (trivial : True)
  have eb4 := Ev.sgOf_at (f := sgPlanChecks_40 b1 b2 b3 b4 w1 w2 w3 x h) 3 (a := b4) rfl (by kernel_rfl) (by kernel_rfl) (by kernel_rfl : Ev.domS 3 = (none, none)) (trivial : True) (trivial : True)
  have ew1 := Ev.sgOf_at (f := sgPlanChecks_40 b1 b2 b3 b4 w1 w2 w3 x h) 2722258854237869293100315163665140547584000000 (a := w1) rfl (by kernel_rfl) (by kernel_rfl) (by kernel_rfl : Ev.domS 2722258854237869293100315163665140547584000000 = (none, some (-1099511627777))) (trivial : True) (show w1 ≤ (-1099511627777) by omega)
  have ew2 := Ev.sgOf_at (f := sgPlanChecks_40 b1 b2 b3 b4 w1 w2 w3 x h) 4 (a := w2) rfl (by kernel_rfl) (by kernel_rfl) (by kernel_rfl : Ev.domS 4 = (none, none)) (trivial : True) (trivial : True)
  have ew3 := Ev.sgOf_at (f := sgPlanChecks_40 b1 b2 b3 b4 w1 w2 w3 x h) 5 (a := w3) rfl (by kernel_rfl) (by kernel_rfl) (by kernel_rfl : Ev.domS 5 = (none, none)) (trivial : True) (trivial : True)
  have ex := Ev.sgOf_at (f := sgPlanChecks_40 b1 b2 b3 b4 w1 w2 w3 x h) 6 (a := x) rfl (by kernel_rfl) (by kernel_rfl) (by kernel_rfl : Ev.domS 6 = (none, none)) (trivial : True) (trivial : True)
  have eh := Ev.sgOf_at (f := sgPlanChecks_40 b1 b2 b3 b4 w1 w2 w3 x h) 7 (a := h) rfl (by kernel_rfl) (by kernel_rfl) (by kernel_rfl : Ev.domS 7 = (none, none)) (trivial : True) (trivial : True)
  have hr : Calls Try.prog 3 #[.agg #[.int .i64 4, .int .i64 (Ev.sgOf (sgPlanChecks_40 b1 b2 b3 b4 w1 w2 w3 x h) 0), .int .i64 (Ev.sgOf (sgPlanChecks_40 b1 b2 b3 b4 w1 w2 w3 x h) 1), .int .i64 (Ev.sgOf (sgPlanChecks_40 b1 b2 b3 b4 w1 w2 w3 x h) 2), .int .i64 (Ev.sgOf (sgPlanChecks_40 b1 b2 b3 b4 w1 w2 w3 x h) 3), .int .i64 (Ev.sgOf (sgPlanChecks_40 b1 b2 b3 b4 w1 w2 w3 x h) 2722258854237869293100315163665140547584000000), .int .i64 (Ev.sgOf (sgPlanChecks_40 b1 b2 b3 b4 w1 w2 w3 x h) 4), .int .i64 (Ev.sgOf (sgPlanChecks_40 b1 b2 b3 b4 w1 w2 w3 x h) 5), .int .i64 (Ev.sgOf (sgPlanChecks_40 b1 b2 b3 b4 w1 w2 w3 x h) 6), .int .i64 (Ev.sgOf (sgPlanChecks_40 b1 b2 b3 b4 w1 w2 w3 x h) 7)]] w fun e w' => e = .returned (.bool true) ∧ Below w.heap.size w w' := Ev.run_law (P := Try.prog) (by kernel_rfl) Ev.namesPlanChecks Ev.eqsPlanChecks ranPlanChecks_40 (by simp [argsPlanChecks_40, Ev.AV.bd]) (Ev.sgOf (sgPlanChecks_40 b1 b2 b3 b4 w1 w2 w3 x h)) (Ev.sgOf_ok _) w
  rw [eb1, eb2, eb3, eb4, ew1, ew2, ew3, ex, eh] at hr
  rw [hk]
  exact hr
def argsPlanChecks_41 : List Ev.AV := [.ag [.i .i64 4, .y .i64 0, .y .i64 1, .y .i64 2, .y .i64 3, .y .i64 36893489246930731010000000, .y .i64 4, .y .i64 5, .y .i64 6, .y .i64 7]]
set_option maxRecDepth 100000 in
theorem ranPlanChecks_41 : Ev.okB (Ev.callA Try.prog [3, 4, 32, 137] (Ev.lk Ev.planPlanChecks) 200 3 argsPlanChecks_41 ⟨0, .e⟩) = true := by kernel_rfl
def sgPlanChecks_41 (b1 b2 b3 b4 w1 w2 w3 x h : Int) (j : Nat) : Int := match Nat.beq j 0 with
  | true => b1
  | false => match Nat.beq j 1 with
  | true => b2
  | false => match Nat.beq j 2 with
  | true => b3
  | false => match Nat.beq j 3 with
  | true => b4
  | false => match Nat.beq j 36893489246930731010000000 with
  | true => w1
  | false => match Nat.beq j 4 with
  | true => w2
  | false => match Nat.beq j 5 with
  | true => w3
  | false => match Nat.beq j 6 with
  | true => x
  | false => match Nat.beq j 7 with
  | true => h
  | false => 0
theorem leafPlanChecks_41 (k b1 b2 b3 b4 w1 w2 w3 x h : Int) (w : World) (hk : k = 4) (lw1 : 1099511627777 ≤ w1) : Calls Try.prog 3 #[.agg #[.int .i64 k, .int .i64 b1, .int .i64 b2, .int .i64 b3, .int .i64 b4, .int .i64 w1, .int .i64 w2, .int .i64 w3, .int .i64 x, .int .i64 h]] w fun e w' => e = .returned (.bool true) ∧ Below w.heap.size w w' := by
  have eb1 := Ev.sgOf_at (f := sgPlanChecks_41 b1 b2 b3 b4 w1 w2 w3 x h) 0 (a := b1) rfl (by kernel_rfl) (by kernel_rfl) (by kernel_rfl : Ev.domS 0 = (none, none)) (trivial : True) (trivial : True)
  have eb2 := Ev.sgOf_at (f := sgPlanChecks_41 b1 b2 b3 b4 w1 w2 w3 x h) 1 (a := b2) rfl (by kernel_rfl) (by kernel_rfl) (by kernel_rfl : Ev.domS 1 = (none, none)) (trivial : True) (trivial : True)
  have eb3 := Ev.sgOf_at (f := sgPlanChecks_41 b1 b2 b3 b4 w1 w2 w3 x h) 2 (a := b3) rfl (by kernel_rfl) (by kernel_rfl) (by kernel_rfl : Ev.domS 2 = (none, none)) (trivial : True) (trivial : True)
  have eb4 := Ev.sgOf_at (f := sgPlanChecks_41 b1 b2 b3 b4 w1 w2 w3 x h) 3 (a := b4) rfl (by kernel_rfl) (by kernel_rfl) (by kernel_rfl : Ev.domS 3 = (none, none)) (trivial : True) (trivial : True)
  have ew1 := Ev.sgOf_at (f := sgPlanChecks_41 b1 b2 b3 b4 w1 w2 w3 x h) 36893489246930731010000000 (a := w1) rfl (by kernel_rfl) (by kernel_rfl) (by kernel_rfl : Ev.domS 36893489246930731010000000 = (some 1099511627777, none)) (show 1099511627777 ≤ w1 by omega) (trivial : True)
  have ew2 := Ev.sgOf_at (f := sgPlanChecks_41 b1 b2 b3 b4 w1 w2 w3 x h) 4 (a := w2) rfl (by kernel_rfl) (by kernel_rfl) (by kernel_rfl : Ev.domS 4 = (none, none)) (trivial : True) (trivial : True)
  have ew3 := Ev.sgOf_at (f := sgPlanChecks_41 b1 b2 b3 b4 w1 w2 w3 x h) 5 (a := w3) rfl (by kernel_rfl) (by kernel_rfl) (by kernel_rfl : Ev.domS 5 = (none, none)) (trivial : True) (trivial : True)
  have ex := Ev.sgOf_at (f := sgPlanChecks_41 b1 b2 b3 b4 w1 w2 w3 x h) 6 (a := x) rfl (by kernel_rfl) (by kernel_rfl) (by kernel_rfl : Ev.domS 6 = (none, none)) (trivial : True) (trivial : True)
  have eh := Ev.sgOf_at (f := sgPlanChecks_41 b1 b2 b3 b4 w1 w2 w3 x h) 7 (a := h) rfl (by kernel_rfl) (by kernel_rfl) (by kernel_rfl : Ev.domS 7 = (none, none)) (trivial : True) (trivial : True)
  have hr : Calls Try.prog 3 #[.agg #[.int .i64 4, .int .i64 (Ev.sgOf (sgPlanChecks_41 b1 b2 b3 b4 w1 w2 w3 x h) 0), .int .i64 (Ev.sgOf (sgPlanChecks_41 b1 b2 b3 b4 w1 w2 w3 x h) 1), .int .i64 (Ev.sgOf (sgPlanChecks_41 b1 b2 b3 b4 w1 w2 w3 x h) 2), .int .i64 (Ev.sgOf (sgPlanChecks_41 b1 b2 b3 b4 w1 w2 w3 x h) 3), .int .i64 (Ev.sgOf (sgPlanChecks_41 b1 b2 b3 b4 w1 w2 w3 x h) 36893489246930731010000000), .int .i64 (Ev.sgOf (sgPlanChecks_41 b1 b2 b3 b4 w1 w2 w3 x h) 4), .int .i64 (Ev.sgOf (sgPlanChecks_41 b1 b2 b3 b4 w1 w2 w3 x h) 5), .int .i64 (Ev.sgOf (sgPlanChecks_41 b1 b2 b3 b4 w1 w2 w3 x h) 6), .int .i64 (Ev.sgOf (sgPlanChecks_41 b1 b2 b3 b4 w1 w2 w3 x h) 7)]] w fun e w' => e = .returned (.bool true) ∧ Below w.heap.size w w' := Ev.run_law (P := Try.prog) (by kernel_rfl) Ev.namesPlanChecks Ev.eqsPlanChecks ranPlanChecks_41 (by simp [argsPlanChecks_41, Ev.AV.bd]) (Ev.sgOf (sgPlanChecks_41 b1 b2 b3 b4 w1 w2 w3 x h)) (Ev.sgOf_ok _) w
  rw [eb1, eb2, eb3, eb4, ew1, ew2, ew3, ex, eh] at hr
  rw [hk]
  exact hr
def argsPlanChecks_42 : List Ev.AV := [.ag [.i .i64 4, .y .i64 0, .y .i64 1, .y .i64 2, .y .i64 3, .y .i64 2722259016497146122424359018585896517633000000, .y .i64 2722258854237869293100315163665140547584000002, .y .i64 4, .y .i64 5, .y .i64 6]]
set_option maxRecDepth 100000 in
theorem ranPlanChecks_42 : Ev.okB (Ev.callA Try.prog [3, 4, 32, 137] (Ev.lk Ev.planPlanChecks) 200 3 argsPlanChecks_42 ⟨0, .e⟩) = true := by kernel_rfl
def sgPlanChecks_42 (b1 b2 b3 b4 w1 w2 w3 x h : Int) (j : Nat) : Int := match Nat.beq j 0 with
  | true => b1
  | false => match Nat.beq j 1 with
  | true => b2
  | false => match Nat.beq j 2 with
  | true => b3
  | false => match Nat.beq j 3 with
  | true => b4
  | false => match Nat.beq j 2722259016497146122424359018585896517633000000 with
  | true => w1
  | false => match Nat.beq j 2722258854237869293100315163665140547584000002 with
  | true => w2
  | false => match Nat.beq j 4 with
  | true => w3
  | false => match Nat.beq j 5 with
  | true => x
  | false => match Nat.beq j 6 with
  | true => h
  | false => 0
theorem leafPlanChecks_42 (k b1 b2 b3 b4 w1 w2 w3 x h : Int) (w : World) (hk : k = 4) (lw1 : (-1099511627776) ≤ w1) (uw1 : w1 ≤ 1099511627776) (uw2 : w2 ≤ (-1099511627777)) : Calls Try.prog 3 #[.agg #[.int .i64 k, .int .i64 b1, .int .i64 b2, .int .i64 b3, .int .i64 b4, .int .i64 w1, .int .i64 w2, .int .i64 w3, .int .i64 x, .int .i64 h]] w fun e w' => e = .returned (.bool true) ∧ Below w.heap.size w w' := by
  have eb1 := Ev.sgOf_at (f := sgPlanChecks_42 b1 b2 b3 b4 w1 w2 w3 x h) 0 (a := b1) rfl (by kernel_rfl) (by kernel_rfl) (by kernel_rfl : Ev.domS 0 = (none, none)) (trivial : True) (trivial : True)
  have eb2 := Ev.sgOf_at (f := sgPlanChecks_42 b1 b2 b3 b4 w1 w2 w3 x h) 1 (a := b2) rfl (by kernel_rfl) (by kernel_rfl) (by kernel_rfl : Ev.domS 1 = (none, none)) (trivial : True) (trivial : True)
  have eb3 := Ev.sgOf_at (f := sgPlanChecks_42 b1 b2 b3 b4 w1 w2 w3 x h) 2 (a := b3) rfl (by kernel_rfl) (by kernel_rfl) (by kernel_rfl : Ev.domS 2 = (none, none)) (trivial : True) (trivial : True)
  have eb4 := Ev.sgOf_at (f := sgPlanChecks_42 b1 b2 b3 b4 w1 w2 w3 x h) 3 (a := b4) rfl (by kernel_rfl) (by kernel_rfl) (by kernel_rfl : Ev.domS 3 = (none, none)) (trivial : True) (trivial : True)
  have ew1 := Ev.sgOf_at (f := sgPlanChecks_42 b1 b2 b3 b4 w1 w2 w3 x h) 2722259016497146122424359018585896517633000000 (a := w1) rfl (by kernel_rfl) (by kernel_rfl) (by kernel_rfl : Ev.domS 2722259016497146122424359018585896517633000000 = (some (-1099511627776), some 1099511627776)) (show (-1099511627776) ≤ w1 by omega) (show w1 ≤ 1099511627776 by omega)
  have ew2 := Ev.sgOf_at (f := sgPlanChecks_42 b1 b2 b3 b4 w1 w2 w3 x h) 2722258854237869293100315163665140547584000002 (a := w2) rfl (by kernel_rfl) (by kernel_rfl) (by kernel_rfl : Ev.domS 2722258854237869293100315163665140547584000002 = (none, some (-1099511627777))) (trivial : True) (show w2 ≤ (-1099511627777) by omega)
  have ew3 := Ev.sgOf_at (f := sgPlanChecks_42 b1 b2 b3 b4 w1 w2 w3 x h) 4 (a := w3) rfl (by kernel_rfl) (by kernel_rfl) (by kernel_rfl : Ev.domS 4 = (none, none)) (trivial : True) (trivial : True)
  have ex := Ev.sgOf_at (f := sgPlanChecks_42 b1 b2 b3 b4 w1 w2 w3 x h) 5 (a := x) rfl (by kernel_rfl) (by kernel_rfl) (by kernel_rfl : Ev.domS 5 = (none, none)) (trivial : True) (trivial : True)
  have eh := Ev.sgOf_at (f := sgPlanChecks_42 b1 b2 b3 b4 w1 w2 w3 x h) 6 (a := h) rfl (by kernel_rfl) (by kernel_rfl) (by kernel_rfl : Ev.domS 6 = (none, none)) (trivial : True) (trivial : True)
  have hr : Calls Try.prog 3 #[.agg #[.int .i64 4, .int .i64 (Ev.sgOf (sgPlanChecks_42 b1 b2 b3 b4 w1 w2 w3 x h) 0), .int .i64 (Ev.sgOf (sgPlanChecks_42 b1 b2 b3 b4 w1 w2 w3 x h) 1), .int .i64 (Ev.sgOf (sgPlanChecks_42 b1 b2 b3 b4 w1 w2 w3 x h) 2), .int .i64 (Ev.sgOf (sgPlanChecks_42 b1 b2 b3 b4 w1 w2 w3 x h) 3), .int .i64 (Ev.sgOf (sgPlanChecks_42 b1 b2 b3 b4 w1 w2 w3 x h) 2722259016497146122424359018585896517633000000), .int .i64 (Ev.sgOf (sgPlanChecks_42 b1 b2 b3 b4 w1 w2 w3 x h) 2722258854237869293100315163665140547584000002), .int .i64 (Ev.sgOf (sgPlanChecks_42 b1 b2 b3 b4 w1 w2 w3 x h) 4), .int .i64 (Ev.sgOf (sgPlanChecks_42 b1 b2 b3 b4 w1 w2 w3 x h) 5), .int .i64 (Ev.sgOf (sgPlanChecks_42 b1 b2 b3 b4 w1 w2 w3 x h) 6)]] w fun e w' => e = .returned (.bool true) ∧ Below w.heap.size w w' := Ev.run_law (P := Try.prog) (by kernel_rfl) Ev.namesPlanChecks Ev.eqsPlanChecks ranPlanChecks_42 (by simp [argsPlanChecks_42, Ev.AV.bd]) (Ev.sgOf (sgPlanChecks_42 b1 b2 b3 b4 w1 w2 w3 x h)) (Ev.sgOf_ok _) w
  rw [eb1, eb2, eb3, eb4, ew1, ew2, ew3, ex, eh] at hr
  rw [hk]
  exact hr
def argsPlanChecks_43 : List Ev.AV := [.ag [.i .i64 4, .y .i64 0, .y .i64 1, .y .i64 2, .y .i64 3, .y .i64 2722259016497146122424359018585896517633000000, .y .i64 36893489246930731010000002, .y .i64 4, .y .i64 5, .y .i64 6]]
set_option maxRecDepth 100000 in
theorem ranPlanChecks_43 : Ev.okB (Ev.callA Try.prog [3, 4, 32, 137] (Ev.lk Ev.planPlanChecks) 200 3 argsPlanChecks_43 ⟨0, .e⟩) = true := by kernel_rfl
def sgPlanChecks_43 (b1 b2 b3 b4 w1 w2 w3 x h : Int) (j : Nat) : Int := match Nat.beq j 0 with
  | true => b1
  | false => match Nat.beq j 1 with
  | true => b2
  | false => match Nat.beq j 2 with
  | true => b3
  | false => match Nat.beq j 3 with
  | true => b4
  | false => match Nat.beq j 2722259016497146122424359018585896517633000000 with
  | true => w1
  | false => match Nat.beq j 36893489246930731010000002 with
  | true => w2
  | false => match Nat.beq j 4 with
  | true => w3
  | false => match Nat.beq j 5 with
  | true => x
  | false => match Nat.beq j 6 with
  | true => h
  | false => 0
theorem leafPlanChecks_43 (k b1 b2 b3 b4 w1 w2 w3 x h : Int) (w : World) (hk : k = 4) (lw1 : (-1099511627776) ≤ w1) (uw1 : w1 ≤ 1099511627776) (lw2 : 1099511627777 ≤ w2) : Calls Try.prog 3 #[.agg #[.int .i64 k, .int .i64 b1, .int .i64 b2, .int .i64 b3, .int .i64 b4, .int .i64 w1, .int .i64 w2, .int .i64 w3, .int .i64 x, .int .i64 h]] w fun e w' => e = .returned (.bool true) ∧ Below w.heap.size w w' := by
  have eb1 := Ev.sgOf_at (f := sgPlanChecks_43 b1 b2 b3 b4 w1 w2 w3 x h) 0 (a := b1) rfl (by kernel_rfl) (by kernel_rfl) (by kernel_rfl : Ev.domS 0 = (none, none)) (trivial : True) (trivial : True)
  have eb2 := Ev.sgOf_at (f := sgPlanChecks_43 b1 b2 b3 b4 w1 w2 w3 x h) 1 (a := b2) rfl (by kernel_rfl) (by kernel_rfl) (by kernel_rfl : Ev.domS 1 = (none, none)) (trivial : True) (trivial : True)
  have eb3 := Ev.sgOf_at (f := sgPlanChecks_43 b1 b2 b3 b4 w1 w2 w3 x h) 2 (a := b3) rfl (by kernel_rfl) (by kernel_rfl) (by kernel_rfl : Ev.domS 2 = (none, none)) (trivial : True) (trivial : True)
  have eb4 := Ev.sgOf_at (f := sgPlanChecks_43 b1 b2 b3 b4 w1 w2 w3 x h) 3 (a := b4) rfl (by kernel_rfl) (by kernel_rfl) (by kernel_rfl : Ev.domS 3 = (none, none)) (trivial : True) (trivial : True)
  have ew1 := Ev.sgOf_at (f := sgPlanChecks_43 b1 b2 b3 b4 w1 w2 w3 x h) 2722259016497146122424359018585896517633000000 (a := w1) rfl (by kernel_rfl) (by kernel_rfl) (by kernel_rfl : Ev.domS 2722259016497146122424359018585896517633000000 = (some (-1099511627776), some 1099511627776)) (show (-1099511627776) ≤ w1 by omega) (show w1 ≤ 1099511627776 by omega)
  have ew2 := Ev.sgOf_at (f := sgPlanChecks_43 b1 b2 b3 b4 w1 w2 w3 x h) 36893489246930731010000002 (a := w2) rfl (by kernel_rfl) (by kernel_rfl) (by kernel_rfl : Ev.domS 36893489246930731010000002 = (some 1099511627777, none)) (show 1099511627777 ≤ w2 by omega) (trivial : True)
  have ew3 := Ev.sgOf_at (f := sgPlanChecks_43 b1 b2 b3 b4 w1 w2 w3 x h) 4 (a := w3) rfl (by kernel_rfl) (by kernel_rfl) (by kernel_rfl : Ev.domS 4 = (none, none)) (trivial : True) (trivial : True)
  have ex := Ev.sgOf_at (f := sgPlanChecks_43 b1 b2 b3 b4 w1 w2 w3 x h) 5 (a := x) rfl (by kernel_rfl) (by kernel_rfl) (by kernel_rfl : Ev.domS 5 = (none, none)) (trivial : True) (trivial : True)
  have eh := Ev.sgOf_at (f := sgPlanChecks_43 b1 b2 b3 b4 w1 w2 w3 x h) 6 (a := h) rfl (by kernel_rfl) (by kernel_rfl) (by kernel_rfl : Ev.domS 6 = (none, none)) (trivial : True) (trivial : True)
  have hr : Calls Try.prog 3 #[.agg #[.int .i64 4, .int .i64 (Ev.sgOf (sgPlanChecks_43 b1 b2 b3 b4 w1 w2 w3 x h) 0), .int .i64 (Ev.sgOf (sgPlanChecks_43 b1 b2 b3 b4 w1 w2 w3 x h) 1), .int .i64 (Ev.sgOf (sgPlanChecks_43 b1 b2 b3 b4 w1 w2 w3 x h) 2), .int .i64 (Ev.sgOf (sgPlanChecks_43 b1 b2 b3 b4 w1 w2 w3 x h) 3), .int .i64 (Ev.sgOf (sgPlanChecks_43 b1 b2 b3 b4 w1 w2 w3 x h) 2722259016497146122424359018585896517633000000), .int .i64 (Ev.sgOf (sgPlanChecks_43 b1 b2 b3 b4 w1 w2 w3 x h) 36893489246930731010000002), .int .i64 (Ev.sgOf (sgPlanChecks_43 b1 b2 b3 b4 w1 w2 w3 x h) 4), .int .i64 (Ev.sgOf (sgPlanChecks_43 b1 b2 b3 b4 w1 w2 w3 x h) 5), .int .i64 (Ev.sgOf (sgPlanChecks_43 b1 b2 b3 b4 w1 w2 w3 x h) 6)]] w fun e w' => e = .returned (.bool true) ∧ Below w.heap.size w w' := Ev.run_law (P := Try.prog) (by kernel_rfl) Ev.namesPlanChecks Ev.eqsPlanChecks ranPlanChecks_43 (by simp [argsPlanChecks_43, Ev.AV.bd]) (Ev.sgOf (sgPlanChecks_43 b1 b2 b3 b4 w1 w2 w3 x h)) (Ev.sgOf_ok _) w
  rw [eb1, eb2, eb3, eb4, ew1, ew2, ew3, ex, eh] at hr
  rw [hk]
  exact hr
def argsPlanChecks_44 : List Ev.AV := [.ag [.i .i64 4, .y .i64 0, .y .i64 1, .y .i64 2, .y .i64 3, .y .i64 2722259016497146122424359018585896517633000000, .y .i64 2722259016497146122424359018585896517633000002, .y .i64 2722258854237869293100315163665140547584000004, .y .i64 4, .y .i64 5]]
set_option maxRecDepth 100000 in
theorem ranPlanChecks_44 : Ev.okB (Ev.callA Try.prog [3, 4, 32, 137] (Ev.lk Ev.planPlanChecks) 200 3 argsPlanChecks_44 ⟨0, .e⟩) = true := by kernel_rfl
def sgPlanChecks_44 (b1 b2 b3 b4 w1 w2 w3 x h : Int) (j : Nat) : Int := match Nat.beq j 0 with
  | true => b1
  | false => match Nat.beq j 1 with
  | true => b2
  | false => match Nat.beq j 2 with
  | true => b3
  | false => match Nat.beq j 3 with
  | true => b4
  | false => match Nat.beq j 2722259016497146122424359018585896517633000000 with
  | true => w1
  | false => match Nat.beq j 2722259016497146122424359018585896517633000002 with
  | true => w2
  | false => match Nat.beq j 2722258854237869293100315163665140547584000004 with
  | true => w3
  | false => match Nat.beq j 4 with
  | true => x
  | false => match Nat.beq j 5 with
  | true => h
  | false => 0
theorem leafPlanChecks_44 (k b1 b2 b3 b4 w1 w2 w3 x h : Int) (w : World) (hk : k = 4) (lw1 : (-1099511627776) ≤ w1) (uw1 : w1 ≤ 1099511627776) (lw2 : (-1099511627776) ≤ w2) (uw2 : w2 ≤ 1099511627776) (uw3 : w3 ≤ (-1099511627777)) : Calls Try.prog 3 #[.agg #[.int .i64 k, .int .i64 b1, .int .i64 b2, .int .i64 b3, .int .i64 b4, .int .i64 w1, .int .i64 w2, .int .i64 w3, .int .i64 x, .int .i64 h]] w fun e w' => e = .returned (.bool true) ∧ Below w.heap.size w w' := by
  have eb1 := Ev.sgOf_at (f := sgPlanChecks_44 b1 b2 b3 b4 w1 w2 w3 x h) 0 (a := b1) rfl (by kernel_rfl) (by kernel_rfl) (by kernel_rfl : Ev.domS 0 = (none, none)) (trivial : True) (trivial : True)
  have eb2 := Ev.sgOf_at (f := sgPlanChecks_44 b1 b2 b3 b4 w1 w2 w3 x h) 1 (a := b2) rfl (by kernel_rfl) (by kernel_rfl) (by kernel_rfl : Ev.domS 1 = (none, none)) (trivial : True) (trivial : True)
  have eb3 := Ev.sgOf_at (f := sgPlanChecks_44 b1 b2 b3 b4 w1 w2 w3 x h) 2 (a := b3) rfl (by kernel_rfl) (by kernel_rfl) (by kernel_rfl : Ev.domS 2 = (none, none)) (trivial : True) (trivial : True)
  have eb4 := Ev.sgOf_at (f := sgPlanChecks_44 b1 b2 b3 b4 w1 w2 w3 x h) 3 (a := b4) rfl (by kernel_rfl) (by kernel_rfl) (by kernel_rfl : Ev.domS 3 = (none, none)) (trivial : True) (trivial : True)
  have ew1 := Ev.sgOf_at (f := sgPlanChecks_44 b1 b2 b3 b4 w1 w2 w3 x h) 2722259016497146122424359018585896517633000000 (a := w1) rfl (by kernel_rfl) (by kernel_rfl) (by kernel_rfl : Ev.domS 2722259016497146122424359018585896517633000000 = (some (-1099511627776), some 1099511627776)) (show (-1099511627776) ≤ w1 by omega) (show w1 ≤ 1099511627776 by omega)
  have ew2 := Ev.sgOf_at (f := sgPlanChecks_44 b1 b2 b3 b4 w1 w2 w3 x h) 2722259016497146122424359018585896517633000002 (a := w2) rfl (by kernel_rfl) (by kernel_rfl) (by kernel_rfl : Ev.domS 2722259016497146122424359018585896517633000002 = (some (-1099511627776), some 1099511627776)) (show (-1099511627776) ≤ w2 by omega) (show w2 ≤ 1099511627776 by omega)
  have ew3 := Ev.sgOf_at (f := sgPlanChecks_44 b1 b2 b3 b4 w1 w2 w3 x h) 2722258854237869293100315163665140547584000004 (a := w3) rfl (by kernel_rfl) (by kernel_rfl) (by kernel_rfl : Ev.domS 2722258854237869293100315163665140547584000004 = (none, some (-1099511627777))) (trivial : True) (show w3 ≤ (-1099511627777) by omega)
  have ex := Ev.sgOf_at (f := sgPlanChecks_44 b1 b2 b3 b4 w1 w2 w3 x h) 4 (a := x) rfl (by kernel_rfl) (by kernel_rfl) (by kernel_rfl : Ev.domS 4 = (none, none)) (trivial : True) (trivial : True)
  have eh := Ev.sgOf_at (f := sgPlanChecks_44 b1 b2 b3 b4 w1 w2 w3 x h) 5 (a := h) rfl (by kernel_rfl) (by kernel_rfl) (by kernel_rfl : Ev.domS 5 = (none, none)) (trivial : True) (trivial : True)
  have hr : Calls Try.prog 3 #[.agg #[.int .i64 4, .int .i64 (Ev.sgOf (sgPlanChecks_44 b1 b2 b3 b4 w1 w2 w3 x h) 0), .int .i64 (Ev.sgOf (sgPlanChecks_44 b1 b2 b3 b4 w1 w2 w3 x h) 1), .int .i64 (Ev.sgOf (sgPlanChecks_44 b1 b2 b3 b4 w1 w2 w3 x h) 2), .int .i64 (Ev.sgOf (sgPlanChecks_44 b1 b2 b3 b4 w1 w2 w3 x h) 3), .int .i64 (Ev.sgOf (sgPlanChecks_44 b1 b2 b3 b4 w1 w2 w3 x h) 2722259016497146122424359018585896517633000000), .int .i64 (Ev.sgOf (sgPlanChecks_44 b1 b2 b3 b4 w1 w2 w3 x h) 2722259016497146122424359018585896517633000002), .int .i64 (Ev.sgOf (sgPlanChecks_44 b1 b2 b3 b4 w1 w2 w3 x h) 2722258854237869293100315163665140547584000004), .int .i64 (Ev.sgOf (sgPlanChecks_44 b1 b2 b3 b4 w1 w2 w3 x h) 4), .int .i64 (Ev.sgOf (sgPlanChecks_44 b1 b2 b3 b4 w1 w2 w3 x h) 5)]] w fun e w' => e = .returned (.bool true) ∧ Below w.heap.size w w' := Ev.run_law (P := Try.prog) (by kernel_rfl) Ev.namesPlanChecks Ev.eqsPlanChecks ranPlanChecks_44 (by simp [argsPlanChecks_44, Ev.AV.bd]) (Ev.sgOf (sgPlanChecks_44 b1 b2 b3 b4 w1 w2 w3 x h)) (Ev.sgOf_ok _) w
  rw [eb1, eb2, eb3, eb4, ew1, ew2, ew3, ex, eh] at hr
  rw [hk]
  exact hr
def argsPlanChecks_45 : List Ev.AV := [.ag [.i .i64 4, .y .i64 0, .y .i64 1, .y .i64 2, .y .i64 3, .y .i64 2722259016497146122424359018585896517633000000, .y .i64 2722259016497146122424359018585896517633000002, .y .i64 36893489246930731010000004, .y .i64 4, .y .i64 5]]
set_option maxRecDepth 100000 in
theorem ranPlanChecks_45 : Ev.okB (Ev.callA Try.prog [3, 4, 32, 137] (Ev.lk Ev.planPlanChecks) 200 3 argsPlanChecks_45 ⟨0, .e⟩) = true := by kernel_rfl
def sgPlanChecks_45 (b1 b2 b3 b4 w1 w2 w3 x h : Int) (j : Nat) : Int := match Nat.beq j 0 with
  | true => b1
  | false => match Nat.beq j 1 with
  | true => b2
  | false => match Nat.beq j 2 with
  | true => b3
  | false => match Nat.beq j 3 with
  | true => b4
  | false => match Nat.beq j 2722259016497146122424359018585896517633000000 with
  | true => w1
  | false => match Nat.beq j 2722259016497146122424359018585896517633000002 with
  | true => w2
  | false => match Nat.beq j 36893489246930731010000004 with
  | true => w3
  | false => match Nat.beq j 4 with
  | true => x
  | false => match Nat.beq j 5 with
  | true => h
  | false => 0
theorem leafPlanChecks_45 (k b1 b2 b3 b4 w1 w2 w3 x h : Int) (w : World) (hk : k = 4) (lw1 : (-1099511627776) ≤ w1) (uw1 : w1 ≤ 1099511627776) (lw2 : (-1099511627776) ≤ w2) (uw2 : w2 ≤ 1099511627776) (lw3 : 1099511627777 ≤ w3) : Calls Try.prog 3 #[.agg #[.int .i64 k, .int .i64 b1, .int .i64 b2, .int .i64 b3, .int .i64 b4, .int .i64 w1, .int .i64 w2, .int .i64 w3, .int .i64 x, .int .i64 h]] w fun e w' => e = .returned (.bool true) ∧ Below w.heap.size w w' := by
  have eb1 := Ev.sgOf_at (f := sgPlanChecks_45 b1 b2 b3 b4 w1 w2 w3 x h) 0 (a := b1) rfl (by kernel_rfl) (by kernel_rfl) (by kernel_rfl : Ev.domS 0 = (none, none)) (trivial : True) (trivial : True)
  have eb2 := Ev.sgOf_at (f := sgPlanChecks_45 b1 b2 b3 b4 w1 w2 w3 x h) 1 (a := b2) rfl (by kernel_rfl) (by kernel_rfl) (by kernel_rfl : Ev.domS 1 = (none, none)) (trivial : True) (trivial : True)
  have eb3 := Ev.sgOf_at (f := sgPlanChecks_45 b1 b2 b3 b4 w1 w2 w3 x h) 2 (a := b3) rfl (by kernel_rfl) (by kernel_rfl) (by kernel_rfl : Ev.domS 2 = (none, none)) (trivial : True) (trivial : True)
  have eb4 := Ev.sgOf_at (f := sgPlanChecks_45 b1 b2 b3 b4 w1 w2 w3 x h) 3 (a := b4) rfl (by kernel_rfl) (by kernel_rfl) (by kernel_rfl : Ev.domS 3 = (none, none)) (trivial : True) (trivial : True)
  have ew1 := Ev.sgOf_at (f := sgPlanChecks_45 b1 b2 b3 b4 w1 w2 w3 x h) 2722259016497146122424359018585896517633000000 (a := w1) rfl (by kernel_rfl) (by kernel_rfl) (by kernel_rfl : Ev.domS 2722259016497146122424359018585896517633000000 = (some (-1099511627776), some 1099511627776)) (show (-1099511627776) ≤ w1 by omega) (show w1 ≤ 1099511627776 by omega)
  have ew2 := Ev.sgOf_at (f := sgPlanChecks_45 b1 b2 b3 b4 w1 w2 w3 x h) 2722259016497146122424359018585896517633000002 (a := w2) rfl (by kernel_rfl) (by kernel_rfl) (by kernel_rfl : Ev.domS 2722259016497146122424359018585896517633000002 = (some (-1099511627776), some 1099511627776)) (show (-1099511627776) ≤ w2 by omega) (show w2 ≤ 1099511627776 by omega)
  have ew3 := Ev.sgOf_at (f := sgPlanChecks_45 b1 b2 b3 b4 w1 w2 w3 x h) 36893489246930731010000004 (a := w3) rfl (by kernel_rfl) (by kernel_rfl) (by kernel_rfl : Ev.domS 36893489246930731010000004 = (some 1099511627777, none)) (show 1099511627777 ≤ w3 by omega) (trivial : True)
  have ex := Ev.sgOf_at (f := sgPlanChecks_45 b1 b2 b3 b4 w1 w2 w3 x h) 4 (a := x) rfl (by kernel_rfl) (by kernel_rfl) (by kernel_rfl : Ev.domS 4 = (none, none)) (trivial : True) (trivial : True)
  have eh := Ev.sgOf_at (f := sgPlanChecks_45 b1 b2 b3 b4 w1 w2 w3 x h) 5 (a := h) rfl (by kernel_rfl) (by kernel_rfl) (by kernel_rfl : Ev.domS 5 = (none, none)) (trivial : True) (trivial : True)
  have hr : Calls Try.prog 3 #[.agg #[.int .i64 4, .int .i64 (Ev.sgOf (sgPlanChecks_45 b1 b2 b3 b4 w1 w2 w3 x h) 0), .int .i64 (Ev.sgOf (sgPlanChecks_45 b1 b2 b3 b4 w1 w2 w3 x h) 1), .int .i64 (Ev.sgOf (sgPlanChecks_45 b1 b2 b3 b4 w1 w2 w3 x h) 2), .int .i64 (Ev.sgOf (sgPlanChecks_45 b1 b2 b3 b4 w1 w2 w3 x h) 3), .int .i64 (Ev.sgOf (sgPlanChecks_45 b1 b2 b3 b4 w1 w2 w3 x h) 2722259016497146122424359018585896517633000000), .int .i64 (Ev.sgOf (sgPlanChecks_45 b1 b2 b3 b4 w1 w2 w3 x h) 2722259016497146122424359018585896517633000002), .int .i64 (Ev.sgOf (sgPlanChecks_45 b1 b2 b3 b4 w1 w2 w3 x h) 36893489246930731010000004), .int .i64 (Ev.sgOf (sgPlanChecks_45 b1 b2 b3 b4 w1 w2 w3 x h) 4), .int .i64 (Ev.sgOf (sgPlanChecks_45 b1 b2 b3 b4 w1 w2 w3 x h) 5)]] w fun e w' => e = .returned (.bool true) ∧ Below w.heap.size w w' := Ev.run_law (P := Try.prog) (by kernel_rfl) Ev.namesPlanChecks Ev.eqsPlanChecks ranPlanChecks_45 (by simp [argsPlanChecks_45, Ev.AV.bd]) (Ev.sgOf (sgPlanChecks_45 b1 b2 b3 b4 w1 w2 w3 x h)) (Ev.sgOf_ok _) w
  rw [eb1, eb2, eb3, eb4, ew1, ew2, ew3, ex, eh] at hr
  rw [hk]
  exact hr
def argsPlanChecks_46 : List Ev.AV := [.ag [.i .i64 4, .y .i64 0, .y .i64 1, .y .i64 2, .y .i64 3, .y .i64 2722259016497146122424359018585896517633001000, .y .i64 2722259016497146122424359018585896517633001001, .y .i64 2722259016497146122424359018585896517633000002, .y .i64 4, .y .i64 5]]
set_option maxRecDepth 100000 in
theorem ranPlanChecks_46 : Ev.okB (Ev.callA Try.prog [3, 4, 32, 137] (Ev.lk Ev.planPlanChecks) 200 3 argsPlanChecks_46 ⟨0, .e⟩) = true := by kernel_rfl
def sgPlanChecks_46 (b1 b2 b3 b4 w1 w2 w3 x h : Int) (j : Nat) : Int := match Nat.beq j 0 with
  | true => b1
  | false => match Nat.beq j 1 with
  | true => b2
  | false => match Nat.beq j 2 with
  | true => b3
  | false => match Nat.beq j 3 with
  | true => b4
  | false => match Nat.beq j 2722259016497146122424359018585896517633001000 with
  | true => w1
  | false => match Nat.beq j 2722259016497146122424359018585896517633001001 with
  | true => w2
  | false => match Nat.beq j 2722259016497146122424359018585896517633000002 with
  | true => w3
  | false => match Nat.beq j 4 with
  | true => x
  | false => match Nat.beq j 5 with
  | true => h
  | false => 0
theorem leafPlanChecks_46 (k b1 b2 b3 b4 w1 w2 w3 x h : Int) (w : World) (hk : k = 4) (lw1 : (-1099511627776) ≤ w1) (uw1 : w1 ≤ 1099511627776) (lw2 : (-1099511627776) ≤ w2) (uw2 : w2 ≤ 1099511627776) (lw3 : (-1099511627776) ≤ w3) (uw3 : w3 ≤ 1099511627776) (gw1w2 : w1 < w2) : Calls Try.prog 3 #[.agg #[.int .i64 k, .int .i64 b1, .int .i64 b2, .int .i64 b3, .int .i64 b4, .int .i64 w1, .int .i64 w2, .int .i64 w3, .int .i64 x, .int .i64 h]] w fun e w' => e = .returned (.bool true) ∧ Below w.heap.size w w' := by
  have ew1 := Ev.sgOf_two (f := sgPlanChecks_46 b1 b2 b3 b4 w1 w2 w3 x h) 2722259016497146122424359018585896517633001000 2722259016497146122424359018585896517633001001 rfl (a := w1) (b := w2) rfl rfl (by kernel_rfl) (by kernel_rfl : Ev.domS 2722259016497146122424359018585896517633001000 = (some (-1099511627776), some 1099511627776)) (show (-1099511627776) ≤ w1 by omega) (show w1 ≤ 1099511627776 by omega) (show (-1099511627776) ≤ w2 by omega) (show w2 ≤ 1099511627776 by omega) (by omega)
  have eb1 := Ev.sgOf_at (f := sgPlanChecks_46 b1 b2 b3 b4 w1 w2 w3 x h) 0 (a := b1) rfl (by kernel_rfl) (by kernel_rfl) (by kernel_rfl : Ev.domS 0 = (none, none)) (trivial : True) (trivial : True)
  have eb2 := Ev.sgOf_at (f := sgPlanChecks_46 b1 b2 b3 b4 w1 w2 w3 x h) 1 (a := b2) rfl (by kernel_rfl) (by kernel_rfl) (by kernel_rfl : Ev.domS 1 = (none, none)) (trivial : True) (trivial : True)
  have eb3 := Ev.sgOf_at (f := sgPlanChecks_46 b1 b2 b3 b4 w1 w2 w3 x h) 2 (a := b3) rfl (by kernel_rfl) (by kernel_rfl) (by kernel_rfl : Ev.domS 2 = (none, none)) (trivial : True) (trivial : True)
  have eb4 := Ev.sgOf_at (f := sgPlanChecks_46 b1 b2 b3 b4 w1 w2 w3 x h) 3 (a := b4) rfl (by kernel_rfl) (by kernel_rfl) (by kernel_rfl : Ev.domS 3 = (none, none)) (trivial : True) (trivial : True)
  have ew3 := Ev.sgOf_at (f := sgPlanChecks_46 b1 b2 b3 b4 w1 w2 w3 x h) 2722259016497146122424359018585896517633000002 (a := w3) rfl (by kernel_rfl) (by kernel_rfl) (by kernel_rfl : Ev.domS 2722259016497146122424359018585896517633000002 = (some (-1099511627776), some 1099511627776)) (show (-1099511627776) ≤ w3 by omega) (show w3 ≤ 1099511627776 by omega)
  have ex := Ev.sgOf_at (f := sgPlanChecks_46 b1 b2 b3 b4 w1 w2 w3 x h) 4 (a := x) rfl (by kernel_rfl) (by kernel_rfl) (by kernel_rfl : Ev.domS 4 = (none, none)) (trivial : True) (trivial : True)
  have eh := Ev.sgOf_at (f := sgPlanChecks_46 b1 b2 b3 b4 w1 w2 w3 x h) 5 (a := h) rfl (by kernel_rfl) (by kernel_rfl) (by kernel_rfl : Ev.domS 5 = (none, none)) (trivial : True) (trivial : True)
  have hr : Calls Try.prog 3 #[.agg #[.int .i64 4, .int .i64 (Ev.sgOf (sgPlanChecks_46 b1 b2 b3 b4 w1 w2 w3 x h) 0), .int .i64 (Ev.sgOf (sgPlanChecks_46 b1 b2 b3 b4 w1 w2 w3 x h) 1), .int .i64 (Ev.sgOf (sgPlanChecks_46 b1 b2 b3 b4 w1 w2 w3 x h) 2), .int .i64 (Ev.sgOf (sgPlanChecks_46 b1 b2 b3 b4 w1 w2 w3 x h) 3), .int .i64 (Ev.sgOf (sgPlanChecks_46 b1 b2 b3 b4 w1 w2 w3 x h) 2722259016497146122424359018585896517633001000), .int .i64 (Ev.sgOf (sgPlanChecks_46 b1 b2 b3 b4 w1 w2 w3 x h) 2722259016497146122424359018585896517633001001), .int .i64 (Ev.sgOf (sgPlanChecks_46 b1 b2 b3 b4 w1 w2 w3 x h) 2722259016497146122424359018585896517633000002), .int .i64 (Ev.sgOf (sgPlanChecks_46 b1 b2 b3 b4 w1 w2 w3 x h) 4), .int .i64 (Ev.sgOf (sgPlanChecks_46 b1 b2 b3 b4 w1 w2 w3 x h) 5)]] w fun e w' => e = .returned (.bool true) ∧ Below w.heap.size w w' := Ev.run_law (P := Try.prog) (by kernel_rfl) Ev.namesPlanChecks Ev.eqsPlanChecks ranPlanChecks_46 (by simp [argsPlanChecks_46, Ev.AV.bd]) (Ev.sgOf (sgPlanChecks_46 b1 b2 b3 b4 w1 w2 w3 x h)) (Ev.sgOf_ok _) w
  rw [ew1.1, ew1.2, eb1, eb2, eb3, eb4, ew3, ex, eh] at hr
  rw [hk]
  exact hr
def argsPlanChecks_47 : List Ev.AV := [.ag [.i .i64 4, .y .i64 0, .y .i64 1, .y .i64 2, .y .i64 3, .y .i64 2722259016497146122424359018585896517633000000, .y .i64 2722259016497146122424359018585896517633000000, .y .i64 2722259016497146122424359018585896517633000002, .y .i64 4, .y .i64 5]]
set_option maxRecDepth 100000 in
theorem ranPlanChecks_47 : Ev.okB (Ev.callA Try.prog [3, 4, 32, 137] (Ev.lk Ev.planPlanChecks) 200 3 argsPlanChecks_47 ⟨0, .e⟩) = true := by kernel_rfl
def sgPlanChecks_47 (b1 b2 b3 b4 w1 w3 x h : Int) (j : Nat) : Int := match Nat.beq j 0 with
  | true => b1
  | false => match Nat.beq j 1 with
  | true => b2
  | false => match Nat.beq j 2 with
  | true => b3
  | false => match Nat.beq j 3 with
  | true => b4
  | false => match Nat.beq j 2722259016497146122424359018585896517633000000 with
  | true => w1
  | false => match Nat.beq j 2722259016497146122424359018585896517633000002 with
  | true => w3
  | false => match Nat.beq j 4 with
  | true => x
  | false => match Nat.beq j 5 with
  | true => h
  | false => 0
theorem leafPlanChecks_47 (k b1 b2 b3 b4 w1 w2 w3 x h : Int) (w : World) (hk : k = 4) (lw1 : (-1099511627776) ≤ w1) (uw1 : w1 ≤ 1099511627776) (lw2 : (-1099511627776) ≤ w2) (uw2 : w2 ≤ 1099511627776) (lw3 : (-1099511627776) ≤ w3) (uw3 : w3 ≤ 1099511627776) (qw2 : w2 = w1) : Calls Try.prog 3 #[.agg #[.int .i64 k, .int .i64 b1, .int .i64 b2, .int .i64 b3, .int .i64 b4, .int .i64 w1, .int .i64 w2, .int .i64 w3, .int .i64 x, .int .i64 h]] w fun e w' => e = .returned (.bool true) ∧ Below w.heap.size w w' := by
  have eb1 := Ev.sgOf_at (f := sgPlanChecks_47 b1 b2 b3 b4 w1 w3 x h) 0 (a := b1) rfl (by kernel_rfl) (by kernel_rfl) (by kernel_rfl : Ev.domS 0 = (none, none)) (trivial : True) (trivial : True)
  have eb2 := Ev.sgOf_at (f := sgPlanChecks_47 b1 b2 b3 b4 w1 w3 x h) 1 (a := b2) rfl (by kernel_rfl) (by kernel_rfl) (by kernel_rfl : Ev.domS 1 = (none, none)) (trivial : True) (trivial : True)
  have eb3 := Ev.sgOf_at (f := sgPlanChecks_47 b1 b2 b3 b4 w1 w3 x h) 2 (a := b3) rfl (by kernel_rfl) (by kernel_rfl) (by kernel_rfl : Ev.domS 2 = (none, none)) (trivial : True) (trivial : True)
  have eb4 := Ev.sgOf_at (f := sgPlanChecks_47 b1 b2 b3 b4 w1 w3 x h) 3 (a := b4) rfl (by kernel_rfl) (by kernel_rfl) (by kernel_rfl : Ev.domS 3 = (none, none)) (trivial : True) (trivial : True)
  have ew1 := Ev.sgOf_at (f := sgPlanChecks_47 b1 b2 b3 b4 w1 w3 x h) 2722259016497146122424359018585896517633000000 (a := w1) rfl (by kernel_rfl) (by kernel_rfl) (by kernel_rfl : Ev.domS 2722259016497146122424359018585896517633000000 = (some (-1099511627776), some 1099511627776)) (show (-1099511627776) ≤ w1 by omega) (show w1 ≤ 1099511627776 by omega)
  have ew3 := Ev.sgOf_at (f := sgPlanChecks_47 b1 b2 b3 b4 w1 w3 x h) 2722259016497146122424359018585896517633000002 (a := w3) rfl (by kernel_rfl) (by kernel_rfl) (by kernel_rfl : Ev.domS 2722259016497146122424359018585896517633000002 = (some (-1099511627776), some 1099511627776)) (show (-1099511627776) ≤ w3 by omega) (show w3 ≤ 1099511627776 by omega)
  have ex := Ev.sgOf_at (f := sgPlanChecks_47 b1 b2 b3 b4 w1 w3 x h) 4 (a := x) rfl (by kernel_rfl) (by kernel_rfl) (by kernel_rfl : Ev.domS 4 = (none, none)) (trivial : True) (trivial : True)
  have eh := Ev.sgOf_at (f := sgPlanChecks_47 b1 b2 b3 b4 w1 w3 x h) 5 (a := h) rfl (by kernel_rfl) (by kernel_rfl) (by kernel_rfl : Ev.domS 5 = (none, none)) (trivial : True) (trivial : True)
  have hr : Calls Try.prog 3 #[.agg #[.int .i64 4, .int .i64 (Ev.sgOf (sgPlanChecks_47 b1 b2 b3 b4 w1 w3 x h) 0), .int .i64 (Ev.sgOf (sgPlanChecks_47 b1 b2 b3 b4 w1 w3 x h) 1), .int .i64 (Ev.sgOf (sgPlanChecks_47 b1 b2 b3 b4 w1 w3 x h) 2), .int .i64 (Ev.sgOf (sgPlanChecks_47 b1 b2 b3 b4 w1 w3 x h) 3), .int .i64 (Ev.sgOf (sgPlanChecks_47 b1 b2 b3 b4 w1 w3 x h) 2722259016497146122424359018585896517633000000), .int .i64 (Ev.sgOf (sgPlanChecks_47 b1 b2 b3 b4 w1 w3 x h) 2722259016497146122424359018585896517633000000), .int .i64 (Ev.sgOf (sgPlanChecks_47 b1 b2 b3 b4 w1 w3 x h) 2722259016497146122424359018585896517633000002), .int .i64 (Ev.sgOf (sgPlanChecks_47 b1 b2 b3 b4 w1 w3 x h) 4), .int .i64 (Ev.sgOf (sgPlanChecks_47 b1 b2 b3 b4 w1 w3 x h) 5)]] w fun e w' => e = .returned (.bool true) ∧ Below w.heap.size w w' := Ev.run_law (P := Try.prog) (by kernel_rfl) Ev.namesPlanChecks Ev.eqsPlanChecks ranPlanChecks_47 (by simp [argsPlanChecks_47, Ev.AV.bd]) (Ev.sgOf (sgPlanChecks_47 b1 b2 b3 b4 w1 w3 x h)) (Ev.sgOf_ok _) w
  rw [eb1, eb2, eb3, eb4, ew1, ew3, ex, eh] at hr
  rw [qw2, hk]
  exact hr
end Go.Proofs.Ytencgokpbfkeiaa
