/- 'alidadelaw25.PlanChecks' comes out true: cases 60 to 66. -/
import Derived.Test.YtencgokpbfkeiaaPPlanChecks
import Derived.WalkKit
set_option linter.unusedVariables false
namespace Go.Proofs.Ytencgokpbfkeiaa
open Go Go.RowKit
def argsPlanChecks_60 : List Ev.AV := [.ag [.i .i64 7, .y .i64 0, .y .i64 1, .y .i64 2, .y .i64 3, .y .i64 4, .y .i64 5, .y .i64 6, .y .i64 36893489246930731010000000, .y .i64 7]]
set_option maxRecDepth 100000 in
theorem ranPlanChecks_60 : Ev.okB (Ev.callA Try.prog [3, 4, 32, 137] (Ev.lk Ev.planPlanChecks) 200 3 argsPlanChecks_60 ⟨0, .e⟩) = true := by kernel_rfl
def sgPlanChecks_60 (b1 b2 b3 b4 w1 w2 w3 x h : Int) (j : Nat) : Int := match Nat.beq j 0 with
  | true => b1
  | false => match Nat.beq j 1 with
  | true => b2
  | false => match Nat.beq j 2 with
  | true => b3
  | false => match Nat.beq j 3 with
  | true => b4
  | false => match Nat.beq j 4 with
  | true => w1
  | false => match Nat.beq j 5 with
  | true => w2
  | false => match Nat.beq j 6 with
  | true => w3
  | false => match Nat.beq j 36893489246930731010000000 with
  | true => x
  | false => match Nat.beq j 7 with
  | true => h
  | false => 0
theorem leafPlanChecks_60 (k b1 b2 b3 b4 w1 w2 w3 x h : Int) (w : World) (hk : k = 7) (lx : 1099511627777 ≤ x) : Calls Try.prog 3 #[.agg #[.int .i64 k, .int .i64 b1, .int .i64 b2, .int .i64 b3, .int .i64 b4, .int .i64 w1, .int .i64 w2, .int .i64 w3, .int .i64 x, .int .i64 h]] w fun e w' => e = .returned (.bool true) ∧ Below w.heap.size w w' := by
  have eb1 := Ev.sgOf_at (f := sgPlanChecks_60 b1 b2 b3 b4 w1 w2 w3 x h) 0 (a := b1) rfl (by kernel_rfl) (by kernel_rfl) (by kernel_rfl : Ev.domS 0 = (none, none)) (trivial : True) (trivial : True)
  have eb2 := Ev.sgOf_at (f := sgPlanChecks_60 b1 b2 b3 b4 w1 w2 w3 x h) 1 (a := b2) rfl (by kernel_rfl) (by kernel_rfl) (by kernel_rfl : Ev.domS 1 = (none, none)) (trivial : True) (trivial : True)
  have eb3 := Ev.sgOf_at (f := sgPlanChecks_60 b1 b2 b3 b4 w1 w2 w3 x h) 2 (a := b3) rfl (by kernel_rfl) (by kernel_rfl) (by kernel_rfl : Ev.domS 2 = (none, none)) (trivial : True) (trivial : True)
  have eb4 := Ev.sgOf_at (f := sgPlanChecks_60 b1 b2 b3 b4 w1 w2 w3 x h) 3 (a := b4) rfl (by kernel_rfl) (by kernel_rfl) (by kernel_rfl : Ev.domS 3 = (none, none)) (trivial : True) (trivial : True)
  have ew1 := Ev.sgOf_at (f := sgPlanChecks_60 b1 b2 b3 b4 w1 w2 w3 x h) 4 (a := w1) rfl (by kernel_rfl) (by kernel_rfl) (by kernel_rfl : Ev.domS 4 = (none, none)) (trivial : True) (trivial : True)
  have ew2 := Ev.sgOf_at (f := sgPlanChecks_60 b1 b2 b3 b4 w1 w2 w3 x h) 5 (a := w2) rfl (by kernel_rfl) (by kernel_rfl) (by kernel_rfl : Ev.domS 5 = (none, none)) (trivial : True) (trivial : True)
  have ew3 := Ev.sgOf_at (f := sgPlanChecks_60 b1 b2 b3 b4 w1 w2 w3 x h) 6 (a := w3) rfl (by kernel_rfl) (by kernel_rfl) (by kernel_rfl : Ev.domS 6 = (none, none)) (trivial : True) (trivial : True)
  have ex := Ev.sgOf_at (f := sgPlanChecks_60 b1 b2 b3 b4 w1 w2 w3 x h) 36893489246930731010000000 (a := x) rfl (by kernel_rfl) (by kernel_rfl) (by kernel_rfl : Ev.domS 36893489246930731010000000 = (some 1099511627777, none)) (show 1099511627777 ≤ x by omega) (trivial : True)
  have eh := Ev.sgOf_at (f := sgPlanChecks_60 b1 b2 b3 b4 w1 w2 w3 x h) 7 (a := h) rfl (by kernel_rfl) (by kernel_rfl) (by kernel_rfl : Ev.domS 7 = (none, none)) (trivial : True) (trivial : True)
  have hr : Calls Try.prog 3 #[.agg #[.int .i64 7, .int .i64 (Ev.sgOf (sgPlanChecks_60 b1 b2 b3 b4 w1 w2 w3 x h) 0), .int .i64 (Ev.sgOf (sgPlanChecks_60 b1 b2 b3 b4 w1 w2 w3 x h) 1), .int .i64 (Ev.sgOf (sgPlanChecks_60 b1 b2 b3 b4 w1 w2 w3 x h) 2), .int .i64 (Ev.sgOf (sgPlanChecks_60 b1 b2 b3 b4 w1 w2 w3 x h) 3), .int .i64 (Ev.sgOf (sgPlanChecks_60 b1 b2 b3 b4 w1 w2 w3 x h) 4), .int .i64 (Ev.sgOf (sgPlanChecks_60 b1 b2 b3 b4 w1 w2 w3 x h) 5), .int .i64 (Ev.sgOf (sgPlanChecks_60 b1 b2 b3 b4 w1 w2 w3 x h) 6), .int .i64 (Ev.sgOf (sgPlanChecks_60 b1 b2 b3 b4 w1 w2 w3 x h) 36893489246930731010000000), .int .i64 (Ev.sgOf (sgPlanChecks_60 b1 b2 b3 b4 w1 w2 w3 x h) 7)]] w fun e w' => e = .returned (.bool true) ∧ Below w.heap.size w w' := Ev.run_law (P := Try.prog) (by kernel_rfl) Ev.namesPlanChecks Ev.eqsPlanChecks ranPlanChecks_60 (by simp [argsPlanChecks_60, Ev.AV.bd]) (Ev.sgOf (sgPlanChecks_60 b1 b2 b3 b4 w1 w2 w3 x h)) (Ev.sgOf_ok _) w
  rw [eb1, eb2, eb3, eb4, ew1, ew2, ew3, ex, eh] at hr
  rw [hk]
  exact hr
def argsPlanChecks_61 : List Ev.AV := [.ag [.i .i64 7, .y .i64 0, .y .i64 1, .y .i64 2, .y .i64 3, .y .i64 4, .y .i64 5, .y .i64 6, .y .i64 2722259016497146122424359018585896517633000000, .y .i64 2722258854237869293100315163665140547584000002]]
set_option maxRecDepth 100000 in
theorem ranPlanChecks_61 : Ev.okB (Ev.callA Try.prog [3, 4, 32, 137] (Ev.lk Ev.planPlanChecks) 200 3 argsPlanChecks_61 ⟨0, .e⟩) = true := by kernel_rfl
def sgPlanChecks_61 (b1 b2 b3 b4 w1 w2 w3 x h : Int) (j : Nat) : Int := match Nat.beq j 0 with
  | true => b1
  | false => match Nat.beq j 1 with
  | true => b2
  | false => match Nat.beq j 2 with
  | true => b3
  | false => match Nat.beq j 3 with
  | true => b4
  | false => match Nat.beq j 4 with
  | true => w1
  | false => match Nat.beq j 5 with
  | true => w2
  | false => match Nat.beq j 6 with
  | true => w3
  | false => match Nat.beq j 2722259016497146122424359018585896517633000000 with
  | true => x
  | false => match Nat.beq j 2722258854237869293100315163665140547584000002 with
  | true => h
  | false => 0
theorem leafPlanChecks_61 (k b1 b2 b3 b4 w1 w2 w3 x h : Int) (w : World) (hk : k = 7) (lx : (-1099511627776) ≤ x) (ux : x ≤ 1099511627776) (uh : h ≤ (-1099511627777)) : Calls Try.prog 3 #[.agg #[.int .i64 k, .int .i64 b1, .int .i64 b2, .int .i64 b3, .int .i64 b4, .int .i64 w1, .int .i64 w2, .int .i64 w3, .int .i64 x, .int .i64 h]] w fun e w' => e = .returned (.bool true) ∧ Below w.heap.size w w' := by
  have eb1 := Ev.sgOf_at (f := sgPlanChecks_61 b1 b2 b3 b4 w1 w2 w3 x h) 0 (a := b1) rfl (by kernel_rfl) (by kernel_rfl) (by kernel_rfl : Ev.domS 0 = (none, none)) (trivial : True) (trivial : True)
  have eb2 := Ev.sgOf_at (f := sgPlanChecks_61 b1 b2 b3 b4 w1 w2 w3 x h) 1 (a := b2) rfl (by kernel_rfl) (by kernel_rfl) (by kernel_rfl : Ev.domS 1 = (none, none)) (trivial : True) (trivial : True)
  have eb3 := Ev.sgOf_at (f := sgPlanChecks_61 b1 b2 b3 b4 w1 w2 w3 x h) 2 (a := b3) rfl (by kernel_rfl) (by kernel_rfl) (by kernel_rfl : Ev.domS 2 = (none, none)) (trivial : True) (trivial : True)
  have eb4 := Ev.sgOf_at (f := sgPlanChecks_61 b1 b2 b3 b4 w1 w2 w3 x h) 3 (a := b4) rfl (by kernel_rfl) (by kernel_rfl) (by kernel_rfl : Ev.domS 3 = (none, none)) (trivial : True) (trivial : True)
  have ew1 := Ev.sgOf_at (f := sgPlanChecks_61 b1 b2 b3 b4 w1 w2 w3 x h) 4 (a := w1) rfl (by kernel_rfl) (by kernel_rfl) (by kernel_rfl : Ev.domS 4 = (none, none)) (trivial : True) (trivial : True)
  have ew2 := Ev.sgOf_at (f := sgPlanChecks_61 b1 b2 b3 b4 w1 w2 w3 x h) 5 (a := w2) rfl (by kernel_rfl) (by kernel_rfl) (by kernel_rfl : Ev.domS 5 = (none, none)) (trivial : True) (trivial : True)
  have ew3 := Ev.sgOf_at (f := sgPlanChecks_61 b1 b2 b3 b4 w1 w2 w3 x h) 6 (a := w3) rfl (by kernel_rfl) (by kernel_rfl) (by kernel_rfl : Ev.domS 6 = (none, none)) (trivial : True) (trivial : True)
  have ex := Ev.sgOf_at (f := sgPlanChecks_61 b1 b2 b3 b4 w1 w2 w3 x h) 2722259016497146122424359018585896517633000000 (a := x) rfl (by kernel_rfl) (by kernel_rfl) (by kernel_rfl : Ev.domS 2722259016497146122424359018585896517633000000 = (some (-1099511627776), some 1099511627776)) (show (-1099511627776) ≤ x by omega) (show x ≤ 1099511627776 by omega)
  have eh := Ev.sgOf_at (f := sgPlanChecks_61 b1 b2 b3 b4 w1 w2 w3 x h) 2722258854237869293100315163665140547584000002 (a := h) rfl (by kernel_rfl) (by kernel_rfl) (by kernel_rfl : Ev.domS 2722258854237869293100315163665140547584000002 = (none, some (-1099511627777))) (trivial : True) (show h ≤ (-1099511627777) by omega)
  have hr : Calls Try.prog 3 #[.agg #[.int .i64 7, .int .i64 (Ev.sgOf (sgPlanChecks_61 b1 b2 b3 b4 w1 w2 w3 x h) 0), .int .i64 (Ev.sgOf (sgPlanChecks_61 b1 b2 b3 b4 w1 w2 w3 x h) 1), .int .i64 (Ev.sgOf (sgPlanChecks_61 b1 b2 b3 b4 w1 w2 w3 x h) 2), .int .i64 (Ev.sgOf (sgPlanChecks_61 b1 b2 b3 b4 w1 w2 w3 x h) 3), .int .i64 (Ev.sgOf (sgPlanChecks_61 b1 b2 b3 b4 w1 w2 w3 x h) 4), .int .i64 (Ev.sgOf (sgPlanChecks_61 b1 b2 b3 b4 w1 w2 w3 x h) 5), .int .i64 (Ev.sgOf (sgPlanChecks_61 b1 b2 b3 b4 w1 w2 w3 x h) 6), .int .i64 (Ev.sgOf (sgPlanChecks_61 b1 b2 b3 b4 w1 w2 w3 x h) 2722259016497146122424359018585896517633000000), .int .i64 (Ev.sgOf (sgPlanChecks_61 b1 b2 b3 b4 w1 w2 w3 x h) 2722258854237869293100315163665140547584000002)]] w fun e w' => e = .returned (.bool true) ∧ Below w.heap.size w w' := Ev.run_law (P := Try.prog) (by kernel_rfl) Ev.namesPlanChecks Ev.eqsPlanChecks ranPlanChecks_61 (by simp [argsPlanChecks_61, Ev.AV.bd]) (Ev.sgOf (sgPlanChecks_61 b1 b2 b3 b4 w1 w2 w3 x h)) (Ev.sgOf_ok _) w
  rw [eb1, eb2, eb3, eb4, ew1, ew2, ew3, ex, eh] at hr
  rw [hk]
  exact hr
def argsPlanChecks_62 : List Ev.AV := [.ag [.i .i64 7, .y .i64 0, .y .i64 1, .y .i64 2, .y .i64 3, .y .i64 4, .y .i64 5, .y .i64 6, .y .i64 2722259016497146122424359018585896517633000000, .y .i64 36893489246930731010000002]]
set_option maxRecDepth 100000 in
theorem ranPlanChecks_62 : Ev.okB (Ev.callA Try.prog [3, 4, 32, 137] (Ev.lk Ev.planPlanChecks) 200 3 argsPlanChecks_62 ⟨0, .e⟩) = true := by kernel_rfl
def sgPlanChecks_62 (b1 b2 b3 b4 w1 w2 w3 x h : Int) (j : Nat) : Int := match Nat.beq j 0 with
  | true => b1
  | false => match Nat.beq j 1 with
  | true => b2
  | false => match Nat.beq j 2 with
  | true => b3
  | false => match Nat.beq j 3 with
  | true => b4
  | false => match Nat.beq j 4 with
  | true => w1
  | false => match Nat.beq j 5 with
  | true => w2
  | false => match Nat.beq j 6 with
  | true => w3
  | false => match Nat.beq j 2722259016497146122424359018585896517633000000 with
  | true => x
  | false => match Nat.beq j 36893489246930731010000002 with
  | true => h
  | false => 0
theorem leafPlanChecks_62 (k b1 b2 b3 b4 w1 w2 w3 x h : Int) (w : World) (hk : k = 7) (lx : (-1099511627776) ≤ x) (ux : x ≤ 1099511627776) (lh : 1099511627777 ≤ h) : Calls Try.prog 3 #[.agg #[.int .i64 k, .int .i64 b1, .int .i64 b2, .int .i64 b3, .int .i64 b4, .int .i64 w1, .int .i64 w2, .int .i64 w3, .int .i64 x, .int .i64 h]] w fun e w' => e = .returned (.bool true) ∧ Below w.heap.size w w' := by
  have eb1 := Ev.sgOf_at (f := sgPlanChecks_62 b1 b2 b3 b4 w1 w2 w3 x h) 0 (a := b1) rfl (by kernel_rfl) (by kernel_rfl) (by kernel_rfl : Ev.domS 0 = (none, none)) (trivial : True) (trivial : True)
  have eb2 := Ev.sgOf_at (f := sgPlanChecks_62 b1 b2 b3 b4 w1 w2 w3 x h) 1 (a := b2) rfl (by kernel_rfl) (by kernel_rfl) (by kernel_rfl : Ev.domS 1 = (none, none)) (trivial : True) (trivial : True)
  have eb3 := Ev.sgOf_at (f := sgPlanChecks_62 b1 b2 b3 b4 w1 w2 w3 x h) 2 (a := b3) rfl (by kernel_rfl) (by kernel_rfl) (by kernel_rfl : Ev.domS 2 = (none, none)) (trivial : True) (trivial : True)
  have eb4 := Ev.sgOf_at (f := sgPlanChecks_62 b1 b2 b3 b4 w1 w2 w3 x h) 3 (a := b4) rfl (by kernel_rfl) (by kernel_rfl) (by kernel_rfl : Ev.domS 3 = (none, none)) (trivial : True) (trivial : True)
  have ew1 := Ev.sgOf_at (f := sgPlanChecks_62 b1 b2 b3 b4 w1 w2 w3 x h) 4 (a := w1) rfl (by kernel_rfl) (by kernel_rfl) (by kernel_rfl : Ev.domS 4 = (none, none)) (trivial : True) (trivial : True)
  have ew2 := Ev.sgOf_at (f := sgPlanChecks_62 b1 b2 b3 b4 w1 w2 w3 x h) 5 (a := w2) rfl (by kernel_rfl) (by kernel_rfl) (by kernel_rfl : Ev.domS 5 = (none, none)) (trivial : True) (trivial : True)
  have ew3 := Ev.sgOf_at (f := sgPlanChecks_62 b1 b2 b3 b4 w1 w2 w3 x h) 6 (a := w3) rfl (by kernel_rfl) (by kernel_rfl) (by kernel_rfl : Ev.domS 6 = (none, none)) (trivial : True) (trivial : True)
  have ex := Ev.sgOf_at (f := sgPlanChecks_62 b1 b2 b3 b4 w1 w2 w3 x h) 2722259016497146122424359018585896517633000000 (a := x) rfl (by kernel_rfl) (by kernel_rfl) (by kernel_rfl : Ev.domS 2722259016497146122424359018585896517633000000 = (some (-1099511627776), some 1099511627776)) (show (-1099511627776) ≤ x by omega) (show x ≤ 1099511627776 by omega)
  have eh := Ev.sgOf_at (f := sgPlanChecks_62 b1 b2 b3 b4 w1 w2 w3 x h) 36893489246930731010000002 (a := h) rfl (by kernel_rfl) (by kernel_rfl) (by kernel_rfl : Ev.domS 36893489246930731010000002 = (some 1099511627777, none)) (show 1099511627777 ≤ h by omega) (trivial : True)
  have hr : Calls Try.prog 3 #[.agg #[.int .i64 7, .int .i64 (Ev.sgOf (sgPlanChecks_62 b1 b2 b3 b4 w1 w2 w3 x h) 0), .int .i64 (Ev.sgOf (sgPlanChecks_62 b1 b2 b3 b4 w1 w2 w3 x h) 1), .int .i64 (Ev.sgOf (sgPlanChecks_62 b1 b2 b3 b4 w1 w2 w3 x h) 2), .int .i64 (Ev.sgOf (sgPlanChecks_62 b1 b2 b3 b4 w1 w2 w3 x h) 3), .int .i64 (Ev.sgOf (sgPlanChecks_62 b1 b2 b3 b4 w1 w2 w3 x h) 4), .int .i64 (Ev.sgOf (sgPlanChecks_62 b1 b2 b3 b4 w1 w2 w3 x h) 5), .int .i64 (Ev.sgOf (sgPlanChecks_62 b1 b2 b3 b4 w1 w2 w3 x h) 6), .int .i64 (Ev.sgOf (sgPlanChecks_62 b1 b2 b3 b4 w1 w2 w3 x h) 2722259016497146122424359018585896517633000000), .int .i64 (Ev.sgOf (sgPlanChecks_62 b1 b2 b3 b4 w1 w2 w3 x h) 36893489246930731010000002)]] w fun e w' => e = .returned (.bool true) ∧ Below w.heap.size w w' := Ev.run_law (P := Try.prog) (by kernel_rfl) Ev.namesPlanChecks Ev.eqsPlanChecks ranPlanChecks_62 (by simp [argsPlanChecks_62, Ev.AV.bd]) (Ev.sgOf (sgPlanChecks_62 b1 b2 b3 b4 w1 w2 w3 x h)) (Ev.sgOf_ok _) w
  rw [eb1, eb2, eb3, eb4, ew1, ew2, ew3, ex, eh] at hr
  rw [hk]
  exact hr
def argsPlanChecks_63 : List Ev.AV := [.ag [.i .i64 7, .y .i64 0, .y .i64 1, .y .i64 2, .y .i64 3, .y .i64 4, .y .i64 5, .y .i64 6, .y .i64 2722259016497146122424359018585896517633001000, .y .i64 2722259016497146122424359018585896517633001001]]
set_option maxRecDepth 100000 in
theorem ranPlanChecks_63 : Ev.okB (Ev.callA Try.prog [3, 4, 32, 137] (Ev.lk Ev.planPlanChecks) 200 3 argsPlanChecks_63 ⟨0, .e⟩) = true := by kernel_rfl
def sgPlanChecks_63 (b1 b2 b3 b4 w1 w2 w3 x h : Int) (j : Nat) : Int := match Nat.beq j 0 with
  | true => b1
  | false => match Nat.beq j 1 with
  | true => b2
  | false => match Nat.beq j 2 with
  | true => b3
  | false => match Nat.beq j 3 with
  | true => b4
  | false => match Nat.beq j 4 with
  | true => w1
  | false => match Nat.beq j 5 with
  | true => w2
  | false => match Nat.beq j 6 with
  | true => w3
  | false => match Nat.beq j 2722259016497146122424359018585896517633001000 with
  | true => x
  | false => match Nat.beq j 2722259016497146122424359018585896517633001001 with
  | true => h
  | false => 0
theorem leafPlanChecks_63 (k b1 b2 b3 b4 w1 w2 w3 x h : Int) (w : World) (hk : k = 7) (lx : (-1099511627776) ≤ x) (ux : x ≤ 1099511627776) (lh : (-1099511627776) ≤ h) (uh : h ≤ 1099511627776) (gxh : x < h) : Calls Try.prog 3 #[.agg #[.int .i64 k, .int .i64 b1, .int .i64 b2, .int .i64 b3, .int .i64 b4, .int .i64 w1, .int .i64 w2, .int .i64 w3, .int .i64 x, .int .i64 h]] w fun e w' => e = .returned (.bool true) ∧ Below w.heap.size w w' := by
  have ex := Ev.sgOf_two (f := sgPlanChecks_63 b1 b2 b3 b4 w1 w2 w3 x h) 2722259016497146122424359018585896517633001000 2722259016497146122424359018585896517633001001 rfl (a := x) (b := h) rfl rfl (by kernel_rfl) (by kernel_rfl : Ev.domS 2722259016497146122424359018585896517633001000 = (some (-1099511627776), some 1099511627776)) (show (-1099511627776) ≤ x by omega) (show x ≤ 1099511627776 by omega) (show (-1099511627776) ≤ h by omega) (show h ≤ 1099511627776 by omega) (by omega)
  have eb1 := Ev.sgOf_at (f := sgPlanChecks_63 b1 b2 b3 b4 w1 w2 w3 x h) 0 (a := b1) rfl (by kernel_rfl) (by kernel_rfl) (by kernel_rfl : Ev.domS 0 = (none, none)) (trivial : True) (trivial : True)
  have eb2 := Ev.sgOf_at (f := sgPlanChecks_63 b1 b2 b3 b4 w1 w2 w3 x h) 1 (a := b2) rfl (by kernel_rfl) (by kernel_rfl) (by kernel_rfl : Ev.domS 1 = (none, none)) (trivial : True) (trivial : True)
  have eb3 := Ev.sgOf_at (f := sgPlanChecks_63 b1 b2 b3 b4 w1 w2 w3 x h) 2 (a := b3) rfl (by kernel_rfl) (by kernel_rfl) (by kernel_rfl : Ev.domS 2 = (none, none)) (trivial : True) (trivial : True)
  have eb4 := Ev.sgOf_at (f := sgPlanChecks_63 b1 b2 b3 b4 w1 w2 w3 x h) 3 (a := b4) rfl (by kernel_rfl) (by kernel_rfl) (by kernel_rfl : Ev.domS 3 = (none, none)) (trivial : True) (trivial : True)
  have ew1 := Ev.sgOf_at (f := sgPlanChecks_63 b1 b2 b3 b4 w1 w2 w3 x h) 4 (a := w1) rfl (by kernel_rfl) (by kernel_rfl) (by kernel_rfl : Ev.domS 4 = (none, none)) (trivial : True) (trivial : True)
  have ew2 := Ev.sgOf_at (f := sgPlanChecks_63 b1 b2 b3 b4 w1 w2 w3 x h) 5 (a := w2) rfl (by kernel_rfl) (by kernel_rfl) (by kernel_rfl : Ev.domS 5 = (none, none)) (trivial : True) (trivial : True)
  have ew3 := Ev.sgOf_at (f := sgPlanChecks_63 b1 b2 b3 b4 w1 w2 w3 x h) 6 (a := w3) rfl (by kernel_rfl) (by kernel_rfl) (by kernel_rfl : Ev.domS 6 = (none, none)) (trivial : True) (trivial : True)
  have hr : Calls Try.prog 3 #[.agg #[.int .i64 7, .int .i64 (Ev.sgOf (sgPlanChecks_63 b1 b2 b3 b4 w1 w2 w3 x h) 0), .int .i64 (Ev.sgOf (sgPlanChecks_63 b1 b2 b3 b4 w1 w2 w3 x h) 1), .int .i64 (Ev.sgOf (sgPlanChecks_63 b1 b2 b3 b4 w1 w2 w3 x h) 2), .int .i64 (Ev.sgOf (sgPlanChecks_63 b1 b2 b3 b4 w1 w2 w3 x h) 3), .int .i64 (Ev.sgOf (sgPlanChecks_63 b1 b2 b3 b4 w1 w2 w3 x h) 4), .int .i64 (Ev.sgOf (sgPlanChecks_63 b1 b2 b3 b4 w1 w2 w3 x h) 5), .int .i64 (Ev.sgOf (sgPlanChecks_63 b1 b2 b3 b4 w1 w2 w3 x h) 6), .int .i64 (Ev.sgOf (sgPlanChecks_63 b1 b2 b3 b4 w1 w2 w3 x h) 2722259016497146122424359018585896517633001000), .int .i64 (Ev.sgOf (sgPlanChecks_63 b1 b2 b3 b4 w1 w2 w3 x h) 2722259016497146122424359018585896517633001001)]] w fun e w' => e = .returned (.bool true) ∧ Below w.heap.size w w' := Ev.run_law (P := Try.prog) (by kernel_rfl) Ev.namesPlanChecks Ev.eqsPlanChecks ranPlanChecks_63 (by simp [argsPlanChecks_63, Ev.AV.bd]) (Ev.sgOf (sgPlanChecks_63 b1 b2 b3 b4 w1 w2 w3 x h)) (Ev.sgOf_ok _) w
  rw [ex.1, ex.2, eb1, eb2, eb3, eb4, ew1, ew2, ew3] at hr
  rw [hk]
  exact hr
def argsPlanChecks_64 : List Ev.AV := [.ag [.i .i64 7, .y .i64 0, .y .i64 1, .y .i64 2, .y .i64 3, .y .i64 4, .y .i64 5, .y .i64 6, .y .i64 2722259016497146122424359018585896517633000000, .y .i64 2722259016497146122424359018585896517633000000]]
set_option maxRecDepth 100000 in
theorem ranPlanChecks_64 : Ev.okB (Ev.callA Try.prog [3, 4, 32, 137] (Ev.lk Ev.planPlanChecks) 200 3 argsPlanChecks_64 ⟨0, .e⟩) = true := by kernel_rfl
def sgPlanChecks_64 (b1 b2 b3 b4 w1 w2 w3 x : Int) (j : Nat) : Int := match Nat.beq j 0 with
  | true => b1
  | false => match Nat.beq j 1 with
  | true => b2
  | false => match Nat.beq j 2 with
  | true => b3
  | false => match Nat.beq j 3 with
  | true => b4
  | false => match Nat.beq j 4 with
  | true => w1
  | false => match Nat.beq j 5 with
  | true => w2
  | false => match Nat.beq j 6 with
  | true => w3
  | false => match Nat.beq j 2722259016497146122424359018585896517633000000 with
  | true => x
  | false => 0
theorem leafPlanChecks_64 (k b1 b2 b3 b4 w1 w2 w3 x h : Int) (w : World) (hk : k = 7) (lx : (-1099511627776) ≤ x) (ux : x ≤ 1099511627776) (lh : (-1099511627776) ≤ h) (uh : h ≤ 1099511627776) (qh : h = x) : Calls Try.prog 3 #[.agg #[.int .i64 k, .int .i64 b1, .int .i64 b2, .int .i64 b3, .int .i64 b4, .int .i64 w1, .int .i64 w2, .int .i64 w3, .int .i64 x, .int .i64 h]] w fun e w' => e = .returned (.bool true) ∧ Below w.heap.size w w' := by
  have eb1 := Ev.sgOf_at (f := sgPlanChecks_64 b1 b2 b3 b4 w1 w2 w3 x) 0 (a := b1) rfl (by kernel_rfl) (by kernel_rfl) (by kernel_rfl : Ev.domS 0 = (none, none)) (trivial : True) (trivial : True)
  have eb2 := Ev.sgOf_at (f := sgPlanChecks_64 b1 b2 b3 b4 w1 w2 w3 x) 1 (a := b2) rfl (by kernel_rfl) (by kernel_rfl) (by kernel_rfl : Ev.domS 1 = (none, none)) (trivial : True) (trivial : True)
  have eb3 := Ev.sgOf_at (f := sgPlanChecks_64 b1 b2 b3 b4 w1 w2 w3 x) 2 (a := b3) rfl (by kernel_rfl) (by kernel_rfl) (by kernel_rfl : Ev.domS 2 = (none, none)) (trivial : True) (trivial : True)
  have eb4 := Ev.sgOf_at (f := sgPlanChecks_64 b1 b2 b3 b4 w1 w2 w3 x) 3 (a := b4) rfl (by kernel_rfl) (by kernel_rfl) (by kernel_rfl : Ev.domS 3 = (none, none)) (trivial : True) (trivial : True)
  have ew1 := Ev.sgOf_at (f := sgPlanChecks_64 b1 b2 b3 b4 w1 w2 w3 x) 4 (a := w1) rfl (by kernel_rfl) (by kernel_rfl) (by kernel_rfl : Ev.domS 4 = (none, none)) (trivial : True) (trivial : True)
  have ew2 := Ev.sgOf_at (f := sgPlanChecks_64 b1 b2 b3 b4 w1 w2 w3 x) 5 (a := w2) rfl (by kernel_rfl) (by kernel_rfl) (by kernel_rfl : Ev.domS 5 = (none, none)) (trivial : True) (trivial : True)
  have ew3 := Ev.sgOf_at (f := sgPlanChecks_64 b1 b2 b3 b4 w1 w2 w3 x) 6 (a := w3) rfl (by kernel_rfl) (by kernel_rfl) (by kernel_rfl : Ev.domS 6 = (none, none)) (trivial : True) (trivial : True)
  have ex := Ev.sgOf_at (f := sgPlanChecks_64 b1 b2 b3 b4 w1 w2 w3 x) 2722259016497146122424359018585896517633000000 (a := x) rfl (by kernel_rfl) (by kernel_rfl) (by kernel_rfl : Ev.domS 2722259016497146122424359018585896517633000000 = (some (-1099511627776), some 1099511627776)) (show (-1099511627776) ≤ x by omega) (show x ≤ 1099511627776 by omega)
  have hr : Calls Try.prog 3 #[.agg #[.int .i64 7, .int .i64 (Ev.sgOf (sgPlanChecks_64 b1 b2 b3 b4 w1 w2 w3 x) 0), .int .i64 (Ev.sgOf (sgPlanChecks_64 b1 b2 b3 b4 w1 w2 w3 x) 1), .int .i64 (Ev.sgOf (sgPlanChecks_64 b1 b2 b3 b4 w1 w2 w3 x) 2), .int .i64 (Ev.sgOf (sgPlanChecks_64 b1 b2 b3 b4 w1 w2 w3 x) 3), .int .i64 (Ev.sgOf (sgPlanChecks_64 b1 b2 b3 b4 w1 w2 w3 x) 4), .int .i64 (Ev.sgOf (sgPlanChecks_64 b1 b2 b3 b4 w1 w2 w3 x) 5), .int .i64 (Ev.sgOf (sgPlanChecks_64 b1 b2 b3 b4 w1 w2 w3 x) 6), .int .i64 (Ev.sgOf (sgPlanChecks_64 b1 b2 b3 b4 w1 w2 w3 x) 2722259016497146122424359018585896517633000000), .int .i64 (Ev.sgOf (sgPlanChecks_64 b1 b2 b3 b4 w1 w2 w3 x) 2722259016497146122424359018585896517633000000)]] w fun e w' => e = .returned (.bool true) ∧ Below w.heap.size w w' := Ev.run_law (P := Try.prog) (by kernel_rfl) Ev.namesPlanChecks Ev.eqsPlanChecks ranPlanChecks_64 (by simp [argsPlanChecks_64, Ev.AV.bd]) (Ev.sgOf (sgPlanChecks_64 b1 b2 b3 b4 w1 w2 w3 x)) (Ev.sgOf_ok _) w
  rw [eb1, eb2, eb3, eb4, ew1, ew2, ew3, ex] at hr
  rw [qh, hk]
  exact hr
def argsPlanChecks_65 : List Ev.AV := [.ag [.i .i64 7, .y .i64 0, .y .i64 1, .y .i64 2, .y .i64 3, .y .i64 4, .y .i64 5, .y .i64 6, .y .i64 2722259016497146122424359018585896517633001001, .y .i64 2722259016497146122424359018585896517633001000]]
set_option maxRecDepth 100000 in
theorem ranPlanChecks_65 : Ev.okB (Ev.callA Try.prog [3, 4, 32, 137] (Ev.lk Ev.planPlanChecks) 200 3 argsPlanChecks_65 ⟨0, .e⟩) = true := by kernel_rfl
def sgPlanChecks_65 (b1 b2 b3 b4 w1 w2 w3 x h : Int) (j : Nat) : Int := match Nat.beq j 0 with
  | true => b1
  | false => match Nat.beq j 1 with
  | true => b2
  | false => match Nat.beq j 2 with
  | true => b3
  | false => match Nat.beq j 3 with
  | true => b4
  | false => match Nat.beq j 4 with
  | true => w1
  | false => match Nat.beq j 5 with
  | true => w2
  | false => match Nat.beq j 6 with
  | true => w3
  | false => match Nat.beq j 2722259016497146122424359018585896517633001001 with
  | true => x
  | false => match Nat.beq j 2722259016497146122424359018585896517633001000 with
  | true => h
  | false => 0
theorem leafPlanChecks_65 (k b1 b2 b3 b4 w1 w2 w3 x h : Int) (w : World) (hk : k = 7) (lx : (-1099511627776) ≤ x) (ux : x ≤ 1099511627776) (lh : (-1099511627776) ≤ h) (uh : h ≤ 1099511627776) (ghx : h < x) : Calls Try.prog 3 #[.agg #[.int .i64 k, .int .i64 b1, .int .i64 b2, .int .i64 b3, .int .i64 b4, .int .i64 w1, .int .i64 w2, .int .i64 w3, .int .i64 x, .int .i64 h]] w fun e w' => e = .returned (.bool true) ∧ Below w.heap.size w w' := by
  have eh := Ev.sgOf_two (f := sgPlanChecks_65 b1 b2 b3 b4 w1 w2 w3 x h) 2722259016497146122424359018585896517633001000 2722259016497146122424359018585896517633001001 rfl (a := h) (b := x) rfl rfl (by kernel_rfl) (by kernel_rfl : Ev.domS 2722259016497146122424359018585896517633001000 = (some (-1099511627776), some 1099511627776)) (show (-1099511627776) ≤ h by omega) (show h ≤ 1099511627776 by omega) (show (-1099511627776) ≤ x by omega) (show x ≤ 1099511627776 by omega) (by omega)
  have eb1 := Ev.sgOf_at (f := sgPlanChecks_65 b1 b2 b3 b4 w1 w2 w3 x h) 0 (a := b1) rfl (by kernel_rfl) (by kernel_rfl) (by kernel_rfl : Ev.domS 0 = (none, none)) (trivial : True) (trivial : True)
  have eb2 := Ev.sgOf_at (f := sgPlanChecks_65 b1 b2 b3 b4 w1 w2 w3 x h) 1 (a := b2) rfl (by kernel_rfl) (by kernel_rfl) (by kernel_rfl : Ev.domS 1 = (none, none)) (trivial : True) (trivial : True)
  have eb3 := Ev.sgOf_at (f := sgPlanChecks_65 b1 b2 b3 b4 w1 w2 w3 x h) 2 (a := b3) rfl (by kernel_rfl) (by kernel_rfl) (by kernel_rfl : Ev.domS 2 = (none, none)) (trivial : True) (trivial : True)
  have eb4 := Ev.sgOf_at (f := sgPlanChecks_65 b1 b2 b3 b4 w1 w2 w3 x h) 3 (a := b4) rfl (by kernel_rfl) (by kernel_rfl) (by kernel_rfl : Ev.domS 3 = (none, none)) (trivial : True) (trivial : True)
  have ew1 := Ev.sgOf_at (f := sgPlanChecks_65 b1 b2 b3 b4 w1 w2 w3 x h) 4 (a := w1) rfl (by kernel_rfl) (by kernel_rfl) (by kernel_rfl : Ev.domS 4 = (none, none)) (trivial : True) (trivial : True)
  have ew2 := Ev.sgOf_at (f := sgPlanChecks_65 b1 b2 b3 b4 w1 w2 w3 x h) 5 (a := w2) rfl (by kernel_rfl) (by kernel_rfl) (by kernel_rfl : Ev.domS 5 = (none, none)) (trivial : True) (trivial : True)
  have ew3 := Ev.sgOf_at (f := sgPlanChecks_65 b1 b2 b3 b4 w1 w2 w3 x h) 6 (a := w3) rfl (by kernel_rfl) (by kernel_rfl) (by kernel_rfl : Ev.domS 6 = (none, none)) (trivial : True) (trivial : True)
  have hr : Calls Try.prog 3 #[.agg #[.int .i64 7, .int .i64 (Ev.sgOf (sgPlanChecks_65 b1 b2 b3 b4 w1 w2 w3 x h) 0), .int .i64 (Ev.sgOf (sgPlanChecks_65 b1 b2 b3 b4 w1 w2 w3 x h) 1), .int .i64 (Ev.sgOf (sgPlanChecks_65 b1 b2 b3 b4 w1 w2 w3 x h) 2), .int .i64 (Ev.sgOf (sgPlanChecks_65 b1 b2 b3 b4 w1 w2 w3 x h) 3), .int .i64 (Ev.sgOf (sgPlanChecks_65 b1 b2 b3 b4 w1 w2 w3 x h) 4), .int .i64 (Ev.sgOf (sgPlanChecks_65 b1 b2 b3 b4 w1 w2 w3 x h) 5), .int .i64 (Ev.sgOf (sgPlanChecks_65 b1 b2 b3 b4 w1 w2 w3 x h) 6), .int .i64 (Ev.sgOf (sgPlanChecks_65 b1 b2 b3 b4 w1 w2 w3 x h) 2722259016497146122424359018585896517633001001), .int .i64 (Ev.sgOf (sgPlanChecks_65 b1 b2 b3 b4 w1 w2 w3 x h) 2722259016497146122424359018585896517633001000)]] w fun e w' => e = .returned (.bool true) ∧ Below w.heap.size w w' := Ev.run_law (P := Try.prog) (by kernel_rfl) Ev.namesPlanChecks Ev.eqsPlanChecks ranPlanChecks_65 (by simp [argsPlanChecks_65, Ev.AV.bd]) (Ev.sgOf (sgPlanChecks_65 b1 b2 b3 b4 w1 w2 w3 x h)) (Ev.sgOf_ok _) w
  rw [eh.1, eh.2, eb1, eb2, eb3, eb4, ew1, ew2, ew3] at hr
  rw [hk]
  exact hr
def argsPlanChecks_66 : List Ev.AV := [.ag [.y .i64 36893488147419103241000000, .y .i64 0, .y .i64 1, .y .i64 2, .y .i64 3, .y .i64 4, .y .i64 5, .y .i64 6, .y .i64 7, .y .i64 8]]
set_option maxRecDepth 100000 in
theorem ranPlanChecks_66 : Ev.okB (Ev.callA Try.prog [3, 4, 32, 137] (Ev.lk Ev.planPlanChecks) 200 3 argsPlanChecks_66 ⟨0, .e⟩) = true := by kernel_rfl
def sgPlanChecks_66 (k b1 b2 b3 b4 w1 w2 w3 x h : Int) (j : Nat) : Int := match Nat.beq j 36893488147419103241000000 with
  | true => k
  | false => match Nat.beq j 0 with
  | true => b1
  | false => match Nat.beq j 1 with
  | true => b2
  | false => match Nat.beq j 2 with
  | true => b3
  | false => match Nat.beq j 3 with
  | true => b4
  | false => match Nat.beq j 4 with
  | true => w1
  | false => match Nat.beq j 5 with
  | true => w2
  | false => match Nat.beq j 6 with
  | true => w3
  | false => match Nat.beq j 7 with
  | true => x
  | false => match Nat.beq j 8 with
  | true => h
  | false => 0
theorem leafPlanChecks_66 (k b1 b2 b3 b4 w1 w2 w3 x h : Int) (w : World) (lk : 8 ≤ k) : Calls Try.prog 3 #[.agg #[.int .i64 k, .int .i64 b1, .int .i64 b2, .int .i64 b3, .int .i64 b4, .int .i64 w1, .int .i64 w2, .int .i64 w3, .int .i64 x, .int .i64 h]] w fun e w' => e = .returned (.bool true) ∧ Below w.heap.size w w' := by
  have ek := Ev.sgOf_at (f := sgPlanChecks_66 k b1 b2 b3 b4 w1 w2 w3 x h) 36893488147419103241000000 (a := k) rfl (by kernel_rfl) (by kernel_rfl) (by kernel_rfl : Ev.domS 36893488147419103241000000 = (some 8, none)) (show 8 ≤ k by omega) (trivial : True)
  have eb1 := Ev.sgOf_at (f := sgPlanChecks_66 k b1 b2 b3 b4 w1 w2 w3 x h) 0 (a := b1) rfl (by kernel_rfl) (by kernel_rfl) (by kernel_rfl : Ev.domS 0 = (none, none)) (trivial : True) (trivial : True)
  have eb2 := Ev.sgOf_at (f := sgPlanChecks_66 k b1 b2 b3 b4 w1 w2 w3 x h) 1 (a := b2) rfl (by kernel_rfl) (by kernel_rfl) (by kernel_rfl : Ev.domS 1 = (none, none)) (trivial : True) (trivial : True)
  have eb3 := Ev.sgOf_at (f := sgPlanChecks_66 k b1 b2 b3 b4 w1 w2 w3 x h) 2 (a := b3) rfl (by kernel_rfl) (by kernel_rfl) (by kernel_rfl : Ev.domS 2 = (none, none)) (trivial : True) (trivial : True)
  have eb4 := Ev.sgOf_at (f := sgPlanChecks_66 k b1 b2 b3 b4 w1 w2 w3 x h) 3 (a := b4) rfl (by kernel_rfl) (by kernel_rfl) (by kernel_rfl : Ev.domS 3 = (none, none)) (trivial : True) (trivial : True)
  have ew1 := Ev.sgOf_at (f := sgPlanChecks_66 k b1 b2 b3 b4 w1 w2 w3 x h) 4 (a := w1) rfl (by kernel_rfl) (by kernel_rfl) (by kernel_rfl : Ev.domS 4 = (none, none)) (trivial : True) (trivial : True)
  have ew2 := Ev.sgOf_at (f := sgPlanChecks_66 k b1 b2 b3 b4 w1 w2 w3 x h) 5 (a := w2) rfl (by kernel_rfl) (by kernel_rfl) (by kernel_rfl : Ev.domS 5 = (none, none)) (trivial : True) (trivial : True)
  have ew3 := Ev.sgOf_at (f := sgPlanChecks_66 k b1 b2 b3 b4 w1 w2 w3 x h) 6 (a := w3) rfl (by kernel_rfl) (by kernel_rfl) (by kernel_rfl : Ev.domS 6 = (none, none)) (trivial : True) (trivial : True)
  have ex := Ev.sgOf_at (f := sgPlanChecks_66 k b1 b2 b3 b4 w1 w2 w3 x h) 7 (a := x) rfl (by kernel_rfl) (by kernel_rfl) (by kernel_rfl : Ev.domS 7 = (none, none)) (trivial : True) (trivial : True)
  have eh := Ev.sgOf_at (f := sgPlanChecks_66 k b1 b2 b3 b4 w1 w2 w3 x h) 8 (a := h) rfl (by kernel_rfl) (by kernel_rfl) (by kernel_rfl : Ev.domS 8 = (none, none)) (trivial : True) (trivial : True)
  have hr : Calls Try.prog 3 #[.agg #[.int .i64 (Ev.sgOf (sgPlanChecks_66 k b1 b2 b3 b4 w1 w2 w3 x h) 36893488147419103241000000), .int .i64 (Ev.sgOf (sgPlanChecks_66 k b1 b2 b3 b4 w1 w2 w3 x h) 0), .int .i64 (Ev.sgOf (sgPlanChecks_66 k b1 b2 b3 b4 w1 w2 w3 x h) 1), .int .i64 (Ev.sgOf (sgPlanChecks_66 k b1 b2 b3 b4 w1 w2 w3 x h) 2), .int .i64 (Ev.sgOf (sgPlanChecks_66 k b1 b2 b3 b4 w1 w2 w3 x h) 3), .int .i64 (Ev.sgOf (sgPlanChecks_66 k b1 b2 b3 b4 w1 w2 w3 x h) 4), .int .i64 (Ev.sgOf (sgPlanChecks_66 k b1 b2 b3 b4 w1 w2 w3 x h) 5), .int .i64 (Ev.sgOf (sgPlanChecks_66 k b1 b2 b3 b4 w1 w2 w3 x h) 6), .int .i64 (Ev.sgOf (sgPlanChecks_66 k b1 b2 b3 b4 w1 w2 w3 x h) 7), .int .i64 (Ev.sgOf (sgPlanChecks_66 k b1 b2 b3 b4 w1 w2 w3 x h) 8)]] w fun e w' => e = .returned (.bool true) ∧ Below w.heap.size w w' := Ev.run_law (P := Try.prog) (by kernel_rfl) Ev.namesPlanChecks Ev.eqsPlanChecks ranPlanChecks_66 (by simp [argsPlanChecks_66, Ev.AV.bd]) (Ev.sgOf (sgPlanChecks_66 k b1 b2 b3 b4 w1 w2 w3 x h)) (Ev.sgOf_ok _) w
  rw [ek, eb1, eb2, eb3, eb4, ew1, ew2, ew3, ex, eh] at hr
  exact hr
end Go.Proofs.Ytencgokpbfkeiaa
