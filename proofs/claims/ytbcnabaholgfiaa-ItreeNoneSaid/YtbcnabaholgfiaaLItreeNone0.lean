/- 'alidadelaw20.ItreeNone' comes out true: cases 0 to 2. -/
import Derived.Test.YtbcnabaholgfiaaPItreeNone
import Derived.WalkKit
set_option linter.unusedVariables false
namespace Go.Proofs.Ytbcnabaholgfiaa
open Go Go.RowKit
def argsItreeNone_0 : List Ev.AV := [.ag [.y .i64 0, .y .i64 1, .y .i64 2, .y .i64 3, .y .i64 4], .ag [.y .i64 2722258935367507707817677323896403001346001000, .y .i64 2722258935367507707817677323896403001346001001]]
set_option maxRecDepth 100000 in
theorem ranItreeNone_0 : Ev.okB (Ev.callA Try.prog [3, 20, 23, 27, 28, 33] (Ev.lk Ev.planItreeNone) 200 3 argsItreeNone_0 ⟨0, .e⟩) = true := by kernel_rfl
def sgItreeNone_0 (k i s1 s2 s3 x y : Int) (j : Nat) : Int := match Nat.beq j 0 with
  | true => k
  | false => match Nat.beq j 1 with
  | true => i
  | false => match Nat.beq j 2 with
  | true => s1
  | false => match Nat.beq j 3 with
  | true => s2
  | false => match Nat.beq j 4 with
  | true => s3
  | false => match Nat.beq j 2722258935367507707817677323896403001346001000 with
  | true => x
  | false => match Nat.beq j 2722258935367507707817677323896403001346001001 with
  | true => y
  | false => 0
theorem leafItreeNone_0 (k i s1 s2 s3 x y : Int) (w : World) (gxy : x < y) : Calls Try.prog 3 #[.agg #[.int .i64 k, .int .i64 i, .int .i64 s1, .int .i64 s2, .int .i64 s3], .agg #[.int .i64 x, .int .i64 y]] w fun e w' => e = .returned (.bool true) ∧ Below w.heap.size w w' := by
  have ex := Ev.sgOf_two (f := sgItreeNone_0 k i s1 s2 s3 x y) 2722258935367507707817677323896403001346001000 2722258935367507707817677323896403001346001001 rfl (a := x) (b := y) rfl rfl (by kernel_rfl) (by kernel_rfl : Ev.domS 2722258935367507707817677323896403001346001000 = (none, none)) (trivial : True) (trivial : True) (trivial : True) (trivial : True) (by omega)
  have ek := Ev.sgOf_at (f := sgItreeNone_0 k i s1 s2 s3 x y) 0 (a := k) rfl (by kernel_rfl) (by kernel_rfl) (by kernel_rfl : Ev.domS 0 = (none, none)) (trivial : True) (trivial : True)
  have ei := Ev.sgOf_at (f := sgItreeNone_0 k i s1 s2 s3 x y) 1 (a := i) rfl (by kernel_rfl) (by kernel_rfl) (by kernel_rfl : Ev.domS 1 = (none, none)) (trivial : True) (trivial : True)
  have es1 := Ev.sgOf_at (f := sgItreeNone_0 k i s1 s2 s3 x y) 2 (a := s1) rfl (by kernel_rfl) (by kernel_rfl) (by kernel_rfl : Ev.domS 2 = (none, none)) (trivial : True) (trivial : True)
  have es2 := Ev.sgOf_at (f := sgItreeNone_0 k i s1 s2 s3 x y) 3 (a := s2) rfl (by kernel_rfl) (by kernel_rfl) (by kernel_rfl : Ev.domS 3 = (none, none)) (trivial : True) (trivial : True)
  have es3 := Ev.sgOf_at (f := sgItreeNone_0 k i s1 s2 s3 x y) 4 (a := s3) rfl (by kernel_rfl) (by kernel_rfl) (by kernel_rfl : Ev.domS 4 = (none, none)) (trivial : True) (trivial : True)
  have hr : Calls Try.prog 3 #[.agg #[.int .i64 (Ev.sgOf (sgItreeNone_0 k i s1 s2 s3 x y) 0), .int .i64 (Ev.sgOf (sgItreeNone_0 k i s1 s2 s3 x y) 1), .int .i64 (Ev.sgOf (sgItreeNone_0 k i s1 s2 s3 x y) 2), .int .i64 (Ev.sgOf (sgItreeNone_0 k i s1 s2 s3 x y) 3), .int .i64 (Ev.sgOf (sgItreeNone_0 k i s1 s2 s3 x y) 4)], .agg #[.int .i64 (Ev.sgOf (sgItreeNone_0 k i s1 s2 s3 x y) 2722258935367507707817677323896403001346001000), .int .i64 (Ev.sgOf (sgItreeNone_0 k i s1 s2 s3 x y) 2722258935367507707817677323896403001346001001)]] w fun e w' => e = .returned (.bool true) ∧ Below w.heap.size w w' := Ev.run_law (P := Try.prog) (by kernel_rfl) Ev.namesItreeNone Ev.eqsItreeNone ranItreeNone_0 (by simp [argsItreeNone_0, Ev.AV.bd]) (Ev.sgOf (sgItreeNone_0 k i s1 s2 s3 x y)) (Ev.sgOf_ok _) w
  rw [ex.1, ex.2, ek, ei, es1, es2, es3] at hr
  exact hr
def argsItreeNone_1 : List Ev.AV := [.ag [.y .i64 0, .y .i64 1, .y .i64 2, .y .i64 3, .y .i64 4], .ag [.y .i64 5, .y .i64 5]]
set_option maxRecDepth 100000 in
theorem ranItreeNone_1 : Ev.okB (Ev.callA Try.prog [3, 20, 23, 27, 28, 33] (Ev.lk Ev.planItreeNone) 200 3 argsItreeNone_1 ⟨0, .e⟩) = true := by kernel_rfl
def sgItreeNone_1 (k i s1 s2 s3 x : Int) (j : Nat) : Int := match Nat.beq j 0 with
  | true => k
  | false => match Nat.beq j 1 with
  | true => i
  | false => match Nat.beq j 2 with
  | true => s1
  | false => match Nat.beq j 3 with
  | true => s2
  | false => match Nat.beq j 4 with
  | true => s3
  | false => match Nat.beq j 5 with
  | true => x
  | false => 0
theorem leafItreeNone_1 (k i s1 s2 s3 x y : Int) (w : World) (qy : y = x) : Calls Try.prog 3 #[.agg #[.int .i64 k, .int .i64 i, .int .i64 s1, .int .i64 s2, .int .i64 s3], .agg #[.int .i64 x, .int .i64 y]] w fun e w' => e = .returned (.bool true) ∧ Below w.heap.size w w' := by
  have ek := Ev.sgOf_at (f := sgItreeNone_1 k i s1 s2 s3 x) 0 (a := k) rfl (by kernel_rfl) (by kernel_rfl) (by kernel_rfl : Ev.domS 0 = (none, none)) (trivial : True) (trivial : True)
  have ei := Ev.sgOf_at (f := sgItreeNone_1 k i s1 s2 s3 x) 1 (a := i) rfl (by kernel_rfl) (by kernel_rfl) (by kernel_rfl : Ev.domS 1 = (none, none)) (trivial : True) (trivial : True)
  have es1 := Ev.sgOf_at (f := sgItreeNone_1 k i s1 s2 s3 x) 2 (a := s1) rfl (by kernel_rfl) (by kernel_rfl) (by kernel_rfl : Ev.domS 2 = (none, none)) (trivial : True) (trivial : True)
  have es2 := Ev.sgOf_at (f := sgItreeNone_1 k i s1 s2 s3 x) 3 (a := s2) rfl (by kernel_rfl) (by kernel_rfl) (by kernel_rfl : Ev.domS 3 = (none, none)) (trivial : True) (trivial : True)
  have es3 := Ev.sgOf_at (f := sgItreeNone_1 k i s1 s2 s3 x) 4 (a := s3) rfl (by kernel_rfl) (by kernel_rfl) (by kernel_rfl : Ev.domS 4 = (none, none)) (trivial : True) (trivial : True)
  have ex := Ev.sgOf_at (f := sgItreeNone_1 k i s1 s2 s3 x) 5 (a := x) rfl (by kernel_rfl) (by kernel_rfl) (by kernel_rfl : Ev.domS 5 = (none, none)) (trivial : True) (trivial : True)
  have hr : Calls Try.prog 3 #[.agg #[.int .i64 (Ev.sgOf (sgItreeNone_1 k i s1 s2 s3 x) 0), .int .i64 (Ev.sgOf (sgItreeNone_1 k i s1 s2 s3 x) 1), .int .i64 (Ev.sgOf (sgItreeNone_1 k i s1 s2 s3 x) 2), .int .i64 (Ev.sgOf (sgItreeNone_1 k i s1 s2 s3 x) 3), .int .i64 (Ev.sgOf (sgItreeNone_1 k i s1 s2 s3 x) 4)], .agg #[.int .i64 (Ev.sgOf (sgItreeNone_1 k i s1 s2 s3 x) 5), .int .i64 (Ev.sgOf (sgItreeNone_1 k i s1 s2 s3 x) 5)]] w fun e w' => e = .returned (.bool true) ∧ Below w.heap.size w w' := Ev.run_law (P := Try.prog) (by kernel_rfl) Ev.namesItreeNone Ev.eqsItreeNone ranItreeNone_1 (by simp [argsItreeNone_1, Ev.AV.bd]) (Ev.sgOf (sgItreeNone_1 k i s1 s2 s3 x)) (Ev.sgOf_ok _) w
  rw [ek, ei, es1, es2, es3, ex] at hr
  rw [qy]
  exact hr
def argsItreeNone_2 : List Ev.AV := [.ag [.y .i64 0, .y .i64 1, .y .i64 2, .y .i64 3, .y .i64 4], .ag [.y .i64 2722258935367507707817677323896403001346001001, .y .i64 2722258935367507707817677323896403001346001000]]
set_option maxRecDepth 100000 in
theorem ranItreeNone_2 : Ev.okB (Ev.callA Try.prog [3, 20, 23, 27, 28, 33] (Ev.lk Ev.planItreeNone) 200 3 argsItreeNone_2 ⟨0, .e⟩) = true := by kernel_rfl
def sgItreeNone_2 (k i s1 s2 s3 x y : Int) (j : Nat) : Int := match Nat.beq j 0 with
  | true => k
  | false => match Nat.beq j 1 with
  | true => i
  | false => match Nat.beq j 2 with
  | true => s1
  | false => match Nat.beq j 3 with
  | true => s2
  | false => match Nat.beq j 4 with
  | true => s3
  | false => match Nat.beq j 2722258935367507707817677323896403001346001001 with
  | true => x
  | false => match Nat.beq j 2722258935367507707817677323896403001346001000 with
  | true => y
  | false => 0
theorem leafItreeNone_2 (k i s1 s2 s3 x y : Int) (w : World) (gyx : y < x) : Calls Try.prog 3 #[.agg #[.int .i64 k, .int .i64 i, .int .i64 s1, .int .i64 s2, .int .i64 s3], .agg #[.int .i64 x, .int .i64 y]] w fun e w' => e = .returned (.bool true) ∧ Below w.heap.size w w' := by
  have ey := Ev.sgOf_two (f := sgItreeNone_2 k i s1 s2 s3 x y) 2722258935367507707817677323896403001346001000 2722258935367507707817677323896403001346001001 rfl (a := y) (b := x) rfl rfl (by kernel_rfl) (by kernel_rfl : Ev.domS 2722258935367507707817677323896403001346001000 = (none, none)) (trivial : True) (trivial : True) (trivial : True) (trivial : True) (by omega)
  have ek := Ev.sgOf_at (f := sgItreeNone_2 k i s1 s2 s3 x y) 0 (a := k) rfl (by kernel_rfl) (by kernel_rfl) (by kernel_rfl : Ev.domS 0 = (none, none)) (trivial : True) (trivial : True)
  have ei := Ev.sgOf_at (f := sgItreeNone_2 k i s1 s2 s3 x y) 1 (a := i) rfl (by kernel_rfl) (by kernel_rfl) (by kernel_rfl : Ev.domS 1 = (none, none)) (trivial : True) (trivial : True)
  have es1 := Ev.sgOf_at (f := sgItreeNone_2 k i s1 s2 s3 x y) 2 (a := s1) rfl (by kernel_rfl) (by kernel_rfl) (by kernel_rfl : Ev.domS 2 = (none, none)) (trivial : True) (trivial : True)
  have es2 := Ev.sgOf_at (f := sgItreeNone_2 k i s1 s2 s3 x y) 3 (a := s2) rfl (by kernel_rfl) (by kernel_rfl) (by kernel_rfl : Ev.domS 3 = (none, none)) (trivial : True) (trivial : True)
  have es3 := Ev.sgOf_at (f := sgItreeNone_2 k i s1 s2 s3 x y) 4 (a := s3) rfl (by kernel_rfl) (by kernel_rfl) (by kernel_rfl : Ev.domS 4 = (none, none)) (trivial : True) (trivial : True)
  have hr : Calls Try.prog 3 #[.agg #[.int .i64 (Ev.sgOf (sgItreeNone_2 k i s1 s2 s3 x y) 0), .int .i64 (Ev.sgOf (sgItreeNone_2 k i s1 s2 s3 x y) 1), .int .i64 (Ev.sgOf (sgItreeNone_2 k i s1 s2 s3 x y) 2), .int .i64 (Ev.sgOf (sgItreeNone_2 k i s1 s2 s3 x y) 3), .int .i64 (Ev.sgOf (sgItreeNone_2 k i s1 s2 s3 x y) 4)], .agg #[.int .i64 (Ev.sgOf (sgItreeNone_2 k i s1 s2 s3 x y) 2722258935367507707817677323896403001346001001), .int .i64 (Ev.sgOf (sgItreeNone_2 k i s1 s2 s3 x y) 2722258935367507707817677323896403001346001000)]] w fun e w' => e = .returned (.bool true) ∧ Below w.heap.size w w' := Ev.run_law (P := Try.prog) (by kernel_rfl) Ev.namesItreeNone Ev.eqsItreeNone ranItreeNone_2 (by simp [argsItreeNone_2, Ev.AV.bd]) (Ev.sgOf (sgItreeNone_2 k i s1 s2 s3 x y)) (Ev.sgOf_ok _) w
  rw [ey.1, ey.2, ek, ei, es1, es2, es3] at hr
  exact hr
end Go.Proofs.Ytbcnabaholgfiaa
