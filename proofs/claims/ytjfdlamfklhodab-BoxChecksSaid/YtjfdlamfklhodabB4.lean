/- When two boxes are one. -/
import Derived.Test.YtjfdlamfklhodabB3
set_option linter.unusedVariables false
namespace Go.Proofs.Ytjfdlamfklhodab
open Go.ChangeShapes Go.WideShapes Go.ChangeAt Go.RowKit
theorem eq_box (a1 a2 a3 a4 b1 b2 b3 b4 : Int) (W : World) : (binOp .eql 43 (.agg #[.int .i64 a1, .int .i64 a2, .int .i64 a3, .int .i64 a4]) (.agg #[.int .i64 b1, .int .i64 b2, .int .i64 b3, .int .i64 b4])).run Try.prog W
    = .ok (.bool (a1 == b1 && (a2 == b2 && (a3 == b3 && a4 == b4)))) W := by
  cases h1 : a1 == b1 <;> cases h2 : a2 == b2 <;> cases h3 : a3 == b3 <;> cases h4 : a4 == b4
  all_goals go_simp
end Go.Proofs.Ytjfdlamfklhodab
