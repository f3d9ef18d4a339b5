/- 'alidadelaw20.ItreeNone' comes out true: all cases. -/
import Derived.Test.YtbcnabaholgfiaaLItreeNone0
set_option linter.unusedVariables false
namespace Go.Proofs.Ytbcnabaholgfiaa
open Go Go.RowKit
theorem wholeItreeNone (k i s1 s2 s3 x y : Int) (w : World) : Calls Try.prog 3 #[.agg #[.int .i64 k, .int .i64 i, .int .i64 s1, .int .i64 s2, .int .i64 s3], .agg #[.int .i64 x, .int .i64 y]] w fun e w' => e = .returned (.bool true) ∧ Below w.heap.size w w' := by
  rcases (by omega : (x < y) ∨ (y = x) ∨ (y < x)) with hc0 | hc0 | hc0
  · exact leafItreeNone_0 k i s1 s2 s3 x y w (by omega)
  · exact leafItreeNone_1 k i s1 s2 s3 x y w (by omega)
  · exact leafItreeNone_2 k i s1 s2 s3 x y w (by omega)
end Go.Proofs.Ytbcnabaholgfiaa
