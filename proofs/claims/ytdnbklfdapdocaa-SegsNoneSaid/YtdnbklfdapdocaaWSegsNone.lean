/- 'alidadelaw22.SegsNone' comes out true: all cases. -/
import Derived.Test.YtdnbklfdapdocaaLSegsNone0
set_option linter.unusedVariables false
namespace Go.Proofs.Ytdnbklfdapdocaa
open Go Go.RowKit
theorem wholeSegsNone (k i s1 s2 s3 x y : Int) (w : World) : Calls Try.prog 5 #[.agg #[.int .i64 k, .int .i64 i, .int .i64 s1, .int .i64 s2, .int .i64 s3], .agg #[.int .i64 x, .int .i64 y]] w fun e w' => e = .returned (.bool true) ∧ Below w.heap.size w w' := by
  rcases (by omega : (x < y) ∨ (y = x) ∨ (y < x)) with hc0 | hc0 | hc0
  · exact leafSegsNone_0 k i s1 s2 s3 x y w (by omega)
  · exact leafSegsNone_1 k i s1 s2 s3 x y w (by omega)
  · exact leafSegsNone_2 k i s1 s2 s3 x y w (by omega)
end Go.Proofs.Ytdnbklfdapdocaa
