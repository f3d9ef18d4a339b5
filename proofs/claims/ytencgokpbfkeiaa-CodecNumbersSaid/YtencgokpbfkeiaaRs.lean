/- Which requests are good, by the document. -/
import Derived.Test.YtencgokpbfkeiaaRo
set_option linter.unusedVariables false
set_option linter.unusedSimpArgs false
namespace Go.Proofs.Ytencgokpbfkeiaa
open Go.ChangeShapes Go.WideShapes Go.ChangeAt Go.RowKit
theorem rgood_r (r : Rq) (w : World) : Calls Try.prog 31 #[r.v] w fun e w' => e = .returned (.bool r.good) ∧ Below w.heap.size w w' :=
  rgood_any r.k r.ck r.pi r.px r.py r.si r.sl r.sh r.q.qk r.q.b1 r.q.b2 r.q.b3 r.q.b4 r.q.w1 r.q.w2 r.q.w3 r.q.x r.q.h w
end Go.Proofs.Ytencgokpbfkeiaa
