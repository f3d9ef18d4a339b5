/- Small words. -/
import Derived.Test.YtencgokpbfkeiaaNx0
import Derived.Test.YtencgokpbfkeiaaNx1
import Derived.Test.YtencgokpbfkeiaaNx2
import Derived.Test.YtencgokpbfkeiaaNx3
import Derived.Test.YtencgokpbfkeiaaNx4
set_option linter.unusedVariables false
namespace Go.Proofs.Ytencgokpbfkeiaa
open Go.ChangeShapes Go.WideShapes Go.ChangeAt Go.RowKit
/-- a contract behind a world that some blocks have kept -/
theorem keepB {B : Nat} {W a b : World} (h : Below B W a) (hB : B ≤ a.heap.size) (k : Below a.heap.size a b) : Below B W b := h.trans (k.mono hB)
theorem sizeB {W a : World} (h : Below W.heap.size W a) : W.heap.size ≤ a.heap.size := h.size
end Go.Proofs.Ytencgokpbfkeiaa
