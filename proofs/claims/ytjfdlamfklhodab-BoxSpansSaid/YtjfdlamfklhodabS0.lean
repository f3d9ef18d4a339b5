/- What the ways of the law of spans have alike. -/
import Derived.Test.YtjfdlamfklhodabB3
import Derived.Outline
set_option linter.unusedVariables false
namespace Go.Proofs.Ytjfdlamfklhodab.boxSpans
open Go.ChangeShapes Go.WideShapes Go.ChangeAt Go.RowKit Go.Joins
theorem as_bool {P : Program} {f : FuncId} {args : Array Value} {w : World} {b c : Bool} (h : Calls P f args w fun e w' => e = .returned (.bool b) ∧ Below w.heap.size w w') (e : b = c) :
    Calls P f args w fun e w' => e = .returned (.bool c) ∧ Below w.heap.size w w' := by rw [← e]; exact h
theorem ov_low1 {l1 h1 l2 h2 : Int} (c : l1 < l2) : ovB l1 h1 l2 h2 = (stB l1 h1 l2 && stB l2 h2 l2) := by rw [Bool.eq_iff_iff]; simp [ovB, stB]; omega
theorem ov_low2 {l1 h1 l2 h2 : Int} (c : ¬ l1 < l2) : ovB l1 h1 l2 h2 = (stB l1 h1 l1 && stB l2 h2 l1) := by rw [Bool.eq_iff_iff]; simp [ovB, stB]; omega
theorem ov_sym (l1 h1 l2 h2 : Int) : ovB l2 h2 l1 h1 = ovB l1 h1 l2 h2 := by rw [Bool.eq_iff_iff]; simp [ovB]; omega
def Said (e : Ending) (w w' : World) (b : Bool) : Prop := e = .returned (.bool b) ∧ Below w.heap.size w w'
end Go.Proofs.Ytjfdlamfklhodab.boxSpans
