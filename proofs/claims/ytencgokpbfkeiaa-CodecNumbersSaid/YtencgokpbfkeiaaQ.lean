/- Calls met in a region that only reads: where draws were made ahead of it. No program in sight. -/
import Derived.Test.YtencgokpbfkeiaaO
import Derived.Deep.QuietTactic
set_option linter.unusedVariables false
namespace Go.Proofs.Ytencgokpbfkeiaa
section
variable {P : Program} {f : FuncId} {xs : Array Value} {w : World} {v : Value}
/-- a callee that leaves the world as it is, by a contract that keeps the caller's name for it -/
theorem qSame {k : Nat} (h : Calls P f xs (w.drewN k) fun e u => e = .returned v ∧ w.drewN k = u) : Calls P f xs (w.drewN k) fun e u => e = .returned v ∧ ∃ j, u = w.drewN j := by
  refine h.mono fun e u hu => ⟨hu.1, k, hu.2.symm⟩
/-- the same, behind an earlier region -/
theorem qSame2 {c k : Nat} (h : Calls P f xs (w.drewN (c + k)) fun e u => e = .returned v ∧ w.drewN (c + k) = u) : Calls P f xs (w.drewN (c + k)) fun e u => e = .returned v ∧ ∃ j, u = w.drewN (c + j) := by
  refine h.mono fun e u hu => ⟨hu.1, k, hu.2.symm⟩
/-- a callee that draws -/
theorem qDrew {k : Nat} (h : Calls P f xs (w.drewN k) fun e u => e = .returned v ∧ ∃ q, u = (w.drewN k).drewN q) : Calls P f xs (w.drewN k) fun e u => e = .returned v ∧ ∃ j, u = w.drewN j := by
  refine h.mono fun e u hu => ⟨hu.1, ?_⟩
  obtain ⟨q, hq⟩ := hu.2
  exact ⟨k + q, hq.trans (World.drewN_drewN _ _ _)⟩
theorem qDrew2 {c k : Nat} (h : Calls P f xs (w.drewN (c + k)) fun e u => e = .returned v ∧ ∃ q, u = (w.drewN (c + k)).drewN q) : Calls P f xs (w.drewN (c + k)) fun e u => e = .returned v ∧ ∃ j, u = w.drewN (c + j) := by
  refine h.mono fun e u hu => ⟨hu.1, ?_⟩
  obtain ⟨q, hq⟩ := hu.2
  exact ⟨k + q, by rw [hq, World.drewN_drewN, Nat.add_assoc]⟩
end
end Go.Proofs.Ytencgokpbfkeiaa
