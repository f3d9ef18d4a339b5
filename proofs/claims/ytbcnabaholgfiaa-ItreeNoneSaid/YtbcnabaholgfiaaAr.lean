/- An array of two integers by value. -/
import Derived.Test.YtbcnabaholgfiaaFl
set_option linter.unusedVariables false
namespace Go.Proofs.Ytbcnabaholgfiaa
open Go.ChangeShapes Go.WideShapes Go.ChangeAt Go.RowKit
section
open Go.Deep
variable {H : Type} {enc : TypeId × Value → H} {P : Program} {w : World} {base : Nat} {spare : Nat → Bool} {held : Bool}
theorem arr2_open {r : Reach} {b0 : Nat} {t e : TypeId} {v : Value} {d : DataW H} {p : List MemPlace} (ht : P.underlying t = some (.array 2 e)) (he : P.underlying e = some (.int .i64)) (hE : P.cellsOf e = 1) (hT : P.cellsOf t = 2)
    (hv : Value.okWide P w r b0 t v) (h : DataW.Trod enc P w base spare held t v d p) : ∃ z0 z1, v = .agg #[.int .i64 z0, .int .i64 z1] ∧ (Lit.int .i64 z0).wf = true ∧ (Lit.int .i64 z1).wf = true := by
  obtain ⟨cs, rfl, hsz⟩ : ∃ cs, v = .agg cs ∧ cs.size = P.cellsOf t := by
    simp only [Value.okWide, ht] at hv
    obtain ⟨cs, h1, h2, _⟩ := hv
    exact ⟨cs, h1, h2⟩
  obtain ⟨c0, c1, rfl⟩ : ∃ c0 c1, cs = #[c0, c1] := by
    have h2 := hsz.trans hT
    obtain ⟨l⟩ := cs
    match l, h2 with
    | [c0, c1], _ => exact ⟨c0, c1, rfl⟩
  obtain ⟨fuel, hf⟩ := h
  obtain ⟨xs, m, _, _, _, hlen, hx⟩ := DataW.trod_array ht hf
  obtain ⟨x0, x1, rfl⟩ : ∃ x0 x1, xs = [x0, x1] := by
    match xs, hlen with
    | [x0, x1], _ => exact ⟨x0, x1, rfl⟩
  have k0 := hx 0 (by omega)
  have k1 := hx 1 (by omega)
  rw [hE] at k0 k1
  obtain ⟨z0, g0, _, w0⟩ := DataW.trod_int he (by simpa [Value.cells] using k0)
  obtain ⟨z1, g1, _, w1⟩ := DataW.trod_int he (by simpa [Value.cells] using k1)
  simp only [List.cons.injEq, and_true] at g0 g1
  subst g0 g1
  exact ⟨z0, z1, rfl, w0, w1⟩
end
end Go.Proofs.Ytbcnabaholgfiaa
