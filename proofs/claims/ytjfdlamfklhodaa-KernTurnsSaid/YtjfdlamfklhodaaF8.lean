/- Digits of a number, and a number of digits, by their values. -/
import Derived.Test.YtjfdlamfklhodaaF7
set_option linter.unusedVariables false
namespace Go.Proofs.Ytjfdlamfklhodaa
open Go.ChangeShapes Go.WideShapes Go.ChangeAt Go.RowKit
theorem four (x : Int) (x0 : 0 ≤ x) (x1 : x < 18446744073709551616) : ∃ d0 d1 d2 d3 : Int, (x % 65536) = d0 ∧ ((x / 65536) % 65536) = d1 ∧ (((x / 65536) / 65536) % 65536) = d2 ∧ ((((x / 65536) / 65536) / 65536) % 65536) = d3 ∧ (0 ≤ d0 ∧ d0 < 65536) ∧ (0 ≤ d1 ∧ d1 < 65536) ∧ (0 ≤ d2 ∧ d2 < 65536) ∧ (0 ≤ d3 ∧ d3 < 65536) ∧ x = d0 + 65536 * d1 + 4294967296 * d2 + 281474976710656 * d3 :=
  ⟨_, _, _, _, rfl, rfl, rfl, rfl, by omega, by omega, by omega, by omega, by omega⟩
theorem rof_val (h l : Int) (h0 : -9223372036854775808 ≤ h) (h1 : h ≤ 9223372036854775807) (l0 : 0 ≤ l) (l1 : l < 18446744073709551616) :
    ∃ a0 a1 a2 a3 a4 a5 a6 a7 a8 : Int, ((0 ≤ a0 ∧ a0 < 65536) ∧ (0 ≤ a1 ∧ a1 < 65536) ∧ (0 ≤ a2 ∧ a2 < 65536) ∧ (0 ≤ a3 ∧ a3 < 65536) ∧ (0 ≤ a4 ∧ a4 < 65536) ∧ (0 ≤ a5 ∧ a5 < 65536) ∧ (0 ≤ a6 ∧ a6 < 65536) ∧ (0 ≤ a7 ∧ a7 < 65536) ∧ (0 ≤ a8 ∧ a8 < 65536)) ∧ l = a0 + 65536 * a1 + 4294967296 * a2 + 281474976710656 * a3 ∧ ((0 ≤ h ∧ a8 = 0 ∧ h = a4 + 65536 * a5 + 4294967296 * a6 + 281474976710656 * a7) ∨ (h < 0 ∧ a8 = 65535 ∧ h + 18446744073709551616 = a4 + 65536 * a5 + 4294967296 * a6 + 281474976710656 * a7)) ∧
      ∀ w : World, Calls Try.prog 38 #[.agg #[.int .i64 h, .int .u64 l]] w fun e w' => e = .returned (.agg #[.int .u64 a0, .int .u64 a1, .int .u64 a2, .int .u64 a3, .int .u64 a4, .int .u64 a5, .int .u64 a6, .int .u64 a7, .int .u64 a8]) ∧ Below w.heap.size w w' := by
  have u := uH_bd h0 h1
  have hc := rof_any h l h0 h1 l0 l1
  obtain ⟨a0, a1, a2, a3, g0, g1, g2, g3, b0, b1, b2, b3, e1⟩ := four l l0 l1
  obtain ⟨a4, a5, a6, a7, g4, g5, g6, g7, b4, b5, b6, b7, e2⟩ := four (uH h) u.1 u.2.1
  rw [g0, g1, g2, g3, g4, g5, g6, g7] at hc
  refine ⟨a0, a1, a2, a3, a4, a5, a6, a7, sH h, ⟨b0, b1, b2, b3, b4, b5, b6, b7, ?_⟩, e1, ?_, hc⟩
  · rcases sH_cases h with ⟨_, t⟩ | ⟨_, t⟩ <;> rw [t] <;> omega
  · rcases sH_cases h with ⟨s, t⟩ | ⟨s, t⟩
    · exact .inl ⟨s, t, by rw [← e2]; exact (if_neg (by omega)).symm⟩
    · exact .inr ⟨s, t, by rw [← e2]; exact (if_pos s).symm⟩
theorem wide_core (ok : Bool) (rh rl h4 d0 d1 d2 d3 d4 d5 d6 d7 d8 : Int) (b0 : 0 ≤ d0 ∧ d0 < 65536) (b1 : 0 ≤ d1 ∧ d1 < 65536) (b2 : 0 ≤ d2 ∧ d2 < 65536) (b3 : 0 ≤ d3 ∧ d3 < 65536) (b4 : 0 ≤ d4 ∧ d4 < 65536) (b5 : 0 ≤ d5 ∧ d5 < 65536) (b6 : 0 ≤ d6 ∧ d6 < 65536) (b7 : 0 ≤ d7 ∧ d7 < 65536) (HW : IntKind.i64.wrap (((d7 * 65536 + d6) * 65536 + d5) * 65536 + d4) = h4)
    (HC : (d8 = 0 ∧ d7 < 32768 ∧ ok = true ∧ rh = h4 ∧ rl = (((d3 * 65536 + d2) * 65536 + d1) * 65536 + d0)) ∨ (d8 = 0 ∧ ¬ d7 < 32768 ∧ ok = false ∧ rh = 0 ∧ rl = 0) ∨ (d8 = 65535 ∧ 32768 ≤ d7 ∧ ok = true ∧ rh = h4 ∧ rl = (((d3 * 65536 + d2) * 65536 + d1) * 65536 + d0)) ∨ (d8 = 65535 ∧ ¬ 32768 ≤ d7 ∧ ok = false ∧ rh = 0 ∧ rl = 0) ∨ ((d8 == 0) = false ∧ (d8 == 65535) = false ∧ ok = false ∧ rh = 0 ∧ rl = 0)) (w : World) :
    Calls Try.prog 28 #[.agg #[.int .u64 d0, .int .u64 d1, .int .u64 d2, .int .u64 d3, .int .u64 d4, .int .u64 d5, .int .u64 d6, .int .u64 d7, .int .u64 d8]] w fun e w' => e = .returned (.tuple #[.agg #[.int .i64 rh, .int .u64 rl], .bool ok]) ∧ Below w.heap.size w w' :=
  rwide ok rh rl h4 d0 d1 d2 d3 d4 d5 d6 d7 d8 (d3 * 65536 + d2) ((d3 * 65536 + d2) * 65536 + d1) (((d3 * 65536 + d2) * 65536 + d1) * 65536 + d0) (d7 * 65536 + d6) ((d7 * 65536 + d6) * 65536 + d5) (((d7 * 65536 + d6) * 65536 + d5) * 65536 + d4) (d3 * 65536) ((d3 * 65536 + d2) * 65536) (((d3 * 65536 + d2) * 65536 + d1) * 65536) (d7 * 65536) ((d7 * 65536 + d6) * 65536) (((d7 * 65536 + d6) * 65536 + d5) * 65536)
    ⟨IntWalk.u64_in _ (by omega), IntWalk.u64_in _ (by omega), trivial, trivial⟩
    ⟨IntWalk.u64_in _ (by omega), IntWalk.u64_in _ (by omega), IntWalk.u64_in _ (by omega), IntWalk.u64_in _ (by omega)⟩
    ⟨IntWalk.u64_in _ (by omega), IntWalk.u64_in _ (by omega), IntWalk.u64_in _ (by omega), IntWalk.u64_in _ (by omega)⟩
    ⟨IntWalk.u64_in _ (by omega), IntWalk.u64_in _ (by omega), IntWalk.u64_in _ (by omega), IntWalk.u64_in _ (by omega)⟩ HW HC w
theorem wide_yes (h l d0 d1 d2 d3 d4 d5 d6 d7 d8 : Int) (b0 : 0 ≤ d0 ∧ d0 < 65536) (b1 : 0 ≤ d1 ∧ d1 < 65536) (b2 : 0 ≤ d2 ∧ d2 < 65536) (b3 : 0 ≤ d3 ∧ d3 < 65536) (b4 : 0 ≤ d4 ∧ d4 < 65536) (b5 : 0 ≤ d5 ∧ d5 < 65536) (b6 : 0 ≤ d6 ∧ d6 < 65536) (b7 : 0 ≤ d7 ∧ d7 < 65536) (hl : l = d0 + 65536 * d1 + 4294967296 * d2 + 281474976710656 * d3)
    (hh : (0 ≤ h ∧ h ≤ 9223372036854775807 ∧ d8 = 0 ∧ h = d4 + 65536 * d5 + 4294967296 * d6 + 281474976710656 * d7) ∨ (h < 0 ∧ -9223372036854775808 ≤ h ∧ d8 = 65535 ∧ h + 18446744073709551616 = d4 + 65536 * d5 + 4294967296 * d6 + 281474976710656 * d7)) (w : World) :
    Calls Try.prog 28 #[.agg #[.int .u64 d0, .int .u64 d1, .int .u64 d2, .int .u64 d3, .int .u64 d4, .int .u64 d5, .int .u64 d6, .int .u64 d7, .int .u64 d8]] w fun e w' => e = .returned (.tuple #[.agg #[.int .i64 h, .int .u64 l], .bool true]) ∧ Below w.heap.size w w' := by
  rcases hh with ⟨h0, h1, e8, e⟩ | ⟨h0, h1, e8, e⟩
  · refine wide_core true h l h d0 d1 d2 d3 d4 d5 d6 d7 d8 b0 b1 b2 b3 b4 b5 b6 b7 ?_ (.inl ⟨e8, by omega, rfl, rfl, by omega⟩) w
    rw [IntWalk.i64_in _ (by omega)]; omega
  · refine wide_core true h l h d0 d1 d2 d3 d4 d5 d6 d7 d8 b0 b1 b2 b3 b4 b5 b6 b7 ?_ (.inr (.inr (.inl ⟨e8, by omega, rfl, rfl, by omega⟩))) w
    have : (((d7 * 65536 + d6) * 65536 + d5) * 65536 + d4) = h + 18446744073709551616 := by omega
    rw [this]; simp [IntKind.wrap, IntKind.bits, IntKind.signed]; omega
theorem wide_no (d0 d1 d2 d3 d4 d5 d6 d7 d8 : Int) (b0 : 0 ≤ d0 ∧ d0 < 65536) (b1 : 0 ≤ d1 ∧ d1 < 65536) (b2 : 0 ≤ d2 ∧ d2 < 65536) (b3 : 0 ≤ d3 ∧ d3 < 65536) (b4 : 0 ≤ d4 ∧ d4 < 65536) (b5 : 0 ≤ d5 ∧ d5 < 65536) (b6 : 0 ≤ d6 ∧ d6 < 65536) (b7 : 0 ≤ d7 ∧ d7 < 65536)
    (hh : (d8 = 0 ∧ 32768 ≤ d7) ∨ (d8 = 65535 ∧ d7 < 32768) ∨ (d8 ≠ 0 ∧ d8 ≠ 65535)) (w : World) :
    Calls Try.prog 28 #[.agg #[.int .u64 d0, .int .u64 d1, .int .u64 d2, .int .u64 d3, .int .u64 d4, .int .u64 d5, .int .u64 d6, .int .u64 d7, .int .u64 d8]] w fun e w' => e = .returned (.tuple #[.agg #[.int .i64 0, .int .u64 0], .bool false]) ∧ Below w.heap.size w w' := by
  refine wide_core false 0 0 _ d0 d1 d2 d3 d4 d5 d6 d7 d8 b0 b1 b2 b3 b4 b5 b6 b7 rfl ?_ w
  rcases hh with ⟨e, f⟩ | ⟨e, f⟩ | ⟨e, f⟩
  · exact .inr (.inl ⟨e, by omega, rfl, rfl, rfl⟩)
  · exact .inr (.inr (.inr (.inl ⟨e, by omega, rfl, rfl, rfl⟩)))
  · exact .inr (.inr (.inr (.inr ⟨by simpa using e, by simpa using f, rfl, rfl, rfl⟩)))
end Go.Proofs.Ytjfdlamfklhodaa
