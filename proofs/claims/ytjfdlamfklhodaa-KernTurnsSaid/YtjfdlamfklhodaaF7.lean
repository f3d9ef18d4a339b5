/- Sums and negatives of digits, by their values. -/
import Derived.Test.YtjfdlamfklhodaaF5
import Derived.Test.YtjfdlamfklhodaaF6
import Derived.IntWalk
set_option linter.unusedVariables false
namespace Go.Proofs.Ytjfdlamfklhodaa
open Go.ChangeShapes Go.WideShapes Go.ChangeAt Go.RowKit
theorem step_add (a b k : Int) (a0 : 0 ≤ a ∧ a < 65536) (b0 : 0 ≤ b ∧ b < 65536) (k0 : 0 ≤ k ∧ k ≤ 1) : ∃ t s c : Int, a + b + k = s + 65536 * c ∧ (0 ≤ s ∧ s < 65536) ∧ (0 ≤ c ∧ c ≤ 1) ∧
    Hid (IntKind.u64.wrap (a + b) = a + b ∧ IntKind.u64.wrap (a + b + k) = t ∧ 0 ≤ t ∧ t ≤ 18446744073709551615 ∧ t % 65536 = s ∧ t / 65536 = c) :=
  ⟨a + b + k, (a + b + k) % 65536, (a + b + k) / 65536, by omega, by omega, by omega, IntWalk.u64_in _ (by omega), IntWalk.u64_in _ (by omega), by omega, by omega, rfl, rfl⟩
theorem radd_val (a0 a1 a2 a3 a4 a5 a6 a7 a8 b0 b1 b2 b3 b4 b5 b6 b7 b8 : Int) (x0 : 0 ≤ a0 ∧ a0 < 65536) (x1 : 0 ≤ a1 ∧ a1 < 65536) (x2 : 0 ≤ a2 ∧ a2 < 65536) (x3 : 0 ≤ a3 ∧ a3 < 65536) (x4 : 0 ≤ a4 ∧ a4 < 65536) (x5 : 0 ≤ a5 ∧ a5 < 65536) (x6 : 0 ≤ a6 ∧ a6 < 65536) (x7 : 0 ≤ a7 ∧ a7 < 65536) (x8 : 0 ≤ a8 ∧ a8 < 65536) (y0 : 0 ≤ b0 ∧ b0 < 65536) (y1 : 0 ≤ b1 ∧ b1 < 65536) (y2 : 0 ≤ b2 ∧ b2 < 65536) (y3 : 0 ≤ b3 ∧ b3 < 65536) (y4 : 0 ≤ b4 ∧ b4 < 65536) (y5 : 0 ≤ b5 ∧ b5 < 65536) (y6 : 0 ≤ b6 ∧ b6 < 65536) (y7 : 0 ≤ b7 ∧ b7 < 65536) (y8 : 0 ≤ b8 ∧ b8 < 65536) :
    ∃ s0 s1 s2 s3 s4 s5 s6 s7 s8 c : Int, (0 ≤ s0 ∧ s0 < 65536 ∧ 0 ≤ s1 ∧ s1 < 65536 ∧ 0 ≤ s2 ∧ s2 < 65536 ∧ 0 ≤ s3 ∧ s3 < 65536 ∧ 0 ≤ s4 ∧ s4 < 65536 ∧ 0 ≤ s5 ∧ s5 < 65536 ∧ 0 ≤ s6 ∧ s6 < 65536 ∧ 0 ≤ s7 ∧ s7 < 65536 ∧ 0 ≤ s8 ∧ s8 < 65536) ∧ (0 ≤ c ∧ c ≤ 1) ∧ (a0 + 65536 * a1 + 4294967296 * a2 + 281474976710656 * a3 + 18446744073709551616 * a4 + 1208925819614629174706176 * a5 + 79228162514264337593543950336 * a6 + 5192296858534827628530496329220096 * a7 + 340282366920938463463374607431768211456 * a8) + (b0 + 65536 * b1 + 4294967296 * b2 + 281474976710656 * b3 + 18446744073709551616 * b4 + 1208925819614629174706176 * b5 + 79228162514264337593543950336 * b6 + 5192296858534827628530496329220096 * b7 + 340282366920938463463374607431768211456 * b8) = (s0 + 65536 * s1 + 4294967296 * s2 + 281474976710656 * s3 + 18446744073709551616 * s4 + 1208925819614629174706176 * s5 + 79228162514264337593543950336 * s6 + 5192296858534827628530496329220096 * s7 + 340282366920938463463374607431768211456 * s8) + 22300745198530623141535718272648361505980416 * c ∧
      ∀ w : World, Calls Try.prog 37 #[.agg #[.int .u64 a0, .int .u64 a1, .int .u64 a2, .int .u64 a3, .int .u64 a4, .int .u64 a5, .int .u64 a6, .int .u64 a7, .int .u64 a8], .agg #[.int .u64 b0, .int .u64 b1, .int .u64 b2, .int .u64 b3, .int .u64 b4, .int .u64 b5, .int .u64 b6, .int .u64 b7, .int .u64 b8]] w fun e w' => e = .returned (.agg #[.int .u64 s0, .int .u64 s1, .int .u64 s2, .int .u64 s3, .int .u64 s4, .int .u64 s5, .int .u64 s6, .int .u64 s7, .int .u64 s8]) ∧ Below w.heap.size w w' := by
  obtain ⟨t0, s0, k1, q0, z0, c1, h0⟩ := step_add a0 b0 0 x0 y0 (by omega)
  obtain ⟨t1, s1, k2, q1, z1, c2, h1⟩ := step_add a1 b1 k1 x1 y1 c1
  obtain ⟨t2, s2, k3, q2, z2, c3, h2⟩ := step_add a2 b2 k2 x2 y2 c2
  obtain ⟨t3, s3, k4, q3, z3, c4, h3⟩ := step_add a3 b3 k3 x3 y3 c3
  obtain ⟨t4, s4, k5, q4, z4, c5, h4⟩ := step_add a4 b4 k4 x4 y4 c4
  obtain ⟨t5, s5, k6, q5, z5, c6, h5⟩ := step_add a5 b5 k5 x5 y5 c5
  obtain ⟨t6, s6, k7, q6, z6, c7, h6⟩ := step_add a6 b6 k6 x6 y6 c6
  obtain ⟨t7, s7, k8, q7, z7, c8, h7⟩ := step_add a7 b7 k7 x7 y7 c7
  obtain ⟨t8, s8, k9, q8, z8, c9, h8⟩ := step_add a8 b8 k8 x8 y8 c8
  have h0' : Hid (IntKind.u64.wrap (a0 + b0) = a0 + b0 ∧ 0 ≤ a0 + b0 ∧ a0 + b0 ≤ 18446744073709551615 ∧ (a0 + b0) % 65536 = s0 ∧ (a0 + b0) / 65536 = k1 ∧ True) := by
    clear h1 q1 h2 q2 h3 q3 h4 q4 h5 q5 h6 q6 h7 q7 h8 q8
    obtain ⟨e1, e2, e3, e4, e5, e6⟩ := h0.out
    exact ⟨e1, by omega, by omega, by omega, by omega, trivial⟩
  refine ⟨s0, s1, s2, s3, s4, s5, s6, s7, s8, k9, ⟨z0.1, z0.2, z1.1, z1.2, z2.1, z2.2, z3.1, z3.2, z4.1, z4.2, z5.1, z5.2, z6.1, z6.2, z7.1, z7.2, z8.1, z8.2⟩, c9, ?_, fun w => radd a0 a1 a2 a3 a4 a5 a6 a7 a8 b0 b1 b2 b3 b4 b5 b6 b7 b8 s0 s1 s2 s3 s4 s5 s6 s7 s8 t1 t2 t3 t4 t5 t6 t7 t8 k1 k2 k3 k4 k5 k6 k7 k8 k9 h0' h1 h2 h3 h4 h5 h6 h7 h8 w⟩
  clear h0' h0 x0 y0 z0 c1 h1 x1 y1 z1 c2 h2 x2 y2 z2 c3 h3 x3 y3 z3 c4 h4 x4 y4 z4 c5 h5 x5 y5 z5 c6 h6 x6 y6 z6 c7 h7 x7 y7 z7 c8 h8 x8 y8 z8 c9
  omega
theorem rneg_val (a0 a1 a2 a3 a4 a5 a6 a7 a8 : Int) (x0 : 0 ≤ a0 ∧ a0 < 65536) (x1 : 0 ≤ a1 ∧ a1 < 65536) (x2 : 0 ≤ a2 ∧ a2 < 65536) (x3 : 0 ≤ a3 ∧ a3 < 65536) (x4 : 0 ≤ a4 ∧ a4 < 65536) (x5 : 0 ≤ a5 ∧ a5 < 65536) (x6 : 0 ≤ a6 ∧ a6 < 65536) (x7 : 0 ≤ a7 ∧ a7 < 65536) (x8 : 0 ≤ a8 ∧ a8 < 65536) :
    ∃ s0 s1 s2 s3 s4 s5 s6 s7 s8 c : Int, (0 ≤ s0 ∧ s0 < 65536 ∧ 0 ≤ s1 ∧ s1 < 65536 ∧ 0 ≤ s2 ∧ s2 < 65536 ∧ 0 ≤ s3 ∧ s3 < 65536 ∧ 0 ≤ s4 ∧ s4 < 65536 ∧ 0 ≤ s5 ∧ s5 < 65536 ∧ 0 ≤ s6 ∧ s6 < 65536 ∧ 0 ≤ s7 ∧ s7 < 65536 ∧ 0 ≤ s8 ∧ s8 < 65536) ∧ (0 ≤ c ∧ c ≤ 1) ∧ 22300745198530623141535718272648361505980416 - (a0 + 65536 * a1 + 4294967296 * a2 + 281474976710656 * a3 + 18446744073709551616 * a4 + 1208925819614629174706176 * a5 + 79228162514264337593543950336 * a6 + 5192296858534827628530496329220096 * a7 + 340282366920938463463374607431768211456 * a8) = (s0 + 65536 * s1 + 4294967296 * s2 + 281474976710656 * s3 + 18446744073709551616 * s4 + 1208925819614629174706176 * s5 + 79228162514264337593543950336 * s6 + 5192296858534827628530496329220096 * s7 + 340282366920938463463374607431768211456 * s8) + 22300745198530623141535718272648361505980416 * c ∧
      ∀ w : World, Calls Try.prog 39 #[.agg #[.int .u64 a0, .int .u64 a1, .int .u64 a2, .int .u64 a3, .int .u64 a4, .int .u64 a5, .int .u64 a6, .int .u64 a7, .int .u64 a8]] w fun e w' => e = .returned (.agg #[.int .u64 s0, .int .u64 s1, .int .u64 s2, .int .u64 s3, .int .u64 s4, .int .u64 s5, .int .u64 s6, .int .u64 s7, .int .u64 s8]) ∧ Below w.heap.size w w' := by
  obtain ⟨s0, s1, s2, s3, s4, s5, s6, s7, s8, c, hs, hc, hv, hw⟩ := radd_val (65535 - a0) (65535 - a1) (65535 - a2) (65535 - a3) (65535 - a4) (65535 - a5) (65535 - a6) (65535 - a7) (65535 - a8) 1 0 0 0 0 0 0 0 0 (by omega) (by omega) (by omega) (by omega) (by omega) (by omega) (by omega) (by omega) (by omega) (by omega) (by omega) (by omega) (by omega) (by omega) (by omega) (by omega) (by omega) (by omega)
  refine ⟨s0, s1, s2, s3, s4, s5, s6, s7, s8, c, hs, hc, ?_, fun w => rneg a0 a1 a2 a3 a4 a5 a6 a7 a8 s0 s1 s2 s3 s4 s5 s6 s7 s8 ⟨x0.1, by omega⟩ ⟨x1.1, by omega⟩ ⟨x2.1, by omega⟩ ⟨x3.1, by omega⟩ ⟨x4.1, by omega⟩ ⟨x5.1, by omega⟩ ⟨x6.1, by omega⟩ ⟨x7.1, by omega⟩ ⟨x8.1, by omega⟩ hw w⟩
  clear hw hs
  omega
end Go.Proofs.Ytjfdlamfklhodaa
