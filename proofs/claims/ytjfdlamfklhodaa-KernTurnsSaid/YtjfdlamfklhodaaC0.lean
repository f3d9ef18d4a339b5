/- Facts on products of 128 bits. -/
import Derived.Test.YtjfdlamfklhodaaF
set_option linter.unusedVariables false
namespace Go.Proofs.Ytjfdlamfklhodaa
open Go.RowKit
theorem and32 (x : Int) (h0 : 0 ≤ x) (h1 : x ≤ 18446744073709551615) : bits BinOp.and IntKind.u64 x 4294967295 = x % 4294967296 := by
  rw [u64_and x 4294967295 h0 (by omega) (by omega) (by omega)]
  have : (4294967295 : Int).toNat = 2 ^ 32 - 1 := by decide
  rw [this, Nat.and_two_pow_sub_one_eq_mod]
  omega
theorem prod_bd (a b : Int) (a0 : 0 ≤ a) (a1 : a ≤ 4294967295) (b0 : 0 ≤ b) (b1 : b ≤ 4294967295) : 0 ≤ a * b ∧ a * b ≤ 18446744065119617025 :=
  ⟨Int.mul_nonneg a0 b0, Int.le_trans (Int.mul_le_mul a1 b1 b0 (by decide)) (by decide)⟩
theorem mul_core (P Q R T : Int) (p : 0 ≤ P ∧ P ≤ 18446744065119617025) (q : 0 ≤ Q ∧ Q ≤ 18446744065119617025) (r : 0 ≤ R ∧ R ≤ 18446744065119617025) (t : 0 ≤ T ∧ T ≤ 18446744065119617025) :
    P + (Q + T / 4294967296) / 4294967296 + ((Q + T / 4294967296) % 4294967296 + R) / 4294967296 = (P * 18446744073709551616 + (Q + R) * 4294967296 + T) / 18446744073709551616 := by omega
theorem wrapu_in (n : Int) (h0 : 0 ≤ n) (h1 : n ≤ 18446744073709551615) : IntKind.u64.wrap n = n := by rw [wrapu]; omega
theorem mul64_val (x y : Int) (x0 : 0 ≤ x) (x1 : x ≤ 18446744073709551615) (y0 : 0 ≤ y) (y1 : y ≤ 18446744073709551615) :
    IntKind.u64.wrap (IntKind.u64.wrap (IntKind.u64.wrap (x / 4294967296 * (y / 4294967296)) +
        IntKind.u64.wrap (IntKind.u64.wrap (x / 4294967296 * bits BinOp.and IntKind.u64 y 4294967295) + IntKind.u64.wrap (bits BinOp.and IntKind.u64 x 4294967295 * bits BinOp.and IntKind.u64 y 4294967295) / 4294967296) / 4294967296) +
      IntKind.u64.wrap (bits BinOp.and IntKind.u64 (IntKind.u64.wrap (IntKind.u64.wrap (x / 4294967296 * bits BinOp.and IntKind.u64 y 4294967295) +
            IntKind.u64.wrap (bits BinOp.and IntKind.u64 x 4294967295 * bits BinOp.and IntKind.u64 y 4294967295) / 4294967296)) 4294967295 +
          IntKind.u64.wrap (bits BinOp.and IntKind.u64 x 4294967295 * (y / 4294967296))) / 4294967296) = x * y / 18446744073709551616 := by
  rw [and32 x x0 x1, and32 y y0 y1]
  have ex : x = x / 4294967296 * 4294967296 + x % 4294967296 := by omega
  have ey : y = y / 4294967296 * 4294967296 + y % 4294967296 := by omega
  have P := prod_bd (x / 4294967296) (y / 4294967296) (by omega) (by omega) (by omega) (by omega)
  have Q := prod_bd (x / 4294967296) (y % 4294967296) (by omega) (by omega) (by omega) (by omega)
  have R := prod_bd (x % 4294967296) (y / 4294967296) (by omega) (by omega) (by omega) (by omega)
  have T := prod_bd (x % 4294967296) (y % 4294967296) (by omega) (by omega) (by omega) (by omega)
  have E : x * y = x / 4294967296 * (y / 4294967296) * 18446744073709551616 + (x / 4294967296 * (y % 4294967296) + x % 4294967296 * (y / 4294967296)) * 4294967296 + x % 4294967296 * (y % 4294967296) := by
    generalize x / 4294967296 = a at *
    generalize x % 4294967296 = b at *
    generalize y / 4294967296 = c at *
    generalize y % 4294967296 = d at *
    subst ex ey
    rw [Int.add_mul, Int.mul_add, Int.mul_add]
    have h1 : a * 4294967296 * (c * 4294967296) = a * c * 18446744073709551616 := by
      rw [Int.mul_assoc, Int.mul_left_comm 4294967296 c, ← Int.mul_assoc]; rfl
    have h2 : a * 4294967296 * d = a * d * 4294967296 := by rw [Int.mul_assoc, Int.mul_comm 4294967296 d, ← Int.mul_assoc]
    have h3 : b * (c * 4294967296) = b * c * 4294967296 := by rw [Int.mul_assoc]
    rw [h1, h2, h3]
    omega
  rw [E, ← mul_core _ _ _ _ P Q R T]
  generalize x / 4294967296 * (y / 4294967296) = p at *
  generalize x / 4294967296 * (y % 4294967296) = q at *
  generalize x % 4294967296 * (y / 4294967296) = r at *
  generalize x % 4294967296 * (y % 4294967296) = t at *
  rw [wrapu_in p (by omega) (by omega), wrapu_in q (by omega) (by omega), wrapu_in r (by omega) (by omega), wrapu_in t (by omega) (by omega)]
  rw [wrapu_in (q + t / 4294967296) (by omega) (by omega), and32 (q + t / 4294967296) (by omega) (by omega), wrapu_in ((q + t / 4294967296) % 4294967296 + r) (by omega) (by omega)]
  rw [wrapu_in (p + (q + t / 4294967296) / 4294967296) (by omega) (by omega), wrapu_in _ (by omega) (by omega)]
end Go.Proofs.Ytjfdlamfklhodaa
