/- Plain facts about numbers of 64 bits, no program in sight. -/
import Derived.WalkKit
import Derived.ProofKit
namespace Go.Proofs.YtgooihjcaoajnaaGreat
open Go.RowKit

def inR (n : Int) : Bool := decide (-9223372036854775808 ≤ n ∧ n ≤ 9223372036854775807)
def chk (n : Int) : Int := if inR n then n else 0

theorem pair_yes {n m : Int} (h : -9223372036854775808 ≤ m ∧ m ≤ 9223372036854775807) (e : n = m) :
    Ending.returned (.tuple #[.int .i64 n, .bool true]) = Ending.returned (.tuple #[.int .i64 (chk m), .bool (inR m)]) := by
  have h2 : inR m = true := by simp [inR, h]
  rw [chk, h2, e]; rfl
theorem pair_no {m : Int} (h : ¬ (-9223372036854775808 ≤ m ∧ m ≤ 9223372036854775807)) :
    Ending.returned (.tuple #[.int .i64 0, .bool false]) = Ending.returned (.tuple #[.int .i64 (chk m), .bool (inR m)]) := by
  have h2 : inR m = false := by simpa [inR] using h
  rw [chk, h2]; rfl
theorem bd64 {a : Int} (h : (Lit.int .i64 a).wf = true) : -9223372036854775808 ≤ a ∧ a ≤ 9223372036854775807 := by
  simp only [Lit.wf, IntKind.min, IntKind.max, IntKind.signed, IntKind.bits, Bool.and_eq_true, decide_eq_true_eq, if_true] at h
  omega
theorem bdu64 {a : Int} (h : (Lit.int .u64 a).wf = true) : 0 ≤ a ∧ a ≤ 18446744073709551615 := by
  simp only [Lit.wf, IntKind.min, IntKind.max, IntKind.signed, IntKind.bits, Bool.and_eq_true] at h
  simp at h
  omega

theorem wrapu (n : Int) : IntKind.u64.wrap n = n % 18446744073709551616 := by simp [IntKind.wrap, IntKind.bits, IntKind.signed]
theorem refmid_val (a b : Int) (a0 : -9223372036854775808 ≤ a) (b1 : b ≤ 9223372036854775807) (h : a ≤ b) :
    wrap64 (IntKind.u64.wrap (IntKind.u64.wrap a + IntKind.u64.wrap ((IntKind.u64.wrap (IntKind.u64.wrap b - IntKind.u64.wrap a)).tdiv 2))) = (a + b) / 2 := by
  simp only [wrapu, wrap64]
  have h2 : 0 ≤ (b % 18446744073709551616 - a % 18446744073709551616) % 18446744073709551616 := by omega
  rw [Int.tdiv_eq_ediv_of_nonneg h2]
  omega
theorem nat_addx : ∀ a b : Nat, a + b = (a ^^^ b) + 2 * (a &&& b) := by
  intro a
  induction a using Nat.strongRecOn with
  | ind a ih =>
    intro b
    by_cases h : a = 0
    · subst h; simp
    · have h1 := ih (a / 2) (by omega) (b / 2)
      have e1 : (a ^^^ b) / 2 = a / 2 ^^^ b / 2 := Nat.xor_div_two
      have e2 : (a &&& b) / 2 = a / 2 &&& b / 2 := Nat.and_div_two
      have e3 : (a ^^^ b) % 2 = (a % 2 + b % 2) % 2 := by
        have := @Nat.xor_mod_two_pow a b 1
        simp only [Nat.pow_one] at this
        rw [this]
        rcases Nat.mod_two_eq_zero_or_one a with h | h <;> rcases Nat.mod_two_eq_zero_or_one b with h' | h' <;> simp [h, h']
      have e4 : (a &&& b) % 2 = a % 2 * (b % 2) := by
        have := @Nat.and_mod_two_pow a b 1
        simp only [Nat.pow_one] at this
        rw [this]
        rcases Nat.mod_two_eq_zero_or_one a with h | h <;> rcases Nat.mod_two_eq_zero_or_one b with h' | h' <;> simp [h, h']
      rw [← e1, ← e2] at h1
      rcases Nat.mod_two_eq_zero_or_one a with h | h <;> rcases Nat.mod_two_eq_zero_or_one b with h' | h' <;> rw [h, h'] at e3 e4 <;> omega
theorem tops (H A B : Nat) (n : Nat) (hH : H = 2 ^ n) (lA : A < 2 * H) (lB : B < 2 * H) :
    (A < H ∧ B < H ∧ (A &&& B) < H ∧ (A ^^^ B) < H) ∨ (A < H ∧ H ≤ B ∧ (A &&& B) < H ∧ H ≤ (A ^^^ B) ∧ (A ^^^ B) < 2 * H) ∨ (H ≤ A ∧ B < H ∧ (A &&& B) < H ∧ H ≤ (A ^^^ B) ∧ (A ^^^ B) < 2 * H)
      ∨ (H ≤ A ∧ H ≤ B ∧ H ≤ (A &&& B) ∧ (A &&& B) < 2 * H ∧ (A ^^^ B) < H) := by
  have h0 : 0 < H := by rw [hH]; exact Nat.two_pow_pos n
  have h2 : (A &&& B) / H = A / H &&& B / H := by rw [hH]; simpa [Nat.shiftRight_eq_div_pow] using @Nat.shiftRight_and_distrib n A B
  have h3 : (A ^^^ B) / H = A / H ^^^ B / H := by rw [hH]; simpa [Nat.shiftRight_eq_div_pow] using @Nat.shiftRight_xor_distrib n A B
  have z : ∀ x, x / H = 0 → x < H := fun x h => by rcases Nat.div_eq_zero_iff.1 h with h | h <;> omega
  have o : ∀ x, x / H = 1 → H ≤ x ∧ x < 2 * H := fun x h => by
    have h4 := Nat.div_add_mod x H; have h5 := Nat.mod_lt x h0; rw [h] at h4; omega
  have zi : ∀ x, x < H → x / H = 0 := fun x h => Nat.div_eq_of_lt h
  have oi : ∀ x, H ≤ x → x < 2 * H → x / H = 1 := fun x h h' => by
    rw [Nat.div_eq_sub_div h0 h, Nat.div_eq_of_lt (by omega)]
  by_cases ha : A < H <;> by_cases hb : B < H
  · rw [zi A ha, zi B hb] at h2 h3
    exact Or.inl ⟨ha, hb, z _ h2, z _ h3⟩
  · rw [zi A ha, oi B (by omega) lB] at h2 h3
    exact Or.inr (Or.inl ⟨ha, by omega, z _ h2, (o _ h3).1, (o _ h3).2⟩)
  · rw [oi A (by omega) lA, zi B hb] at h2 h3
    exact Or.inr (Or.inr (Or.inl ⟨by omega, hb, z _ h2, (o _ h3).1, (o _ h3).2⟩))
  · rw [oi A (by omega) lA, oi B (by omega) lB] at h2 h3
    exact Or.inr (Or.inr (Or.inr ⟨by omega, by omega, (o _ h2).1, (o _ h2).2, z _ h3⟩))
theorem ofInt64 (a : Int) : (BitVec.ofInt 64 a).toNat = (a % 18446744073709551616).toNat := by
  rw [BitVec.toNat_ofInt]; rfl
theorem wrap_i64' (n : Int) : IntKind.i64.wrap n = wrap64 n := by rw [IntKind.wrap_i64, wrap64]
theorem bits_and64 (a b : Int) : bits .and .i64 a b = wrap64 (((a % 18446744073709551616).toNat &&& (b % 18446744073709551616).toNat : Nat) : Int) := by
  have e : bits .and .i64 a b = IntKind.i64.wrap (((BitVec.ofInt 64 a &&& BitVec.ofInt 64 b).toNat : Nat) : Int) := rfl
  rw [e, BitVec.toNat_and, ofInt64, ofInt64, wrap_i64']
theorem bits_xor64 (a b : Int) : bits .xor .i64 a b = wrap64 (((a % 18446744073709551616).toNat ^^^ (b % 18446744073709551616).toNat : Nat) : Int) := by
  have e : bits .xor .i64 a b = IntKind.i64.wrap (((BitVec.ofInt 64 a ^^^ BitVec.ofInt 64 b).toNat : Nat) : Int) := rfl
  rw [e, BitVec.toNat_xor, ofInt64, ofInt64, wrap_i64']
theorem mid_core (a b A B X Y : Int) (a0 : -9223372036854775808 ≤ a) (a1 : a ≤ 9223372036854775807) (b0 : -9223372036854775808 ≤ b) (b1 : b ≤ 9223372036854775807)
    (hA : a % 18446744073709551616 = A) (hB : b % 18446744073709551616 = B) (h1 : A + B = Y + 2 * X) (hX : 0 ≤ X) (hY : 0 ≤ Y)
    (h : (A < 9223372036854775808 ∧ B < 9223372036854775808 ∧ X < 9223372036854775808 ∧ Y < 9223372036854775808) ∨ (A < 9223372036854775808 ∧ 9223372036854775808 ≤ B ∧ X < 9223372036854775808 ∧ 9223372036854775808 ≤ Y ∧ Y < 18446744073709551616)
      ∨ (9223372036854775808 ≤ A ∧ B < 9223372036854775808 ∧ X < 9223372036854775808 ∧ 9223372036854775808 ≤ Y ∧ Y < 18446744073709551616) ∨ (9223372036854775808 ≤ A ∧ 9223372036854775808 ≤ B ∧ 9223372036854775808 ≤ X ∧ X < 18446744073709551616 ∧ Y < 9223372036854775808)) :
    wrap64 (wrap64 X + wrap64 Y / 2) = (a + b) / 2 := by
  simp only [wrap64]
  rcases h with h | h | h | h <;> omega
theorem mid_val (a b : Int) (a0 : -9223372036854775808 ≤ a) (a1 : a ≤ 9223372036854775807) (b0 : -9223372036854775808 ≤ b) (b1 : b ≤ 9223372036854775807) :
    wrap64 (bits BinOp.and IntKind.i64 a b + bits BinOp.xor IntKind.i64 a b / 2) = (a + b) / 2 := by
  rw [bits_and64, bits_xor64]
  have hA : ((a % 18446744073709551616).toNat : Int) = a % 18446744073709551616 := by omega
  have hB : ((b % 18446744073709551616).toNat : Int) = b % 18446744073709551616 := by omega
  have h1 := nat_addx (a % 18446744073709551616).toNat (b % 18446744073709551616).toNat
  have h2 := tops 9223372036854775808 (a % 18446744073709551616).toNat (b % 18446744073709551616).toNat 63 (by decide) (by omega) (by omega)
  refine mid_core a b _ _ _ _ a0 a1 b0 b1 hA.symm hB.symm (by omega) (by omega) (by omega) ?_
  rcases h2 with h | h | h | h
  · exact Or.inl (by omega)
  · exact Or.inr (Or.inl (by omega))
  · exact Or.inr (Or.inr (Or.inl (by omega)))
  · exact Or.inr (Or.inr (Or.inr (by omega)))
theorem mul_back (a b : Int) (hb : b ≠ 0) : (a * b).tdiv b = a := Int.mul_tdiv_cancel a hb
theorem mul_over (a b : Int) (a0 : -9223372036854775808 ≤ a) (a1 : a ≤ 9223372036854775807) (b0 : -9223372036854775808 ≤ b) (b1 : b ≤ 9223372036854775807) (hb : b ≠ 0)
    (hm : ¬ (a = -9223372036854775808 ∧ b = -1)) (h : wrap64 ((wrap64 (a * b)).tdiv b) = a) : -9223372036854775808 ≤ a * b ∧ a * b ≤ 9223372036854775807 := by
  have hp : ∃ k : Int, wrap64 (a * b) = a * b + 18446744073709551616 * k := ⟨-((a * b + 9223372036854775808) / 18446744073709551616), by unfold wrap64; omega⟩
  have hp1 : -9223372036854775808 ≤ wrap64 (a * b) ∧ wrap64 (a * b) ≤ 9223372036854775807 := by unfold wrap64; omega
  generalize wrap64 (a * b) = p at *
  obtain ⟨k, hk⟩ := hp
  by_cases h1 : b = -1
  · subst h1
    rw [Int.tdiv_neg, Int.tdiv_one] at h
    unfold wrap64 at h
    omega
  · have hd := Int.mul_tdiv_add_tmod p b
    have hr1 : (p.tmod b).natAbs < b.natAbs := by
      rw [Int.natAbs_tmod]; exact Nat.mod_lt _ (by omega)
    have hq : (p.tdiv b).natAbs ≤ p.natAbs / b.natAbs := by rw [Int.natAbs_tdiv]; exact Nat.le_refl _
    have hq2 : -9223372036854775808 ≤ p.tdiv b ∧ p.tdiv b ≤ 9223372036854775807 := by
      by_cases h2 : b = 1
      · subst h2; rw [Int.tdiv_one]; omega
      · have : p.natAbs / b.natAbs ≤ p.natAbs / 2 := Nat.div_le_div_left (by omega) (by omega)
        omega
    have hw : wrap64 (p.tdiv b) = p.tdiv b := by unfold wrap64; omega
    rw [hw] at h
    rw [h, Int.mul_comm] at hd
    omega
theorem mul_yes (a b : Int) (a0 : -9223372036854775808 ≤ a) (a1 : a ≤ 9223372036854775807) (b0 : -9223372036854775808 ≤ b) (b1 : b ≤ 9223372036854775807) (hb : b ≠ 0)
    (hm : ¬ (a = -9223372036854775808 ∧ b = -1)) (h : (wrap64 ((wrap64 (a * b)).tdiv b) != a) = false) :
    Ending.returned (.tuple #[.int .i64 (wrap64 (a * b)), .bool true]) = Ending.returned (.tuple #[.int .i64 (chk (a * b)), .bool (inR (a * b))]) := by
  have hr := mul_over a b a0 a1 b0 b1 hb hm (by simpa using h)
  exact pair_yes hr (by unfold wrap64; omega)
theorem mul_no (a b : Int) (a0 : -9223372036854775808 ≤ a) (a1 : a ≤ 9223372036854775807) (hb : b ≠ 0)
    (h : (wrap64 ((wrap64 (a * b)).tdiv b) != a) = true) :
    Ending.returned (.tuple #[.int .i64 0, .bool false]) = Ending.returned (.tuple #[.int .i64 (chk (a * b)), .bool (inR (a * b))]) := by
  refine pair_no fun hr => ?_
  have e1 : wrap64 (a * b) = a * b := by unfold wrap64; omega
  have e2 : wrap64 a = a := by unfold wrap64; omega
  rw [e1, mul_back a b hb, e2] at h
  simp at h
theorem quo_le (x y m : Int) (hy : 0 < y) (h : x ≤ m / y) : x * y ≤ m := (Int.le_ediv_iff_mul_le hy).1 h
theorem quo_lt (x y m : Int) (hy : 0 < y) (h : m / y < x) : m < x * y := (Int.ediv_lt_iff_lt_mul hy).1 h
theorem inR_of {n : Int} (h0 : -9223372036854775808 ≤ n) (h1 : n ≤ 9223372036854775807) : inR n = true ∧ chk n = n := by
  have h2 : inR n = true := by simp [inR, h0, h1]
  exact ⟨h2, by rw [chk, h2]; rfl⟩
theorem inR_not {n : Int} (h : ¬ (-9223372036854775808 ≤ n ∧ n ≤ 9223372036854775807)) : inR n = false ∧ chk n = 0 := by
  have h2 : inR n = false := by simpa [inR] using h
  exact ⟨h2, by rw [chk, h2]; rfl⟩
end Go.Proofs.YtgooihjcaoajnaaGreat
