/- Numbers as bytes, seven bits a byte, the least first; those below 0 folded in between (layer 29). No program in sight. -/
import Derived.Test.YtencgokpbfkeiaaV
set_option linter.unusedVariables false
namespace Go.Proofs.Ytencgokpbfkeiaa
def zig (n : Int) : Nat := if 0 ≤ n then (2 * n).toNat else (-2 * n - 1).toNat
def zag (z : Nat) : Int := if z % 2 = 0 then ((z / 2 : Nat) : Int) else -((z / 2 : Nat) : Int) - 1
theorem zag_zig (n : Int) : zag (zig n) = n := by
  unfold zag zig
  split <;> split <;> omega
theorem zig_zag (z : Nat) : zig (zag z) = z := by
  unfold zag zig
  split <;> split <;> omega
theorem zig_lt {n : Int} (h : -9223372036854775808 ≤ n ∧ n ≤ 9223372036854775807) : zig n < 18446744073709551616 := by
  unfold zig
  split <;> omega
theorem zag_in {z : Nat} (h : z < 18446744073709551616) : -9223372036854775808 ≤ zag z ∧ zag z ≤ 9223372036854775807 := by
  unfold zag
  split <;> omega
/-- the bytes of a number that is not below 0 -/
def vb (z : Nat) : List Int := if h : z < 128 then [(z : Int)] else (128 + ((z % 128 : Nat) : Int)) :: vb (z / 128)
termination_by z
decreasing_by omega
theorem vb_small {z : Nat} (h : z < 128) : vb z = [(z : Int)] := by rw [vb, dif_pos h]
theorem vb_big {z : Nat} (h : 128 ≤ z) : vb z = (128 + ((z % 128 : Nat) : Int)) :: vb (z / 128) := by rw [vb, dif_neg (by omega)]
/-- the bytes of a number -/
def vint (n : Int) : List Int := vb (zig n)
theorem vb_len : ∀ (k z : Nat), z < 128 ^ (k + 1) → (vb z).length ≤ k + 1
  | 0, z, h => by rw [vb_small (by simpa using h)]; simp
  | k + 1, z, h => by
    by_cases hz : z < 128
    · rw [vb_small hz]; simp
    · rw [vb_big (by omega), List.length_cons]
      have := vb_len k (z / 128) (by rw [Nat.pow_succ] at h; exact Nat.div_lt_of_lt_mul (by rw [Nat.mul_comm]; exact h))
      omega
theorem vint_len {n : Int} (h : -9223372036854775808 ≤ n ∧ n ≤ 9223372036854775807) : (vint n).length ≤ 10 :=
  vb_len 9 _ (Nat.lt_of_lt_of_le (zig_lt h) (by decide))
theorem vb_pos (z : Nat) : 1 ≤ (vb z).length := by
  by_cases hz : z < 128
  · rw [vb_small hz]; simp
  · rw [vb_big (by omega)]; simp
theorem vb_bytes (z : Nat) : ∀ c ∈ vb z, 0 ≤ c ∧ c < 256 := by
  induction z using Nat.strongRecOn with
  | _ z ih =>
    intro c hc
    by_cases hz : z < 128
    · rw [vb_small hz] at hc
      simp only [List.mem_singleton] at hc
      omega
    · rw [vb_big (by omega)] at hc
      rcases List.mem_cons.1 hc with rfl | hc
      · omega
      · exact ih _ (by omega) c hc
/-- the number with whose bytes a list begins, i bytes having been read -/
def rd : Nat → Nat → List Int → Option (Nat × Nat)
  | _, _, [] => none
  | i, acc, c :: bs => if i = 9 ∧ 1 < c then none else if 128 ≤ c then rd (i + 1) (acc + (c.toNat % 128) * 2 ^ (7 * i)) bs else if c = 0 ∧ 0 < i then none else some (acc + c.toNat * 2 ^ (7 * i), i + 1)
theorem pow7 (i : Nat) : 2 ^ (7 * (i + 1)) = 2 ^ (7 * i) * 128 := by rw [Nat.mul_succ, Nat.pow_add]
theorem pow64 {i : Nat} (h : i ≤ 8) : 2 ^ (64 - 7 * i) = 2 ^ (64 - 7 * (i + 1)) * 128 := by
  have e : 64 - 7 * i = (64 - 7 * (i + 1)) + 7 := by omega
  rw [e, Nat.pow_add]
theorem rd_vb (z : Nat) : ∀ (i acc : Nat) (rest : List Int), i ≤ 9 → z < 2 ^ (64 - 7 * i) → (0 < i → 0 < z) → rd i acc (vb z ++ rest) = some (acc + z * 2 ^ (7 * i), i + (vb z).length) := by
  induction z using Nat.strongRecOn with
  | _ z ih =>
    intro i acc rest hi hz hp
    have h9 : i = 9 → z < 2 := by rintro rfl; simpa using hz
    by_cases hs : z < 128
    · rw [vb_small hs]
      simp only [List.cons_append, List.nil_append, rd, List.length_singleton]
      rw [if_neg (by omega), if_neg (by omega), if_neg (by omega)]
      simp
    · have hi8 : i ≤ 8 := by omega
      rw [vb_big (by omega)]
      simp only [List.cons_append, rd, List.length_cons]
      rw [if_neg (by omega), if_pos (by omega), ih (z / 128) (by omega) (i + 1) _ rest (by omega) (Nat.div_lt_of_lt_mul (by rw [Nat.mul_comm, ← pow64 hi8]; exact hz)) (fun _ => by omega)]
      have e1 : (128 + ((z % 128 : Nat) : Int)).toNat % 128 = z % 128 := by omega
      rw [e1, pow7]
      have e2 : z % 128 * 2 ^ (7 * i) + z / 128 * (2 ^ (7 * i) * 128) = z * 2 ^ (7 * i) := by
        rw [Nat.mul_comm (2 ^ (7 * i)) 128, ← Nat.mul_assoc, ← Nat.add_mul]
        congr 1
        omega
      rw [Nat.add_assoc acc, e2]
      congr 2
      omega
theorem vb_rd : ∀ (bs : List Int) (i acc Z s : Nat), i ≤ 9 → (∀ c ∈ bs, 0 ≤ c ∧ c < 256) → rd i acc bs = some (Z, s) → ∃ z m, Z = acc + z * 2 ^ (7 * i) ∧ s = i + m ∧ bs.take m = vb z ∧ m ≤ bs.length ∧ z < 2 ^ (64 - 7 * i) ∧ (0 < i → 0 < z)
  | [], _, _, _, _, _, _, h => by simp [rd] at h
  | c :: bs, i, acc, Z, s, hi, hc, h => by
    have hc0 := hc c (by simp)
    simp only [rd] at h
    by_cases h1 : i = 9 ∧ 1 < c
    · rw [if_pos h1] at h; cases h
    · rw [if_neg h1] at h
      by_cases h2 : 128 ≤ c
      · rw [if_pos h2] at h
        have hi8 : i ≤ 8 := by omega
        obtain ⟨z, m, hZ, hs, ht, hm, hz, hp⟩ := vb_rd bs (i + 1) _ Z s (by omega) (fun x hx => hc x (List.mem_cons_of_mem _ hx)) h
        have hz0 := hp (by omega)
        refine ⟨c.toNat % 128 + 128 * z, m + 1, ?_, by omega, ?_, by simpa using hm, ?_, fun _ => by omega⟩
        · rw [hZ, pow7, Nat.add_mul, Nat.add_assoc]
          congr 2
          rw [Nat.mul_comm (2 ^ (7 * i)) 128, ← Nat.mul_assoc, Nat.mul_comm z 128]
        · rw [vb_big (by omega), List.take_succ_cons, ht]
          have e1 : (c.toNat % 128 + 128 * z) % 128 = c.toNat % 128 := by omega
          have e2 : (c.toNat % 128 + 128 * z) / 128 = z := by omega
          rw [e1, e2]
          congr 1
          omega
        · rw [pow64 hi8]
          omega
      · rw [if_neg h2] at h
        by_cases h3 : c = 0 ∧ 0 < i
        · rw [if_pos h3] at h; cases h
        · rw [if_neg h3] at h
          simp only [Option.some.injEq, Prod.mk.injEq] at h
          refine ⟨c.toNat, 1, h.1.symm, h.2.symm, ?_, by simp, ?_, fun hi0 => by omega⟩
          · rw [vb_small (by omega)]
            simp
            omega
          · by_cases h9 : i = 9
            · subst h9
              have : c ≤ 1 := by omega
              show c.toNat < 2 ^ (64 - 63)
              omega
            · have : 2 ^ 8 ≤ 2 ^ (64 - 7 * i) := Nat.pow_le_pow_right (by decide) (by omega)
              omega
/-- a number's bytes are read back -/
theorem rd_vint (n : Int) (rest : List Int) (h : -9223372036854775808 ≤ n ∧ n ≤ 9223372036854775807) : rd 0 0 (vint n ++ rest) = some (zig n, (vint n).length) := by
  have := rd_vb (zig n) 0 0 rest (by omega) (by simpa using zig_lt h) (by omega)
  simpa [vint] using this
/-- what is read is a number's bytes -/
theorem vint_rd {bs : List Int} {Z s : Nat} (hc : ∀ c ∈ bs, 0 ≤ c ∧ c < 256) (h : rd 0 0 bs = some (Z, s)) : bs.take s = vint (zag Z) ∧ s ≤ bs.length ∧ Z < 18446744073709551616 ∧ 0 < s := by
  obtain ⟨z, m, hZ, hs, ht, hm, hz, -⟩ := vb_rd bs 0 0 Z s (by omega) hc h
  have hZz : Z = z := by simpa using hZ
  have hsm : s = m := by omega
  subst hZz hsm
  refine ⟨by rw [ht, vint, zig_zag], hm, by simpa using hz, ?_⟩
  have h1 := vb_pos Z
  have h2 : (bs.take s).length = (vb Z).length := by rw [ht]
  simp at h2
  omega
/-- how a list begins tells the number -/
theorem vint_append {n m : Int} {a b : List Int} (hn : -9223372036854775808 ≤ n ∧ n ≤ 9223372036854775807) (hm : -9223372036854775808 ≤ m ∧ m ≤ 9223372036854775807) (h : vint n ++ a = vint m ++ b) : n = m ∧ a = b := by
  have h1 := rd_vint n a hn
  rw [h, rd_vint m b hm] at h1
  simp only [Option.some.injEq, Prod.mk.injEq] at h1
  have e : n = m := by rw [← zag_zig n, ← zag_zig m, h1.1]
  subst e
  exact ⟨rfl, List.append_cancel_left h⟩
end Go.Proofs.Ytencgokpbfkeiaa
