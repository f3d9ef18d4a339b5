/- Sums and negatives of numbers of 128 bits: the code and the document tell the same. -/
import Derived.Test.YtjfdlamfklhodaaF8
import Derived.Test.YtjfdlamfklhodaaC3
set_option linter.unusedVariables false
namespace Go.Proofs.Ytjfdlamfklhodaa
open Go.ChangeShapes Go.WideShapes Go.ChangeAt Go.RowKit
theorem wneg (ok : Bool) (h l rh rl : Int) (HS : Hid (∀ w : World, Calls Try.prog 35 #[.agg #[.int .i64 0, .int .u64 0], .agg #[.int .i64 h, .int .u64 l]] w fun e w' => e = .returned (.tuple #[.agg #[.int .i64 rh, .int .u64 rl], .bool ok]) ∧ Below w.heap.size w w')) (w : World) :
    Calls Try.prog 36 #[.agg #[.int .i64 h, .int .u64 l]] w fun e w' => e = .returned (.tuple #[.agg #[.int .i64 rh, .int .u64 rl], .bool ok]) ∧ Below w.heap.size w w' := by
  go_enter Try.func36, Try.ntmps36
  go_wp2_with fail
  refine (HS.out _).mono ?_
  rintro e w1 ⟨rfl, hb⟩
  obtain ⟨hc, hf⟩ := bcell hb
  have hz : w.heap.size + 1 < w1.heap.size := by have := hb.size; simp at this; omega
  have c0 : w1.cell? ⟨w.heap.size + 1, 0, none⟩ = some (.int .i64 0) := by rw [hc _ _ (by simp <;> omega)]; go_simp
  have c1 : w1.cell? ⟨w.heap.size + 1, 1, none⟩ = some (.int .u64 0) := by rw [hc _ _ (by simp <;> omega)]; go_simp
  have f0 : w1.frozen? ⟨w.heap.size + 1, 0, none⟩ = false := by rw [hf _ _ (by simp <;> omega)]; go_simp
  have f1 : w1.frozen? ⟨w.heap.size + 1, 1, none⟩ = false := by rw [hf _ _ (by simp <;> omega)]; go_simp
  have hk : Below w.heap.size w w1 := below_below (by simp <;> omega) hb (by repeat (first | with_reducible exact Below.refl _ _ | with_reducible assumption | with_reducible refine Below.setCell ?_ (by first | omega | (simp <;> omega)) _ | with_reducible refine below_drewN ?_ _ | with_reducible refine Below.drew ?_ | with_reducible refine Below.alloc ?_ (by first | omega | (simp <;> omega)) _))
  clear hc hf hb
  go_wp2_with fail
  exact bodyPost_ret (v := .tuple #[.agg #[.int .i64 rh, .int .u64 rl], .bool ok]) (by simp [results, Try.results36, go_sem, hz, c0, c1]) rfl ⟨rfl, (by repeat (first | with_reducible exact Below.refl _ _ | with_reducible assumption | with_reducible refine Below.setCell ?_ (by first | omega | (simp <;> omega)) _ | with_reducible refine below_drewN ?_ _ | with_reducible refine Below.drew ?_ | with_reducible refine Below.alloc ?_ (by first | omega | (simp <;> omega)) _))⟩
def W2 (f : FuncId) (args : Array Value) (rh rl : Int) (ok : Bool) : Prop := ∀ w : World, Calls Try.prog f args w fun e w' => e = .returned (.tuple #[.agg #[.int .i64 rh, .int .u64 rl], .bool ok]) ∧ Below w.heap.size w w'
theorem told_yes (s0 s1 s2 s3 s4 s5 s6 s7 s8 H L : Int) (b0 : 0 ≤ s0 ∧ s0 < 65536) (b1 : 0 ≤ s1 ∧ s1 < 65536) (b2 : 0 ≤ s2 ∧ s2 < 65536) (b3 : 0 ≤ s3 ∧ s3 < 65536) (b4 : 0 ≤ s4 ∧ s4 < 65536) (b5 : 0 ≤ s5 ∧ s5 < 65536) (b6 : 0 ≤ s6 ∧ s6 < 65536) (b7 : 0 ≤ s7 ∧ s7 < 65536) (b8 : 0 ≤ s8 ∧ s8 < 65536) (L0 : 0 ≤ L) (L1 : L < 18446744073709551616) (H0 : -9223372036854775808 ≤ H) (H1 : H ≤ 9223372036854775807) (q : Int)
    (hv : (s0 + 65536 * s1 + 4294967296 * s2 + 281474976710656 * s3 + 18446744073709551616 * s4 + 1208925819614629174706176 * s5 + 79228162514264337593543950336 * s6 + 5192296858534827628530496329220096 * s7 + 340282366920938463463374607431768211456 * s8) = H * 18446744073709551616 + L + 22300745198530623141535718272648361505980416 * q) : W2 28 #[.agg #[.int .u64 s0, .int .u64 s1, .int .u64 s2, .int .u64 s3, .int .u64 s4, .int .u64 s5, .int .u64 s6, .int .u64 s7, .int .u64 s8]] H L true := by
  obtain ⟨lo, hlo⟩ : ∃ x, s0 + 65536 * s1 + 4294967296 * s2 + 281474976710656 * s3 = x := ⟨_, rfl⟩
  obtain ⟨hi, hhi⟩ : ∃ x, s4 + 65536 * s5 + 4294967296 * s6 + 281474976710656 * s7 = x := ⟨_, rfl⟩
  have hlb : 0 ≤ lo ∧ lo < 18446744073709551616 := by omega
  have hhb : 0 ≤ hi ∧ hi < 18446744073709551616 := by omega
  have hv2 : lo + 18446744073709551616 * hi + 340282366920938463463374607431768211456 * s8 = H * 18446744073709551616 + L + 22300745198530623141535718272648361505980416 * q := by omega
  have e1 : L = lo := by omega
  have e2 : hi + 18446744073709551616 * s8 = H + 1208925819614629174706176 * q := by omega
  intro w
  refine wide_yes H L s0 s1 s2 s3 s4 s5 s6 s7 s8 b0 b1 b2 b3 b4 b5 b6 b7 (by omega) ?_ w
  by_cases c : 0 ≤ H
  · refine .inl ⟨c, H1, ?_, ?_⟩ <;> omega
  · refine .inr ⟨by omega, H0, ?_, ?_⟩ <;> omega
theorem told_no (s0 s1 s2 s3 s4 s5 s6 s7 s8 H L : Int) (b0 : 0 ≤ s0 ∧ s0 < 65536) (b1 : 0 ≤ s1 ∧ s1 < 65536) (b2 : 0 ≤ s2 ∧ s2 < 65536) (b3 : 0 ≤ s3 ∧ s3 < 65536) (b4 : 0 ≤ s4 ∧ s4 < 65536) (b5 : 0 ≤ s5 ∧ s5 < 65536) (b6 : 0 ≤ s6 ∧ s6 < 65536) (b7 : 0 ≤ s7 ∧ s7 < 65536) (b8 : 0 ≤ s8 ∧ s8 < 65536) (L0 : 0 ≤ L) (L1 : L < 18446744073709551616) (H0 : -18446744073709551616 ≤ H) (H1 : H ≤ 18446744073709551616) (hR : ¬ (-9223372036854775808 ≤ H ∧ H ≤ 9223372036854775807)) (q : Int)
    (hv : (s0 + 65536 * s1 + 4294967296 * s2 + 281474976710656 * s3 + 18446744073709551616 * s4 + 1208925819614629174706176 * s5 + 79228162514264337593543950336 * s6 + 5192296858534827628530496329220096 * s7 + 340282366920938463463374607431768211456 * s8) = H * 18446744073709551616 + L + 22300745198530623141535718272648361505980416 * q) : W2 28 #[.agg #[.int .u64 s0, .int .u64 s1, .int .u64 s2, .int .u64 s3, .int .u64 s4, .int .u64 s5, .int .u64 s6, .int .u64 s7, .int .u64 s8]] 0 0 false := by
  obtain ⟨lo, hlo⟩ : ∃ x, s0 + 65536 * s1 + 4294967296 * s2 + 281474976710656 * s3 = x := ⟨_, rfl⟩
  obtain ⟨hi, hhi⟩ : ∃ x, s4 + 65536 * s5 + 4294967296 * s6 + 281474976710656 * s7 = x := ⟨_, rfl⟩
  have hlb : 0 ≤ lo ∧ lo < 18446744073709551616 := by omega
  have hhb : 0 ≤ hi ∧ hi < 18446744073709551616 := by omega
  have hv2 : lo + 18446744073709551616 * hi + 340282366920938463463374607431768211456 * s8 = H * 18446744073709551616 + L + 22300745198530623141535718272648361505980416 * q := by omega
  have e1 : L = lo := by omega
  have e2 : hi + 18446744073709551616 * s8 = H + 1208925819614629174706176 * q := by omega
  have h7 : (s7 < 32768 ∧ hi < 9223372036854775808) ∨ (32768 ≤ s7 ∧ 9223372036854775808 ≤ hi) := by omega
  intro w
  refine wide_no s0 s1 s2 s3 s4 s5 s6 s7 s8 b0 b1 b2 b3 b4 b5 b6 b7 ?_ w
  clear hv hv2 hlo hhi e1
  by_cases c : 0 ≤ H
  · have q0 : q = 0 := by omega
    subst q0
    by_cases d : s8 = 0
    · exact .inl ⟨d, by omega⟩
    · exact .inr (.inr ⟨d, by omega⟩)
  · have q1 : q = 1 := by omega
    subst q1
    by_cases d : s8 = 65535
    · exact .inr (.inl ⟨d, by omega⟩)
    · exact .inr (.inr ⟨by omega, d⟩)
theorem val_of {h l : Int} {a0 a1 a2 a3 a4 a5 a6 a7 a8 : Int} (hl : l = a0 + 65536 * a1 + 4294967296 * a2 + 281474976710656 * a3) (hh : (0 ≤ h ∧ a8 = 0 ∧ h = a4 + 65536 * a5 + 4294967296 * a6 + 281474976710656 * a7) ∨ (h < 0 ∧ a8 = 65535 ∧ h + 18446744073709551616 = a4 + 65536 * a5 + 4294967296 * a6 + 281474976710656 * a7)) :
    ∃ q : Int, (a0 + 65536 * a1 + 4294967296 * a2 + 281474976710656 * a3 + 18446744073709551616 * a4 + 1208925819614629174706176 * a5 + 79228162514264337593543950336 * a6 + 5192296858534827628530496329220096 * a7 + 340282366920938463463374607431768211456 * a8) = h * 18446744073709551616 + l + 22300745198530623141535718272648361505980416 * q := by
  rcases hh with ⟨_, e, f⟩ | ⟨_, e, f⟩
  · exact ⟨0, by omega⟩
  · exact ⟨1, by omega⟩
/-- any sum of value H * 2^64 + L: the code's answer and the document's are one -/
theorem both (f : FuncId) (args : Array Value) (s0 s1 s2 s3 s4 s5 s6 s7 s8 h l q : Int) (b0 : 0 ≤ s0 ∧ s0 < 65536) (b1 : 0 ≤ s1 ∧ s1 < 65536) (b2 : 0 ≤ s2 ∧ s2 < 65536) (b3 : 0 ≤ s3 ∧ s3 < 65536) (b4 : 0 ≤ s4 ∧ s4 < 65536) (b5 : 0 ≤ s5 ∧ s5 < 65536) (b6 : 0 ≤ s6 ∧ s6 < 65536) (b7 : 0 ≤ s7 ∧ s7 < 65536) (b8 : 0 ≤ s8 ∧ s8 < 65536) (L0 : 0 ≤ l) (L1 : l < 18446744073709551616) (H0 : -18446744073709551616 ≤ h) (H1 : h ≤ 18446744073709551616)
    (hv : (s0 + 65536 * s1 + 4294967296 * s2 + 281474976710656 * s3 + 18446744073709551616 * s4 + 1208925819614629174706176 * s5 + 79228162514264337593543950336 * s6 + 5192296858534827628530496329220096 * s7 + 340282366920938463463374607431768211456 * s8) = h * 18446744073709551616 + l + 22300745198530623141535718272648361505980416 * q) (hy : (-9223372036854775808 ≤ h ∧ h ≤ 9223372036854775807) → W2 f args h l true) (hn : ¬ (-9223372036854775808 ≤ h ∧ h ≤ 9223372036854775807) → W2 f args 0 0 false) :
    ∃ rh rl ok, W2 f args rh rl ok ∧ W2 28 #[.agg #[.int .u64 s0, .int .u64 s1, .int .u64 s2, .int .u64 s3, .int .u64 s4, .int .u64 s5, .int .u64 s6, .int .u64 s7, .int .u64 s8]] rh rl ok := by
  by_cases c : -9223372036854775808 ≤ h ∧ h ≤ 9223372036854775807
  · exact ⟨h, l, true, hy c, told_yes s0 s1 s2 s3 s4 s5 s6 s7 s8 h l b0 b1 b2 b3 b4 b5 b6 b7 b8 L0 L1 c.1 c.2 q hv⟩
  · exact ⟨0, 0, false, hn c, told_no s0 s1 s2 s3 s4 s5 s6 s7 s8 h l b0 b1 b2 b3 b4 b5 b6 b7 b8 L0 L1 H0 H1 c q hv⟩
end Go.Proofs.Ytjfdlamfklhodaa
