/- Digits by the number that they stand for: dg V are the digits of V, taken by 2^144; what the document's functions on digits answer. -/
import Derived.Test.YtjfdlamfklhodaaF13
import Derived.Test.YtjfdlamfklhodaaF10
set_option linter.unusedVariables false
namespace Go.Proofs.Ytjfdlamfklhodaa
open Go.ChangeShapes Go.WideShapes Go.ChangeAt Go.RowKit
def digsN : Nat → Int → List Int
  | 0, _ => []
  | n + 1, V => V % 65536 :: digsN n (V / 65536)
def dg (V : Int) : Value := .agg (uv (digsN 9 V))
theorem digsN_len : ∀ (n : Nat) (V : Int), (digsN n V).length = n
  | 0, _ => rfl
  | n + 1, V => by simp [digsN, digsN_len n]
theorem digsN_bd : ∀ (n : Nat) (V : Int) (j : Nat), j < n → 0 ≤ (digsN n V).getD j 0 ∧ (digsN n V).getD j 0 ≤ 65535
  | 0, _, j, h => by omega
  | n + 1, V, 0, h => by simp only [digsN, List.getD_cons_zero]; omega
  | n + 1, V, j + 1, h => by simp only [digsN, List.getD_cons_succ]; exact digsN_bd n _ j (by omega)
theorem digsN_ok (V : Int) : okD (digsN 9 V) := ⟨digsN_len 9 V, fun j hj => digsN_bd 9 V j hj⟩
theorem uniqN : ∀ (n : Nat) (D : List Int) (V q : Int), D.length = n → (∀ j, j < n → 0 ≤ D.getD j 0 ∧ D.getD j 0 ≤ 65535) → dv D = V + 65536 ^ n * q → D = digsN n V
  | 0, [], _, _, _, _, _ => rfl
  | 0, _ :: _, _, _, h, _, _ => by simp at h
  | n + 1, [], _, _, h, _, _ => by simp at h
  | n + 1, d :: l, V, q, h, hb, hv => by
      have h0 := hb 0 (by omega)
      simp only [List.getD_cons_zero] at h0
      simp only [dv, Int.pow_succ] at hv
      have e : (65536 : Int) ^ n * 65536 * q = 65536 * (65536 ^ n * q) := by rw [Int.mul_comm (65536 ^ n) 65536, Int.mul_assoc]
      rw [e] at hv
      have ih := uniqN n l (V / 65536) q (by simpa using h) (fun j hj => by have := hb (j + 1) (by omega); simpa only [List.getD_cons_succ] using this)
        (by generalize (65536 : Int) ^ n * q = K at *; omega)
      rw [digsN, ← ih]
      have : V % 65536 = d := by generalize (65536 : Int) ^ n * q = K at *; omega
      rw [this]
theorem dv_digsN : ∀ (n : Nat) (V : Int), ∃ q, dv (digsN n V) = V + 65536 ^ n * q
  | 0, V => ⟨-V, by simp [digsN, dv]; omega⟩
  | n + 1, V => by
      obtain ⟨q, hq⟩ := dv_digsN n (V / 65536)
      refine ⟨q, ?_⟩
      have e : (65536 : Int) ^ (n + 1) * q = 65536 * (65536 ^ n * q) := by rw [Int.pow_succ, Int.mul_comm (65536 ^ n) 65536, Int.mul_assoc]
      rw [digsN, dv, hq, e]
      generalize (65536 : Int) ^ n * q = K
      omega
theorem p9 : (65536 : Int) ^ 9 = 22300745198530623141535718272648361505980416 := by rfl
theorem uniq {D : List Int} {V q : Int} (h : okD D) (hv : dv D = V + 22300745198530623141535718272648361505980416 * q) : .agg (uv D) = dg V := by
  rw [dg, uniqN 9 D V q h.1 h.2 (by rw [p9]; exact hv)]
theorem dv9 (a0 a1 a2 a3 a4 a5 a6 a7 a8 : Int) : dv [a0, a1, a2, a3, a4, a5, a6, a7, a8] = (a0 + 65536 * a1 + 4294967296 * a2 + 281474976710656 * a3 + 18446744073709551616 * a4 + 1208925819614629174706176 * a5 + 79228162514264337593543950336 * a6 + 5192296858534827628530496329220096 * a7 + 340282366920938463463374607431768211456 * a8) := by simp only [dv]; omega
theorem okD_of (a0 a1 a2 a3 a4 a5 a6 a7 a8 : Int) (h0 : 0 ≤ a0 ∧ a0 < 65536) (h1 : 0 ≤ a1 ∧ a1 < 65536) (h2 : 0 ≤ a2 ∧ a2 < 65536) (h3 : 0 ≤ a3 ∧ a3 < 65536) (h4 : 0 ≤ a4 ∧ a4 < 65536) (h5 : 0 ≤ a5 ∧ a5 < 65536) (h6 : 0 ≤ a6 ∧ a6 < 65536) (h7 : 0 ≤ a7 ∧ a7 < 65536) (h8 : 0 ≤ a8 ∧ a8 < 65536) : okD [a0, a1, a2, a3, a4, a5, a6, a7, a8] := by
  refine ⟨rfl, fun j hj => ?_⟩
  match j, hj with
  | 0, _ => exact ⟨h0.1, by have := h0.2; simp; omega⟩
  | 1, _ => exact ⟨h1.1, by have := h1.2; simp; omega⟩
  | 2, _ => exact ⟨h2.1, by have := h2.2; simp; omega⟩
  | 3, _ => exact ⟨h3.1, by have := h3.2; simp; omega⟩
  | 4, _ => exact ⟨h4.1, by have := h4.2; simp; omega⟩
  | 5, _ => exact ⟨h5.1, by have := h5.2; simp; omega⟩
  | 6, _ => exact ⟨h6.1, by have := h6.2; simp; omega⟩
  | 7, _ => exact ⟨h7.1, by have := h7.2; simp; omega⟩
  | 8, _ => exact ⟨h8.1, by have := h8.2; simp; omega⟩
theorem of_nine (a0 a1 a2 a3 a4 a5 a6 a7 a8 V q : Int) (h0 : 0 ≤ a0 ∧ a0 < 65536) (h1 : 0 ≤ a1 ∧ a1 < 65536) (h2 : 0 ≤ a2 ∧ a2 < 65536) (h3 : 0 ≤ a3 ∧ a3 < 65536) (h4 : 0 ≤ a4 ∧ a4 < 65536) (h5 : 0 ≤ a5 ∧ a5 < 65536) (h6 : 0 ≤ a6 ∧ a6 < 65536) (h7 : 0 ≤ a7 ∧ a7 < 65536) (h8 : 0 ≤ a8 ∧ a8 < 65536) (hv : (a0 + 65536 * a1 + 4294967296 * a2 + 281474976710656 * a3 + 18446744073709551616 * a4 + 1208925819614629174706176 * a5 + 79228162514264337593543950336 * a6 + 5192296858534827628530496329220096 * a7 + 340282366920938463463374607431768211456 * a8) = V + 22300745198530623141535718272648361505980416 * q) : .agg #[.int .u64 a0, .int .u64 a1, .int .u64 a2, .int .u64 a3, .int .u64 a4, .int .u64 a5, .int .u64 a6, .int .u64 a7, .int .u64 a8] = dg V :=
  uniq (okD_of a0 a1 a2 a3 a4 a5 a6 a7 a8 h0 h1 h2 h3 h4 h5 h6 h7 h8) ((dv9 a0 a1 a2 a3 a4 a5 a6 a7 a8).trans hv)
theorem dg_nine (V : Int) : ∃ a0 a1 a2 a3 a4 a5 a6 a7 a8 q : Int, digsN 9 V = [a0, a1, a2, a3, a4, a5, a6, a7, a8] ∧ ((0 ≤ a0 ∧ a0 < 65536) ∧ (0 ≤ a1 ∧ a1 < 65536) ∧ (0 ≤ a2 ∧ a2 < 65536) ∧ (0 ≤ a3 ∧ a3 < 65536) ∧ (0 ≤ a4 ∧ a4 < 65536) ∧ (0 ≤ a5 ∧ a5 < 65536) ∧ (0 ≤ a6 ∧ a6 < 65536) ∧ (0 ≤ a7 ∧ a7 < 65536) ∧ (0 ≤ a8 ∧ a8 < 65536)) ∧ dg V = .agg #[.int .u64 a0, .int .u64 a1, .int .u64 a2, .int .u64 a3, .int .u64 a4, .int .u64 a5, .int .u64 a6, .int .u64 a7, .int .u64 a8] ∧ (a0 + 65536 * a1 + 4294967296 * a2 + 281474976710656 * a3 + 18446744073709551616 * a4 + 1208925819614629174706176 * a5 + 79228162514264337593543950336 * a6 + 5192296858534827628530496329220096 * a7 + 340282366920938463463374607431768211456 * a8) = V + 22300745198530623141535718272648361505980416 * q := by
  obtain ⟨a0, a1, a2, a3, a4, a5, a6, a7, a8, e⟩ := nine (digsN_ok V)
  obtain ⟨q, hq⟩ := dv_digsN 9 V
  have hb := (digsN_ok V).2
  rw [e] at hq hb
  rw [dv9, p9] at hq
  have h0 := hb 0 (by omega)
  have h1 := hb 1 (by omega)
  have h2 := hb 2 (by omega)
  have h3 := hb 3 (by omega)
  have h4 := hb 4 (by omega)
  have h5 := hb 5 (by omega)
  have h6 := hb 6 (by omega)
  have h7 := hb 7 (by omega)
  have h8 := hb 8 (by omega)
  simp only [List.getD_cons_zero, List.getD_cons_succ] at h0 h1 h2 h3 h4 h5 h6 h7 h8
  exact ⟨a0, a1, a2, a3, a4, a5, a6, a7, a8, q, e, ⟨by omega, by omega, by omega, by omega, by omega, by omega, by omega, by omega, by omega⟩, by rw [dg, e]; rfl, hq⟩
theorem ret_dg {v : Value} {V : Int} (h : v = dg V) : Ending.returned v = .returned (dg V) := by rw [h]
theorem add_eq {X Y Z qa qb c : Int} (hv : X + 22300745198530623141535718272648361505980416 * qa + (Y + 22300745198530623141535718272648361505980416 * qb) = Z + 22300745198530623141535718272648361505980416 * c) : Z = X + Y + 22300745198530623141535718272648361505980416 * (qa + qb - c) := by omega
theorem neg_eq {X Z qa c : Int} (hv : 22300745198530623141535718272648361505980416 - (X + 22300745198530623141535718272648361505980416 * qa) = Z + 22300745198530623141535718272648361505980416 * c) : Z = -X + 22300745198530623141535718272648361505980416 * (1 - qa - c) := by omega
theorem add_dg (x y : Int) (w : World) : Calls Try.prog 37 #[dg x, dg y] w fun e w' => e = .returned (dg (x + y)) ∧ Below w.heap.size w w' := by
  obtain ⟨a0, a1, a2, a3, a4, a5, a6, a7, a8, qa, -, ⟨x0, x1, x2, x3, x4, x5, x6, x7, x8⟩, ea, va⟩ := dg_nine x
  obtain ⟨b0, b1, b2, b3, b4, b5, b6, b7, b8, qb, -, ⟨y0, y1, y2, y3, y4, y5, y6, y7, y8⟩, eb, vb⟩ := dg_nine y
  rw [ea, eb]
  obtain ⟨s0, s1, s2, s3, s4, s5, s6, s7, s8, c, ⟨z0a, z0b, z1a, z1b, z2a, z2b, z3a, z3b, z4a, z4b, z5a, z5b, z6a, z6b, z7a, z7b, z8a, z8b⟩, hc, hv, hw⟩ := radd_val a0 a1 a2 a3 a4 a5 a6 a7 a8 b0 b1 b2 b3 b4 b5 b6 b7 b8 x0 x1 x2 x3 x4 x5 x6 x7 x8 y0 y1 y2 y3 y4 y5 y6 y7 y8
  rw [va, vb] at hv
  have hz : (s0 + 65536 * s1 + 4294967296 * s2 + 281474976710656 * s3 + 18446744073709551616 * s4 + 1208925819614629174706176 * s5 + 79228162514264337593543950336 * s6 + 5192296858534827628530496329220096 * s7 + 340282366920938463463374607431768211456 * s8) = (x + y) + 22300745198530623141535718272648361505980416 * (qa + qb - c) := add_eq hv
  exact (hw w).mono fun e w' ⟨h1, h2⟩ => ⟨by rw [h1]; exact ret_dg (of_nine s0 s1 s2 s3 s4 s5 s6 s7 s8 (x + y) (qa + qb - c) ⟨z0a, z0b⟩ ⟨z1a, z1b⟩ ⟨z2a, z2b⟩ ⟨z3a, z3b⟩ ⟨z4a, z4b⟩ ⟨z5a, z5b⟩ ⟨z6a, z6b⟩ ⟨z7a, z7b⟩ ⟨z8a, z8b⟩ hz), h2⟩
theorem neg_dg (x : Int) (w : World) : Calls Try.prog 39 #[dg x] w fun e w' => e = .returned (dg (-x)) ∧ Below w.heap.size w w' := by
  obtain ⟨a0, a1, a2, a3, a4, a5, a6, a7, a8, qa, -, ⟨x0, x1, x2, x3, x4, x5, x6, x7, x8⟩, ea, va⟩ := dg_nine x
  rw [ea]
  obtain ⟨s0, s1, s2, s3, s4, s5, s6, s7, s8, c, ⟨z0a, z0b, z1a, z1b, z2a, z2b, z3a, z3b, z4a, z4b, z5a, z5b, z6a, z6b, z7a, z7b, z8a, z8b⟩, hc, hv, hw⟩ := rneg_val a0 a1 a2 a3 a4 a5 a6 a7 a8 x0 x1 x2 x3 x4 x5 x6 x7 x8
  rw [va] at hv
  have hz : (s0 + 65536 * s1 + 4294967296 * s2 + 281474976710656 * s3 + 18446744073709551616 * s4 + 1208925819614629174706176 * s5 + 79228162514264337593543950336 * s6 + 5192296858534827628530496329220096 * s7 + 340282366920938463463374607431768211456 * s8) = -x + 22300745198530623141535718272648361505980416 * (1 - qa - c) := neg_eq hv
  exact (hw w).mono fun e w' ⟨h1, h2⟩ => ⟨by rw [h1]; exact ret_dg (of_nine s0 s1 s2 s3 s4 s5 s6 s7 s8 (-x) (1 - qa - c) ⟨z0a, z0b⟩ ⟨z1a, z1b⟩ ⟨z2a, z2b⟩ ⟨z3a, z3b⟩ ⟨z4a, z4b⟩ ⟨z5a, z5b⟩ ⟨z6a, z6b⟩ ⟨z7a, z7b⟩ ⟨z8a, z8b⟩ hz), h2⟩
theorem mul_dg (x y : Int) (w : World) : Calls Try.prog 29 #[dg x, dg y] w fun e w' => e = .returned (dg (x * y)) ∧ Below w.heap.size w w' := by
  obtain ⟨a0, a1, a2, a3, a4, a5, a6, a7, a8, qa, la, -, ea, -⟩ := dg_nine x
  obtain ⟨b0, b1, b2, b3, b4, b5, b6, b7, b8, qb, lb, -, eb, -⟩ := dg_nine y
  rw [ea, eb]
  refine (rmul (digsN 9 x) (digsN 9 y) [0, 0, 0, 0, 0, 0, 0, 0, 0] a0 a1 a2 a3 a4 a5 a6 a7 a8 b0 b1 b2 b3 b4 b5 b6 b7 b8 (Lib.hid la) (Lib.hid lb) (Lib.hid rfl) (Lib.hid (digsN_ok x)) (Lib.hid (digsN_ok y)) (Lib.hid okD_zero) w).mono ?_
  rintro e w' ⟨D, hD, ⟨q, hq⟩, rfl, hb⟩
  obtain ⟨q1, h1⟩ := dv_digsN 9 x
  obtain ⟨q2, h2⟩ := dv_digsN 9 y
  rw [p9] at h1 h2
  rw [h1, h2] at hq
  refine ⟨ret_dg (uniq (q := x * q2 + q1 * y + 22300745198530623141535718272648361505980416 * (q1 * q2) + q) hD ?_), hb⟩
  rw [hq, Int.add_mul, Int.mul_add, Int.mul_add, Int.mul_add, Int.mul_add, Int.mul_add]
  have e1 : x * (22300745198530623141535718272648361505980416 * q2) = 22300745198530623141535718272648361505980416 * (x * q2) := by rw [← Int.mul_assoc, Int.mul_comm x, Int.mul_assoc]
  have e2 : 22300745198530623141535718272648361505980416 * q1 * y = 22300745198530623141535718272648361505980416 * (q1 * y) := Int.mul_assoc ..
  have e3 : 22300745198530623141535718272648361505980416 * q1 * (22300745198530623141535718272648361505980416 * q2) = 22300745198530623141535718272648361505980416 * (22300745198530623141535718272648361505980416 * (q1 * q2)) := by
    rw [Int.mul_assoc]; congr 1; rw [← Int.mul_assoc, Int.mul_comm q1, Int.mul_assoc]
  rw [e1, e2, e3]
  omega
theorem of_dg (h l : Int) (h0 : -9223372036854775808 ≤ h) (h1 : h ≤ 9223372036854775807) (l0 : 0 ≤ l) (l1 : l < 18446744073709551616) (w : World) :
    Calls Try.prog 38 #[.agg #[.int .i64 h, .int .u64 l]] w fun e w' => e = .returned (dg (h * 18446744073709551616 + l)) ∧ Below w.heap.size w w' := by
  obtain ⟨a0, a1, a2, a3, a4, a5, a6, a7, a8, ⟨x0, x1, x2, x3, x4, x5, x6, x7, x8⟩, hl, hh, hw⟩ := rof_val h l h0 h1 l0 l1
  obtain ⟨q, hq⟩ := val_of hl hh
  exact (hw w).mono fun e w' ⟨h1, h2⟩ => ⟨by rw [h1]; exact ret_dg (of_nine a0 a1 a2 a3 a4 a5 a6 a7 a8 _ q x0 x1 x2 x3 x4 x5 x6 x7 x8 hq), h2⟩
theorem wide_dg (V : Int) (v0 : -170141183460469231731687303715884105728 ≤ V) (v1 : V < 170141183460469231731687303715884105728) (w : World) :
    Calls Try.prog 28 #[dg V] w fun e w' => e = .returned (.tuple #[.agg #[.int .i64 (V / 18446744073709551616), .int .u64 (V % 18446744073709551616)], .bool true]) ∧ Below w.heap.size w w' := by
  obtain ⟨a0, a1, a2, a3, a4, a5, a6, a7, a8, q, -, ⟨x0, x1, x2, x3, x4, x5, x6, x7, x8⟩, ea, va⟩ := dg_nine V
  rw [ea]
  exact told_yes a0 a1 a2 a3 a4 a5 a6 a7 a8 (V / 18446744073709551616) (V % 18446744073709551616) x0 x1 x2 x3 x4 x5 x6 x7 x8 (by omega) (by omega) (by omega) (by omega) q (by rw [va]; omega) w
theorem wide_dg_no (V : Int) (v : V < -170141183460469231731687303715884105728 ∨ 170141183460469231731687303715884105728 ≤ V) (v0 : -340282366920938463463374607431768211456 ≤ V) (v1 : V < 340282366920938463463374607431768211456) (w : World) :
    Calls Try.prog 28 #[dg V] w fun e w' => e = .returned (.tuple #[.agg #[.int .i64 0, .int .u64 0], .bool false]) ∧ Below w.heap.size w w' := by
  obtain ⟨a0, a1, a2, a3, a4, a5, a6, a7, a8, q, -, ⟨x0, x1, x2, x3, x4, x5, x6, x7, x8⟩, ea, va⟩ := dg_nine V
  rw [ea]
  exact told_no a0 a1 a2 a3 a4 a5 a6 a7 a8 (V / 18446744073709551616) (V % 18446744073709551616) x0 x1 x2 x3 x4 x5 x6 x7 x8 (by omega) (by omega) (by omega) (by omega) (by omega) q (by rw [va]; omega) w
theorem of_dg_eq (h l : Int) (h0 : -9223372036854775808 ≤ h) (h1 : h ≤ 9223372036854775807) (l0 : 0 ≤ l) (l1 : l < 18446744073709551616) : dg (h * 18446744073709551616 + l) = .agg #[.int .u64 (l % 65536), .int .u64 ((l / 65536) % 65536), .int .u64 (((l / 65536) / 65536) % 65536), .int .u64 ((((l / 65536) / 65536) / 65536) % 65536), .int .u64 ((uH h) % 65536), .int .u64 (((uH h) / 65536) % 65536), .int .u64 ((((uH h) / 65536) / 65536) % 65536), .int .u64 (((((uH h) / 65536) / 65536) / 65536) % 65536), .int .u64 (sH h)] := by
  obtain ⟨d0, d1, d2, d3, e0, e1, e2, e3, b0, b1, b2, b3, hl⟩ := four l l0 l1
  have u := uH_bd h0 h1
  obtain ⟨d4, d5, d6, d7, e4, e5, e6, e7, b4, b5, b6, b7, hu⟩ := four (uH h) u.1 u.2.1
  rw [e0, e1, e2, e3, e4, e5, e6, e7]
  have hs : (0 ≤ h ∧ uH h = h ∧ sH h = 0) ∨ (h < 0 ∧ uH h = h + 18446744073709551616 ∧ sH h = 65535) := by
    unfold uH sH
    by_cases c : h < 0
    · exact .inr ⟨c, if_pos c, if_pos c⟩
    · exact .inl ⟨by omega, if_neg c, if_neg c⟩
  clear e0 e1 e2 e3 e4 e5 e6 e7
  rcases hs with ⟨c, hu2, hs2⟩ | ⟨c, hu2, hs2⟩
  · rw [hs2]; rw [hu2] at hu
    exact (of_nine d0 d1 d2 d3 d4 d5 d6 d7 0 _ 0 b0 b1 b2 b3 b4 b5 b6 b7 (by omega) (by clear b0 b1 b2 b3 b4 b5 b6 b7 u; omega)).symm
  · rw [hs2]; rw [hu2] at hu
    exact (of_nine d0 d1 d2 d3 d4 d5 d6 d7 65535 _ 1 b0 b1 b2 b3 b4 b5 b6 b7 (by omega) (by clear b0 b1 b2 b3 b4 b5 b6 b7 u; omega)).symm
theorem cmp_dg (x y : Int) (x0 : -170141183460469231731687303715884105728 ≤ x) (x1 : x < 170141183460469231731687303715884105728) (y0 : -170141183460469231731687303715884105728 ≤ y) (y1 : y < 170141183460469231731687303715884105728) (w : World) :
    Calls Try.prog 41 #[dg x, dg y] w fun e w' => e = .returned (.int .i64 (sg (x - y))) ∧ Below w.heap.size w w' := by
  have key : ∀ V : Int, -170141183460469231731687303715884105728 ≤ V → V < 170141183460469231731687303715884105728 → ∃ h l : Int, (-9223372036854775808 ≤ h ∧ h ≤ 9223372036854775807 ∧ 0 ≤ l ∧ l < 18446744073709551616) ∧ h * 18446744073709551616 + l = V := fun V a b =>
    ⟨V / 18446744073709551616, V % 18446744073709551616, by omega, by omega⟩
  obtain ⟨h1, l1, ⟨p0, p1, p2, p3⟩, e1⟩ := key x x0 x1
  obtain ⟨h2, l2, ⟨r0, r1, r2, r3⟩, e2⟩ := key y y0 y1
  have d1 := of_dg_eq h1 l1 p0 p1 p2 p3
  have d2 := of_dg_eq h2 l2 r0 r1 r2 r3
  rw [e1] at d1
  rw [e2] at d2
  rw [d1, d2]
  exact as_int (rcmp h1 l1 h2 l2 p0 p1 p2 p3 r0 r1 r2 r3 w) ((cmpW_sg p2 p3 r2 r3).trans (congrArg sg (by omega)))
end Go.Proofs.Ytjfdlamfklhodaa
