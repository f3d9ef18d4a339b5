/- Contracts of the document's product. -/
import Derived.Test.YtjfdlamfklhodaaA2
namespace Go.Proofs.Ytjfdlamfklhodaa
open Go.ChangeShapes Go.WideShapes Go.ChangeAt Go.RowKit
theorem refmul_pp (x y : Int) (hx : 0 < x) (x1 : x ≤ 9223372036854775807) (hy : 0 < y) (y1 : y ≤ 9223372036854775807) (w : World) :
    Calls Try.prog 21 #[.int .i64 (x), .int .i64 (y)] w fun e w' => e = .returned (.tuple #[.int .i64 (chk ((x) * (y))), .bool (inR ((x) * (y)))]) ∧ w = w' := by
  have hp : 0 < x * y := Int.mul_pos hx hy
  have he : (x) * (y) = x * y := (rfl).symm
  rw [he]
  clear he
  have y2 : 1 ≤ y := by omega
  have zx : (x == 0) = false := by simp; omega
  have zy : (y == 0) = false := by simp; omega
  by_cases hq : x ≤ 18446744073709551615 / y
  · have hm := quo_le x y _ hy hq
    go_enter Try.func21, Try.ntmps21
    go_wp2_with fail
    refine (long_pos x (by omega) (by omega) _).mono ?_
    rintro e w' ⟨rfl, rfl⟩
    go_wp2_with fail
    refine (long_pos y (by omega) (by omega) _).mono ?_
    rintro e w' ⟨rfl, rfl⟩
    go_wp2_with fail
    refine (made_pos _ (by omega) (by omega) _).mono ?_
    rintro e w' ⟨rfl, rfl⟩
    go_wp2_with fail
    go_ret2
    exact ⟨ret_pr (by omega), rfl⟩
  · have hm := quo_lt x y 18446744073709551615 hy (by omega)
    go_enter Try.func21, Try.ntmps21
    go_wp2_with fail
    refine (long_pos x (by omega) (by omega) _).mono ?_
    rintro e w' ⟨rfl, rfl⟩
    go_wp2_with fail
    refine (long_pos y (by omega) (by omega) _).mono ?_
    rintro e w' ⟨rfl, rfl⟩
    go_wp2_with fail
    go_ret2
    exact ⟨pair_no (by omega), rfl⟩
theorem refmul_np (x y : Int) (hx : 0 < x) (x1 : x ≤ 9223372036854775808) (hy : 0 < y) (y1 : y ≤ 9223372036854775807) (w : World) :
    Calls Try.prog 21 #[.int .i64 (-x), .int .i64 (y)] w fun e w' => e = .returned (.tuple #[.int .i64 (chk ((-x) * (y))), .bool (inR ((-x) * (y)))]) ∧ w = w' := by
  have hp : 0 < x * y := Int.mul_pos hx hy
  have he : (-x) * (y) = -(x * y) := ((Int.neg_mul x y).symm).symm
  rw [he]
  clear he
  have y2 : 1 ≤ y := by omega
  have zx : (x == 0) = false := by simp; omega
  have zy : (y == 0) = false := by simp; omega
  by_cases hq : x ≤ 18446744073709551615 / y
  · have hm := quo_le x y _ hy hq
    go_enter Try.func21, Try.ntmps21
    go_wp2_with fail
    refine (long_neg (-x) (by omega) (by omega) _).mono ?_
    rintro e w' ⟨rfl, rfl⟩
    go_wp2_with fail
    refine (long_pos y (by omega) (by omega) _).mono ?_
    rintro e w' ⟨rfl, rfl⟩
    go_wp2_with fail
    refine (made_neg _ (by omega) (by omega) _).mono ?_
    rintro e w' ⟨rfl, rfl⟩
    go_wp2_with fail
    go_ret2
    exact ⟨ret_pr (by omega), rfl⟩
  · have hm := quo_lt x y 18446744073709551615 hy (by omega)
    go_enter Try.func21, Try.ntmps21
    go_wp2_with fail
    refine (long_neg (-x) (by omega) (by omega) _).mono ?_
    rintro e w' ⟨rfl, rfl⟩
    go_wp2_with fail
    refine (long_pos y (by omega) (by omega) _).mono ?_
    rintro e w' ⟨rfl, rfl⟩
    go_wp2_with fail
    go_ret2
    exact ⟨pair_no (by omega), rfl⟩
theorem refmul_pn (x y : Int) (hx : 0 < x) (x1 : x ≤ 9223372036854775807) (hy : 0 < y) (y1 : y ≤ 9223372036854775808) (w : World) :
    Calls Try.prog 21 #[.int .i64 (x), .int .i64 (-y)] w fun e w' => e = .returned (.tuple #[.int .i64 (chk ((x) * (-y))), .bool (inR ((x) * (-y)))]) ∧ w = w' := by
  have hp : 0 < x * y := Int.mul_pos hx hy
  have he : (x) * (-y) = -(x * y) := ((Int.mul_neg x y).symm).symm
  rw [he]
  clear he
  have y2 : 1 ≤ y := by omega
  have zx : (x == 0) = false := by simp; omega
  have zy : (y == 0) = false := by simp; omega
  by_cases hq : x ≤ 18446744073709551615 / y
  · have hm := quo_le x y _ hy hq
    go_enter Try.func21, Try.ntmps21
    go_wp2_with fail
    refine (long_pos x (by omega) (by omega) _).mono ?_
    rintro e w' ⟨rfl, rfl⟩
    go_wp2_with fail
    refine (long_neg (-y) (by omega) (by omega) _).mono ?_
    rintro e w' ⟨rfl, rfl⟩
    go_wp2_with fail
    refine (made_neg _ (by omega) (by omega) _).mono ?_
    rintro e w' ⟨rfl, rfl⟩
    go_wp2_with fail
    go_ret2
    exact ⟨ret_pr (by omega), rfl⟩
  · have hm := quo_lt x y 18446744073709551615 hy (by omega)
    go_enter Try.func21, Try.ntmps21
    go_wp2_with fail
    refine (long_pos x (by omega) (by omega) _).mono ?_
    rintro e w' ⟨rfl, rfl⟩
    go_wp2_with fail
    refine (long_neg (-y) (by omega) (by omega) _).mono ?_
    rintro e w' ⟨rfl, rfl⟩
    go_wp2_with fail
    go_ret2
    exact ⟨pair_no (by omega), rfl⟩
theorem refmul_nn (x y : Int) (hx : 0 < x) (x1 : x ≤ 9223372036854775808) (hy : 0 < y) (y1 : y ≤ 9223372036854775808) (w : World) :
    Calls Try.prog 21 #[.int .i64 (-x), .int .i64 (-y)] w fun e w' => e = .returned (.tuple #[.int .i64 (chk ((-x) * (-y))), .bool (inR ((-x) * (-y)))]) ∧ w = w' := by
  have hp : 0 < x * y := Int.mul_pos hx hy
  have he : (-x) * (-y) = x * y := ((Int.neg_mul_neg x y).symm).symm
  rw [he]
  clear he
  have y2 : 1 ≤ y := by omega
  have zx : (x == 0) = false := by simp; omega
  have zy : (y == 0) = false := by simp; omega
  by_cases hq : x ≤ 18446744073709551615 / y
  · have hm := quo_le x y _ hy hq
    go_enter Try.func21, Try.ntmps21
    go_wp2_with fail
    refine (long_neg (-x) (by omega) (by omega) _).mono ?_
    rintro e w' ⟨rfl, rfl⟩
    go_wp2_with fail
    refine (long_neg (-y) (by omega) (by omega) _).mono ?_
    rintro e w' ⟨rfl, rfl⟩
    go_wp2_with fail
    refine (made_pos _ (by omega) (by omega) _).mono ?_
    rintro e w' ⟨rfl, rfl⟩
    go_wp2_with fail
    go_ret2
    exact ⟨ret_pr (by omega), rfl⟩
  · have hm := quo_lt x y 18446744073709551615 hy (by omega)
    go_enter Try.func21, Try.ntmps21
    go_wp2_with fail
    refine (long_neg (-x) (by omega) (by omega) _).mono ?_
    rintro e w' ⟨rfl, rfl⟩
    go_wp2_with fail
    refine (long_neg (-y) (by omega) (by omega) _).mono ?_
    rintro e w' ⟨rfl, rfl⟩
    go_wp2_with fail
    go_ret2
    exact ⟨pair_no (by omega), rfl⟩

theorem refmul_0l (b : Int) (b0 : -9223372036854775808 ≤ b) (b1 : b ≤ 9223372036854775807) (w : World) :
    Calls Try.prog 21 #[.int .i64 0, .int .i64 b] w fun e w' => e = .returned (.tuple #[.int .i64 (chk (0 * b)), .bool (inR (0 * b))]) ∧ w = w' := by
  by_cases hb : b < 0
  · go_enter Try.func21, Try.ntmps21
    go_wp2_with fail
    refine (long_pos _ (by omega) (by omega) _).mono ?_
    rintro e w' ⟨rfl, rfl⟩
    go_wp2_with fail
    refine (long_neg _ (by omega) (by omega) _).mono ?_
    rintro e w' ⟨rfl, rfl⟩
    go_wp2_with fail
    go_ret2
    exact ⟨pair_yes (by omega) (by omega), rfl⟩
  · go_enter Try.func21, Try.ntmps21
    go_wp2_with fail
    refine (long_pos _ (by omega) (by omega) _).mono ?_
    rintro e w' ⟨rfl, rfl⟩
    go_wp2_with fail
    refine (long_pos _ (by omega) (by omega) _).mono ?_
    rintro e w' ⟨rfl, rfl⟩
    go_wp2_with fail
    go_ret2
    exact ⟨pair_yes (by omega) (by omega), rfl⟩
theorem refmul_0r (a : Int) (a0 : -9223372036854775808 ≤ a) (a1 : a ≤ 9223372036854775807) (w : World) :
    Calls Try.prog 21 #[.int .i64 a, .int .i64 0] w fun e w' => e = .returned (.tuple #[.int .i64 (chk (a * 0)), .bool (inR (a * 0))]) ∧ w = w' := by
  by_cases ha : a < 0
  · go_enter Try.func21, Try.ntmps21
    go_wp2_with fail
    refine (long_neg _ (by omega) (by omega) _).mono ?_
    rintro e w' ⟨rfl, rfl⟩
    go_wp2_with fail
    refine (long_pos _ (by omega) (by omega) _).mono ?_
    rintro e w' ⟨rfl, rfl⟩
    go_wp2_with fail
    all_goals (go_ret2; exact ⟨pair_yes (by omega) (by omega), rfl⟩)
  · go_enter Try.func21, Try.ntmps21
    go_wp2_with fail
    refine (long_pos _ (by omega) (by omega) _).mono ?_
    rintro e w' ⟨rfl, rfl⟩
    go_wp2_with fail
    refine (long_pos _ (by omega) (by omega) _).mono ?_
    rintro e w' ⟨rfl, rfl⟩
    go_wp2_with fail
    all_goals (go_ret2; exact ⟨pair_yes (by omega) (by omega), rfl⟩)
theorem refmul_any (a b : Int) (a0 : -9223372036854775808 ≤ a) (a1 : a ≤ 9223372036854775807) (b0 : -9223372036854775808 ≤ b) (b1 : b ≤ 9223372036854775807) (w : World) :
    Calls Try.prog 21 #[.int .i64 a, .int .i64 b] w fun e w' => e = .returned (.tuple #[.int .i64 (chk (a * b)), .bool (inR (a * b))]) ∧ w = w' := by
  by_cases ha : a = 0
  · subst ha; exact refmul_0l b b0 b1 w
  by_cases hb : b = 0
  · subst hb; exact refmul_0r a a0 a1 w
  by_cases h1 : a < 0 <;> by_cases h2 : b < 0
  · have h := refmul_nn (-a) (-b) (by omega) (by omega) (by omega) (by omega) w
    rwa [Int.neg_neg, Int.neg_neg] at h
  · have h := refmul_np (-a) b (by omega) (by omega) (by omega) (by omega) w
    rwa [Int.neg_neg] at h
  · have h := refmul_pn a (-b) (by omega) (by omega) (by omega) (by omega) w
    rwa [Int.neg_neg] at h
  · exact refmul_pp a b (by omega) (by omega) (by omega) (by omega) w
end Go.Proofs.Ytjfdlamfklhodaa
