/- Contracts of layer 1's functions. -/
import Derived.Test.YtjfdlamfklhodaaRows
import Derived.Test.YtjfdlamfklhodaaM
import Derived.WalkKit
import Derived.ProofKit
import Derived.OpenShut
import Derived.Outline
import Derived.WalkLawsBesides
import Derived.WalkSpells
namespace Go.Proofs.Ytjfdlamfklhodaa
open Go.ChangeShapes Go.WideShapes Go.ChangeAt Go.RowKit

theorem lives1 (w : World) : Calls Try.prog 19 #[] w fun e w' => e = .returned (.bool true) ∧ w = w' := by
  have b1 : bits BinOp.and IntKind.i64 (-3) 0 = 0 := by decide +kernel
  have b2 : bits BinOp.xor IntKind.i64 (-3) 0 = -3 := by decide +kernel
  go_enter Try.func19, Try.ntmps19
  go_wp2
  go_ret
  exact ⟨rfl, rfl⟩
theorem add_any (a b : Int) (a0 : -9223372036854775808 ≤ a) (a1 : a ≤ 9223372036854775807) (b0 : -9223372036854775808 ≤ b) (b1 : b ≤ 9223372036854775807) (w : World) :
    Calls Try.prog 15 #[.int .i64 a, .int .i64 b] w fun e w' => e = .returned (.tuple #[.int .i64 (chk (a + b)), .bool (inR (a + b))]) ∧ w = w' := by
  go_enter Try.func15, Try.ntmps15
  go_wp2
  all_goals (go_ret2; refine ⟨?_, rfl⟩)
  all_goals first | (exact pair_yes (by (try simp only [wrap64, beq_iff_eq, beq_eq_false_iff_ne, ne_eq] at *) <;> omega) (by (try simp only [wrap64, beq_iff_eq, beq_eq_false_iff_ne, ne_eq] at *) <;> omega)) | exact pair_no (by (try simp only [wrap64, beq_iff_eq, beq_eq_false_iff_ne, ne_eq] at *) <;> omega)
theorem sub_any (a b : Int) (a0 : -9223372036854775808 ≤ a) (a1 : a ≤ 9223372036854775807) (b0 : -9223372036854775808 ≤ b) (b1 : b ≤ 9223372036854775807) (w : World) :
    Calls Try.prog 17 #[.int .i64 a, .int .i64 b] w fun e w' => e = .returned (.tuple #[.int .i64 (chk (a - b)), .bool (inR (a - b))]) ∧ w = w' := by
  go_enter Try.func17, Try.ntmps17
  go_wp2
  all_goals (go_ret2; refine ⟨?_, rfl⟩)
  all_goals first | (exact pair_yes (by (try simp only [wrap64, beq_iff_eq, beq_eq_false_iff_ne, ne_eq] at *) <;> omega) (by (try simp only [wrap64, beq_iff_eq, beq_eq_false_iff_ne, ne_eq] at *) <;> omega)) | exact pair_no (by (try simp only [wrap64, beq_iff_eq, beq_eq_false_iff_ne, ne_eq] at *) <;> omega)
theorem ret_bn {b : Bool} {k : IntKind} {x y : Int} (h : x = y) : Ending.returned (.tuple #[.bool b, .int k x]) = Ending.returned (.tuple #[.bool b, .int k y]) := by rw [h]
theorem long_neg (a : Int) (a0 : -9223372036854775808 ≤ a) (a1 : a < 0) (w : World) :
    Calls Try.prog 58 #[.int .i64 a] w fun e w' => e = .returned (.tuple #[.bool true, .int .u64 (-a)]) ∧ w = w' := by
  go_enter Try.func58, Try.ntmps58
  go_wp2
  go_ret2
  exact ⟨ret_bn (by omega), rfl⟩
theorem long_pos (a : Int) (a0 : 0 ≤ a) (a1 : a ≤ 9223372036854775807) (w : World) :
    Calls Try.prog 58 #[.int .i64 a] w fun e w' => e = .returned (.tuple #[.bool false, .int .u64 a]) ∧ w = w' := by
  go_enter Try.func58, Try.ntmps58
  go_wp2
  go_ret2
  exact ⟨rfl, rfl⟩
theorem made_pos (n : Int) (a0 : 0 ≤ n) (a1 : n ≤ 18446744073709551615) (w : World) :
    Calls Try.prog 59 #[.bool false, .int .u64 n] w fun e w' => e = .returned (.tuple #[.int .i64 (chk n), .bool (inR n)]) ∧ w = w' := by
  go_enter Try.func59, Try.ntmps59
  go_wp2
  all_goals (go_ret2; refine ⟨?_, rfl⟩)
  all_goals first | (exact pair_yes (by (try simp only [wrap64, beq_iff_eq, beq_eq_false_iff_ne, ne_eq] at *) <;> omega) (by (try simp only [wrap64, beq_iff_eq, beq_eq_false_iff_ne, ne_eq] at *) <;> omega)) | exact pair_no (by (try simp only [wrap64, beq_iff_eq, beq_eq_false_iff_ne, ne_eq] at *) <;> omega)
theorem made_neg (n : Int) (a0 : 0 ≤ n) (a1 : n ≤ 18446744073709551615) (w : World) :
    Calls Try.prog 59 #[.bool true, .int .u64 n] w fun e w' => e = .returned (.tuple #[.int .i64 (chk (-n)), .bool (inR (-n))]) ∧ w = w' := by
  by_cases h0 : n = 0
  · subst h0
    go_enter Try.func59, Try.ntmps59
    go_wp2
    go_ret2
    exact ⟨pair_yes (by omega) (by omega), rfl⟩
  · by_cases h1 : n ≤ 9223372036854775808
    · have h2 : 0 < n := by omega
      go_enter Try.func59, Try.ntmps59
      go_wp2
      go_ret2
      exact ⟨pair_yes (by omega) (by omega), rfl⟩
    · have h2 : 0 < n := by omega
      go_enter Try.func59, Try.ntmps59
      go_wp2
      go_ret2
      exact ⟨pair_no (by omega), rfl⟩
theorem ret_pr {x y : Int} (h : x = y) : Ending.returned (.tuple #[.int .i64 (chk x), .bool (inR x)]) = Ending.returned (.tuple #[.int .i64 (chk y), .bool (inR y)]) := by rw [h]
/- the document's sum: by the signs of both -/
theorem refadd_nn (a b : Int) (a0 : -9223372036854775808 ≤ a) (ha : a < 0) (b0 : -9223372036854775808 ≤ b) (hb : b < 0) (w : World) :
    Calls Try.prog 16 #[.int .i64 a, .int .i64 b] w fun e w' => e = .returned (.tuple #[.int .i64 (chk (a + b)), .bool (inR (a + b))]) ∧ w = w' := by
  by_cases hc : -a + -b ≤ 18446744073709551615
  · go_enter Try.func16, Try.ntmps16
    go_wp2_with fail
    refine (long_neg a a0 ha _).mono ?_
    rintro e w' ⟨rfl, rfl⟩
    go_wp2_with fail
    refine (long_neg b b0 hb _).mono ?_
    rintro e w' ⟨rfl, rfl⟩
    go_wp2_with fail
    refine (made_neg _ (by omega) (by omega) _).mono ?_
    rintro e w' ⟨rfl, rfl⟩
    go_wp2_with fail
    go_ret2
    exact ⟨ret_pr (by omega), rfl⟩
  · obtain rfl : a = -9223372036854775808 := by omega
    obtain rfl : b = -9223372036854775808 := by omega
    go_enter Try.func16, Try.ntmps16
    go_wp2_with fail
    refine (long_neg _ (by omega) (by omega) _).mono ?_
    rintro e w' ⟨rfl, rfl⟩
    go_wp2_with fail
    refine (long_neg _ (by omega) (by omega) _).mono ?_
    rintro e w' ⟨rfl, rfl⟩
    go_wp2_with fail
    go_ret2
    exact ⟨pair_no (by omega), rfl⟩
theorem refadd_pp (a b : Int) (ha : 0 ≤ a) (a1 : a ≤ 9223372036854775807) (hb : 0 ≤ b) (b1 : b ≤ 9223372036854775807) (w : World) :
    Calls Try.prog 16 #[.int .i64 a, .int .i64 b] w fun e w' => e = .returned (.tuple #[.int .i64 (chk (a + b)), .bool (inR (a + b))]) ∧ w = w' := by
  go_enter Try.func16, Try.ntmps16
  go_wp2_with fail
  refine (long_pos a ha a1 _).mono ?_
  rintro e w' ⟨rfl, rfl⟩
  go_wp2_with fail
  refine (long_pos b hb b1 _).mono ?_
  rintro e w' ⟨rfl, rfl⟩
  go_wp2_with fail
  refine (made_pos _ (by omega) (by omega) _).mono ?_
  rintro e w' ⟨rfl, rfl⟩
  go_wp2_with fail
  go_ret2
  exact ⟨ret_pr (by omega), rfl⟩
theorem refadd_np (a b : Int) (a0 : -9223372036854775808 ≤ a) (ha : a < 0) (hb : 0 ≤ b) (b1 : b ≤ 9223372036854775807) (w : World) :
    Calls Try.prog 16 #[.int .i64 a, .int .i64 b] w fun e w' => e = .returned (.tuple #[.int .i64 (chk (a + b)), .bool (inR (a + b))]) ∧ w = w' := by
  by_cases hc : b ≤ -a
  · go_enter Try.func16, Try.ntmps16
    go_wp2_with fail
    refine (long_neg a a0 ha _).mono ?_
    rintro e w' ⟨rfl, rfl⟩
    go_wp2_with fail
    refine (long_pos b hb b1 _).mono ?_
    rintro e w' ⟨rfl, rfl⟩
    go_wp2_with fail
    refine (made_neg _ (by omega) (by omega) _).mono ?_
    rintro e w' ⟨rfl, rfl⟩
    go_wp2_with fail
    go_ret2
    exact ⟨ret_pr (by omega), rfl⟩
  · go_enter Try.func16, Try.ntmps16
    go_wp2_with fail
    refine (long_neg a a0 ha _).mono ?_
    rintro e w' ⟨rfl, rfl⟩
    go_wp2_with fail
    refine (long_pos b hb b1 _).mono ?_
    rintro e w' ⟨rfl, rfl⟩
    go_wp2_with fail
    refine (made_pos _ (by omega) (by omega) _).mono ?_
    rintro e w' ⟨rfl, rfl⟩
    go_wp2_with fail
    go_ret2
    exact ⟨ret_pr (by omega), rfl⟩
theorem refadd_pn (a b : Int) (ha : 0 ≤ a) (a1 : a ≤ 9223372036854775807) (b0 : -9223372036854775808 ≤ b) (hb : b < 0) (w : World) :
    Calls Try.prog 16 #[.int .i64 a, .int .i64 b] w fun e w' => e = .returned (.tuple #[.int .i64 (chk (a + b)), .bool (inR (a + b))]) ∧ w = w' := by
  by_cases hc : -b ≤ a
  · go_enter Try.func16, Try.ntmps16
    go_wp2_with fail
    refine (long_pos a ha a1 _).mono ?_
    rintro e w' ⟨rfl, rfl⟩
    go_wp2_with fail
    refine (long_neg b b0 hb _).mono ?_
    rintro e w' ⟨rfl, rfl⟩
    go_wp2_with fail
    refine (made_pos _ (by omega) (by omega) _).mono ?_
    rintro e w' ⟨rfl, rfl⟩
    go_wp2_with fail
    go_ret2
    exact ⟨ret_pr (by omega), rfl⟩
  · go_enter Try.func16, Try.ntmps16
    go_wp2_with fail
    refine (long_pos a ha a1 _).mono ?_
    rintro e w' ⟨rfl, rfl⟩
    go_wp2_with fail
    refine (long_neg b b0 hb _).mono ?_
    rintro e w' ⟨rfl, rfl⟩
    go_wp2_with fail
    refine (made_neg _ (by omega) (by omega) _).mono ?_
    rintro e w' ⟨rfl, rfl⟩
    go_wp2_with fail
    go_ret2
    exact ⟨ret_pr (by omega), rfl⟩
theorem refadd_any (a b : Int) (a0 : -9223372036854775808 ≤ a) (a1 : a ≤ 9223372036854775807) (b0 : -9223372036854775808 ≤ b) (b1 : b ≤ 9223372036854775807) (w : World) :
    Calls Try.prog 16 #[.int .i64 a, .int .i64 b] w fun e w' => e = .returned (.tuple #[.int .i64 (chk (a + b)), .bool (inR (a + b))]) ∧ w = w' := by
  by_cases ha : a < 0
  · by_cases hb : b < 0
    · exact refadd_nn a b a0 ha b0 hb w
    · exact refadd_np a b a0 ha (by omega) b1 w
  · by_cases hb : b < 0
    · exact refadd_pn a b (by omega) a1 b0 hb w
    · exact refadd_pp a b (by omega) a1 (by omega) b1 w
theorem refsub_pn (a b : Int) (ha : 0 ≤ a) (a1 : a ≤ 9223372036854775807) (b0 : -9223372036854775808 ≤ b) (hb : b < 0) (w : World) :
    Calls Try.prog 18 #[.int .i64 a, .int .i64 b] w fun e w' => e = .returned (.tuple #[.int .i64 (chk (a - b)), .bool (inR (a - b))]) ∧ w = w' := by
  go_enter Try.func18, Try.ntmps18
  go_wp2_with fail
  refine (long_pos a ha a1 _).mono ?_
  rintro e w' ⟨rfl, rfl⟩
  go_wp2_with fail
  refine (long_neg b b0 hb _).mono ?_
  rintro e w' ⟨rfl, rfl⟩
  go_wp2_with fail
  refine (made_pos _ (by omega) (by omega) _).mono ?_
  rintro e w' ⟨rfl, rfl⟩
  go_wp2_with fail
  go_ret2
  exact ⟨ret_pr (by omega), rfl⟩
theorem refsub_np (a b : Int) (a0 : -9223372036854775808 ≤ a) (ha : a < 0) (hb : 0 ≤ b) (b1 : b ≤ 9223372036854775807) (w : World) :
    Calls Try.prog 18 #[.int .i64 a, .int .i64 b] w fun e w' => e = .returned (.tuple #[.int .i64 (chk (a - b)), .bool (inR (a - b))]) ∧ w = w' := by
  go_enter Try.func18, Try.ntmps18
  go_wp2_with fail
  refine (long_neg a a0 ha _).mono ?_
  rintro e w' ⟨rfl, rfl⟩
  go_wp2_with fail
  refine (long_pos b hb b1 _).mono ?_
  rintro e w' ⟨rfl, rfl⟩
  go_wp2_with fail
  refine (made_neg _ (by omega) (by omega) _).mono ?_
  rintro e w' ⟨rfl, rfl⟩
  go_wp2_with fail
  go_ret2
  exact ⟨ret_pr (by omega), rfl⟩
theorem refsub_pp (a b : Int) (ha : 0 ≤ a) (a1 : a ≤ 9223372036854775807) (hb : 0 ≤ b) (b1 : b ≤ 9223372036854775807) (w : World) :
    Calls Try.prog 18 #[.int .i64 a, .int .i64 b] w fun e w' => e = .returned (.tuple #[.int .i64 (chk (a - b)), .bool (inR (a - b))]) ∧ w = w' := by
  by_cases hc : b ≤ a
  · skip
    go_enter Try.func18, Try.ntmps18
    go_wp2_with fail
    refine (long_pos a ha a1 _).mono ?_
    rintro e w' ⟨rfl, rfl⟩
    go_wp2_with fail
    refine (long_pos b hb b1 _).mono ?_
    rintro e w' ⟨rfl, rfl⟩
    go_wp2_with fail
    refine (made_pos _ (by omega) (by omega) _).mono ?_
    rintro e w' ⟨rfl, rfl⟩
    go_wp2_with fail
    go_ret2
    exact ⟨ret_pr (by omega), rfl⟩
  · skip
    go_enter Try.func18, Try.ntmps18
    go_wp2_with fail
    refine (long_pos a ha a1 _).mono ?_
    rintro e w' ⟨rfl, rfl⟩
    go_wp2_with fail
    refine (long_pos b hb b1 _).mono ?_
    rintro e w' ⟨rfl, rfl⟩
    go_wp2_with fail
    refine (made_neg _ (by omega) (by omega) _).mono ?_
    rintro e w' ⟨rfl, rfl⟩
    go_wp2_with fail
    go_ret2
    exact ⟨ret_pr (by omega), rfl⟩
theorem refsub_nn (a b : Int) (a0 : -9223372036854775808 ≤ a) (ha : a < 0) (b0 : -9223372036854775808 ≤ b) (hb : b < 0) (w : World) :
    Calls Try.prog 18 #[.int .i64 a, .int .i64 b] w fun e w' => e = .returned (.tuple #[.int .i64 (chk (a - b)), .bool (inR (a - b))]) ∧ w = w' := by
  by_cases hc : -b ≤ -a
  · go_enter Try.func18, Try.ntmps18
    go_wp2_with fail
    refine (long_neg a a0 ha _).mono ?_
    rintro e w' ⟨rfl, rfl⟩
    go_wp2_with fail
    refine (long_neg b b0 hb _).mono ?_
    rintro e w' ⟨rfl, rfl⟩
    go_wp2_with fail
    refine (made_neg _ (by omega) (by omega) _).mono ?_
    rintro e w' ⟨rfl, rfl⟩
    go_wp2_with fail
    go_ret2
    exact ⟨ret_pr (by omega), rfl⟩
  · go_enter Try.func18, Try.ntmps18
    go_wp2_with fail
    refine (long_neg a a0 ha _).mono ?_
    rintro e w' ⟨rfl, rfl⟩
    go_wp2_with fail
    refine (long_neg b b0 hb _).mono ?_
    rintro e w' ⟨rfl, rfl⟩
    go_wp2_with fail
    refine (made_pos _ (by omega) (by omega) _).mono ?_
    rintro e w' ⟨rfl, rfl⟩
    go_wp2_with fail
    go_ret2
    exact ⟨ret_pr (by omega), rfl⟩
theorem refsub_any (a b : Int) (a0 : -9223372036854775808 ≤ a) (a1 : a ≤ 9223372036854775807) (b0 : -9223372036854775808 ≤ b) (b1 : b ≤ 9223372036854775807) (w : World) :
    Calls Try.prog 18 #[.int .i64 a, .int .i64 b] w fun e w' => e = .returned (.tuple #[.int .i64 (chk (a - b)), .bool (inR (a - b))]) ∧ w = w' := by
  by_cases ha : a < 0
  · by_cases hb : b < 0
    · exact refsub_nn a b a0 ha b0 hb w
    · exact refsub_np a b a0 ha (by omega) b1 w
  · by_cases hb : b < 0
    · exact refsub_pn a b (by omega) a1 b0 hb w
    · exact refsub_pp a b (by omega) a1 (by omega) b1 w
end Go.Proofs.Ytjfdlamfklhodaa
