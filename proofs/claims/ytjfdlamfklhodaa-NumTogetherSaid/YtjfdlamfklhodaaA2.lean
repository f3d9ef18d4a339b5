/- Contracts of layer 1's products, middles, signs. -/
import Derived.Test.YtjfdlamfklhodaaA1
namespace Go.Proofs.Ytjfdlamfklhodaa
open Go.ChangeShapes Go.WideShapes Go.ChangeAt Go.RowKit
theorem ret_int {k : IntKind} {a b : Int} (h : a = b) : Ending.returned (.int k a) = .returned (.int k b) := by rw [h]
theorem ret_bool {a b : Bool} (h : a = b) : Ending.returned (.bool a) = .returned (.bool b) := by rw [h]
theorem neg_any (a : Int) (a0 : -9223372036854775808 ≤ a) (a1 : a ≤ 9223372036854775807) (w : World) :
    Calls Try.prog 22 #[.int .i64 a] w fun e w' => e = .returned (.tuple #[.int .i64 (chk (0 - a)), .bool (inR (0 - a))]) ∧ w = w' := by
  go_enter Try.func22, Try.ntmps22
  go_wp2_with fail
  refine (sub_any _ _ (by omega) (by omega) a0 a1 _).mono ?_
  rintro e w' ⟨rfl, rfl⟩
  go_wp2_with fail
  go_ret2
  exact ⟨ret_pr (by omega), rfl⟩
theorem mul_any (a b : Int) (a0 : -9223372036854775808 ≤ a) (a1 : a ≤ 9223372036854775807) (b0 : -9223372036854775808 ≤ b) (b1 : b ≤ 9223372036854775807) (w : World) :
    Calls Try.prog 20 #[.int .i64 a, .int .i64 b] w fun e w' => e = .returned (.tuple #[.int .i64 (chk (a * b)), .bool (inR (a * b))]) ∧ w = w' := by
  by_cases ha : a = 0
  · subst ha
    go_enter Try.func20, Try.ntmps20
    go_wp2
    go_ret2
    exact ⟨pair_yes (by omega) (by omega), rfl⟩
  · have za : (a == 0) = false := by simpa using ha
    by_cases hb : b = 0
    · subst hb
      go_enter Try.func20, Try.ntmps20
      go_wp2
      go_ret2
      exact ⟨pair_yes (by omega) (by omega), rfl⟩
    · have zb : (b == 0) = false := by simpa using hb
      by_cases hm : a = -9223372036854775808 ∧ b = -1
      · obtain ⟨rfl, rfl⟩ := hm
        go_enter Try.func20, Try.ntmps20
        go_wp2
        go_ret2
        exact ⟨pair_no (by omega), rfl⟩
      · by_cases hn : a = -9223372036854775808
        · subst hn
          have zm : (b == -1) = false := by simpa using hm
          go_enter Try.func20, Try.ntmps20
          go_wp2
          · go_ret2
            exact ⟨mul_no _ b a0 a1 hb (by assumption), rfl⟩
          · go_ret2
            exact ⟨mul_yes _ b a0 a1 b0 b1 hb (fun h => hm ⟨trivial, h.2⟩) (by assumption), rfl⟩
        · have zn : (a == -9223372036854775808) = false := by simpa using hn
          go_enter Try.func20, Try.ntmps20
          go_wp2
          · go_ret2
            exact ⟨mul_no _ b a0 a1 hb (by assumption), rfl⟩
          · go_ret2
            exact ⟨mul_yes _ b a0 a1 b0 b1 hb hm (by assumption), rfl⟩
theorem mid_any (a b : Int) (a0 : -9223372036854775808 ≤ a) (a1 : a ≤ 9223372036854775807) (b0 : -9223372036854775808 ≤ b) (b1 : b ≤ 9223372036854775807) (w : World) :
    Calls Try.prog 24 #[.int .i64 a, .int .i64 b] w fun e w' => e = .returned (.int .i64 ((a + b) / 2)) ∧ w = w' := by
  go_enter Try.func24, Try.ntmps24
  go_wp2
  go_ret
  exact ⟨ret_int (mid_val a b a0 a1 b0 b1), rfl⟩
theorem refmid_any (a b : Int) (a0 : -9223372036854775808 ≤ a) (a1 : a ≤ 9223372036854775807) (b0 : -9223372036854775808 ≤ b) (b1 : b ≤ 9223372036854775807) (w : World) :
    Calls Try.prog 25 #[.int .i64 a, .int .i64 b] w fun e w' => e = .returned (.int .i64 ((a + b) / 2)) ∧ w = w' := by
  by_cases h : b < a
  · go_enter Try.func25, Try.ntmps25
    go_wp2
    go_ret
    exact ⟨ret_int ((refmid_val b a b0 a1 (by omega)).trans (by omega)), rfl⟩
  · go_enter Try.func25, Try.ntmps25
    go_wp2
    go_ret
    exact ⟨ret_int (refmid_val a b a0 b1 (by omega)), rfl⟩
theorem good_any (a : Int) (w : World) :
    Calls Try.prog 27 #[.int .i64 a] w fun e w' => e = .returned (.bool (decide (-1099511627776 ≤ a) && decide (a ≤ 1099511627776))) ∧ w = w' := by
  by_cases h : -1099511627776 ≤ a
  · go_enter Try.func27, Try.ntmps27
    go_wp2
    go_ret
    exact ⟨ret_bool (by simp [h]), rfl⟩
  · go_enter Try.func27, Try.ntmps27
    go_wp2
    go_ret
    exact ⟨ret_bool (by simp; omega), rfl⟩
theorem sign_neg (a : Int) (h : a < 0) (w : World) : Calls Try.prog 26 #[.int .i64 a] w fun e w' => e = .returned (.int .i64 (-1)) ∧ w = w' := by
  go_enter Try.func26, Try.ntmps26
  go_wp2
  go_ret
  exact ⟨rfl, rfl⟩
theorem sign_pos (a : Int) (h : 0 < a) (w : World) : Calls Try.prog 26 #[.int .i64 a] w fun e w' => e = .returned (.int .i64 1) ∧ w = w' := by
  go_enter Try.func26, Try.ntmps26
  go_wp2
  go_ret
  exact ⟨rfl, rfl⟩
theorem sign_nil (w : World) : Calls Try.prog 26 #[.int .i64 0] w fun e w' => e = .returned (.int .i64 0) ∧ w = w' := by
  go_enter Try.func26, Try.ntmps26
  go_wp2
  go_ret
  exact ⟨rfl, rfl⟩
theorem good_yes (a : Int) (h : -1099511627776 ≤ a) (h' : a ≤ 1099511627776) (w : World) : Calls Try.prog 27 #[.int .i64 a] w fun e w' => e = .returned (.bool true) ∧ w = w' :=
  (good_any a w).mono fun e w' ⟨h1, h2⟩ => ⟨by rw [h1]; exact ret_bool (by simp [h, h']), h2⟩
theorem good_no (a : Int) (h : ¬ (-1099511627776 ≤ a ∧ a ≤ 1099511627776)) (w : World) : Calls Try.prog 27 #[.int .i64 a] w fun e w' => e = .returned (.bool false) ∧ w = w' :=
  (good_any a w).mono fun e w' ⟨h1, h2⟩ => ⟨by rw [h1]; exact ret_bool (by simp; omega), h2⟩
end Go.Proofs.Ytjfdlamfklhodaa
