/- SegcurLevels: its ways (layer 23). -/
import Derived.Test.YtdnbklfdapdocaaSl
set_option linter.unusedVariables false
set_option linter.unusedSimpArgs false
namespace Go.Proofs.Ytdnbklfdapdocaa
open Go.ChangeShapes Go.WideShapes Go.ChangeAt Go.RowKit
set_option maxRecDepth 100000 in
set_option maxHeartbeats 4000000 in
theorem levels_low_way (c a : Int) (hc : c < 1) (w : World) : Calls Try.prog 6 #[.int .i64 c, .int .i64 a] w fun e w' => e = .returned (.bool true) ∧ Below w.heap.size w w' := by
  have HA : Hid (∀ W, Calls Try.prog 42 #[.int .i64 c] W fun e w' => e = .returned (.int .i64 0) ∧ W = w') := Lib.hid (fun W => levels_low c hc W)
  have HR : Hid (∀ W, Calls Try.prog 43 #[.int .i64 c] W fun e w' => e = .returned (.int .i64 0) ∧ W = w') := Lib.hid (fun W => rlevels_low c hc W)
  have t0 : decide (c < 1) = true := by simpa using hc
  go_enter Try.func6, Try.ntmps6
  go_wp2_with (first | (go_at_call 42; refine (HA.out _).mono ?_; rintro e wx ⟨rfl, rfl⟩) | (go_at_call 43; refine (HR.out _).mono ?_; rintro e wx ⟨rfl, rfl⟩) | (go_at_call 44; refine (lives23 _).mono ?_; rintro e wx ⟨rfl, hb⟩; have HB := Lib.hid hb; clear hb) | fail)
  go_ret
  exact ⟨rfl, HB.out⟩
set_option maxRecDepth 100000 in
set_option maxHeartbeats 4000000 in
theorem levels_far (m : Nat) (a : Int) (h1 : 1 ≤ m) (hm : m ≤ 9223372036854775807) (h2 : 1099511627776 < m) (w : World) : Calls Try.prog 6 #[.int .i64 (m : Int), .int .i64 a] w fun e w' => e = .returned (.bool true) ∧ Below w.heap.size w w' := by
  obtain ⟨L, hL⟩ : ∃ L, L = lvN m := ⟨_, rfl⟩
  have HA : Hid (∀ W, Calls Try.prog 42 #[.int .i64 (m : Int)] W fun e w' => e = .returned (.int .i64 (L : Int)) ∧ W = w') := Lib.hid (fun W => by rw [hL]; exact levels_any m h1 hm W)
  have HR : Hid (∀ W, Calls Try.prog 43 #[.int .i64 (m : Int)] W fun e w' => e = .returned (.int .i64 (L : Int)) ∧ W = w') := Lib.hid (fun W => by rw [hL]; exact rlevels_any m h1 hm W)
  have t0 : decide ((m : Int) < 1) = false := by simp; omega
  have t00 : (1 : Int) ≤ (m : Int) := by omega
  have t1 : decide ((1099511627776 : Int) < (m : Int)) = true := by simp; omega
  have t2 : (1099511627776 : Int) < (m : Int) := by omega
  have t3 : decide (1099511627776 < m) = true := by simp; omega
  clear hL h1 hm h2
  go_enter Try.func6, Try.ntmps6
  go_wp2_with (first | (go_at_call 42; refine (HA.out _).mono ?_; rintro e wx ⟨rfl, rfl⟩) | (go_at_call 43; refine (HR.out _).mono ?_; rintro e wx ⟨rfl, rfl⟩) | (go_at_call 44; refine (lives23 _).mono ?_; rintro e wx ⟨rfl, hb⟩; have HB := Lib.hid hb; clear hb) | fail)
  go_ret
  exact ⟨rfl, HB.out⟩
set_option maxRecDepth 100000 in
set_option maxHeartbeats 4000000 in
theorem levels_neg (m : Nat) (a : Int) (h1 : 1 ≤ m) (hm : m ≤ 9223372036854775807) (h2 : m ≤ 1099511627776) (h3 : a < 0) (w : World) : Calls Try.prog 6 #[.int .i64 (m : Int), .int .i64 a] w fun e w' => e = .returned (.bool true) ∧ Below w.heap.size w w' := by
  obtain ⟨L, hL⟩ : ∃ L, L = lvN m := ⟨_, rfl⟩
  have HA : Hid (∀ W, Calls Try.prog 42 #[.int .i64 (m : Int)] W fun e w' => e = .returned (.int .i64 (L : Int)) ∧ W = w') := Lib.hid (fun W => by rw [hL]; exact levels_any m h1 hm W)
  have HR : Hid (∀ W, Calls Try.prog 43 #[.int .i64 (m : Int)] W fun e w' => e = .returned (.int .i64 (L : Int)) ∧ W = w') := Lib.hid (fun W => by rw [hL]; exact rlevels_any m h1 hm W)
  have t0 : decide ((m : Int) < 1) = false := by simp; omega
  have t00 : (1 : Int) ≤ (m : Int) := by omega
  have t1 : decide ((1099511627776 : Int) < (m : Int)) = false := by simp; omega
  have t2 : (m : Int) ≤ (1099511627776 : Int) := by omega
  have t3 : decide (1099511627776 < m) = false := by simp; omega
  have t4 : decide (a < 0) = true := by simpa using h3
  clear hL h1 hm h2
  go_enter Try.func6, Try.ntmps6
  go_wp2_with (first | (go_at_call 42; refine (HA.out _).mono ?_; rintro e wx ⟨rfl, rfl⟩) | (go_at_call 43; refine (HR.out _).mono ?_; rintro e wx ⟨rfl, rfl⟩) | (go_at_call 44; refine (lives23 _).mono ?_; rintro e wx ⟨rfl, hb⟩; have HB := Lib.hid hb; clear hb) | fail)
  go_ret
  exact ⟨rfl, HB.out⟩
set_option maxRecDepth 100000 in
set_option maxHeartbeats 4000000 in
theorem levels_out (m : Nat) (a : Int) (h1 : 1 ≤ m) (hm : m ≤ 9223372036854775807) (h2 : m ≤ 1099511627776) (h3 : 0 ≤ a) (h4 : (m : Int) ≤ a) (w : World) : Calls Try.prog 6 #[.int .i64 (m : Int), .int .i64 a] w fun e w' => e = .returned (.bool true) ∧ Below w.heap.size w w' := by
  obtain ⟨L, hL⟩ : ∃ L, L = lvN m := ⟨_, rfl⟩
  have HA : Hid (∀ W, Calls Try.prog 42 #[.int .i64 (m : Int)] W fun e w' => e = .returned (.int .i64 (L : Int)) ∧ W = w') := Lib.hid (fun W => by rw [hL]; exact levels_any m h1 hm W)
  have HR : Hid (∀ W, Calls Try.prog 43 #[.int .i64 (m : Int)] W fun e w' => e = .returned (.int .i64 (L : Int)) ∧ W = w') := Lib.hid (fun W => by rw [hL]; exact rlevels_any m h1 hm W)
  have t0 : decide ((m : Int) < 1) = false := by simp; omega
  have t00 : (1 : Int) ≤ (m : Int) := by omega
  have t1 : decide ((1099511627776 : Int) < (m : Int)) = false := by simp; omega
  have t2 : (m : Int) ≤ (1099511627776 : Int) := by omega
  have t3 : decide (1099511627776 < m) = false := by simp; omega
  have t4 : decide (a < 0) = false := by simp; omega
  have t5 : decide ((m : Int) ≤ a) = true := by simpa using h4
  clear hL h1 hm h2
  go_enter Try.func6, Try.ntmps6
  go_wp2_with (first | (go_at_call 42; refine (HA.out _).mono ?_; rintro e wx ⟨rfl, rfl⟩) | (go_at_call 43; refine (HR.out _).mono ?_; rintro e wx ⟨rfl, rfl⟩) | (go_at_call 44; refine (lives23 _).mono ?_; rintro e wx ⟨rfl, hb⟩; have HB := Lib.hid hb; clear hb) | fail)
  go_ret
  exact ⟨rfl, HB.out⟩
set_option maxRecDepth 100000 in
set_option maxHeartbeats 4000000 in
theorem levels_in (m : Nat) (a : Int) (h1 : 1 ≤ m) (hm : m ≤ 9223372036854775807) (h2 : m ≤ 1099511627776) (x : Nat) (hx : a = x) (h4 : x < m) (w : World) : Calls Try.prog 6 #[.int .i64 (m : Int), .int .i64 a] w fun e w' => e = .returned (.bool true) ∧ Below w.heap.size w w' := by
  obtain ⟨L, hL⟩ : ∃ L, L = lvN m := ⟨_, rfl⟩
  have HA : Hid (∀ W, Calls Try.prog 42 #[.int .i64 (m : Int)] W fun e w' => e = .returned (.int .i64 (L : Int)) ∧ W = w') := Lib.hid (fun W => by rw [hL]; exact levels_any m h1 hm W)
  have HR : Hid (∀ W, Calls Try.prog 43 #[.int .i64 (m : Int)] W fun e w' => e = .returned (.int .i64 (L : Int)) ∧ W = w') := Lib.hid (fun W => by rw [hL]; exact rlevels_any m h1 hm W)
  have t0 : decide ((m : Int) < 1) = false := by simp; omega
  have t00 : (1 : Int) ≤ (m : Int) := by omega
  subst hx
  have t1 : decide ((1099511627776 : Int) < (m : Int)) = false := by simp; omega
  have t2 : (m : Int) ≤ (1099511627776 : Int) := by omega
  have t3 : decide (1099511627776 < m) = false := by simp; omega
  have t4 : decide ((x : Int) < 0) = false := by simp
  have t5 : decide ((m : Int) ≤ (x : Int)) = false := by simp; omega
  have t5n : decide (m ≤ x) = false := by simp; omega
  have t6 : (x : Int) < (m : Int) := by omega
  have e7 : (m : Int) - 1 = ((m - 1 : Nat) : Int) := by omega
  have HW : Hid (∀ W, Calls Try.prog 45 #[.int .i64 0, .int .i64 ((m : Int) - 1), .int .i64 (x : Int)] W fun e w' => ∃ q : Nat, e = .returned (.int .i64 (q : Int)) ∧ q ≤ L ∧ W = w') := Lib.hid (fun W => by rw [e7, hL]; exact way_any m x h1 h2 h4 W)
  clear hL h1 hm h2 h4 e7
  go_enter Try.func6, Try.ntmps6
  go_upto_region 6 with (first | (go_at_call 42; refine (HA.out _).mono ?_; rintro e wx ⟨rfl, rfl⟩) | (go_at_call 43; refine (HR.out _).mono ?_; rintro e wx ⟨rfl, rfl⟩) | fail)
  clear t1 t3 t4 t5 t5n t0
  go_wp2_with fail
  refine (HW.out _).mono ?_
  rintro e wx ⟨q, rfl, hq, rfl⟩
  have t8 : decide ((q : Int) ≤ (L : Int)) = true := by simp; omega
  have t9 : decide (q ≤ L) = true := by simp; omega
  have t10 : (q : Int) ≤ (L : Int) := by omega
  clear hq
  go_wp2_with (first | (go_at_call 44; refine (lives23 _).mono ?_; rintro e wx ⟨rfl, hb⟩; have HB := Lib.hid hb; clear hb) | fail)
  go_ret
  exact ⟨rfl, HB.out⟩
theorem segcur_levels (c a : Int) (hc : c ≤ 9223372036854775807) (w : World) : Calls Try.prog 6 #[.int .i64 c, .int .i64 a] w fun e w' => e = .returned (.bool true) ∧ Below w.heap.size w w' := by
  by_cases h : c < 1
  · exact levels_low_way c a h w
  · obtain ⟨m, rfl⟩ : ∃ m : Nat, c = m := ⟨c.toNat, by omega⟩
    by_cases h2 : 1099511627776 < m
    · exact levels_far m a (by omega) (by omega) h2 w
    · by_cases h3 : a < 0
      · exact levels_neg m a (by omega) (by omega) (by omega) h3 w
      · by_cases h4 : (m : Int) ≤ a
        · exact levels_out m a (by omega) (by omega) (by omega) (by omega) h4 w
        · exact levels_in m a (by omega) (by omega) (by omega) a.toNat (by omega) (by omega) w
end Go.Proofs.Ytdnbklfdapdocaa
