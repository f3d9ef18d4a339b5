/- Numbers of 64 bits made wide, and back; the small living call of layer 2. -/
import Derived.Test.YtjfdlamfklhodaaC3
set_option linter.unusedVariables false
namespace Go.Proofs.Ytjfdlamfklhodaa
open Go.ChangeShapes Go.WideShapes Go.ChangeAt Go.RowKit
def ofH (a : Int) : Int := if a < 0 then -1 else 0
theorem ofH_pos {a : Int} (h : 0 ≤ a) : ofH a = 0 := by unfold ofH; rw [if_neg (by omega)]
theorem ofH_neg {a : Int} (h : a < 0) : ofH a = -1 := by unfold ofH; rw [if_pos h]
theorem wof (a : Int) (a0 : -9223372036854775808 ≤ a) (a1 : a ≤ 9223372036854775807) (w : World) : Calls Try.prog 32 #[.int .i64 a] w fun e w' => e = .returned (.agg #[.int .i64 (ofH a), .int .u64 (a % 18446744073709551616)]) ∧ Below w.heap.size w w' := by
  by_cases h : a < 0
  · exact (wof_neg a a0 h w).mono fun e w' ⟨h1, h2⟩ => ⟨by rw [h1]; exact ret_agg (ofH_neg h).symm (by omega), h2⟩
  · exact (wof_pos a (by omega) a1 w).mono fun e w' ⟨h1, h2⟩ => ⟨by rw [h1]; exact ret_agg (ofH_pos (by omega)).symm (by omega), h2⟩
def sg (n : Int) : Int := if n < 0 then -1 else if 0 < n then 1 else 0
theorem cmpW_sg {h1 l1 h2 l2 : Int} (c0 : 0 ≤ l1) (c1 : l1 < 18446744073709551616) (d0 : 0 ≤ l2) (d1 : l2 < 18446744073709551616) : cmpW h1 l1 h2 l2 = sg ((h1 * 18446744073709551616 + l1) - (h2 * 18446744073709551616 + l2)) := by
  unfold cmpW sg
  by_cases e1 : h1 < h2
  · rw [if_pos e1, if_pos (by omega)]
  · rw [if_neg e1]
    by_cases e2 : h2 < h1
    · rw [if_pos e2, if_neg (by omega), if_pos (by omega)]
    · rw [if_neg e2]
      by_cases e3 : l1 < l2
      · rw [if_pos e3, if_pos (by omega)]
      · rw [if_neg e3]
        by_cases e4 : l2 < l1
        · rw [if_pos e4, if_neg (by omega), if_pos (by omega)]
        · rw [if_neg e4, if_neg (by omega), if_neg (by omega)]
theorem ofH_val (a : Int) (a0 : -9223372036854775808 ≤ a) (a1 : a ≤ 9223372036854775807) : ofH a * 18446744073709551616 + a % 18446744073709551616 = a := by
  by_cases h : a < 0
  · rw [ofH_neg h]; omega
  · rw [ofH_pos (by omega)]; omega
theorem as_int {P : Program} {f : FuncId} {args : Array Value} {w : World} {b c : Int} (h : Calls P f args w fun e w' => e = .returned (.int .i64 b) ∧ Below w.heap.size w w') (e : b = c) :
    Calls P f args w fun e w' => e = .returned (.int .i64 c) ∧ Below w.heap.size w w' := by rw [← e]; exact h
theorem as_agg {P : Program} {f : FuncId} {args : Array Value} {w : World} {h1 l1 h2 l2 : Int} (h : Calls P f args w fun e w' => e = .returned (.agg #[.int .i64 h1, .int .u64 l1]) ∧ Below w.heap.size w w') (e : h1 = h2) (e' : l1 = l2) :
    Calls P f args w fun e w' => e = .returned (.agg #[.int .i64 h2, .int .u64 l2]) ∧ Below w.heap.size w w' := by rw [← e, ← e']; exact h
theorem lives2 (w : World) : Calls Try.prog 33 #[] w fun e w' => e = .returned (.bool true) ∧ Below w.heap.size w w' := by
  have M1 : ∀ w : World, Calls Try.prog 31 #[.int .i64 1099511627776, .int .i64 (-1099511627776)] w fun e w' => e = .returned (.agg #[.int .i64 (-65536), .int .u64 0]) ∧ Below w.heap.size w w' := fun w =>
    as_agg (wmul _ _ (by omega) (by omega) (by omega) (by omega) w) (by decide) (by decide)
  have heq : ∀ W : World, (binOp .eql 35 (.agg #[.int .i64 (-65536), .int .u64 0]) (.agg #[.int .i64 (-65536), .int .u64 0])).run Try.prog W = .ok (.bool true) W := fun W => by rw [eq_wide]; simp
  have C1 : ∀ w : World, Calls Try.prog 40 #[.agg #[.int .i64 0, .int .u64 3], .agg #[.int .i64 (-1), .int .u64 18446744073709551613]] w fun e w' => e = .returned (.int .i64 1) ∧ Below w.heap.size w w' := fun w =>
    as_int (wcmp _ _ _ _ w) (by decide)
  have O2 : ∀ w : World, Calls Try.prog 32 #[.int .i64 (-3)] w fun e w' => e = .returned (.agg #[.int .i64 (-1), .int .u64 18446744073709551613]) ∧ Below w.heap.size w w' := fun w =>
    as_agg (wof_neg _ (by omega) (by omega) w) rfl (by decide)
  have HM := Lib.hid M1
  have HC := Lib.hid C1
  have HO := Lib.hid O2
  clear M1 C1 O2
  go_enter Try.func33, Try.ntmps33
  go_wp2_with fail
  refine (HM.out _).mono ?_
  rintro e w1 ⟨rfl, h1⟩
  go_wp2_with fail
  refine (wof_pos _ (by omega) (by omega) _).mono ?_
  rintro e w2 ⟨rfl, h2⟩
  go_wp2_with fail
  refine (HO.out _).mono ?_
  rintro e w3 ⟨rfl, h3⟩
  go_wp2_with fail
  refine (HC.out _).mono ?_
  rintro e w4 ⟨rfl, h4⟩
  go_wp2_with fail
  go_ret
  have s1 := h1.size
  have s2 := h2.size
  have s3 := h3.size
  exact ⟨rfl, ((h1.trans (h2.mono s1)).trans (h3.mono (by omega))).trans (h4.mono (by omega))⟩
set_option maxHeartbeats 1000000 in
theorem wint_yes (hi lo n : Int) (n0 : -9223372036854775808 ≤ n) (n1 : n ≤ 9223372036854775807) (lo0 : 0 ≤ lo) (lo1 : lo < 18446744073709551616) (hn : (0 ≤ n ∧ hi = 0 ∧ lo = n) ∨ (n < 0 ∧ hi = -1 ∧ lo = n + 18446744073709551616)) (w : World) :
    Calls Try.prog 43 #[.agg #[.int .i64 hi, .int .u64 lo]] w fun e w' => e = .returned (.tuple #[.int .i64 n, .bool true]) ∧ Below w.heap.size w w' := by
  have hl : n % 18446744073709551616 = lo := by omega
  have hh : ofH n = hi := by rcases hn with ⟨h, rfl, _⟩ | ⟨h, rfl, _⟩
                             · exact ofH_pos h
                             · exact ofH_neg h
  have hw : wrap64 lo = n := by unfold wrap64; omega
  have heq : ∀ W : World, (binOp .neq 35 (.agg #[.int .i64 (ofH n), .int .u64 (n % 18446744073709551616)]) (.agg #[.int .i64 hi, .int .u64 lo])).run Try.prog W = .ok (.bool false) W := fun W => by
    rw [ne_wide]
    simp [hl, hh]
    
  clear hl hn hh
  go_enter Try.func43, Try.ntmps43
  go_wp2_with fail
  go_region_held3 (fun w' => Below w.heap.size w w' ∧ w'.cell? ⟨w.heap.size, 0, none⟩ = some (.int .i64 hi) ∧ w'.cell? ⟨w.heap.size, 1, none⟩ = some (.int .u64 lo)) (first | exact keep2 (Nat.le_refl _) hbx ‹_› | ((repeat' apply And.intro) <;> first | go_keep | (refine Below.drew (Below.alloc (Below.refl _ _) (by simp) _)))) (first | (go_at_call 32; ((with_reducible refine (wof n n0 n1 _).mono ?_); rintro e wx ⟨rfl, hbx⟩)))
  go_wp2_with fail
  go_ret2
  exact ⟨rfl, ((‹_› : Below w.heap.size w _ ∧ _)).1⟩
set_option maxHeartbeats 1000000 in
theorem wint_no (hi lo n : Int) (n0 : -9223372036854775808 ≤ n) (n1 : n ≤ 9223372036854775807) (lo0 : 0 ≤ lo) (lo1 : lo < 18446744073709551616) (hn : ¬ (hi = ofH n)) (hl : n % 18446744073709551616 = lo) (w : World) :
    Calls Try.prog 43 #[.agg #[.int .i64 hi, .int .u64 lo]] w fun e w' => e = .returned (.tuple #[.int .i64 0, .bool false]) ∧ Below w.heap.size w w' := by
  have hw : wrap64 lo = n := by unfold wrap64; omega
  have heq : ∀ W : World, (binOp .neq 35 (.agg #[.int .i64 (ofH n), .int .u64 (n % 18446744073709551616)]) (.agg #[.int .i64 hi, .int .u64 lo])).run Try.prog W = .ok (.bool true) W := fun W => by
    rw [ne_wide]
    have : (ofH n == hi) = false := by simpa using fun h => hn h.symm
    rw [this]; rfl
  clear hl hn
  go_enter Try.func43, Try.ntmps43
  go_wp2_with fail
  go_region_held3 (fun w' => Below w.heap.size w w' ∧ w'.cell? ⟨w.heap.size, 0, none⟩ = some (.int .i64 hi) ∧ w'.cell? ⟨w.heap.size, 1, none⟩ = some (.int .u64 lo)) (first | exact keep2 (Nat.le_refl _) hbx ‹_› | ((repeat' apply And.intro) <;> first | go_keep | (refine Below.drew (Below.alloc (Below.refl _ _) (by simp) _)))) (first | (go_at_call 32; ((with_reducible refine (wof n n0 n1 _).mono ?_); rintro e wx ⟨rfl, hbx⟩)))
  go_wp2_with fail
  go_ret2
  exact ⟨rfl, ((‹_› : Below w.heap.size w _ ∧ _)).1⟩
end Go.Proofs.Ytjfdlamfklhodaa
