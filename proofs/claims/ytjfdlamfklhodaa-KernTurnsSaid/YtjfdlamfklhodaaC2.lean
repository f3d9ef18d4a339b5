/- Contracts of numbers of 128 bits: what makes them, compares them. -/
import Derived.Test.YtjfdlamfklhodaaC1
import Derived.Deep.RegionHeld3
set_option linter.unusedVariables false
namespace Go.Proofs.Ytjfdlamfklhodaa
open Go.ChangeShapes Go.WideShapes Go.ChangeAt Go.RowKit
theorem bcell {W w1 : World} (hb : Below W.heap.size W w1) : (∀ b o, b < W.heap.size → w1.cell? ⟨b, o, none⟩ = W.cell? ⟨b, o, none⟩) ∧ (∀ b o, b < W.heap.size → w1.frozen? ⟨b, o, none⟩ = W.frozen? ⟨b, o, none⟩) :=
  ⟨fun b o h => hb.cell (p := ⟨b, o, none⟩) h, fun b o h => hb.frozen (p := ⟨b, o, none⟩) h⟩
theorem ret_agg {h1 l1 h2 l2 : Int} (h : h1 = h2) (l : l1 = l2) : Ending.returned (.agg #[.int .i64 h1, .int .u64 l1]) = Ending.returned (.agg #[.int .i64 h2, .int .u64 l2]) := by rw [h, l]
theorem ret_iW {a b : Int} (h : a = b) : Ending.returned (.int .i64 a) = .returned (.int .i64 b) := by rw [h]
theorem wof_pos (a : Int) (a0 : 0 ≤ a) (a1 : a ≤ 9223372036854775807) (w : World) : Calls Try.prog 32 #[.int .i64 a] w fun e w' => e = .returned (.agg #[.int .i64 0, .int .u64 a]) ∧ Below w.heap.size w w' := by
  have hs : a / 9223372036854775808 = 0 := by omega
  go_enter Try.func32, Try.ntmps32
  go_wp2
  exact bodyPost_ret (v := .agg #[.int .i64 0, .int .u64 a]) (by simp [results, Try.results32, go_sem, hs]) rfl ⟨rfl, (by repeat (first | exact Below.refl _ _ | refine Below.setCell ?_ (by first | omega | (simp <;> omega)) _ | refine Below.alloc ?_ (by first | omega | (simp <;> omega)) _))⟩
theorem wof_neg (a : Int) (a0 : -9223372036854775808 ≤ a) (a1 : a < 0) (w : World) : Calls Try.prog 32 #[.int .i64 a] w fun e w' => e = .returned (.agg #[.int .i64 (-1), .int .u64 (a + 18446744073709551616)]) ∧ Below w.heap.size w w' := by
  have hs : a / 9223372036854775808 = -1 := by omega
  have hu : IntKind.u64.wrap a = a + 18446744073709551616 := by rw [wrapu]; omega
  go_enter Try.func32, Try.ntmps32
  go_wp2
  exact bodyPost_ret (v := .agg #[.int .i64 (-1), .int .u64 (a + 18446744073709551616)]) (by simp [results, Try.results32, go_sem, hs, hu]) rfl ⟨rfl, (by repeat (first | exact Below.refl _ _ | refine Below.setCell ?_ (by first | omega | (simp <;> omega)) _ | refine Below.alloc ?_ (by first | omega | (simp <;> omega)) _))⟩
def cmpW (h1 l1 h2 l2 : Int) : Int := if h1 < h2 then -1 else if h2 < h1 then 1 else if l1 < l2 then -1 else if l2 < l1 then 1 else 0
set_option maxHeartbeats 1000000 in
theorem wcmp (h1 l1 h2 l2 : Int) (w : World) : Calls Try.prog 40 #[.agg #[.int .i64 h1, .int .u64 l1], .agg #[.int .i64 h2, .int .u64 l2]] w fun e w' => e = .returned (.int .i64 (cmpW h1 l1 h2 l2)) ∧ Below w.heap.size w w' := by
  by_cases c1 : h1 < h2
  · go_enter Try.func40, Try.ntmps40
    go_wp2
    go_ret
    exact ⟨ret_iW (by unfold cmpW; rw [if_pos c1]), (by repeat (first | exact Below.refl _ _ | refine Below.setCell ?_ (by first | omega | (simp <;> omega)) _ | refine Below.alloc ?_ (by first | omega | (simp <;> omega)) _))⟩
  · by_cases c2 : h2 < h1
    · go_enter Try.func40, Try.ntmps40
      go_wp2
      go_ret
      exact ⟨ret_iW (by unfold cmpW; rw [if_neg (by omega), if_pos c2]), (by repeat (first | exact Below.refl _ _ | refine Below.setCell ?_ (by first | omega | (simp <;> omega)) _ | refine Below.alloc ?_ (by first | omega | (simp <;> omega)) _))⟩
    · by_cases c3 : l1 < l2
      · go_enter Try.func40, Try.ntmps40
        go_wp2
        go_ret
        exact ⟨ret_iW (by unfold cmpW; rw [if_neg (by omega), if_neg (by omega), if_pos c3]), (by repeat (first | exact Below.refl _ _ | refine Below.setCell ?_ (by first | omega | (simp <;> omega)) _ | refine Below.alloc ?_ (by first | omega | (simp <;> omega)) _))⟩
      · by_cases c4 : l2 < l1
        · go_enter Try.func40, Try.ntmps40
          go_wp2
          go_ret
          exact ⟨ret_iW (by unfold cmpW; rw [if_neg (by omega), if_neg (by omega), if_neg (by omega), if_pos c4]), (by repeat (first | exact Below.refl _ _ | refine Below.setCell ?_ (by first | omega | (simp <;> omega)) _ | refine Below.alloc ?_ (by first | omega | (simp <;> omega)) _))⟩
        · go_enter Try.func40, Try.ntmps40
          go_wp2
          go_ret
          exact ⟨ret_iW (by unfold cmpW; rw [if_neg (by omega), if_neg (by omega), if_neg (by omega), if_neg (by omega)]), (by repeat (first | exact Below.refl _ _ | refine Below.setCell ?_ (by first | omega | (simp <;> omega)) _ | refine Below.alloc ?_ (by first | omega | (simp <;> omega)) _))⟩
theorem eq_wide (h1 l1 h2 l2 : Int) (W : World) : (binOp .eql 35 (.agg #[.int .i64 h1, .int .u64 l1]) (.agg #[.int .i64 h2, .int .u64 l2])).run Try.prog W = .ok (.bool (h1 == h2 && l1 == l2)) W := by
  cases e1 : h1 == h2 <;> cases e2 : l1 == l2
  all_goals go_simp
theorem ne_wide (h1 l1 h2 l2 : Int) (W : World) : (binOp .neq 35 (.agg #[.int .i64 h1, .int .u64 l1]) (.agg #[.int .i64 h2, .int .u64 l2])).run Try.prog W = .ok (.bool (!(h1 == h2 && l1 == l2))) W := by
  cases e1 : h1 == h2 <;> cases e2 : l1 == l2
  all_goals go_simp
/- the product of two numbers -/
theorem wmul_val (a b u v : Int) (a0 : -9223372036854775808 ≤ a) (a1 : a ≤ 9223372036854775807) (b0 : -9223372036854775808 ≤ b) (b1 : b ≤ 9223372036854775807)
    (i j : Int) (hi : (0 ≤ a ∧ i = 0) ∨ (a < 0 ∧ i = 1)) (hj : (0 ≤ b ∧ j = 0) ∨ (b < 0 ∧ j = 1)) (hu : u = a + 18446744073709551616 * i) (hv : v = b + 18446744073709551616 * j) :
    wrap64 (u * v / 18446744073709551616 - i * v - j * u) = a * b / 18446744073709551616 ∧ u * v % 18446744073709551616 = a * b % 18446744073709551616 := by
  have e : u * v = a * b + 18446744073709551616 * (i * b + j * a + 18446744073709551616 * (i * j)) := by
    rw [hu, hv]
    rcases hi with ⟨_, rfl⟩ | ⟨_, rfl⟩ <;> rcases hj with ⟨_, rfl⟩ | ⟨_, rfl⟩ <;> simp [Int.add_mul, Int.mul_add, Int.mul_comm, Int.mul_left_comm] <;> omega
  have hb : -85070591730234615865843651857942052864 ≤ a * b ∧ a * b ≤ 85070591730234615865843651857942052864 := by
    have h1 : (a * b).natAbs ≤ 9223372036854775808 * 9223372036854775808 := by
      rw [Int.natAbs_mul]; exact Nat.mul_le_mul (by omega) (by omega)
    omega
  refine ⟨?_, by rw [e]; omega⟩
  rw [e]
  rcases hi with ⟨_, rfl⟩ | ⟨_, rfl⟩ <;> rcases hj with ⟨_, rfl⟩ | ⟨_, rfl⟩ <;> simp only [wrap64, Int.zero_mul, Int.one_mul, Int.mul_zero, Int.mul_one] <;> generalize a * b = p at * <;> omega
set_option maxHeartbeats 1000000 in
theorem wmul_nn (a b : Int) (a0 : -9223372036854775808 ≤ a) (a1 : a ≤ 9223372036854775807) (b0 : -9223372036854775808 ≤ b) (b1 : b ≤ 9223372036854775807) (ha : a < 0) (hb : b < 0) (w : World) :
    Calls Try.prog 31 #[.int .i64 a, .int .i64 b] w fun e w' => e = .returned (.agg #[.int .i64 (a * b / 18446744073709551616), .int .u64 (a * b % 18446744073709551616)]) ∧ Below w.heap.size w w' := by
  have hv := wmul_val a b (a + 18446744073709551616) (b + 18446744073709551616) a0 a1 b0 b1 1 1 (Or.inr ⟨ha, rfl⟩) (Or.inr ⟨hb, rfl⟩) (by omega) (by omega)
  have HV := Lib.hid hv
  clear hv
  have hua : IntKind.u64.wrap a = (a + 18446744073709551616) := by rw [wrapu]; omega
  have hub : IntKind.u64.wrap b = (b + 18446744073709551616) := by rw [wrapu]; omega
  have m0 : 0 ≤ (a + 18446744073709551616) := by omega
  have m1 : (a + 18446744073709551616) ≤ 18446744073709551615 := by omega
  have n0 : 0 ≤ (b + 18446744073709551616) := by omega
  have n1 : (b + 18446744073709551616) ≤ 18446744073709551615 := by omega
  go_enter Try.func31, Try.ntmps31
  go_wp2_with fail
  refine (mul64 _ _ m0 m1 n0 n1 _).mono ?_
  rintro e w1 ⟨rfl, rfl⟩
  generalize (a + 18446744073709551616) = u at *
  generalize (b + 18446744073709551616) = v at *
  go_wp2_with fail
  exact bodyPost_ret (v := .agg #[.int .i64 (wrap64 (IntKind.u64.wrap (IntKind.u64.wrap (u * v / 18446744073709551616 - v) - u))), .int .u64 (u * v % 18446744073709551616)]) (by simp [results, Try.results31, go_sem]) rfl ⟨ret_agg (Eq.trans (by simp only [wrapu, wrap64]; omega) HV.out.1) HV.out.2, (by repeat (first | exact Below.refl _ _ | refine Below.setCell ?_ (by first | omega | (simp <;> omega)) _ | refine Below.alloc ?_ (by first | omega | (simp <;> omega)) _))⟩
set_option maxHeartbeats 1000000 in
theorem wmul_np (a b : Int) (a0 : -9223372036854775808 ≤ a) (a1 : a ≤ 9223372036854775807) (b0 : -9223372036854775808 ≤ b) (b1 : b ≤ 9223372036854775807) (ha : a < 0) (hb : 0 ≤ b) (w : World) :
    Calls Try.prog 31 #[.int .i64 a, .int .i64 b] w fun e w' => e = .returned (.agg #[.int .i64 (a * b / 18446744073709551616), .int .u64 (a * b % 18446744073709551616)]) ∧ Below w.heap.size w w' := by
  have hv := wmul_val a b (a + 18446744073709551616) b a0 a1 b0 b1 1 0 (Or.inr ⟨ha, rfl⟩) (Or.inl ⟨hb, rfl⟩) (by omega) (by omega)
  have HV := Lib.hid hv
  clear hv
  have hua : IntKind.u64.wrap a = (a + 18446744073709551616) := by rw [wrapu]; omega
  have hub : IntKind.u64.wrap b = b := by rw [wrapu]; omega
  have m0 : 0 ≤ (a + 18446744073709551616) := by omega
  have m1 : (a + 18446744073709551616) ≤ 18446744073709551615 := by omega
  have n0 : 0 ≤ b := by omega
  have n1 : b ≤ 18446744073709551615 := by omega
  go_enter Try.func31, Try.ntmps31
  go_wp2_with fail
  refine (mul64 _ _ m0 m1 n0 n1 _).mono ?_
  rintro e w1 ⟨rfl, rfl⟩
  generalize (a + 18446744073709551616) = u at *
  go_wp2_with fail
  exact bodyPost_ret (v := .agg #[.int .i64 (wrap64 (IntKind.u64.wrap (u * b / 18446744073709551616 - b))), .int .u64 (u * b % 18446744073709551616)]) (by simp [results, Try.results31, go_sem]) rfl ⟨ret_agg (Eq.trans (by simp only [wrapu, wrap64]; omega) HV.out.1) HV.out.2, (by repeat (first | exact Below.refl _ _ | refine Below.setCell ?_ (by first | omega | (simp <;> omega)) _ | refine Below.alloc ?_ (by first | omega | (simp <;> omega)) _))⟩
set_option maxHeartbeats 1000000 in
theorem wmul_pn (a b : Int) (a0 : -9223372036854775808 ≤ a) (a1 : a ≤ 9223372036854775807) (b0 : -9223372036854775808 ≤ b) (b1 : b ≤ 9223372036854775807) (ha : 0 ≤ a) (hb : b < 0) (w : World) :
    Calls Try.prog 31 #[.int .i64 a, .int .i64 b] w fun e w' => e = .returned (.agg #[.int .i64 (a * b / 18446744073709551616), .int .u64 (a * b % 18446744073709551616)]) ∧ Below w.heap.size w w' := by
  have hv := wmul_val a b a (b + 18446744073709551616) a0 a1 b0 b1 0 1 (Or.inl ⟨ha, rfl⟩) (Or.inr ⟨hb, rfl⟩) (by omega) (by omega)
  have HV := Lib.hid hv
  clear hv
  have hua : IntKind.u64.wrap a = a := by rw [wrapu]; omega
  have hub : IntKind.u64.wrap b = (b + 18446744073709551616) := by rw [wrapu]; omega
  have m0 : 0 ≤ a := by omega
  have m1 : a ≤ 18446744073709551615 := by omega
  have n0 : 0 ≤ (b + 18446744073709551616) := by omega
  have n1 : (b + 18446744073709551616) ≤ 18446744073709551615 := by omega
  go_enter Try.func31, Try.ntmps31
  go_wp2_with fail
  refine (mul64 _ _ m0 m1 n0 n1 _).mono ?_
  rintro e w1 ⟨rfl, rfl⟩
  generalize (b + 18446744073709551616) = v at *
  go_wp2_with fail
  exact bodyPost_ret (v := .agg #[.int .i64 (wrap64 (IntKind.u64.wrap (a * v / 18446744073709551616 - a))), .int .u64 (a * v % 18446744073709551616)]) (by simp [results, Try.results31, go_sem]) rfl ⟨ret_agg (Eq.trans (by simp only [wrapu, wrap64]; omega) HV.out.1) HV.out.2, (by repeat (first | exact Below.refl _ _ | refine Below.setCell ?_ (by first | omega | (simp <;> omega)) _ | refine Below.alloc ?_ (by first | omega | (simp <;> omega)) _))⟩
set_option maxHeartbeats 1000000 in
theorem wmul_pp (a b : Int) (a0 : -9223372036854775808 ≤ a) (a1 : a ≤ 9223372036854775807) (b0 : -9223372036854775808 ≤ b) (b1 : b ≤ 9223372036854775807) (ha : 0 ≤ a) (hb : 0 ≤ b) (w : World) :
    Calls Try.prog 31 #[.int .i64 a, .int .i64 b] w fun e w' => e = .returned (.agg #[.int .i64 (a * b / 18446744073709551616), .int .u64 (a * b % 18446744073709551616)]) ∧ Below w.heap.size w w' := by
  have hv := wmul_val a b a b a0 a1 b0 b1 0 0 (Or.inl ⟨ha, rfl⟩) (Or.inl ⟨hb, rfl⟩) (by omega) (by omega)
  have HV := Lib.hid hv
  clear hv
  have hua : IntKind.u64.wrap a = a := by rw [wrapu]; omega
  have hub : IntKind.u64.wrap b = b := by rw [wrapu]; omega
  have m0 : 0 ≤ a := by omega
  have m1 : a ≤ 18446744073709551615 := by omega
  have n0 : 0 ≤ b := by omega
  have n1 : b ≤ 18446744073709551615 := by omega
  go_enter Try.func31, Try.ntmps31
  go_wp2_with fail
  refine (mul64 _ _ m0 m1 n0 n1 _).mono ?_
  rintro e w1 ⟨rfl, rfl⟩
  go_wp2_with fail
  exact bodyPost_ret (v := .agg #[.int .i64 (wrap64 (a * b / 18446744073709551616)), .int .u64 (a * b % 18446744073709551616)]) (by simp [results, Try.results31, go_sem]) rfl ⟨ret_agg (Eq.trans (by simp) HV.out.1) rfl, (by repeat (first | exact Below.refl _ _ | refine Below.setCell ?_ (by first | omega | (simp <;> omega)) _ | refine Below.alloc ?_ (by first | omega | (simp <;> omega)) _))⟩
theorem wmul (a b : Int) (a0 : -9223372036854775808 ≤ a) (a1 : a ≤ 9223372036854775807) (b0 : -9223372036854775808 ≤ b) (b1 : b ≤ 9223372036854775807) (w : World) :
    Calls Try.prog 31 #[.int .i64 a, .int .i64 b] w fun e w' => e = .returned (.agg #[.int .i64 (a * b / 18446744073709551616), .int .u64 (a * b % 18446744073709551616)]) ∧ Below w.heap.size w w' := by
  by_cases ha : a < 0 <;> by_cases hb : b < 0
  · exact wmul_nn a b a0 a1 b0 b1 ha hb w
  · exact wmul_np a b a0 a1 b0 b1 ha (by omega) w
  · exact wmul_pn a b a0 a1 b0 b1 (by omega) hb w
  · exact wmul_pp a b a0 a1 b0 b1 (by omega) (by omega) w
end Go.Proofs.Ytjfdlamfklhodaa
