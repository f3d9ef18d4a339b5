/- Contracts of sums and differences of 128 bits. -/
import Derived.Test.YtjfdlamfklhodaaC2
import Derived.Laws.Externs
set_option linter.unusedVariables false
namespace Go.Proofs.Ytjfdlamfklhodaa
open Go.ChangeShapes Go.WideShapes Go.ChangeAt Go.RowKit
theorem call_add64 (x y c : Int) (hx : 0 ≤ x) (hy : 0 ≤ y) (hc0 : 0 ≤ c) (hc : c ≤ 1) (W : World) :
    (callFunc 61 #[.int .u64 x, .int .u64 y, .int .u64 c]).run Try.prog W = .ok (.value (.tuple #[.int .u64 ((x + y + c) % 18446744073709551616), .int .u64 ((x + y + c) / 18446744073709551616)])) W := by
  rw [run_callFunc_extern Try.func61 (by kernel_rfl) (by kernel_rfl) (by kernel_rfl) (e := add64Entry) (by kernel_rfl), run_add64 x y c hx hy hc0 hc]
  rfl
/- the model's entry for the difference -/
def subE : Array Value → Sem Value := fun args => do
  let (x, y, b) ← Extern.MathBitsCarry.three "Sub64" args
  pure (Extern.MathBitsCarry.pair ((x + Extern.MathBitsCarry.m64 - y - b) % Extern.MathBitsCarry.m64) (if x < y + b then 1 else 0))
theorem run_subE {P : Program} (x y b : Nat) (hb : b ≤ 1) (w : World) :
    (subE #[.int .u64 x, .int .u64 y, .int .u64 b]).run P w = .ok (.tuple #[.int .u64 (((x + 18446744073709551616 - y - b) % 18446744073709551616 : Nat) : Int), .int .u64 ((if x < y + b then 1 else 0 : Nat) : Int)]) w := by
  have : b = 0 ∨ b = 1 := by omega
  rcases this with rfl | rfl <;> rfl
theorem call_sub64 (x y b d k : Int) (hx : 0 ≤ x) (hx1 : x < 18446744073709551616) (hy : 0 ≤ y) (hy1 : y < 18446744073709551616) (hb0 : 0 ≤ b) (hb : b ≤ 1) (hk : (x < y + b ∧ k = 1 ∧ d = x - y - b + 18446744073709551616) ∨ (y + b ≤ x ∧ k = 0 ∧ d = x - y - b)) (W : World) :
    (callFunc 62 #[.int .u64 x, .int .u64 y, .int .u64 b]).run Try.prog W = .ok (.value (.tuple #[.int .u64 d, .int .u64 k])) W := by
  obtain ⟨x, rfl⟩ := Int.eq_ofNat_of_zero_le hx
  obtain ⟨y, rfl⟩ := Int.eq_ofNat_of_zero_le hy
  obtain ⟨b, rfl⟩ := Int.eq_ofNat_of_zero_le hb0
  have h1 : (((x + 18446744073709551616 - y - b) % 18446744073709551616 : Nat) : Int) = d := by omega
  have h2 : ((if x < y + b then 1 else 0 : Nat) : Int) = k := by split <;> omega
  rw [run_callFunc_extern Try.func62 (by kernel_rfl) (by kernel_rfl) (by kernel_rfl) (e := subE) (by kernel_rfl), run_subE x y b (by omega), h1, h2]
  rfl
set_option maxHeartbeats 2000000 in
theorem wadd_yes (h1 l1 h2 l2 c L H : Int) (a0 : -9223372036854775808 ≤ h1) (a1 : h1 ≤ 9223372036854775807) (b0 : -9223372036854775808 ≤ h2) (b1 : h2 ≤ 9223372036854775807) (c0 : 0 ≤ l1) (c1 : l1 < 18446744073709551616) (d0 : 0 ≤ l2) (d1 : l2 < 18446744073709551616) (g0 : 0 ≤ c) (g1 : c ≤ 1) (L0 : 0 ≤ L) (L1 : L < 18446744073709551616) (hL : l1 + l2 = 18446744073709551616 * c + L) (hH : h1 + h2 + c = H)
    (hR : (-9223372036854775808 ≤ H ∧ H ≤ 9223372036854775807)) (w : World) :
    Calls Try.prog 34 #[.agg #[.int .i64 h1, .int .u64 l1], .agg #[.int .i64 h2, .int .u64 l2]] w fun e w' => e = .returned (.tuple #[.agg #[.int .i64 H, .int .u64 L], .bool true]) ∧ Below w.heap.size w w' := by
  obtain ⟨u1, hu1⟩ : ∃ u, IntKind.u64.wrap h1 = u := ⟨_, rfl⟩
  obtain ⟨u2, hu2⟩ : ∃ u, IntKind.u64.wrap h2 = u := ⟨_, rfl⟩
  have q1 : u1 = h1 % 18446744073709551616 := by rw [← hu1, wrapu]
  have q2 : u2 = h2 % 18446744073709551616 := by rw [← hu2, wrapu]
  have E1 : ∀ W : World, (callFunc 61 #[.int .u64 l1, .int .u64 l2, .int .u64 0]).run Try.prog W = .ok (.value (.tuple #[.int .u64 L, .int .u64 c])) W := fun W => by
    rw [call_add64 l1 l2 0 (by omega) (by omega) (by omega) (by omega) W]
    have e1 : (l1 + l2 + 0) % 18446744073709551616 = L := by omega
    have e2 : (l1 + l2 + 0) / 18446744073709551616 = c := by omega
    rw [e1, e2]
  obtain ⟨S, hS⟩ : ∃ S, S = (u1 + u2 + c) % 18446744073709551616 := ⟨_, rfl⟩
  obtain ⟨k, hk⟩ : ∃ k, k = (u1 + u2 + c) / 18446744073709551616 := ⟨_, rfl⟩
  have E2 : ∀ W : World, (callFunc 61 #[.int .u64 u1, .int .u64 u2, .int .u64 c]).run Try.prog W = .ok (.value (.tuple #[.int .u64 S, .int .u64 k])) W := fun W => by
    rw [call_add64 u1 u2 c (by omega) (by omega) (by omega) (by omega) W, hS, hk]
  obtain ⟨T, hT⟩ : ∃ T, wrap64 S = T := ⟨_, rfl⟩
  have qT : T = (h1 + h2 + c + 9223372036854775808) % 18446744073709551616 - 9223372036854775808 := by rw [← hT, wrap64]; omega
  clear hk hS
  obtain rfl : T = H := by omega
  cases t1 : decide (h1 < 0) <;> cases t2 : decide (h2 < 0) <;> cases t3 : decide (T < 0) <;> try (exfalso; simp at t1 t2 t3; omega)
  all_goals
    clear hL hH hR qT q1 q2
    go_enter Try.func34, Try.ntmps34
    go_wp2
    exact bodyPost_ret (v := .tuple #[.agg #[.int .i64 T, .int .u64 L], .bool true]) (by simp [results, Try.results34, go_sem]) rfl ⟨rfl, (by repeat (first | exact Below.refl _ _ | refine Below.setCell ?_ (by first | omega | (simp <;> omega)) _ | refine Below.alloc ?_ (by first | omega | (simp <;> omega)) _))⟩
set_option maxHeartbeats 2000000 in
theorem wadd_no (h1 l1 h2 l2 c L H : Int) (a0 : -9223372036854775808 ≤ h1) (a1 : h1 ≤ 9223372036854775807) (b0 : -9223372036854775808 ≤ h2) (b1 : h2 ≤ 9223372036854775807) (c0 : 0 ≤ l1) (c1 : l1 < 18446744073709551616) (d0 : 0 ≤ l2) (d1 : l2 < 18446744073709551616) (g0 : 0 ≤ c) (g1 : c ≤ 1) (L0 : 0 ≤ L) (L1 : L < 18446744073709551616) (hL : l1 + l2 = 18446744073709551616 * c + L) (hH : h1 + h2 + c = H)
    (hR : ¬ (-9223372036854775808 ≤ H ∧ H ≤ 9223372036854775807)) (w : World) :
    Calls Try.prog 34 #[.agg #[.int .i64 h1, .int .u64 l1], .agg #[.int .i64 h2, .int .u64 l2]] w fun e w' => e = .returned (.tuple #[.agg #[.int .i64 0, .int .u64 0], .bool false]) ∧ Below w.heap.size w w' := by
  obtain ⟨u1, hu1⟩ : ∃ u, IntKind.u64.wrap h1 = u := ⟨_, rfl⟩
  obtain ⟨u2, hu2⟩ : ∃ u, IntKind.u64.wrap h2 = u := ⟨_, rfl⟩
  have q1 : u1 = h1 % 18446744073709551616 := by rw [← hu1, wrapu]
  have q2 : u2 = h2 % 18446744073709551616 := by rw [← hu2, wrapu]
  have E1 : ∀ W : World, (callFunc 61 #[.int .u64 l1, .int .u64 l2, .int .u64 0]).run Try.prog W = .ok (.value (.tuple #[.int .u64 L, .int .u64 c])) W := fun W => by
    rw [call_add64 l1 l2 0 (by omega) (by omega) (by omega) (by omega) W]
    have e1 : (l1 + l2 + 0) % 18446744073709551616 = L := by omega
    have e2 : (l1 + l2 + 0) / 18446744073709551616 = c := by omega
    rw [e1, e2]
  obtain ⟨S, hS⟩ : ∃ S, S = (u1 + u2 + c) % 18446744073709551616 := ⟨_, rfl⟩
  obtain ⟨k, hk⟩ : ∃ k, k = (u1 + u2 + c) / 18446744073709551616 := ⟨_, rfl⟩
  have E2 : ∀ W : World, (callFunc 61 #[.int .u64 u1, .int .u64 u2, .int .u64 c]).run Try.prog W = .ok (.value (.tuple #[.int .u64 S, .int .u64 k])) W := fun W => by
    rw [call_add64 u1 u2 c (by omega) (by omega) (by omega) (by omega) W, hS, hk]
  obtain ⟨T, hT⟩ : ∃ T, wrap64 S = T := ⟨_, rfl⟩
  have qT : T = (h1 + h2 + c + 9223372036854775808) % 18446744073709551616 - 9223372036854775808 := by rw [← hT, wrap64]; omega
  clear hk hS
  cases t1 : decide (h1 < 0) <;> cases t2 : decide (h2 < 0) <;> cases t3 : decide (T < 0) <;> try (exfalso; simp at t1 t2 t3; omega)
  all_goals
    clear hL hH hR qT q1 q2
    go_enter Try.func34, Try.ntmps34
    go_wp2
    exact bodyPost_ret (v := .tuple #[.agg #[.int .i64 0, .int .u64 0], .bool false]) (by simp [results, Try.results34, go_sem]) rfl ⟨rfl, (by repeat (first | exact Below.refl _ _ | refine Below.setCell ?_ (by first | omega | (simp <;> omega)) _ | refine Below.alloc ?_ (by first | omega | (simp <;> omega)) _))⟩
set_option maxHeartbeats 2000000 in
theorem wsub_yes (h1 l1 h2 l2 c L H : Int) (a0 : -9223372036854775808 ≤ h1) (a1 : h1 ≤ 9223372036854775807) (b0 : -9223372036854775808 ≤ h2) (b1 : h2 ≤ 9223372036854775807) (c0 : 0 ≤ l1) (c1 : l1 < 18446744073709551616) (d0 : 0 ≤ l2) (d1 : l2 < 18446744073709551616) (g0 : 0 ≤ c) (g1 : c ≤ 1) (L0 : 0 ≤ L) (L1 : L < 18446744073709551616) (hL : l1 - l2 = -18446744073709551616 * c + L) (hH : h1 - h2 - c = H)
    (hR : (-9223372036854775808 ≤ H ∧ H ≤ 9223372036854775807)) (w : World) :
    Calls Try.prog 35 #[.agg #[.int .i64 h1, .int .u64 l1], .agg #[.int .i64 h2, .int .u64 l2]] w fun e w' => e = .returned (.tuple #[.agg #[.int .i64 H, .int .u64 L], .bool true]) ∧ Below w.heap.size w w' := by
  obtain ⟨u1, hu1⟩ : ∃ u, IntKind.u64.wrap h1 = u := ⟨_, rfl⟩
  obtain ⟨u2, hu2⟩ : ∃ u, IntKind.u64.wrap h2 = u := ⟨_, rfl⟩
  have q1 : u1 = h1 % 18446744073709551616 := by rw [← hu1, wrapu]
  have q2 : u2 = h2 % 18446744073709551616 := by rw [← hu2, wrapu]
  have E1 : ∀ W : World, (callFunc 62 #[.int .u64 l1, .int .u64 l2, .int .u64 0]).run Try.prog W = .ok (.value (.tuple #[.int .u64 L, .int .u64 c])) W := fun W =>
    call_sub64 l1 l2 0 L c (by omega) (by omega) (by omega) (by omega) (by omega) (by omega) (by omega) W
  obtain ⟨S, hS⟩ : ∃ S, S = (u1 - u2 - c) % 18446744073709551616 := ⟨_, rfl⟩
  obtain ⟨k, hk⟩ : ∃ k, k = (if u1 < u2 + c then 1 else 0 : Int) := ⟨_, rfl⟩
  have E2 : ∀ W : World, (callFunc 62 #[.int .u64 u1, .int .u64 u2, .int .u64 c]).run Try.prog W = .ok (.value (.tuple #[.int .u64 S, .int .u64 k])) W := fun W =>
    call_sub64 u1 u2 c S k (by omega) (by omega) (by omega) (by omega) (by omega) (by omega) (by by_cases h : u1 < u2 + c <;> simp [h] at hk <;> omega) W
  obtain ⟨T, hT⟩ : ∃ T, wrap64 S = T := ⟨_, rfl⟩
  have qT : T = (h1 - h2 - c + 9223372036854775808) % 18446744073709551616 - 9223372036854775808 := by rw [← hT, wrap64]; omega
  clear hk hS
  obtain rfl : T = H := by omega
  cases t1 : decide (h1 < 0) <;> cases t2 : decide (h2 < 0) <;> cases t3 : decide (T < 0) <;> try (exfalso; simp at t1 t2 t3; omega)
  all_goals
    clear hL hH hR qT q1 q2
    go_enter Try.func35, Try.ntmps35
    go_wp2
    exact bodyPost_ret (v := .tuple #[.agg #[.int .i64 T, .int .u64 L], .bool true]) (by simp [results, Try.results35, go_sem]) rfl ⟨rfl, (by repeat (first | exact Below.refl _ _ | refine Below.setCell ?_ (by first | omega | (simp <;> omega)) _ | refine Below.alloc ?_ (by first | omega | (simp <;> omega)) _))⟩
set_option maxHeartbeats 2000000 in
theorem wsub_no (h1 l1 h2 l2 c L H : Int) (a0 : -9223372036854775808 ≤ h1) (a1 : h1 ≤ 9223372036854775807) (b0 : -9223372036854775808 ≤ h2) (b1 : h2 ≤ 9223372036854775807) (c0 : 0 ≤ l1) (c1 : l1 < 18446744073709551616) (d0 : 0 ≤ l2) (d1 : l2 < 18446744073709551616) (g0 : 0 ≤ c) (g1 : c ≤ 1) (L0 : 0 ≤ L) (L1 : L < 18446744073709551616) (hL : l1 - l2 = -18446744073709551616 * c + L) (hH : h1 - h2 - c = H)
    (hR : ¬ (-9223372036854775808 ≤ H ∧ H ≤ 9223372036854775807)) (w : World) :
    Calls Try.prog 35 #[.agg #[.int .i64 h1, .int .u64 l1], .agg #[.int .i64 h2, .int .u64 l2]] w fun e w' => e = .returned (.tuple #[.agg #[.int .i64 0, .int .u64 0], .bool false]) ∧ Below w.heap.size w w' := by
  obtain ⟨u1, hu1⟩ : ∃ u, IntKind.u64.wrap h1 = u := ⟨_, rfl⟩
  obtain ⟨u2, hu2⟩ : ∃ u, IntKind.u64.wrap h2 = u := ⟨_, rfl⟩
  have q1 : u1 = h1 % 18446744073709551616 := by rw [← hu1, wrapu]
  have q2 : u2 = h2 % 18446744073709551616 := by rw [← hu2, wrapu]
  have E1 : ∀ W : World, (callFunc 62 #[.int .u64 l1, .int .u64 l2, .int .u64 0]).run Try.prog W = .ok (.value (.tuple #[.int .u64 L, .int .u64 c])) W := fun W =>
    call_sub64 l1 l2 0 L c (by omega) (by omega) (by omega) (by omega) (by omega) (by omega) (by omega) W
  obtain ⟨S, hS⟩ : ∃ S, S = (u1 - u2 - c) % 18446744073709551616 := ⟨_, rfl⟩
  obtain ⟨k, hk⟩ : ∃ k, k = (if u1 < u2 + c then 1 else 0 : Int) := ⟨_, rfl⟩
  have E2 : ∀ W : World, (callFunc 62 #[.int .u64 u1, .int .u64 u2, .int .u64 c]).run Try.prog W = .ok (.value (.tuple #[.int .u64 S, .int .u64 k])) W := fun W =>
    call_sub64 u1 u2 c S k (by omega) (by omega) (by omega) (by omega) (by omega) (by omega) (by by_cases h : u1 < u2 + c <;> simp [h] at hk <;> omega) W
  obtain ⟨T, hT⟩ : ∃ T, wrap64 S = T := ⟨_, rfl⟩
  have qT : T = (h1 - h2 - c + 9223372036854775808) % 18446744073709551616 - 9223372036854775808 := by rw [← hT, wrap64]; omega
  clear hk hS
  cases t1 : decide (h1 < 0) <;> cases t2 : decide (h2 < 0) <;> cases t3 : decide (T < 0) <;> try (exfalso; simp at t1 t2 t3; omega)
  all_goals
    clear hL hH hR qT q1 q2
    go_enter Try.func35, Try.ntmps35
    go_wp2
    exact bodyPost_ret (v := .tuple #[.agg #[.int .i64 0, .int .u64 0], .bool false]) (by simp [results, Try.results35, go_sem]) rfl ⟨rfl, (by repeat (first | exact Below.refl _ _ | refine Below.setCell ?_ (by first | omega | (simp <;> omega)) _ | refine Below.alloc ?_ (by first | omega | (simp <;> omega)) _))⟩
end Go.Proofs.Ytjfdlamfklhodaa
