/- Sums of lists. -/
import Derived.Test.YtjfdlamfklhodaaA2
import Derived.Test.YtjfdlamfklhodaaW
import Derived.Test.YtjfdlamfklhodaaF
set_option linter.unusedVariables false
namespace Go.Proofs.Ytjfdlamfklhodaa
open Go.ChangeShapes Go.WideShapes Go.ChangeAt Go.RowKit

def sumGo : Int → List Int → Option Int
  | s, [] => some s
  | s, z :: zs => if inR (s + z) = true then sumGo (s + z) zs else none
theorem sumGo_step (s : Int) (zs : List Int) (k : Nat) (hk : k < zs.length) : sumGo s (zs.drop k) = if inR (s + zs.getD k 0) = true then sumGo (s + zs.getD k 0) (zs.drop (k + 1)) else none := by
  rw [drop_cons zs k hk]; rfl
theorem ret_none {o : Option Int} (h : o = none) : Ending.returned (.tuple #[.int .i64 0, .bool false]) = Ending.returned (.tuple #[.int .i64 (o.getD 0), .bool o.isSome]) := by subst h; rfl
theorem ret_some {o : Option Int} {n : Int} (h : o = some n) : Ending.returned (.tuple #[.int .i64 n, .bool true]) = Ending.returned (.tuple #[.int .i64 (o.getD 0), .bool o.isSome]) := by subst h; rfl

set_option maxHeartbeats 400000 in
theorem sum_any (A : Option Addr) (n c B : Nat) (zs : List Int) (hn : n ≤ 1000) (w : World) (hr : Reads w B 1 A n (iv zs)) (hz : okAll zs) :
    Calls Try.prog 23 #[.slice A n c] w fun e w' => e = .returned (.tuple #[.int .i64 ((sumGo 0 zs).getD 0), .bool (sumGo 0 zs).isSome]) ∧ w = w' := by
  have hl : zs.length = n := by have := hr.1; simpa [iv] using this
  have HL := Lib.hid hl
  clear hl
  go_enter Try.func23, Try.ntmps23
  go_wp2
  go_loop [4, 11] (fun s i => ∃ (k : Nat) (sv : Int), k ≤ n ∧ i = .int .i64 k ∧ s = .int .i64 sv ∧ -9223372036854775808 ≤ sv ∧ sv ≤ 9223372036854775807 ∧ Hid (sumGo 0 zs = sumGo sv (zs.drop k))) (fun _ i => n - (intOf i).toNat)
  case atStart => exact ⟨0, 0, Nat.zero_le _, rfl, rfl, by omega, by omega, rfl⟩
  case round =>
    obtain ⟨k, sv, hk, rfl, rfl, s0, s1, HS⟩ := hrel
    by_cases hlt : k < n
    · obtain ⟨b, off, rfl, hb, hc⟩ := reads_cell hr hlt
      obtain ⟨z0, z1⟩ := okAll_get hz k (by rw [HL.out]; exact hlt)
      have hst := sumGo_step sv zs k (by rw [HL.out]; exact hlt)
      have HT : Hid (sumGo sv (zs.drop k) = if inR (sv + zs.getD k 0) = true then sumGo (sv + zs.getD k 0) (zs.drop (k + 1)) else none) := hst
      clear hst
      generalize zs.getD k 0 = z at *
      by_cases hi : -9223372036854775808 ≤ sv + z ∧ sv + z ≤ 9223372036854775807
      · obtain ⟨i1, i2⟩ := inR_of hi.1 hi.2
        obtain ⟨hi1, hi2⟩ := hi
        go_wp2_with (go_at_call 15; refine (add_any _ _ s0 s1 z0 z1 _).mono ?_; rintro e w' ⟨rfl, rfl⟩)
        go_round
        case rel => exact ⟨k + 1, sv + z, by omega, by go_num, rfl, by omega, by omega, HS.out.trans (HT.out.trans (if_pos i1))⟩
        case measure => simp [intOf]; omega
      · obtain ⟨i1, i2⟩ := inR_not hi
        go_wp2_with (go_at_call 15; refine (add_any _ _ s0 s1 z0 z1 _).mono ?_; rintro e w' ⟨rfl, rfl⟩)
        go_ret2
        exact ⟨ret_none (by rw [HS.out, HT.out, if_neg (by rw [i1]; simp)]), rfl⟩
    · go_wp2
      go_ret2
      exact ⟨ret_some (by rw [HS.out, List.drop_of_length_le (by rw [HL.out]; omega)]; rfl), rfl⟩
end Go.Proofs.Ytjfdlamfklhodaa
