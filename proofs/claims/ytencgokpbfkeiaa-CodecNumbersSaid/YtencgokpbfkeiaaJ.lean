/- Where a number stands in a list. -/
import Derived.Test.YtencgokpbfkeiaaQ
import Derived.Test.YtencgokpbfkeiaaRows
import Derived.WalkKit
import Derived.Outline
import Derived.Deep.QuietTactic
import Derived.BigQuiet
set_option linter.unusedVariables false
namespace Go.Proofs.Ytencgokpbfkeiaa
open Go.ChangeShapes Go.WideShapes Go.ChangeAt Go.RowKit
/-- where a number stands in a list; -1: nowhere -/
def idx : List Int → Int → Int
  | [], _ => -1
  | a :: l, v => if a = v then 0 else if idx l v < 0 then -1 else idx l v + 1
theorem idx_bd : ∀ (l : List Int) (v : Int), -1 ≤ idx l v ∧ idx l v < l.length
  | [], v => by simp [idx]
  | a :: l, v => by
    have h := idx_bd l v
    simp only [idx, List.length_cons]
    split
    · omega
    · split <;> omega
theorem idx_hit : ∀ (l : List Int) (k : Nat) (v : Int), k < l.length → l.getD k 0 = v → (∀ j, j < k → l.getD j 0 ≠ v) → idx l v = k
  | [], k, v, h, _, _ => by simp at h
  | a :: l, 0, v, _, h, _ => by simp at h; simp [idx, h]
  | a :: l, k + 1, v, hk, h, hn => by
    have h0 := hn 0 (by omega)
    simp only [List.getD_cons_zero] at h0
    have := idx_hit l k v (by simpa using hk) (by simpa using h) (fun j hj => by simpa using hn (j + 1) (by omega))
    simp only [idx, if_neg h0, this]
    rw [if_neg (by omega)]; omega
theorem idx_miss : ∀ (l : List Int) (v : Int), (∀ j, j < l.length → l.getD j 0 ≠ v) → idx l v = -1
  | [], v, _ => rfl
  | a :: l, v, hn => by
    have h0 := hn 0 (by simp)
    simp only [List.getD_cons_zero] at h0
    have := idx_miss l v (fun j hj => by simpa using hn (j + 1) (by simpa using hj))
    simp [idx, h0, this]
theorem idx_at : ∀ (l : List Int) (v : Int), 0 ≤ idx l v → l.getD (idx l v).toNat 0 = v
  | [], v, h => by simp [idx] at h
  | a :: l, v, h => by
    simp only [idx] at h ⊢
    split
    · rename_i e; simpa using e
    · rename_i e
      rw [if_neg e] at h
      split
      · rename_i q; rw [if_pos q] at h; omega
      · rename_i q
        have := idx_at l v (by omega)
        rw [show (idx l v + 1).toNat = (idx l v).toNat + 1 by omega, List.getD_cons_succ, this]
theorem idx_first : ∀ (l : List Int) (v : Int) (j : Nat), l.getD j 0 = v → j < l.length → 0 ≤ idx l v ∧ idx l v ≤ j
  | [], v, j, _, h => by simp at h
  | a :: l, v, 0, h, _ => by simp at h; simp [idx, h]
  | a :: l, v, j + 1, h, hj => by
    have := idx_first l v j (by simpa using h) (by simpa using hj)
    simp only [idx]
    split
    · omega
    · split <;> omega
set_option maxHeartbeats 1000000 in
theorem index_any (A : Option Addr) (n c B : Nat) (zs : List Int) (v : Int) (w : World) (hr : Reads w B 1 A n (iv zs)) (hn : n ≤ maxLen) :
    Calls Try.prog 108 #[.slice A n c, .int .i64 v] w fun e w' => e = .returned (.int .i64 (idx zs v)) ∧ w = w' := by
  have hl := hr.len
  unfold maxLen at hn
  have HR := Lib.hid hr
  clear hr
  go_enter Try.func108, Try.ntmps108
  go_wp2_with fail
  go_loop [5, 8] (fun _ i => ∃ k : Nat, k ≤ n ∧ i = .int .i64 k ∧ Hid (∀ j, j < k → zs.getD j 0 ≠ v)) (fun _ i => n - (intOf i).toNat)
  case atStart => exact ⟨0, by omega, rfl, Lib.hid (fun j hj => by omega)⟩
  case round =>
    obtain ⟨k, hk, rfl, hno⟩ := hrel
    by_cases hlt : k < n
    · obtain ⟨b, off, rfl, hbB, q0⟩ := reads_cell HR.out hlt
      generalize hz : zs.getD k 0 = z at *
      have HZ := Lib.hid hz
      clear hz
      by_cases hv : v = z
      · subst hv
        go_wp2_with fail
        go_ret
        exact ⟨by rw [idx_hit zs k v (by omega) HZ.out hno.out]; rfl, rfl⟩
      · have hv' : (v == z) = false := by simpa using hv
        have HV := Lib.hid hv
        clear hv
        go_wp2_with fail
        go_round
        case rel => exact ⟨k + 1, by omega, by go_num, Lib.hid (fun j hj => by
          rcases Nat.lt_or_ge j k with h | h
          · exact hno.out j h
          · rw [show j = k by omega, HZ.out]; exact fun h => HV.out h.symm)⟩
        case measure => simp [intOf]; omega
    · obtain rfl : k = n := by omega
      go_wp2_with fail
      go_ret
      exact ⟨by rw [idx_miss zs v (fun j hj => hno.out j (by omega))]; rfl, rfl⟩
end Go.Proofs.Ytencgokpbfkeiaa
