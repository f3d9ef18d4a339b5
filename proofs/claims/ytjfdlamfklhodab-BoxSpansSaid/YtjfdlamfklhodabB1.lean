/- Contracts of layer 4's functions. -/
import Derived.Test.YtjfdlamfklhodabRows
import Derived.Test.YtjfdlamfklhodabF
import Derived.Outline
import Derived.WalkLawsBesides
import Derived.WalkSpells
import Derived.Deep.RegionHeld3
import Derived.Deep.QuietTactic
import Derived.BigQuiet
set_option linter.unusedVariables false
namespace Go.Proofs.Ytjfdlamfklhodab
open Go.ChangeShapes Go.WideShapes Go.ChangeAt Go.RowKit

theorem ret_bool' {a b : Bool} (h : a = b) : Ending.returned (.bool a) = .returned (.bool b) := by rw [h]
theorem ret_int' {k : IntKind} {a b : Int} (h : a = b) : Ending.returned (.int k a) = .returned (.int k b) := by rw [h]
def stB (lo hi x : Int) : Bool := decide (lo ≤ x) && decide (x ≤ hi)
def ovB (l1 h1 l2 h2 : Int) : Bool := decide (l1 ≤ h1) && (decide (l1 ≤ h2) && (decide (l2 ≤ h1) && decide (l2 ≤ h2)))
def inB (x1 x2 y1 y2 x y : Int) : Bool := decide (x1 ≤ x) && (decide (x ≤ x2) && (decide (y1 ≤ y) && decide (y ≤ y2)))
def seB (x1 x2 y1 x y : Int) : Bool := decide (x1 ≤ x) && (decide (x ≤ x2) && decide (y1 ≤ y))
def coB (x : Int) : Bool := decide (-1099511627776 ≤ x) && decide (x ≤ 1099511627776)
theorem stabs (i1 l1 h1 x : Int) (w : World) : Calls Try.prog 32 #[.agg #[.int .i64 i1, .int .i64 l1, .int .i64 h1], .int .i64 x] w fun e w' => e = .returned (.bool (stB l1 h1 x)) ∧ Below w.heap.size w w' := by
  by_cases c1 : l1 ≤ x
  · skip
    by_cases c2 : x ≤ h1
    · skip
      go_enter Try.func32, Try.ntmps32
      go_wp2
      go_ret
      exact ⟨ret_bool' (by simp [stB] <;> omega), (by repeat (first | exact Below.refl _ _ | refine Below.alloc ?_ (by simp) _))⟩
    · skip
      go_enter Try.func32, Try.ntmps32
      go_wp2
      go_ret
      exact ⟨ret_bool' (by simp [stB] <;> omega), (by repeat (first | exact Below.refl _ _ | refine Below.alloc ?_ (by simp) _))⟩
  · skip
    go_enter Try.func32, Try.ntmps32
    go_wp2
    go_ret
    exact ⟨ret_bool' (by simp [stB] <;> omega), (by repeat (first | exact Below.refl _ _ | refine Below.alloc ?_ (by simp) _))⟩
theorem overlap (i1 l1 h1 i2 l2 h2 : Int) (w : World) : Calls Try.prog 33 #[.agg #[.int .i64 i1, .int .i64 l1, .int .i64 h1], .agg #[.int .i64 i2, .int .i64 l2, .int .i64 h2]] w fun e w' => e = .returned (.bool (ovB l1 h1 l2 h2)) ∧ Below w.heap.size w w' := by
  by_cases c1 : l1 < l2 <;> by_cases c2 : h2 < h1
  all_goals
    go_enter Try.func33, Try.ntmps33
    go_wp2
    go_ret
    refine ⟨ret_bool' ?_, (by repeat (first | exact Below.refl _ _ | refine Below.alloc ?_ (by simp) _))⟩
    rw [Bool.eq_iff_iff]
    simp [ovB]
    omega
theorem refoverlap (i1 l1 h1 i2 l2 h2 : Int) (w : World) : Calls Try.prog 34 #[.agg #[.int .i64 i1, .int .i64 l1, .int .i64 h1], .agg #[.int .i64 i2, .int .i64 l2, .int .i64 h2]] w fun e w' => e = .returned (.bool (ovB l1 h1 l2 h2)) ∧ Below w.heap.size w w' := by
  by_cases c1 : l1 < l2 <;> by_cases c2 : h2 < h1
  all_goals
    go_enter Try.func34, Try.ntmps34
    go_wp2_with fail
    go_quiet (fail)
    go_wp2_with fail
    go_ret
    refine ⟨ret_bool' ?_, (by repeat (first | exact Below.refl _ _ | refine Below.drewN ?_ _ | refine below_drewN ?_ _ | refine Below.alloc ?_ (by simp) _))⟩
    rw [Bool.eq_iff_iff]
    simp [ovB]
    omega
theorem has (b1 b2 b3 b4 i x y : Int) (w : World) : Calls Try.prog 23 #[.agg #[.int .i64 b1, .int .i64 b2, .int .i64 b3, .int .i64 b4], .agg #[.int .i64 i, .int .i64 x, .int .i64 y]] w fun e w' => e = .returned (.bool (inB b1 b2 b3 b4 x y)) ∧ Below w.heap.size w w' := by
  by_cases c1 : b1 ≤ x
  · skip
    by_cases c2 : x ≤ b2
    · skip
      by_cases c3 : b3 ≤ y
      · skip
        by_cases c4 : y ≤ b4
        · skip
          go_enter Try.func23, Try.ntmps23
          go_wp2
          go_ret
          exact ⟨ret_bool' (by simp [inB] <;> omega), (by repeat (first | exact Below.refl _ _ | refine Below.alloc ?_ (by simp) _))⟩
        · skip
          go_enter Try.func23, Try.ntmps23
          go_wp2
          go_ret
          exact ⟨ret_bool' (by simp [inB] <;> omega), (by repeat (first | exact Below.refl _ _ | refine Below.alloc ?_ (by simp) _))⟩
      · skip
        go_enter Try.func23, Try.ntmps23
        go_wp2
        go_ret
        exact ⟨ret_bool' (by simp [inB] <;> omega), (by repeat (first | exact Below.refl _ _ | refine Below.alloc ?_ (by simp) _))⟩
    · skip
      go_enter Try.func23, Try.ntmps23
      go_wp2
      go_ret
      exact ⟨ret_bool' (by simp [inB] <;> omega), (by repeat (first | exact Below.refl _ _ | refine Below.alloc ?_ (by simp) _))⟩
  · skip
    go_enter Try.func23, Try.ntmps23
    go_wp2
    go_ret
    exact ⟨ret_bool' (by simp [inB] <;> omega), (by repeat (first | exact Below.refl _ _ | refine Below.alloc ?_ (by simp) _))⟩
theorem refhas (b1 b2 b3 b4 x y : Int) (w : World) : Calls Try.prog 24 #[.agg #[.int .i64 b1, .int .i64 b2, .int .i64 b3, .int .i64 b4], .int .i64 x, .int .i64 y] w fun e w' => e = .returned (.bool (inB b1 b2 b3 b4 x y)) ∧ Below w.heap.size w w' := by
  by_cases c1 : b1 ≤ x
  · skip
    by_cases c2 : x ≤ b2
    · skip
      by_cases c3 : b3 ≤ y
      · skip
        by_cases c4 : y ≤ b4
        · skip
          go_enter Try.func24, Try.ntmps24
          go_wp2
          go_ret
          exact ⟨ret_bool' (by simp [inB] <;> omega), (by repeat (first | exact Below.refl _ _ | refine Below.alloc ?_ (by simp) _))⟩
        · skip
          go_enter Try.func24, Try.ntmps24
          go_wp2
          go_ret
          exact ⟨ret_bool' (by simp [inB] <;> omega), (by repeat (first | exact Below.refl _ _ | refine Below.alloc ?_ (by simp) _))⟩
      · skip
        go_enter Try.func24, Try.ntmps24
        go_wp2
        go_ret
        exact ⟨ret_bool' (by simp [inB] <;> omega), (by repeat (first | exact Below.refl _ _ | refine Below.alloc ?_ (by simp) _))⟩
    · skip
      go_enter Try.func24, Try.ntmps24
      go_wp2
      go_ret
      exact ⟨ret_bool' (by simp [inB] <;> omega), (by repeat (first | exact Below.refl _ _ | refine Below.alloc ?_ (by simp) _))⟩
  · skip
    go_enter Try.func24, Try.ntmps24
    go_wp2
    go_ret
    exact ⟨ret_bool' (by simp [inB] <;> omega), (by repeat (first | exact Below.refl _ _ | refine Below.alloc ?_ (by simp) _))⟩
theorem sees (b1 b2 b3 i x y : Int) (w : World) : Calls Try.prog 25 #[.agg #[.int .i64 b1, .int .i64 b2, .int .i64 b3], .agg #[.int .i64 i, .int .i64 x, .int .i64 y]] w fun e w' => e = .returned (.bool (seB b1 b2 b3 x y)) ∧ Below w.heap.size w w' := by
  by_cases c1 : b1 ≤ x
  · skip
    by_cases c2 : x ≤ b2
    · skip
      by_cases c3 : b3 ≤ y
      · skip
        go_enter Try.func25, Try.ntmps25
        go_wp2
        go_ret
        exact ⟨ret_bool' (by simp [seB] <;> omega), (by repeat (first | exact Below.refl _ _ | refine Below.alloc ?_ (by simp) _))⟩
      · skip
        go_enter Try.func25, Try.ntmps25
        go_wp2
        go_ret
        exact ⟨ret_bool' (by simp [seB] <;> omega), (by repeat (first | exact Below.refl _ _ | refine Below.alloc ?_ (by simp) _))⟩
    · skip
      go_enter Try.func25, Try.ntmps25
      go_wp2
      go_ret
      exact ⟨ret_bool' (by simp [seB] <;> omega), (by repeat (first | exact Below.refl _ _ | refine Below.alloc ?_ (by simp) _))⟩
  · skip
    go_enter Try.func25, Try.ntmps25
    go_wp2
    go_ret
    exact ⟨ret_bool' (by simp [seB] <;> omega), (by repeat (first | exact Below.refl _ _ | refine Below.alloc ?_ (by simp) _))⟩
theorem refsees (b1 b2 b3 x y : Int) (w : World) : Calls Try.prog 26 #[.agg #[.int .i64 b1, .int .i64 b2, .int .i64 b3], .int .i64 x, .int .i64 y] w fun e w' => e = .returned (.bool (seB b1 b2 b3 x y)) ∧ Below w.heap.size w w' := by
  by_cases c1 : b1 ≤ x
  · skip
    by_cases c2 : x ≤ b2
    · skip
      by_cases c3 : b3 ≤ y
      · skip
        go_enter Try.func26, Try.ntmps26
        go_wp2
        go_ret
        exact ⟨ret_bool' (by simp [seB] <;> omega), (by repeat (first | exact Below.refl _ _ | refine Below.alloc ?_ (by simp) _))⟩
      · skip
        go_enter Try.func26, Try.ntmps26
        go_wp2
        go_ret
        exact ⟨ret_bool' (by simp [seB] <;> omega), (by repeat (first | exact Below.refl _ _ | refine Below.alloc ?_ (by simp) _))⟩
    · skip
      go_enter Try.func26, Try.ntmps26
      go_wp2
      go_ret
      exact ⟨ret_bool' (by simp [seB] <;> omega), (by repeat (first | exact Below.refl _ _ | refine Below.alloc ?_ (by simp) _))⟩
  · skip
    go_enter Try.func26, Try.ntmps26
    go_wp2
    go_ret
    exact ⟨ret_bool' (by simp [seB] <;> omega), (by repeat (first | exact Below.refl _ _ | refine Below.alloc ?_ (by simp) _))⟩
theorem numgood (x : Int) (w : World) : Calls Try.prog 48 #[.int .i64 x] w fun e w' => e = .returned (.bool (coB x)) ∧ w = w' := by
  by_cases c1 : -1099511627776 ≤ x
  · skip
    by_cases c2 : x ≤ 1099511627776
    · skip
      go_enter Try.func48, Try.ntmps48
      go_wp2
      go_ret
      exact ⟨ret_bool' (by simp [coB] <;> omega), rfl⟩
    · skip
      go_enter Try.func48, Try.ntmps48
      go_wp2
      go_ret
      exact ⟨ret_bool' (by simp [coB] <;> omega), rfl⟩
  · skip
    go_enter Try.func48, Try.ntmps48
    go_wp2
    go_ret
    exact ⟨ret_bool' (by simp [coB] <;> omega), rfl⟩
theorem coord (x : Int) (w : World) : Calls Try.prog 40 #[.int .i64 x] w fun e w' => e = .returned (.bool (coB x)) ∧ w = w' := by
  by_cases c1 : -1099511627776 ≤ x
  · skip
    by_cases c2 : x ≤ 1099511627776
    · skip
      go_enter Try.func40, Try.ntmps40
      go_wp2
      go_ret
      exact ⟨ret_bool' (by simp [coB] <;> omega), rfl⟩
    · skip
      go_enter Try.func40, Try.ntmps40
      go_wp2
      go_ret
      exact ⟨ret_bool' (by simp [coB] <;> omega), rfl⟩
  · skip
    go_enter Try.func40, Try.ntmps40
    go_wp2
    go_ret
    exact ⟨ret_bool' (by simp [coB] <;> omega), rfl⟩
def emB (b1 b2 b3 b4 : Int) : Bool := decide (b2 < b1) || decide (b4 < b3)
theorem empty (b1 b2 b3 b4 : Int) (w : World) : Calls Try.prog 47 #[.agg #[.int .i64 b1, .int .i64 b2, .int .i64 b3, .int .i64 b4]] w fun e w' => e = .returned (.bool (emB b1 b2 b3 b4)) ∧ Below w.heap.size w w' := by
  by_cases c1 : ¬ b2 < b1
  · skip
    by_cases c2 : b4 < b3
    · skip
      go_enter Try.func47, Try.ntmps47
      go_wp2
      go_ret
      exact ⟨ret_bool' (by simp [emB] <;> omega), (by repeat (first | exact Below.refl _ _ | refine Below.alloc ?_ (by simp) _))⟩
    · skip
      go_enter Try.func47, Try.ntmps47
      go_wp2
      go_ret
      exact ⟨ret_bool' (by simp [emB] <;> omega), (by repeat (first | exact Below.refl _ _ | refine Below.alloc ?_ (by simp) _))⟩
  · skip
    go_enter Try.func47, Try.ntmps47
    go_wp2
    go_ret
    exact ⟨ret_bool' (by simp [emB] <;> omega), (by repeat (first | exact Below.refl _ _ | refine Below.alloc ?_ (by simp) _))⟩
end Go.Proofs.Ytjfdlamfklhodab
