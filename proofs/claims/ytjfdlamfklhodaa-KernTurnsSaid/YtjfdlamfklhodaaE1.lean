/- Contracts of orders: which of two points, or intervals, comes first. -/
import Derived.Test.YtjfdlamfklhodaaD2
set_option linter.unusedVariables false
namespace Go.Proofs.Ytjfdlamfklhodaa
open Go.ChangeShapes Go.WideShapes Go.ChangeAt Go.RowKit
def ltK (x1 y1 i1 x2 y2 i2 : Int) : Bool := decide (x1 < x2) || (decide (x1 = x2) && (decide (y1 < y2) || (decide (y1 = y2) && decide (i1 < i2))))
def c3K (x1 y1 i1 x2 y2 i2 : Int) : Int := if ltK x1 y1 i1 x2 y2 i2 = true then -1 else if ltK x2 y2 i2 x1 y1 i1 = true then 1 else 0
theorem ret_iE {a b : Int} (h : a = b) : Ending.returned (.int .i64 a) = .returned (.int .i64 b) := by rw [h]
set_option maxHeartbeats 2000000 in
theorem pless (i1 x1 y1 i2 x2 y2 : Int) (w : World) : Calls Try.prog 69 #[.agg #[.int .i64 i1, .int .i64 x1, .int .i64 y1], .agg #[.int .i64 i2, .int .i64 x2, .int .i64 y2]] w fun e w' => e = .returned (.bool (ltK x1 y1 i1 x2 y2 i2)) ∧ Below w.heap.size w w' := by
  by_cases c1 : x1 = x2
  · subst c1
    by_cases c2 : y1 = y2
    · subst c2
      go_enter Try.func69, Try.ntmps69
      go_wp2
      go_ret
      exact ⟨ret_boolK (by simp [ltK]), (by repeat (first | exact Below.refl _ _ | assumption | refine Below.drew ?_ | refine Below.setCell ?_ (by first | omega | (simp <;> omega)) _ | refine Below.alloc ?_ (by first | omega | (simp <;> omega)) _))⟩
    · have e2 : (y1 == y2) = false := by simpa using c2
      go_enter Try.func69, Try.ntmps69
      go_wp2
      go_ret
      exact ⟨ret_boolK (by simp [ltK, c2]), (by repeat (first | exact Below.refl _ _ | assumption | refine Below.drew ?_ | refine Below.setCell ?_ (by first | omega | (simp <;> omega)) _ | refine Below.alloc ?_ (by first | omega | (simp <;> omega)) _))⟩
  · have e1 : (x1 == x2) = false := by simpa using c1
    go_enter Try.func69, Try.ntmps69
    go_wp2
    go_ret
    exact ⟨ret_boolK (by simp [ltK, c1]), (by repeat (first | exact Below.refl _ _ | assumption | refine Below.drew ?_ | refine Below.setCell ?_ (by first | omega | (simp <;> omega)) _ | refine Below.alloc ?_ (by first | omega | (simp <;> omega)) _))⟩
set_option maxHeartbeats 2000000 in
theorem sless (i1 x1 y1 i2 x2 y2 : Int) (w : World) : Calls Try.prog 72 #[.agg #[.int .i64 i1, .int .i64 x1, .int .i64 y1], .agg #[.int .i64 i2, .int .i64 x2, .int .i64 y2]] w fun e w' => e = .returned (.bool (ltK x1 y1 i1 x2 y2 i2)) ∧ Below w.heap.size w w' := by
  by_cases c1 : x1 = x2
  · subst c1
    by_cases c2 : y1 = y2
    · subst c2
      go_enter Try.func72, Try.ntmps72
      go_wp2
      go_ret
      exact ⟨ret_boolK (by simp [ltK]), (by repeat (first | exact Below.refl _ _ | assumption | refine Below.drew ?_ | refine Below.setCell ?_ (by first | omega | (simp <;> omega)) _ | refine Below.alloc ?_ (by first | omega | (simp <;> omega)) _))⟩
    · have e2 : (y1 == y2) = false := by simpa using c2
      go_enter Try.func72, Try.ntmps72
      go_wp2
      go_ret
      exact ⟨ret_boolK (by simp [ltK, c2]), (by repeat (first | exact Below.refl _ _ | assumption | refine Below.drew ?_ | refine Below.setCell ?_ (by first | omega | (simp <;> omega)) _ | refine Below.alloc ?_ (by first | omega | (simp <;> omega)) _))⟩
  · have e1 : (x1 == x2) = false := by simpa using c1
    go_enter Try.func72, Try.ntmps72
    go_wp2
    go_ret
    exact ⟨ret_boolK (by simp [ltK, c1]), (by repeat (first | exact Below.refl _ _ | assumption | refine Below.drew ?_ | refine Below.setCell ?_ (by first | omega | (simp <;> omega)) _ | refine Below.alloc ?_ (by first | omega | (simp <;> omega)) _))⟩
theorem turned (i x y : Int) (w : World) : Calls Try.prog 70 #[.agg #[.int .i64 i, .int .i64 x, .int .i64 y]] w fun e w' => e = .returned (.agg #[.int .i64 i, .int .i64 y, .int .i64 x]) ∧ Below w.heap.size w w' := by
  go_enter Try.func70, Try.ntmps70
  go_wp2
  exact bodyPost_ret (v := .agg #[.int .i64 i, .int .i64 y, .int .i64 x]) (by simp [results, Try.results70, go_sem]) rfl ⟨rfl, (by repeat (first | exact Below.refl _ _ | assumption | refine Below.drew ?_ | refine Below.setCell ?_ (by first | omega | (simp <;> omega)) _ | refine Below.alloc ?_ (by first | omega | (simp <;> omega)) _))⟩
theorem flipped (i x y : Int) (w : World) : Calls Try.prog 73 #[.agg #[.int .i64 i, .int .i64 x, .int .i64 y]] w fun e w' => e = .returned (.agg #[.int .i64 i, .int .i64 y, .int .i64 x]) ∧ Below w.heap.size w w' := by
  go_enter Try.func73, Try.ntmps73
  go_wp2
  exact bodyPost_ret (v := .agg #[.int .i64 i, .int .i64 y, .int .i64 x]) (by simp [results, Try.results73, go_sem]) rfl ⟨rfl, (by repeat (first | exact Below.refl _ _ | assumption | refine Below.drew ?_ | refine Below.setCell ?_ (by first | omega | (simp <;> omega)) _ | refine Below.alloc ?_ (by first | omega | (simp <;> omega)) _))⟩
end Go.Proofs.Ytjfdlamfklhodaa
