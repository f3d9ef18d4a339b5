/- The order of digits. -/
import Derived.Test.YtjfdlamfklhodaaE2
import Derived.Outline
set_option linter.unusedVariables false
namespace Go.Proofs.Ytjfdlamfklhodaa
open Go.ChangeShapes Go.WideShapes Go.ChangeAt Go.RowKit
def c8D (a0 a1 a2 a3 a4 a5 a6 a7 b0 b1 b2 b3 b4 b5 b6 b7 : Int) : Int := if a7 < b7 then -1 else if b7 < a7 then 1 else if a6 < b6 then -1 else if b6 < a6 then 1 else if a5 < b5 then -1 else if b5 < a5 then 1 else if a4 < b4 then -1 else if b4 < a4 then 1 else if a3 < b3 then -1 else if b3 < a3 then 1 else if a2 < b2 then -1 else if b2 < a2 then 1 else if a1 < b1 then -1 else if b1 < a1 then 1 else if a0 < b0 then -1 else if b0 < a0 then 1 else 0
set_option maxHeartbeats 1000000 in
theorem dcmp_l (a0 a1 a2 a3 a4 a5 a6 a7 a8 b0 b1 b2 b3 b4 b5 b6 b7 b8 : Int) (hx : (a8 == 65535) = true) (hy : (b8 == 65535) = false) (w : World) : Calls Try.prog 41 #[.agg #[.int .u64 a0, .int .u64 a1, .int .u64 a2, .int .u64 a3, .int .u64 a4, .int .u64 a5, .int .u64 a6, .int .u64 a7, .int .u64 a8], .agg #[.int .u64 b0, .int .u64 b1, .int .u64 b2, .int .u64 b3, .int .u64 b4, .int .u64 b5, .int .u64 b6, .int .u64 b7, .int .u64 b8]] w fun e w' => e = .returned (.int .i64 (-1)) ∧ Below w.heap.size w w' := by
  go_enter Try.func41, Try.ntmps41
  go_wp2_with fail
  go_quiet (fail)
  go_wp2_with fail
  go_ret
  exact ⟨rfl, (by repeat (first | exact Below.refl _ _ | assumption | refine below_drewN ?_ _ | refine Below.drew ?_ | refine Below.alloc ?_ (by first | omega | (simp <;> omega)) _))⟩
set_option maxHeartbeats 1000000 in
theorem dcmp_g (a0 a1 a2 a3 a4 a5 a6 a7 a8 b0 b1 b2 b3 b4 b5 b6 b7 b8 : Int) (hx : (a8 == 65535) = false) (hy : (b8 == 65535) = true) (w : World) : Calls Try.prog 41 #[.agg #[.int .u64 a0, .int .u64 a1, .int .u64 a2, .int .u64 a3, .int .u64 a4, .int .u64 a5, .int .u64 a6, .int .u64 a7, .int .u64 a8], .agg #[.int .u64 b0, .int .u64 b1, .int .u64 b2, .int .u64 b3, .int .u64 b4, .int .u64 b5, .int .u64 b6, .int .u64 b7, .int .u64 b8]] w fun e w' => e = .returned (.int .i64 1) ∧ Below w.heap.size w w' := by
  go_enter Try.func41, Try.ntmps41
  go_wp2_with fail
  go_quiet (fail)
  go_wp2_with fail
  go_ret
  exact ⟨rfl, (by repeat (first | exact Below.refl _ _ | assumption | refine below_drewN ?_ _ | refine Below.drew ?_ | refine Below.alloc ?_ (by first | omega | (simp <;> omega)) _))⟩
set_option maxHeartbeats 8000000 in
theorem dcmp_e (x : Bool) (a0 a1 a2 a3 a4 a5 a6 a7 a8 b0 b1 b2 b3 b4 b5 b6 b7 b8 : Int) (hx : (a8 == 65535) = x) (hy : (b8 == 65535) = x) (w : World) : Calls Try.prog 41 #[.agg #[.int .u64 a0, .int .u64 a1, .int .u64 a2, .int .u64 a3, .int .u64 a4, .int .u64 a5, .int .u64 a6, .int .u64 a7, .int .u64 a8], .agg #[.int .u64 b0, .int .u64 b1, .int .u64 b2, .int .u64 b3, .int .u64 b4, .int .u64 b5, .int .u64 b6, .int .u64 b7, .int .u64 b8]] w fun e w' => e = .returned (.int .i64 (c8D a0 a1 a2 a3 a4 a5 a6 a7 b0 b1 b2 b3 b4 b5 b6 b7)) ∧ Below w.heap.size w w' := by
  go_enter Try.func41, Try.ntmps41
  go_wp2_with fail
  go_quiet (fail)
  go_wp2_with fail
  go_loopg [7] 8 (fun g i wr => ((g = 8 ∧ i = .int .i64 7) ∨ (g = 7 ∧ i = .int .i64 6 ∧ Hid (a7 = b7)) ∨ (g = 6 ∧ i = .int .i64 5 ∧ Hid (a7 = b7) ∧ Hid (a6 = b6)) ∨ (g = 5 ∧ i = .int .i64 4 ∧ Hid (a7 = b7) ∧ Hid (a6 = b6) ∧ Hid (a5 = b5)) ∨ (g = 4 ∧ i = .int .i64 3 ∧ Hid (a7 = b7) ∧ Hid (a6 = b6) ∧ Hid (a5 = b5) ∧ Hid (a4 = b4)) ∨ (g = 3 ∧ i = .int .i64 2 ∧ Hid (a7 = b7) ∧ Hid (a6 = b6) ∧ Hid (a5 = b5) ∧ Hid (a4 = b4) ∧ Hid (a3 = b3)) ∨ (g = 2 ∧ i = .int .i64 1 ∧ Hid (a7 = b7) ∧ Hid (a6 = b6) ∧ Hid (a5 = b5) ∧ Hid (a4 = b4) ∧ Hid (a3 = b3) ∧ Hid (a2 = b2)) ∨ (g = 1 ∧ i = .int .i64 0 ∧ Hid (a7 = b7) ∧ Hid (a6 = b6) ∧ Hid (a5 = b5) ∧ Hid (a4 = b4) ∧ Hid (a3 = b3) ∧ Hid (a2 = b2) ∧ Hid (a1 = b1)) ∨ (g = 0 ∧ i = .int .i64 (-1) ∧ Hid (a7 = b7) ∧ Hid (a6 = b6) ∧ Hid (a5 = b5) ∧ Hid (a4 = b4) ∧ Hid (a3 = b3) ∧ Hid (a2 = b2) ∧ Hid (a1 = b1) ∧ Hid (a0 = b0))) ∧ Below w.heap.size w wr ∧ wr.cell? ⟨w.heap.size, 0, none⟩ = some (.int .u64 a0) ∧ wr.cell? ⟨w.heap.size, 1, none⟩ = some (.int .u64 a1) ∧ wr.cell? ⟨w.heap.size, 2, none⟩ = some (.int .u64 a2) ∧ wr.cell? ⟨w.heap.size, 3, none⟩ = some (.int .u64 a3) ∧ wr.cell? ⟨w.heap.size, 4, none⟩ = some (.int .u64 a4) ∧ wr.cell? ⟨w.heap.size, 5, none⟩ = some (.int .u64 a5) ∧ wr.cell? ⟨w.heap.size, 6, none⟩ = some (.int .u64 a6) ∧ wr.cell? ⟨w.heap.size, 7, none⟩ = some (.int .u64 a7) ∧ wr.cell? ⟨w.heap.size, 8, none⟩ = some (.int .u64 a8) ∧ wr.cell? ⟨w.heap.size + 1, 0, none⟩ = some (.int .u64 b0) ∧ wr.cell? ⟨w.heap.size + 1, 1, none⟩ = some (.int .u64 b1) ∧ wr.cell? ⟨w.heap.size + 1, 2, none⟩ = some (.int .u64 b2) ∧ wr.cell? ⟨w.heap.size + 1, 3, none⟩ = some (.int .u64 b3) ∧ wr.cell? ⟨w.heap.size + 1, 4, none⟩ = some (.int .u64 b4) ∧ wr.cell? ⟨w.heap.size + 1, 5, none⟩ = some (.int .u64 b5) ∧ wr.cell? ⟨w.heap.size + 1, 6, none⟩ = some (.int .u64 b6) ∧ wr.cell? ⟨w.heap.size + 1, 7, none⟩ = some (.int .u64 b7) ∧ wr.cell? ⟨w.heap.size + 1, 8, none⟩ = some (.int .u64 b8))
  case atStart => exact ⟨.inl ⟨rfl, rfl⟩, (by repeat (first | exact Below.refl _ _ | assumption | refine below_drewN ?_ _ | refine Below.drew ?_ | refine Below.alloc ?_ (by first | omega | (simp <;> omega)) _)), by go_simp, by go_simp, by go_simp, by go_simp, by go_simp, by go_simp, by go_simp, by go_simp, by go_simp, by go_simp, by go_simp, by go_simp, by go_simp, by go_simp, by go_simp, by go_simp, by go_simp, by go_simp⟩
  case round =>
    obtain ⟨hr, kb, q0, q1, q2, q3, q4, q5, q6, q7, q8, q9, q10, q11, q12, q13, q14, q15, q16, q17⟩ := hrel
    have zs := kb.size
    rcases hr with hr0 | hr1 | hr2 | hr3 | hr4 | hr5 | hr6 | hr7 | hr8
    · obtain ⟨rfl, rfl⟩ := hr0
      by_cases c : a7 < b7
      · go_wp2_with fail
        go_quiet (fail)
        go_wp2_with fail
        go_ret
        exact ⟨ret_iE (by simp [c8D, c]), (by repeat (first | exact Below.refl _ _ | assumption | refine below_drewN ?_ _ | refine Below.drew ?_ | refine Below.alloc ?_ (by first | omega | (simp <;> omega)) _))⟩
      · by_cases d : b7 < a7
        · go_wp2_with fail
          go_quiet (fail)
          go_wp2_with fail
          go_quiet (fail)
          go_wp2_with fail
          go_ret
          exact ⟨ret_iE (by simp [c8D, c, d]), (by repeat (first | exact Below.refl _ _ | assumption | refine below_drewN ?_ _ | refine Below.drew ?_ | refine Below.alloc ?_ (by first | omega | (simp <;> omega)) _))⟩
        · go_wp2_with fail
          go_quiet (fail)
          go_wp2_with fail
          go_quiet (fail)
          go_wp2_with fail
          have e7 : Hid (a7 = b7) := (by omega : a7 = b7)
          go_roundg 7
          case measure => omega
          case rel => exact ⟨.inr (.inl ⟨rfl, rfl, e7⟩), (by repeat (first | exact Below.refl _ _ | assumption | refine below_drewN ?_ _ | refine Below.drew ?_ | refine Below.alloc ?_ (by first | omega | (simp <;> omega)) _)), by go_simp, by go_simp, by go_simp, by go_simp, by go_simp, by go_simp, by go_simp, by go_simp, by go_simp, by go_simp, by go_simp, by go_simp, by go_simp, by go_simp, by go_simp, by go_simp, by go_simp, by go_simp⟩
    · obtain ⟨rfl, rfl, e7⟩ := hr1
      by_cases c : a6 < b6
      · go_wp2_with fail
        go_quiet (fail)
        go_wp2_with fail
        go_ret
        exact ⟨ret_iE (by simp [c8D, c, e7.out]), (by repeat (first | exact Below.refl _ _ | assumption | refine below_drewN ?_ _ | refine Below.drew ?_ | refine Below.alloc ?_ (by first | omega | (simp <;> omega)) _))⟩
      · by_cases d : b6 < a6
        · go_wp2_with fail
          go_quiet (fail)
          go_wp2_with fail
          go_quiet (fail)
          go_wp2_with fail
          go_ret
          exact ⟨ret_iE (by simp [c8D, c, d, e7.out]), (by repeat (first | exact Below.refl _ _ | assumption | refine below_drewN ?_ _ | refine Below.drew ?_ | refine Below.alloc ?_ (by first | omega | (simp <;> omega)) _))⟩
        · go_wp2_with fail
          go_quiet (fail)
          go_wp2_with fail
          go_quiet (fail)
          go_wp2_with fail
          have e6 : Hid (a6 = b6) := (by omega : a6 = b6)
          go_roundg 6
          case measure => omega
          case rel => exact ⟨.inr (.inr (.inl ⟨rfl, rfl, e7, e6⟩)), (by repeat (first | exact Below.refl _ _ | assumption | refine below_drewN ?_ _ | refine Below.drew ?_ | refine Below.alloc ?_ (by first | omega | (simp <;> omega)) _)), by go_simp, by go_simp, by go_simp, by go_simp, by go_simp, by go_simp, by go_simp, by go_simp, by go_simp, by go_simp, by go_simp, by go_simp, by go_simp, by go_simp, by go_simp, by go_simp, by go_simp, by go_simp⟩
    · obtain ⟨rfl, rfl, e7, e6⟩ := hr2
      by_cases c : a5 < b5
      · go_wp2_with fail
        go_quiet (fail)
        go_wp2_with fail
        go_ret
        exact ⟨ret_iE (by simp [c8D, c, e7.out, e6.out]), (by repeat (first | exact Below.refl _ _ | assumption | refine below_drewN ?_ _ | refine Below.drew ?_ | refine Below.alloc ?_ (by first | omega | (simp <;> omega)) _))⟩
      · by_cases d : b5 < a5
        · go_wp2_with fail
          go_quiet (fail)
          go_wp2_with fail
          go_quiet (fail)
          go_wp2_with fail
          go_ret
          exact ⟨ret_iE (by simp [c8D, c, d, e7.out, e6.out]), (by repeat (first | exact Below.refl _ _ | assumption | refine below_drewN ?_ _ | refine Below.drew ?_ | refine Below.alloc ?_ (by first | omega | (simp <;> omega)) _))⟩
        · go_wp2_with fail
          go_quiet (fail)
          go_wp2_with fail
          go_quiet (fail)
          go_wp2_with fail
          have e5 : Hid (a5 = b5) := (by omega : a5 = b5)
          go_roundg 5
          case measure => omega
          case rel => exact ⟨.inr (.inr (.inr (.inl ⟨rfl, rfl, e7, e6, e5⟩))), (by repeat (first | exact Below.refl _ _ | assumption | refine below_drewN ?_ _ | refine Below.drew ?_ | refine Below.alloc ?_ (by first | omega | (simp <;> omega)) _)), by go_simp, by go_simp, by go_simp, by go_simp, by go_simp, by go_simp, by go_simp, by go_simp, by go_simp, by go_simp, by go_simp, by go_simp, by go_simp, by go_simp, by go_simp, by go_simp, by go_simp, by go_simp⟩
    · obtain ⟨rfl, rfl, e7, e6, e5⟩ := hr3
      by_cases c : a4 < b4
      · go_wp2_with fail
        go_quiet (fail)
        go_wp2_with fail
        go_ret
        exact ⟨ret_iE (by simp [c8D, c, e7.out, e6.out, e5.out]), (by repeat (first | exact Below.refl _ _ | assumption | refine below_drewN ?_ _ | refine Below.drew ?_ | refine Below.alloc ?_ (by first | omega | (simp <;> omega)) _))⟩
      · by_cases d : b4 < a4
        · go_wp2_with fail
          go_quiet (fail)
          go_wp2_with fail
          go_quiet (fail)
          go_wp2_with fail
          go_ret
          exact ⟨ret_iE (by simp [c8D, c, d, e7.out, e6.out, e5.out]), (by repeat (first | exact Below.refl _ _ | assumption | refine below_drewN ?_ _ | refine Below.drew ?_ | refine Below.alloc ?_ (by first | omega | (simp <;> omega)) _))⟩
        · go_wp2_with fail
          go_quiet (fail)
          go_wp2_with fail
          go_quiet (fail)
          go_wp2_with fail
          have e4 : Hid (a4 = b4) := (by omega : a4 = b4)
          go_roundg 4
          case measure => omega
          case rel => exact ⟨.inr (.inr (.inr (.inr (.inl ⟨rfl, rfl, e7, e6, e5, e4⟩)))), (by repeat (first | exact Below.refl _ _ | assumption | refine below_drewN ?_ _ | refine Below.drew ?_ | refine Below.alloc ?_ (by first | omega | (simp <;> omega)) _)), by go_simp, by go_simp, by go_simp, by go_simp, by go_simp, by go_simp, by go_simp, by go_simp, by go_simp, by go_simp, by go_simp, by go_simp, by go_simp, by go_simp, by go_simp, by go_simp, by go_simp, by go_simp⟩
    · obtain ⟨rfl, rfl, e7, e6, e5, e4⟩ := hr4
      by_cases c : a3 < b3
      · go_wp2_with fail
        go_quiet (fail)
        go_wp2_with fail
        go_ret
        exact ⟨ret_iE (by simp [c8D, c, e7.out, e6.out, e5.out, e4.out]), (by repeat (first | exact Below.refl _ _ | assumption | refine below_drewN ?_ _ | refine Below.drew ?_ | refine Below.alloc ?_ (by first | omega | (simp <;> omega)) _))⟩
      · by_cases d : b3 < a3
        · go_wp2_with fail
          go_quiet (fail)
          go_wp2_with fail
          go_quiet (fail)
          go_wp2_with fail
          go_ret
          exact ⟨ret_iE (by simp [c8D, c, d, e7.out, e6.out, e5.out, e4.out]), (by repeat (first | exact Below.refl _ _ | assumption | refine below_drewN ?_ _ | refine Below.drew ?_ | refine Below.alloc ?_ (by first | omega | (simp <;> omega)) _))⟩
        · go_wp2_with fail
          go_quiet (fail)
          go_wp2_with fail
          go_quiet (fail)
          go_wp2_with fail
          have e3 : Hid (a3 = b3) := (by omega : a3 = b3)
          go_roundg 3
          case measure => omega
          case rel => exact ⟨.inr (.inr (.inr (.inr (.inr (.inl ⟨rfl, rfl, e7, e6, e5, e4, e3⟩))))), (by repeat (first | exact Below.refl _ _ | assumption | refine below_drewN ?_ _ | refine Below.drew ?_ | refine Below.alloc ?_ (by first | omega | (simp <;> omega)) _)), by go_simp, by go_simp, by go_simp, by go_simp, by go_simp, by go_simp, by go_simp, by go_simp, by go_simp, by go_simp, by go_simp, by go_simp, by go_simp, by go_simp, by go_simp, by go_simp, by go_simp, by go_simp⟩
    · obtain ⟨rfl, rfl, e7, e6, e5, e4, e3⟩ := hr5
      by_cases c : a2 < b2
      · go_wp2_with fail
        go_quiet (fail)
        go_wp2_with fail
        go_ret
        exact ⟨ret_iE (by simp [c8D, c, e7.out, e6.out, e5.out, e4.out, e3.out]), (by repeat (first | exact Below.refl _ _ | assumption | refine below_drewN ?_ _ | refine Below.drew ?_ | refine Below.alloc ?_ (by first | omega | (simp <;> omega)) _))⟩
      · by_cases d : b2 < a2
        · go_wp2_with fail
          go_quiet (fail)
          go_wp2_with fail
          go_quiet (fail)
          go_wp2_with fail
          go_ret
          exact ⟨ret_iE (by simp [c8D, c, d, e7.out, e6.out, e5.out, e4.out, e3.out]), (by repeat (first | exact Below.refl _ _ | assumption | refine below_drewN ?_ _ | refine Below.drew ?_ | refine Below.alloc ?_ (by first | omega | (simp <;> omega)) _))⟩
        · go_wp2_with fail
          go_quiet (fail)
          go_wp2_with fail
          go_quiet (fail)
          go_wp2_with fail
          have e2 : Hid (a2 = b2) := (by omega : a2 = b2)
          go_roundg 2
          case measure => omega
          case rel => exact ⟨.inr (.inr (.inr (.inr (.inr (.inr (.inl ⟨rfl, rfl, e7, e6, e5, e4, e3, e2⟩)))))), (by repeat (first | exact Below.refl _ _ | assumption | refine below_drewN ?_ _ | refine Below.drew ?_ | refine Below.alloc ?_ (by first | omega | (simp <;> omega)) _)), by go_simp, by go_simp, by go_simp, by go_simp, by go_simp, by go_simp, by go_simp, by go_simp, by go_simp, by go_simp, by go_simp, by go_simp, by go_simp, by go_simp, by go_simp, by go_simp, by go_simp, by go_simp⟩
    · obtain ⟨rfl, rfl, e7, e6, e5, e4, e3, e2⟩ := hr6
      by_cases c : a1 < b1
      · go_wp2_with fail
        go_quiet (fail)
        go_wp2_with fail
        go_ret
        exact ⟨ret_iE (by simp [c8D, c, e7.out, e6.out, e5.out, e4.out, e3.out, e2.out]), (by repeat (first | exact Below.refl _ _ | assumption | refine below_drewN ?_ _ | refine Below.drew ?_ | refine Below.alloc ?_ (by first | omega | (simp <;> omega)) _))⟩
      · by_cases d : b1 < a1
        · go_wp2_with fail
          go_quiet (fail)
          go_wp2_with fail
          go_quiet (fail)
          go_wp2_with fail
          go_ret
          exact ⟨ret_iE (by simp [c8D, c, d, e7.out, e6.out, e5.out, e4.out, e3.out, e2.out]), (by repeat (first | exact Below.refl _ _ | assumption | refine below_drewN ?_ _ | refine Below.drew ?_ | refine Below.alloc ?_ (by first | omega | (simp <;> omega)) _))⟩
        · go_wp2_with fail
          go_quiet (fail)
          go_wp2_with fail
          go_quiet (fail)
          go_wp2_with fail
          have e1 : Hid (a1 = b1) := (by omega : a1 = b1)
          go_roundg 1
          case measure => omega
          case rel => exact ⟨.inr (.inr (.inr (.inr (.inr (.inr (.inr (.inl ⟨rfl, rfl, e7, e6, e5, e4, e3, e2, e1⟩))))))), (by repeat (first | exact Below.refl _ _ | assumption | refine below_drewN ?_ _ | refine Below.drew ?_ | refine Below.alloc ?_ (by first | omega | (simp <;> omega)) _)), by go_simp, by go_simp, by go_simp, by go_simp, by go_simp, by go_simp, by go_simp, by go_simp, by go_simp, by go_simp, by go_simp, by go_simp, by go_simp, by go_simp, by go_simp, by go_simp, by go_simp, by go_simp⟩
    · obtain ⟨rfl, rfl, e7, e6, e5, e4, e3, e2, e1⟩ := hr7
      by_cases c : a0 < b0
      · go_wp2_with fail
        go_quiet (fail)
        go_wp2_with fail
        go_ret
        exact ⟨ret_iE (by simp [c8D, c, e7.out, e6.out, e5.out, e4.out, e3.out, e2.out, e1.out]), (by repeat (first | exact Below.refl _ _ | assumption | refine below_drewN ?_ _ | refine Below.drew ?_ | refine Below.alloc ?_ (by first | omega | (simp <;> omega)) _))⟩
      · by_cases d : b0 < a0
        · go_wp2_with fail
          go_quiet (fail)
          go_wp2_with fail
          go_quiet (fail)
          go_wp2_with fail
          go_ret
          exact ⟨ret_iE (by simp [c8D, c, d, e7.out, e6.out, e5.out, e4.out, e3.out, e2.out, e1.out]), (by repeat (first | exact Below.refl _ _ | assumption | refine below_drewN ?_ _ | refine Below.drew ?_ | refine Below.alloc ?_ (by first | omega | (simp <;> omega)) _))⟩
        · go_wp2_with fail
          go_quiet (fail)
          go_wp2_with fail
          go_quiet (fail)
          go_wp2_with fail
          have e0 : Hid (a0 = b0) := (by omega : a0 = b0)
          go_roundg 0
          case measure => omega
          case rel => exact ⟨.inr (.inr (.inr (.inr (.inr (.inr (.inr (.inr (⟨rfl, rfl, e7, e6, e5, e4, e3, e2, e1, e0⟩)))))))), (by repeat (first | exact Below.refl _ _ | assumption | refine below_drewN ?_ _ | refine Below.drew ?_ | refine Below.alloc ?_ (by first | omega | (simp <;> omega)) _)), by go_simp, by go_simp, by go_simp, by go_simp, by go_simp, by go_simp, by go_simp, by go_simp, by go_simp, by go_simp, by go_simp, by go_simp, by go_simp, by go_simp, by go_simp, by go_simp, by go_simp, by go_simp⟩
    · obtain ⟨rfl, rfl, e7, e6, e5, e4, e3, e2, e1, e0⟩ := hr8
      go_wp2_with fail
      go_ret
      exact ⟨ret_iE (by simp [c8D, e7.out, e6.out, e5.out, e4.out, e3.out, e2.out, e1.out, e0.out]), (by repeat (first | exact Below.refl _ _ | assumption | refine below_drewN ?_ _ | refine Below.drew ?_ | refine Below.alloc ?_ (by first | omega | (simp <;> omega)) _))⟩
end Go.Proofs.Ytjfdlamfklhodaa
