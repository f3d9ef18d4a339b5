/- The document's order of threes. -/
import Derived.Test.YtjfdlamfklhodaaE1
import Derived.Deep.QuietTactic
import Derived.BigQuiet
import Derived.Deep.LoopGhost
set_option linter.unusedVariables false
namespace Go.Proofs.Ytjfdlamfklhodaa
open Go.ChangeShapes Go.WideShapes Go.ChangeAt Go.RowKit
set_option maxHeartbeats 2000000 in
theorem threes (a0 a1 a2 b0 b1 b2 : Int) (w : World) : Calls Try.prog 49 #[.agg #[.int .i64 a0, .int .i64 a1, .int .i64 a2], .agg #[.int .i64 b0, .int .i64 b1, .int .i64 b2]] w fun e w' => e = .returned (.int .i64 (c3K a0 a1 a2 b0 b1 b2)) ∧ Below w.heap.size w w' := by
  go_enter Try.func49, Try.ntmps49
  go_wp2_with fail
  go_loopg [5] 3 (fun k i wr => ((k = 3 ∧ i = .int .i64 0) ∨ (k = 2 ∧ i = .int .i64 1 ∧ Hid (a0 = b0)) ∨ (k = 1 ∧ i = .int .i64 2 ∧ Hid (a0 = b0) ∧ Hid (a1 = b1)) ∨ (k = 0 ∧ i = .int .i64 3 ∧ Hid (a0 = b0) ∧ Hid (a1 = b1) ∧ Hid (a2 = b2))) ∧ Below w.heap.size w wr ∧ wr.cell? ⟨w.heap.size, 0, none⟩ = some (.int .i64 a0) ∧ wr.cell? ⟨w.heap.size, 1, none⟩ = some (.int .i64 a1) ∧ wr.cell? ⟨w.heap.size, 2, none⟩ = some (.int .i64 a2) ∧ wr.cell? ⟨w.heap.size + 1, 0, none⟩ = some (.int .i64 b0) ∧ wr.cell? ⟨w.heap.size + 1, 1, none⟩ = some (.int .i64 b1) ∧ wr.cell? ⟨w.heap.size + 1, 2, none⟩ = some (.int .i64 b2))
  case atStart => exact ⟨.inl ⟨rfl, rfl⟩, (by repeat (first | exact Below.refl _ _ | assumption | refine below_drewN ?_ _ | refine Below.drew ?_ | refine Below.alloc ?_ (by first | omega | (simp <;> omega)) _)), by go_simp, by go_simp, by go_simp, by go_simp, by go_simp, by go_simp⟩
  case round =>
    obtain ⟨hr, kb, q0, q1, q2, q3, q4, q5⟩ := hrel
    have zs := kb.size
    rcases hr with hr0 | hr1 | hr2 | hr3
    · obtain ⟨rfl, rfl⟩ := hr0
      by_cases c : a0 < b0
      · go_wp2_with fail
        go_quiet (fail)
        go_wp2_with fail
        go_ret
        exact ⟨ret_iE (by simp [c3K, ltK, c]), (by repeat (first | exact Below.refl _ _ | assumption | refine below_drewN ?_ _ | refine Below.drew ?_ | refine Below.alloc ?_ (by first | omega | (simp <;> omega)) _))⟩
      · by_cases d : b0 < a0
        · go_wp2_with fail
          go_quiet (fail)
          go_wp2_with fail
          go_quiet (fail)
          go_wp2_with fail
          go_ret
          have hne : ¬ a0 = b0 := by omega
          have hne2 : ¬ b0 = a0 := by omega
          exact ⟨ret_iE (by simp [c3K, ltK, c, d, hne, hne2]), (by repeat (first | exact Below.refl _ _ | assumption | refine below_drewN ?_ _ | refine Below.drew ?_ | refine Below.alloc ?_ (by first | omega | (simp <;> omega)) _))⟩
        · go_wp2_with fail
          go_quiet (fail)
          go_wp2_with fail
          go_quiet (fail)
          go_wp2_with fail
          have e0 : Hid (a0 = b0) := (by omega : a0 = b0)
          go_roundg 2
          case measure => omega
          case rel => exact ⟨.inr (.inl ⟨rfl, rfl, e0⟩), (by repeat (first | exact Below.refl _ _ | assumption | refine below_drewN ?_ _ | refine Below.drew ?_ | refine Below.alloc ?_ (by first | omega | (simp <;> omega)) _)), by go_simp, by go_simp, by go_simp, by go_simp, by go_simp, by go_simp⟩
    · obtain ⟨rfl, rfl, e0⟩ := hr1
      by_cases c : a1 < b1
      · go_wp2_with fail
        go_quiet (fail)
        go_wp2_with fail
        go_ret
        exact ⟨ret_iE (by simp [c3K, ltK, c, e0.out]), (by repeat (first | exact Below.refl _ _ | assumption | refine below_drewN ?_ _ | refine Below.drew ?_ | refine Below.alloc ?_ (by first | omega | (simp <;> omega)) _))⟩
      · by_cases d : b1 < a1
        · go_wp2_with fail
          go_quiet (fail)
          go_wp2_with fail
          go_quiet (fail)
          go_wp2_with fail
          go_ret
          have hne : ¬ a1 = b1 := by omega
          have hne2 : ¬ b1 = a1 := by omega
          exact ⟨ret_iE (by simp [c3K, ltK, c, d, hne, hne2, e0.out]), (by repeat (first | exact Below.refl _ _ | assumption | refine below_drewN ?_ _ | refine Below.drew ?_ | refine Below.alloc ?_ (by first | omega | (simp <;> omega)) _))⟩
        · go_wp2_with fail
          go_quiet (fail)
          go_wp2_with fail
          go_quiet (fail)
          go_wp2_with fail
          have e1 : Hid (a1 = b1) := (by omega : a1 = b1)
          go_roundg 1
          case measure => omega
          case rel => exact ⟨.inr (.inr (.inl ⟨rfl, rfl, e0, e1⟩)), (by repeat (first | exact Below.refl _ _ | assumption | refine below_drewN ?_ _ | refine Below.drew ?_ | refine Below.alloc ?_ (by first | omega | (simp <;> omega)) _)), by go_simp, by go_simp, by go_simp, by go_simp, by go_simp, by go_simp⟩
    · obtain ⟨rfl, rfl, e0, e1⟩ := hr2
      by_cases c : a2 < b2
      · go_wp2_with fail
        go_quiet (fail)
        go_wp2_with fail
        go_ret
        exact ⟨ret_iE (by simp [c3K, ltK, c, e0.out, e1.out]), (by repeat (first | exact Below.refl _ _ | assumption | refine below_drewN ?_ _ | refine Below.drew ?_ | refine Below.alloc ?_ (by first | omega | (simp <;> omega)) _))⟩
      · by_cases d : b2 < a2
        · go_wp2_with fail
          go_quiet (fail)
          go_wp2_with fail
          go_quiet (fail)
          go_wp2_with fail
          go_ret
          have hne : ¬ a2 = b2 := by omega
          have hne2 : ¬ b2 = a2 := by omega
          exact ⟨ret_iE (by simp [c3K, ltK, c, d, hne, hne2, e0.out, e1.out]), (by repeat (first | exact Below.refl _ _ | assumption | refine below_drewN ?_ _ | refine Below.drew ?_ | refine Below.alloc ?_ (by first | omega | (simp <;> omega)) _))⟩
        · go_wp2_with fail
          go_quiet (fail)
          go_wp2_with fail
          go_quiet (fail)
          go_wp2_with fail
          have e2 : Hid (a2 = b2) := (by omega : a2 = b2)
          go_roundg 0
          case measure => omega
          case rel => exact ⟨.inr (.inr (.inr ⟨rfl, rfl, e0, e1, e2⟩)), (by repeat (first | exact Below.refl _ _ | assumption | refine below_drewN ?_ _ | refine Below.drew ?_ | refine Below.alloc ?_ (by first | omega | (simp <;> omega)) _)), by go_simp, by go_simp, by go_simp, by go_simp, by go_simp, by go_simp⟩
    · obtain ⟨rfl, rfl, e0, e1, e2⟩ := hr3
      go_wp2_with fail
      go_ret
      exact ⟨ret_iE (by simp [c3K, ltK, e0.out, e1.out, e2.out]), (by repeat (first | exact Below.refl _ _ | assumption | refine below_drewN ?_ _ | refine Below.drew ?_ | refine Below.alloc ?_ (by first | omega | (simp <;> omega)) _))⟩
end Go.Proofs.Ytjfdlamfklhodaa
