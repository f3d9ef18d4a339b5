/- Contracts of layer 4's meets and checks. -/
import Derived.Test.YtjfdlamfklhodabB1
set_option linter.unusedVariables false
namespace Go.Proofs.Ytjfdlamfklhodab
open Go.ChangeShapes Go.WideShapes Go.ChangeAt Go.RowKit

theorem bcell {W w1 : World} (hb : Below W.heap.size W w1) : (∀ b o, b < W.heap.size → w1.cell? ⟨b, o, none⟩ = W.cell? ⟨b, o, none⟩) ∧ (∀ b o, b < W.heap.size → w1.frozen? ⟨b, o, none⟩ = W.frozen? ⟨b, o, none⟩) :=
  ⟨fun b o h => hb.cell (p := ⟨b, o, none⟩) h, fun b o h => hb.frozen (p := ⟨b, o, none⟩) h⟩
def big (a b m : Int) : Prop := (a < b ∧ m = b) ∨ (b ≤ a ∧ m = a)
def small (a b m : Int) : Prop := (b < a ∧ m = b) ∨ (a ≤ b ∧ m = a)
theorem big_of (a b : Int) : ∃ m, big a b m := by
  by_cases h : a < b
  · exact ⟨b, .inl ⟨h, rfl⟩⟩
  · exact ⟨a, .inr ⟨by omega, rfl⟩⟩
theorem small_of (a b : Int) : ∃ m, small a b m := by
  by_cases h : b < a
  · exact ⟨b, .inl ⟨h, rfl⟩⟩
  · exact ⟨a, .inr ⟨by omega, rfl⟩⟩
set_option maxHeartbeats 4000000 in
theorem meet_yes (a1 a2 a3 a4 b1 b2 b3 b4 m1 m2 m3 m4 : Int) (e1 : Hid (big a1 b1 m1)) (e2 : Hid (small a2 b2 m2)) (e3 : Hid (big a3 b3 m3)) (e4 : Hid (small a4 b4 m4)) (he : emB m1 m2 m3 m4 = false) (w : World) :
    Calls Try.prog 29 #[.agg #[.int .i64 a1, .int .i64 a2, .int .i64 a3, .int .i64 a4], .agg #[.int .i64 b1, .int .i64 b2, .int .i64 b3, .int .i64 b4]] w
      fun e w' => e = .returned (.tuple #[.agg #[.int .i64 m1, .int .i64 m2, .int .i64 m3, .int .i64 m4], .bool true]) ∧ Below w.heap.size w w' := by
  go_enter Try.func29, Try.ntmps29
  go_wp2_with fail
  all_goals
    have e1' := e1.out
    have e2' := e2.out
    have e3' := e3.out
    have e4' := e4.out
    clear e1 e2 e3 e4
    unfold big at e1' e3'
    unfold small at e2' e4'
    rcases e1' with ⟨d1, rfl⟩ | ⟨d1, rfl⟩ <;> try (exfalso; omega)
    all_goals rcases e2' with ⟨d2, rfl⟩ | ⟨d2, rfl⟩ <;> try (exfalso; omega)
    all_goals rcases e3' with ⟨d3, rfl⟩ | ⟨d3, rfl⟩ <;> try (exfalso; omega)
    all_goals rcases e4' with ⟨d4, rfl⟩ | ⟨d4, rfl⟩ <;> try (exfalso; omega)
    refine (empty _ _ _ _ _).mono ?_
    rintro e w1 ⟨rfl, hb⟩
    obtain ⟨hc, hf⟩ := bcell hb
    have hz : w.heap.size + 3 < w1.heap.size := by have := hb.size; simp at this; omega
    go_wp2_with fail
    exact bodyPost_ret (v := .tuple #[.agg #[.int .i64 m1, .int .i64 m2, .int .i64 m3, .int .i64 m4], .bool true]) (by simp [results, Try.results29, go_sem, hc, hz]) rfl ⟨rfl, (by repeat (first | exact Below.refl _ _ | refine Below.setCell ?_ (by simp <;> omega) _ | refine Below.alloc ?_ (by simp <;> omega) _ | refine Below.trans ?_ (Below.mono hb (by simp <;> omega))))⟩
set_option maxHeartbeats 4000000 in
theorem meet_no (a1 a2 a3 a4 b1 b2 b3 b4 m1 m2 m3 m4 : Int) (e1 : Hid (big a1 b1 m1)) (e2 : Hid (small a2 b2 m2)) (e3 : Hid (big a3 b3 m3)) (e4 : Hid (small a4 b4 m4)) (he : emB m1 m2 m3 m4 = true) (w : World) :
    Calls Try.prog 29 #[.agg #[.int .i64 a1, .int .i64 a2, .int .i64 a3, .int .i64 a4], .agg #[.int .i64 b1, .int .i64 b2, .int .i64 b3, .int .i64 b4]] w
      fun e w' => e = .returned (.tuple #[.agg #[.int .i64 0, .int .i64 0, .int .i64 0, .int .i64 0], .bool false]) ∧ Below w.heap.size w w' := by
  go_enter Try.func29, Try.ntmps29
  go_wp2_with fail
  all_goals
    have e1' := e1.out
    have e2' := e2.out
    have e3' := e3.out
    have e4' := e4.out
    clear e1 e2 e3 e4
    unfold big at e1' e3'
    unfold small at e2' e4'
    rcases e1' with ⟨d1, rfl⟩ | ⟨d1, rfl⟩ <;> try (exfalso; omega)
    all_goals rcases e2' with ⟨d2, rfl⟩ | ⟨d2, rfl⟩ <;> try (exfalso; omega)
    all_goals rcases e3' with ⟨d3, rfl⟩ | ⟨d3, rfl⟩ <;> try (exfalso; omega)
    all_goals rcases e4' with ⟨d4, rfl⟩ | ⟨d4, rfl⟩ <;> try (exfalso; omega)
    refine (empty _ _ _ _ _).mono ?_
    rintro e w1 ⟨rfl, hb⟩
    obtain ⟨hc, hf⟩ := bcell hb
    have hz : w.heap.size + 3 < w1.heap.size := by have := hb.size; simp at this; omega
    go_wp2_with fail
    exact bodyPost_ret (v := .tuple #[.agg #[.int .i64 0, .int .i64 0, .int .i64 0, .int .i64 0], .bool false]) (by simp [results, Try.results29, go_sem, hc, hz]) rfl ⟨rfl, (by repeat (first | exact Below.refl _ _ | refine Below.setCell ?_ (by simp <;> omega) _ | refine Below.alloc ?_ (by simp <;> omega) _ | refine Below.trans ?_ (Below.mono hb (by simp <;> omega))))⟩
/- one box within another one -/
def wiB (a1 a2 a3 a4 b1 b2 b3 b4 : Int) : Bool := !emB a1 a2 a3 a4 && (decide (b1 ≤ a1) && (decide (a2 ≤ b2) && (decide (b3 ≤ a3) && decide (a4 ≤ b4))))
set_option maxHeartbeats 1000000 in
theorem within (a1 a2 a3 a4 b1 b2 b3 b4 : Int) (w : World) :
    Calls Try.prog 30 #[.agg #[.int .i64 a1, .int .i64 a2, .int .i64 a3, .int .i64 a4], .agg #[.int .i64 b1, .int .i64 b2, .int .i64 b3, .int .i64 b4]] w fun e w' => e = .returned (.bool (wiB a1 a2 a3 a4 b1 b2 b3 b4)) ∧ Below w.heap.size w w' := by
  by_cases c0 : emB a1 a2 a3 a4 = true
  · skip
    go_enter Try.func30, Try.ntmps30
    go_wp2_with fail
    refine (empty _ _ _ _ _).mono ?_
    rintro e w1 ⟨rfl, hb⟩
    obtain ⟨hc, hf⟩ := bcell hb
    have hz : w.heap.size + 1 < w1.heap.size := by have := hb.size; simp at this; omega
    go_wp2_with fail
    go_ret
    exact ⟨ret_bool' (by simp [wiB, *] <;> omega), (by repeat (first | exact Below.refl _ _ | refine Below.setCell ?_ (by simp <;> omega) _ | refine Below.alloc ?_ (by simp <;> omega) _ | refine Below.trans ?_ (Below.mono hb (by simp <;> omega))))⟩
  · have c0' : emB a1 a2 a3 a4 = false := by simpa using c0
    clear c0
    by_cases c1 : b1 ≤ a1
    · skip
      by_cases c2 : a2 ≤ b2
      · skip
        by_cases c3 : b3 ≤ a3
        · skip
          by_cases c4 : a4 ≤ b4
          · skip
            go_enter Try.func30, Try.ntmps30
            go_wp2_with fail
            refine (empty _ _ _ _ _).mono ?_
            rintro e w1 ⟨rfl, hb⟩
            obtain ⟨hc, hf⟩ := bcell hb
            have hz : w.heap.size + 1 < w1.heap.size := by have := hb.size; simp at this; omega
            go_wp2_with fail
            go_ret
            exact ⟨ret_bool' (by simp [wiB, *] <;> omega), (by repeat (first | exact Below.refl _ _ | refine Below.setCell ?_ (by simp <;> omega) _ | refine Below.alloc ?_ (by simp <;> omega) _ | refine Below.trans ?_ (Below.mono hb (by simp <;> omega))))⟩
          · skip
            go_enter Try.func30, Try.ntmps30
            go_wp2_with fail
            refine (empty _ _ _ _ _).mono ?_
            rintro e w1 ⟨rfl, hb⟩
            obtain ⟨hc, hf⟩ := bcell hb
            have hz : w.heap.size + 1 < w1.heap.size := by have := hb.size; simp at this; omega
            go_wp2_with fail
            go_ret
            exact ⟨ret_bool' (by simp [wiB, *] <;> omega), (by repeat (first | exact Below.refl _ _ | refine Below.setCell ?_ (by simp <;> omega) _ | refine Below.alloc ?_ (by simp <;> omega) _ | refine Below.trans ?_ (Below.mono hb (by simp <;> omega))))⟩
        · skip
          go_enter Try.func30, Try.ntmps30
          go_wp2_with fail
          refine (empty _ _ _ _ _).mono ?_
          rintro e w1 ⟨rfl, hb⟩
          obtain ⟨hc, hf⟩ := bcell hb
          have hz : w.heap.size + 1 < w1.heap.size := by have := hb.size; simp at this; omega
          go_wp2_with fail
          go_ret
          exact ⟨ret_bool' (by simp [wiB, *] <;> omega), (by repeat (first | exact Below.refl _ _ | refine Below.setCell ?_ (by simp <;> omega) _ | refine Below.alloc ?_ (by simp <;> omega) _ | refine Below.trans ?_ (Below.mono hb (by simp <;> omega))))⟩
      · skip
        go_enter Try.func30, Try.ntmps30
        go_wp2_with fail
        refine (empty _ _ _ _ _).mono ?_
        rintro e w1 ⟨rfl, hb⟩
        obtain ⟨hc, hf⟩ := bcell hb
        have hz : w.heap.size + 1 < w1.heap.size := by have := hb.size; simp at this; omega
        go_wp2_with fail
        go_ret
        exact ⟨ret_bool' (by simp [wiB, *] <;> omega), (by repeat (first | exact Below.refl _ _ | refine Below.setCell ?_ (by simp <;> omega) _ | refine Below.alloc ?_ (by simp <;> omega) _ | refine Below.trans ?_ (Below.mono hb (by simp <;> omega))))⟩
    · skip
      go_enter Try.func30, Try.ntmps30
      go_wp2_with fail
      refine (empty _ _ _ _ _).mono ?_
      rintro e w1 ⟨rfl, hb⟩
      obtain ⟨hc, hf⟩ := bcell hb
      have hz : w.heap.size + 1 < w1.heap.size := by have := hb.size; simp at this; omega
      go_wp2_with fail
      go_ret
      exact ⟨ret_bool' (by simp [wiB, *] <;> omega), (by repeat (first | exact Below.refl _ _ | refine Below.setCell ?_ (by simp <;> omega) _ | refine Below.alloc ?_ (by simp <;> omega) _ | refine Below.trans ?_ (Below.mono hb (by simp <;> omega))))⟩
end Go.Proofs.Ytjfdlamfklhodab
