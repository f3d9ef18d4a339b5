/- Contracts of a window's box. -/
import Derived.Test.YtjfdlamfklhodabB4
set_option linter.unusedVariables false
namespace Go.Proofs.Ytjfdlamfklhodab
open Go.ChangeShapes Go.WideShapes Go.ChangeAt Go.RowKit
set_option maxHeartbeats 1000000 in
theorem refwin (b1 b2 b3 : Int) (w : World) : Calls Try.prog 27 #[.agg #[.int .i64 b1, .int .i64 b2, .int .i64 b3]] w fun e w' => e = .returned (.int .i64 (ckE b1 b2 b3 1099511627776)) ∧ Below w.heap.size w w' := by
  go_enter Try.func27, Try.ntmps27
  go_wp2_with fail
  refine (refcheck _ _ _ _ _).mono ?_
  rintro e w1 ⟨rfl, hb⟩
  go_wp2_with fail
  go_ret
  exact ⟨rfl, (by repeat (first | exact Below.refl _ _ | refine Below.setCell ?_ (by first | omega | (simp <;> omega)) _ | refine Below.alloc ?_ (by first | omega | (simp <;> omega)) _ | refine Below.trans ?_ (Below.mono hb (by first | omega | (simp <;> omega)))))⟩
theorem all_ (w : World) : Calls Try.prog 20 #[] w fun e w' => e = .returned (.agg #[.int .i64 (-1099511627776), .int .i64 1099511627776, .int .i64 (-1099511627776), .int .i64 1099511627776]) ∧ Below w.heap.size w w' := by
  go_enter Try.func20, Try.ntmps20
  go_wp2_with fail
  exact bodyPost_ret (v := .agg #[.int .i64 (-1099511627776), .int .i64 1099511627776, .int .i64 (-1099511627776), .int .i64 1099511627776]) (by simp [results, Try.results20, go_sem]) rfl ⟨rfl, (by repeat (first | exact Below.refl _ _ | refine Below.setCell ?_ (by first | omega | (simp <;> omega)) _ | refine Below.alloc ?_ (by first | omega | (simp <;> omega)) _))⟩
/- a window's box -/
def opE (b1 b2 b3 : Int) : Int := if [b1, b2, b3].all coB then (if b2 < b1 then 3 else 0) else 2
theorem op_ck (b1 b2 b3 : Int) : ckE b1 b2 b3 1099511627776 = opE b1 b2 b3 := by
  have h : coB 1099511627776 = true := by decide
  unfold ckE opE
  simp only [List.all_cons, List.all_nil, h, Bool.and_true]
  by_cases c : (coB b1 && (coB b2 && coB b3)) = true
  · rw [if_pos c, if_pos c]
    simp only [Bool.and_eq_true] at c
    have c3 := c.2.2
    simp only [coB, Bool.and_eq_true, decide_eq_true_eq] at c3
    by_cases d : b2 < b1
    · simp [emB, d]
    · simp [emB, d]; omega
  · rw [if_neg c, if_neg c]
set_option maxHeartbeats 1000000 in
theorem open_yes (b1 b2 b3 : Int) (hg : [b1, b2, b3].all coB = true) (hl : b1 ≤ b2) (w : World) : Calls Try.prog 19 #[.agg #[.int .i64 b1, .int .i64 b2, .int .i64 b3]] w
    fun e w' => e = .returned (.tuple #[.agg #[.int .i64 b1, .int .i64 b2, .int .i64 b3, .int .i64 1099511627776], .int .i64 0]) ∧ Below w.heap.size w w' := by
  have HG := Lib.hid hg
  clear hg
  have hre : Reads (((w.alloc (.cells #[.int .i64 b1, .int .i64 b2, .int .i64 b3] 45)).alloc (.cells #[.int .i64 0, .int .i64 0, .int .i64 0, .int .i64 0] 43)).alloc (.cells #[.int .i64 b1, .int .i64 b2, .int .i64 b3] 3)) (w.heap.size + 1 + 1 + 1) 1 (some ⟨w.heap.size + 1 + 1, 0, none⟩) 3 (iv [b1, b2, b3]) := by
    have := reads_block ((w.alloc (.cells #[.int .i64 b1, .int .i64 b2, .int .i64 b3] 45)).alloc (.cells #[.int .i64 0, .int .i64 0, .int .i64 0, .int .i64 0] 43)) [b1, b2, b3] 3 3 rfl
    simpa [iv] using this
  have HR := Lib.hid hre
  clear hre
  go_enter Try.func19, Try.ntmps19
  go_wp2_with fail
  refine (boxgood _ _ _ _ [b1, b2, b3] (by omega) _ HR.out).mono ?_
  rw [HG.out]
  rintro e w1 ⟨rfl, rfl⟩
  go_wp2_with fail
  exact bodyPost_ret (v := .tuple #[.agg #[.int .i64 b1, .int .i64 b2, .int .i64 b3, .int .i64 1099511627776], .int .i64 0]) (by simp [results, Try.results19, go_sem]) rfl ⟨rfl, (by repeat (first | exact Below.refl _ _ | refine Below.setCell ?_ (by first | omega | (simp <;> omega)) _ | refine Below.alloc ?_ (by first | omega | (simp <;> omega)) _))⟩
set_option maxHeartbeats 1000000 in
theorem open_no (b1 b2 b3 r : Int) (hr : ([b1, b2, b3].all coB = true ∧ b2 < b1 ∧ r = 3) ∨ ([b1, b2, b3].all coB = false ∧ r = 2)) (w : World) : Calls Try.prog 19 #[.agg #[.int .i64 b1, .int .i64 b2, .int .i64 b3]] w
    fun e w' => e = .returned (.tuple #[.agg #[.int .i64 0, .int .i64 0, .int .i64 0, .int .i64 0], .int .i64 r]) ∧ Below w.heap.size w w' := by
  rcases hr with ⟨hg, hl, rfl⟩ | ⟨hg, rfl⟩
  · skip
    have HG := Lib.hid hg
    clear hg
    have hre : Reads (((w.alloc (.cells #[.int .i64 b1, .int .i64 b2, .int .i64 b3] 45)).alloc (.cells #[.int .i64 0, .int .i64 0, .int .i64 0, .int .i64 0] 43)).alloc (.cells #[.int .i64 b1, .int .i64 b2, .int .i64 b3] 3)) (w.heap.size + 1 + 1 + 1) 1 (some ⟨w.heap.size + 1 + 1, 0, none⟩) 3 (iv [b1, b2, b3]) := by
      have := reads_block ((w.alloc (.cells #[.int .i64 b1, .int .i64 b2, .int .i64 b3] 45)).alloc (.cells #[.int .i64 0, .int .i64 0, .int .i64 0, .int .i64 0] 43)) [b1, b2, b3] 3 3 rfl
      simpa [iv] using this
    have HR := Lib.hid hre
    clear hre
    go_enter Try.func19, Try.ntmps19
    go_wp2_with fail
    refine (boxgood _ _ _ _ [b1, b2, b3] (by omega) _ HR.out).mono ?_
    rw [HG.out]
    rintro e w1 ⟨rfl, rfl⟩
    go_wp2_with fail
    exact bodyPost_ret (v := .tuple #[.agg #[.int .i64 0, .int .i64 0, .int .i64 0, .int .i64 0], .int .i64 3]) (by simp [results, Try.results19, go_sem]) rfl ⟨rfl, (by repeat (first | exact Below.refl _ _ | refine Below.setCell ?_ (by first | omega | (simp <;> omega)) _ | refine Below.alloc ?_ (by first | omega | (simp <;> omega)) _))⟩
  · skip
    have HG := Lib.hid hg
    clear hg
    have hre : Reads (((w.alloc (.cells #[.int .i64 b1, .int .i64 b2, .int .i64 b3] 45)).alloc (.cells #[.int .i64 0, .int .i64 0, .int .i64 0, .int .i64 0] 43)).alloc (.cells #[.int .i64 b1, .int .i64 b2, .int .i64 b3] 3)) (w.heap.size + 1 + 1 + 1) 1 (some ⟨w.heap.size + 1 + 1, 0, none⟩) 3 (iv [b1, b2, b3]) := by
      have := reads_block ((w.alloc (.cells #[.int .i64 b1, .int .i64 b2, .int .i64 b3] 45)).alloc (.cells #[.int .i64 0, .int .i64 0, .int .i64 0, .int .i64 0] 43)) [b1, b2, b3] 3 3 rfl
      simpa [iv] using this
    have HR := Lib.hid hre
    clear hre
    go_enter Try.func19, Try.ntmps19
    go_wp2_with fail
    refine (boxgood _ _ _ _ [b1, b2, b3] (by omega) _ HR.out).mono ?_
    rw [HG.out]
    rintro e w1 ⟨rfl, rfl⟩
    go_wp2_with fail
    exact bodyPost_ret (v := .tuple #[.agg #[.int .i64 0, .int .i64 0, .int .i64 0, .int .i64 0], .int .i64 2]) (by simp [results, Try.results19, go_sem]) rfl ⟨rfl, (by repeat (first | exact Below.refl _ _ | refine Below.setCell ?_ (by first | omega | (simp <;> omega)) _ | refine Below.alloc ?_ (by first | omega | (simp <;> omega)) _))⟩
end Go.Proofs.Ytjfdlamfklhodab
