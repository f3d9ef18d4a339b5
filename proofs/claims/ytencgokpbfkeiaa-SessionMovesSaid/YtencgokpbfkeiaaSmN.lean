/- What is asked of the phases behind a phase (layer 32), where there are none. -/
import Derived.Test.YtencgokpbfkeiaaSm
import Derived.Test.YtencgokpbfkeiaaNx0
import Derived.Test.YtencgokpbfkeiaaNx1
import Derived.Test.YtencgokpbfkeiaaNx2
import Derived.Test.YtencgokpbfkeiaaNx3
import Derived.Test.YtencgokpbfkeiaaNx4
import Derived.LoopN
set_option linter.unusedVariables false
namespace Go.Proofs.Ytencgokpbfkeiaa
open Go.ChangeShapes Go.WideShapes Go.ChangeAt Go.RowKit
theorem sm_none (p : Int) (w : World) (h : p < 0 ∨ 3 < p) (hp : p < 0 ∨ 4 < p) : Calls Try.prog 11 #[.int .i64 p] w fun e w' => e = .returned (.bool true) ∧ Below w.heap.size w w' := by
  have HR : Hid (Below w.heap.size w w) := Lib.hid (Below.refl _ _)
  go_enter Try.func11, Try.ntmps11
  go_wp2_with fail
  refine (moves_none p w h).mono ?_
  rintro e w1 ⟨rfl, rfl⟩
  clear h
  go_wp2_with fail
  refine wp_loop_rounds 1 ?_
  rw [rounds_succ]
  go_wp2_with fail
  refine wp_loop_rounds 6 ?_
  rw [rounds_succ]
  go_wp2_with fail
  refine (next_out p 0 _ hp).mono ?_
  rintro e y0 ⟨rfl, hy0⟩
  have HB0 := Lib.hid (keepB HR.out (sizeB HR.out) hy0)
  clear hy0
  go_wp2_with fail
  rw [rounds_succ]
  go_wp2_with fail
  refine (next_out p 1 _ hp).mono ?_
  rintro e y1 ⟨rfl, hy1⟩
  have HB1 := Lib.hid (keepB HB0.out (sizeB HB0.out) hy1)
  clear hy1
  go_wp2_with fail
  rw [rounds_succ]
  go_wp2_with fail
  refine (next_out p 2 _ hp).mono ?_
  rintro e y2 ⟨rfl, hy2⟩
  have HB2 := Lib.hid (keepB HB1.out (sizeB HB1.out) hy2)
  clear hy2
  go_wp2_with fail
  rw [rounds_succ]
  go_wp2_with fail
  refine (next_out p 3 _ hp).mono ?_
  rintro e y3 ⟨rfl, hy3⟩
  have HB3 := Lib.hid (keepB HB2.out (sizeB HB2.out) hy3)
  clear hy3
  go_wp2_with fail
  rw [rounds_succ]
  go_wp2_with fail
  refine (next_out p 4 _ hp).mono ?_
  rintro e y4 ⟨rfl, hy4⟩
  have HB4 := Lib.hid (keepB HB3.out (sizeB HB3.out) hy4)
  clear hy4
  go_wp2_with fail
  rw [rounds_succ]
  go_wp2_with fail
  refine (lives32 _).mono ?_
  rintro e z ⟨rfl, hz⟩
  have HZ := Lib.hid (keepB HB4.out (sizeB HB4.out) hz)
  clear hz
  go_wp2_with fail
  go_ret
  exact ⟨rfl, HZ.out⟩
theorem sm_4 (w : World) : Calls Try.prog 11 #[.int .i64 4] w fun e w' => e = .returned (.bool true) ∧ Below w.heap.size w w' := by
  have HR : Hid (Below w.heap.size w w) := Lib.hid (Below.refl _ _)
  go_enter Try.func11, Try.ntmps11
  go_wp2_with fail
  refine (moves_none 4 w (by omega)).mono ?_
  rintro e w1 ⟨rfl, rfl⟩
  go_wp2_with fail
  refine wp_loop_rounds 1 ?_
  rw [rounds_succ]
  go_wp2_with fail
  refine wp_loop_rounds 6 ?_
  rw [rounds_succ]
  go_wp2_with fail
  refine (next_4_0 _).mono ?_
  rintro e y0 ⟨rfl, hy0⟩
  have HB0 := Lib.hid (keepB HR.out (sizeB HR.out) hy0)
  clear hy0
  go_wp2_with fail
  rw [rounds_succ]
  go_wp2_with fail
  refine (next_4_1 _).mono ?_
  rintro e y1 ⟨rfl, hy1⟩
  have HB1 := Lib.hid (keepB HB0.out (sizeB HB0.out) hy1)
  clear hy1
  go_wp2_with fail
  rw [rounds_succ]
  go_wp2_with fail
  refine (next_4_2 _).mono ?_
  rintro e y2 ⟨rfl, hy2⟩
  have HB2 := Lib.hid (keepB HB1.out (sizeB HB1.out) hy2)
  clear hy2
  go_wp2_with fail
  rw [rounds_succ]
  go_wp2_with fail
  refine (next_4_3 _).mono ?_
  rintro e y3 ⟨rfl, hy3⟩
  have HB3 := Lib.hid (keepB HB2.out (sizeB HB2.out) hy3)
  clear hy3
  go_wp2_with fail
  rw [rounds_succ]
  go_wp2_with fail
  refine (next_4_4 _).mono ?_
  rintro e y4 ⟨rfl, hy4⟩
  have HB4 := Lib.hid (keepB HB3.out (sizeB HB3.out) hy4)
  clear hy4
  go_wp2_with fail
  rw [rounds_succ]
  go_wp2_with fail
  refine (lives32 _).mono ?_
  rintro e z ⟨rfl, hz⟩
  have HZ := Lib.hid (keepB HB4.out (sizeB HB4.out) hz)
  clear hz
  go_wp2_with fail
  go_ret
  exact ⟨rfl, HZ.out⟩
end Go.Proofs.Ytencgokpbfkeiaa
