/- Which phases can come behind a phase (layer 32): Moves. -/
import Derived.Test.YtencgokpbfkeiaaI4
import Derived.Lib.SmallJoins
set_option linter.unusedVariables false
namespace Go.Proofs.Ytencgokpbfkeiaa
open Go.ChangeShapes Go.WideShapes Go.ChangeAt Go.RowKit
theorem own_nil (w : World) (base : Nat) (e : TypeId) (size : Nat) : w.ownsRow base e size (.slice none 0 0) 0 [] := ⟨by simp, .inl ⟨rfl, rfl⟩⟩
theorem ph_info : (Try.prog.info? 82).map (fun i => (i.zero, i.zero.map (·.cells.size), i.size, i.bytes)) = some (some (.int .i64 0), some 1, 1, 8) := by kernel_rfl
theorem ph_parts : ∃ i, Try.prog.info? 82 = some i ∧ i.zero = some (.int .i64 0) ∧ i.size = 1 ∧ i.bytes = 8 := by
  have h := ph_info
  cases hi : Try.prog.info? 82 with
  | none => rw [hi] at h; cases h
  | some i =>
    rw [hi] at h
    simp only [Option.map_some, Option.some.injEq, Prod.mk.injEq] at h
    exact ⟨i, rfl, h.1, h.2.2.1, h.2.2.2⟩
set_option maxHeartbeats 4000000 in
theorem moves_none (p : Int) (w : World) (h : p < 0 ∨ 3 < p) : Calls Try.prog 49 #[.int .i64 p] w fun e w' => e = .returned (.slice none 0 0) ∧ w = w' := by
  have h0 : (p == 0) = false := by simp; omega
  have h1 : (p == 1) = false := by simp; omega
  have h2 : (p == 2) = false := by simp; omega
  have h3 : (p == 3) = false := by simp; omega
  clear h
  go_enter Try.func49, Try.ntmps49
  go_wp2_with fail
  go_ret
  exact ⟨rfl, rfl⟩
set_option maxRecDepth 100000 in
set_option maxHeartbeats 4000000 in
theorem moves_0 (w : World) : Calls Try.prog 49 #[.int .i64 0] w fun e w' => ∃ A c, e = .returned (.slice A 3 c) ∧ Reads w' w'.heap.size 1 A 3 (iv [1, 2, 4]) ∧ Below w.heap.size w w' := by
  obtain ⟨i0, hi0, hz0, hz1, hz2⟩ := ph_parts
  have q4 : Hid (Reads (w.alloc (.cells #[.int .i64 1, .int .i64 2, .int .i64 4] 82)) (w.alloc (.cells #[.int .i64 1, .int .i64 2, .int .i64 4] 82)).heap.size 1 (some ⟨w.heap.size, 0, none⟩) 3 (iv [1, 2, 4])) := Lib.hid (reads_of_blk (l := [1, 2, 4]) (Blk.new w 82 _) rfl)
  go_enter Try.func49, Try.ntmps49
  go_wp2_with (first
    | (at_builtin
       refine wpList_append_any _ rfl (.tmp 16) (.tmp 17) _ rfl w.heap.size 82 i0 _ 1 8 Try.underlying89 hi0 hz0 hz1 hz2 rfl (by omega) (.slice none 0 0) 0 (iv []) rfl (own_nil _ _ _ _) _ _ 3 3 (iv [1, 2, 4]) rfl q4.out iv_one (by simp only [maxLen]; omega) (by omega) (by simp) ?_
       intro v1 w1 hown1 hg1 hat1
       rw [Nat.zero_add, iv_append, List.nil_append] at hown1
       obtain ⟨A2, c2, rfl, hr2⟩ := own_slice hown1
       have q2 : Hid (Below w.heap.size w w1) := Lib.hid ((((Only.refl (fun i => w.heap.size ≤ i) w).alloc _).trans (Only.of_grown (S := fun i => w.heap.size ≤ i) hg1 (fun i hi => by cases hi)) (fun _ _ h => h)).below (Nat.le_refl _) (fun i hi h => by omega))
       have q3 := Lib.hid hr2
       clear hown1 hg1 hat1 hr2)
    | fail)
  go_ret
  exact ⟨A2, c2, rfl, q3.out, q2.out⟩
set_option maxRecDepth 100000 in
set_option maxHeartbeats 4000000 in
theorem moves_1 (w : World) : Calls Try.prog 49 #[.int .i64 1] w fun e w' => ∃ A c, e = .returned (.slice A 4 c) ∧ Reads w' w'.heap.size 1 A 4 (iv [0, 1, 2, 4]) ∧ Below w.heap.size w w' := by
  obtain ⟨i0, hi0, hz0, hz1, hz2⟩ := ph_parts
  have q4 : Hid (Reads (w.alloc (.cells #[.int .i64 0] 82)) (w.alloc (.cells #[.int .i64 0] 82)).heap.size 1 (some ⟨w.heap.size, 0, none⟩) 1 (iv [0])) := Lib.hid (reads_of_blk (l := [0]) (Blk.new w 82 _) rfl)
  go_enter Try.func49, Try.ntmps49
  go_wp2_with (first
    | (at_builtin
       refine wpList_append_any _ rfl (.tmp 13) (.tmp 14) _ rfl w.heap.size 82 i0 _ 1 8 Try.underlying89 hi0 hz0 hz1 hz2 rfl (by omega) (.slice none 0 0) 0 (iv []) rfl (own_nil _ _ _ _) _ _ 1 1 (iv [0]) rfl q4.out iv_one (by simp only [maxLen]; omega) (by omega) (by simp) ?_
       intro v1 w1 hown1 hg1 hat1
       rw [Nat.zero_add, iv_append, List.nil_append] at hown1
       obtain ⟨A2, c2, rfl, hr2⟩ := own_slice hown1
       have q2 : Hid (Only (fun i => w.heap.size ≤ i) w w1) := Lib.hid (((Only.refl (fun i => w.heap.size ≤ i) w).alloc _).trans (Only.of_grown (S := fun i => w.heap.size ≤ i) hg1 (fun i hi => by cases hi)) (fun _ _ h => h))
       have q3 : Hid ((w1.alloc (.cells #[.int .i64 1, .int .i64 2, .int .i64 4] 82)).ownsRow w.heap.size 82 1 (.slice A2 1 c2) 1 (iv [0])) := Lib.hid (((Only.refl (fun _ => False) w1).alloc _).own hown1 (fun _ _ h => h))
       have q5 : Hid (Reads (w1.alloc (.cells #[.int .i64 1, .int .i64 2, .int .i64 4] 82)) (w1.alloc (.cells #[.int .i64 1, .int .i64 2, .int .i64 4] 82)).heap.size 1 (some ⟨w1.heap.size, 0, none⟩) 3 (iv [1, 2, 4])) := Lib.hid (reads_of_blk (l := [1, 2, 4]) (Blk.new w1 82 _) rfl)
       have q6 : Hid (w.heap.size ≤ (w1.alloc (.cells #[.int .i64 1, .int .i64 2, .int .i64 4] 82)).heap.size) := Lib.hid (by have h := q2.out.size; simp; omega)
       clear hown1 hg1 hat1 hr2)
    | (at_builtin
       refine wpList_append_any _ rfl (.tmp 16) (.tmp 17) _ rfl w.heap.size 82 i0 _ 1 8 Try.underlying89 hi0 hz0 hz1 hz2 rfl (by omega) (.slice A2 1 c2) 1 (iv [0]) rfl q3.out _ _ 3 3 (iv [1, 2, 4]) rfl q5.out iv_one (by simp only [maxLen]; omega) (by omega) q6.out ?_
       intro v2 w2 hown2 hg2 hat2
       rw [iv_append] at hown2
       obtain ⟨A3, c3, rfl, hr3⟩ := own_slice hown2
       have q7 : Hid (Below w.heap.size w w2) := Lib.hid (((q2.out.alloc _).trans (Only.of_grown (S := fun i => w.heap.size ≤ i) hg2 (fun i hi => (q3.out.lt i hi.symm).1)) (fun _ _ h => h)).below (Nat.le_refl _) (fun i hi h => by omega))
       have q8 := Lib.hid hr3
       clear hown2 hg2 hat2 hr3)
    | fail)
  go_ret
  exact ⟨A3, c3, rfl, q8.out, q7.out⟩
set_option maxRecDepth 100000 in
set_option maxHeartbeats 4000000 in
theorem moves_2 (w : World) : Calls Try.prog 49 #[.int .i64 2] w fun e w' => ∃ A c, e = .returned (.slice A 2 c) ∧ Reads w' w'.heap.size 1 A 2 (iv [3, 4]) ∧ Below w.heap.size w w' := by
  obtain ⟨i0, hi0, hz0, hz1, hz2⟩ := ph_parts
  have q4 : Hid (Reads (w.alloc (.cells #[.int .i64 3, .int .i64 4] 82)) (w.alloc (.cells #[.int .i64 3, .int .i64 4] 82)).heap.size 1 (some ⟨w.heap.size, 0, none⟩) 2 (iv [3, 4])) := Lib.hid (reads_of_blk (l := [3, 4]) (Blk.new w 82 _) rfl)
  go_enter Try.func49, Try.ntmps49
  go_wp2_with (first
    | (at_builtin
       refine wpList_append_any _ rfl (.tmp 19) (.tmp 20) _ rfl w.heap.size 82 i0 _ 1 8 Try.underlying89 hi0 hz0 hz1 hz2 rfl (by omega) (.slice none 0 0) 0 (iv []) rfl (own_nil _ _ _ _) _ _ 2 2 (iv [3, 4]) rfl q4.out iv_one (by simp only [maxLen]; omega) (by omega) (by simp) ?_
       intro v1 w1 hown1 hg1 hat1
       rw [Nat.zero_add, iv_append, List.nil_append] at hown1
       obtain ⟨A2, c2, rfl, hr2⟩ := own_slice hown1
       have q2 : Hid (Below w.heap.size w w1) := Lib.hid ((((Only.refl (fun i => w.heap.size ≤ i) w).alloc _).trans (Only.of_grown (S := fun i => w.heap.size ≤ i) hg1 (fun i hi => by cases hi)) (fun _ _ h => h)).below (Nat.le_refl _) (fun i hi h => by omega))
       have q3 := Lib.hid hr2
       clear hown1 hg1 hat1 hr2)
    | fail)
  go_ret
  exact ⟨A2, c2, rfl, q3.out, q2.out⟩
set_option maxRecDepth 100000 in
set_option maxHeartbeats 4000000 in
theorem moves_3 (w : World) : Calls Try.prog 49 #[.int .i64 3] w fun e w' => ∃ A c, e = .returned (.slice A 2 c) ∧ Reads w' w'.heap.size 1 A 2 (iv [0, 4]) ∧ Below w.heap.size w w' := by
  obtain ⟨i0, hi0, hz0, hz1, hz2⟩ := ph_parts
  have q4 : Hid (Reads (w.alloc (.cells #[.int .i64 0, .int .i64 4] 82)) (w.alloc (.cells #[.int .i64 0, .int .i64 4] 82)).heap.size 1 (some ⟨w.heap.size, 0, none⟩) 2 (iv [0, 4])) := Lib.hid (reads_of_blk (l := [0, 4]) (Blk.new w 82 _) rfl)
  go_enter Try.func49, Try.ntmps49
  go_wp2_with (first
    | (at_builtin
       refine wpList_append_any _ rfl (.tmp 22) (.tmp 23) _ rfl w.heap.size 82 i0 _ 1 8 Try.underlying89 hi0 hz0 hz1 hz2 rfl (by omega) (.slice none 0 0) 0 (iv []) rfl (own_nil _ _ _ _) _ _ 2 2 (iv [0, 4]) rfl q4.out iv_one (by simp only [maxLen]; omega) (by omega) (by simp) ?_
       intro v1 w1 hown1 hg1 hat1
       rw [Nat.zero_add, iv_append, List.nil_append] at hown1
       obtain ⟨A2, c2, rfl, hr2⟩ := own_slice hown1
       have q2 : Hid (Below w.heap.size w w1) := Lib.hid ((((Only.refl (fun i => w.heap.size ≤ i) w).alloc _).trans (Only.of_grown (S := fun i => w.heap.size ≤ i) hg1 (fun i hi => by cases hi)) (fun _ _ h => h)).below (Nat.le_refl _) (fun i hi h => by omega))
       have q3 := Lib.hid hr2
       clear hown1 hg1 hat1 hr2)
    | fail)
  go_ret
  exact ⟨A2, c2, rfl, q3.out, q2.out⟩
end Go.Proofs.Ytencgokpbfkeiaa
