/- The document's queue (layer 11): a list. -/
import Derived.Test.YtmomafhpbbmiaaaR8
set_option linter.unusedVariables false
namespace Go.Proofs.Ytmomafhpbbmiaaa
open Go.ChangeShapes Go.WideShapes Go.ChangeAt Go.RowKit
theorem Only.of_below0 {w w' : World} (h : Below w.heap.size w w') : Only (fun _ => False) w w' := Only.of_below h
set_option maxRecDepth 100000 in
set_option maxHeartbeats 4000000 in
theorem rpush_dup (A : Option Addr) (n c B : Nat) (L : List Int) (most v : Int) (w : World) (hr : Reads w B 1 A n (iv L)) (hn : n ≤ maxLen) (hv : 0 ≤ idx L v) :
    Calls Try.prog 15 #[.slice A n c, .int .i64 most, .int .i64 v] w fun e w' => e = .returned (.tuple #[.slice A n c, .int .i64 5]) ∧ w = w' := by
  have C := at_any A n c B L v w hr hn
  generalize idx L v = i at *
  have HC := Lib.hid C
  clear C hr
  go_enter Try.func15, Try.ntmps15
  go_wp2_with (go_at_call 13; refine (HC.out).mono ?_; rintro e w' ⟨rfl, rfl⟩)
  go_ret2
  exact ⟨rfl, rfl⟩
set_option maxRecDepth 100000 in
set_option maxHeartbeats 4000000 in
theorem rpush_full (A : Option Addr) (n c B : Nat) (L : List Int) (most v : Int) (w : World) (hr : Reads w B 1 A n (iv L)) (hn : n ≤ maxLen) (hv : idx L v < 0) (hm : most ≤ (n : Int)) :
    Calls Try.prog 15 #[.slice A n c, .int .i64 most, .int .i64 v] w fun e w' => e = .returned (.tuple #[.slice A n c, .int .i64 4]) ∧ w = w' := by
  have C := at_any A n c B L v w hr hn
  generalize idx L v = i at *
  have HC := Lib.hid C
  clear C hr
  go_enter Try.func15, Try.ntmps15
  go_wp2_with (go_at_call 13; refine (HC.out).mono ?_; rintro e w' ⟨rfl, rfl⟩)
  go_ret2
  exact ⟨rfl, rfl⟩
set_option maxRecDepth 100000 in
set_option maxHeartbeats 4000000 in
theorem rpush_ok (A : Option Addr) (n c B : Nat) (L : List Int) (most v : Int) (w : World) (hr : Reads w B 1 A n (iv L)) (hB : B ≤ w.heap.size) (hn : n ≤ 100000) (hv : idx L v < 0) (hm : (n : Int) < most) :
    Calls Try.prog 15 #[.slice A n c, .int .i64 most, .int .i64 v] w fun e w' => ∃ u, e = .returned (.tuple #[u, .int .i64 0]) ∧ Fresh w w' u (L ++ [v]) ∧ Only (fun _ => False) w w' := by
  obtain ⟨i0, hi0, hz0, hz1, hz2⟩ := info_parts int_info
  have C := at_any A n c B L v w hr (by simp only [maxLen]; omega)
  have hl := hr.len
  generalize idx L v = i at *
  have HC := Lib.hid C
  have HR : Reads (w.alloc (.cells #[] 3)) B 1 A n (iv L) := hr.alloc hB _
  have HO : (w.alloc (.cells #[] 3)).ownsRow w.heap.size 3 1 (.slice (some ⟨w.heap.size, 0, none⟩) 0 0) 0 (iv []) := own_new w 3 1
  have HRR := Lib.hid HR
  have HOO := Lib.hid HO
  have HL := Lib.hid hl
  clear C hr HR HO hl
  go_enter Try.func15, Try.ntmps15
  go_wp2_with (first
    | (go_at_call 13; refine (HC.out).mono ?_; rintro e w' ⟨rfl, rfl⟩)
    | (at_builtin
       refine wpList_append_any _ rfl (.tmp 18) (.tmp 19) _ rfl w.heap.size 3 i0 _ 1 8 Try.underlying28 hi0 hz0 hz1 hz2 rfl (by omega) (.slice (some ⟨w.heap.size, 0, none⟩) 0 0) 0 (iv []) rfl HOO.out B A n c (iv L) rfl HRR.out iv_one (by simp only [maxLen]; omega) (by omega) (by simp) ?_
       intro v1 w1 hown1 hg1 hat1
       rw [Nat.zero_add, iv_append, List.nil_append] at hown1
       obtain ⟨A2, c2, rfl, hr2⟩ := own_slice hown1
       clear hr2
       have q2 : Hid (Only (fun i => w.heap.size ≤ i) w w1) := Lib.hid (((Only.refl _ w).alloc _).trans (Only.of_grown (S := fun i => w.heap.size ≤ i) hg1 (fun i hi => by cases hi; exact Nat.le_refl _)) (fun _ _ h => h))
       have q3 : Hid ((w1.alloc (.cells #[.int .i64 v] 3)).ownsRow w.heap.size 3 1 (.slice A2 n c2) n (iv L)) := Lib.hid (((Only.refl (fun _ => False) w1).alloc _).own hown1 (fun _ _ h => h))
       have q4 : Hid (Reads (w1.alloc (.cells #[.int .i64 v] 3)) (w1.alloc (.cells #[.int .i64 v] 3)).heap.size 1 (some ⟨w1.heap.size, 0, none⟩) 1 (iv [v])) := Lib.hid (Reads.of_own (base := 0) (e := 3) (c := 1) (World.ownsRow_lit (size := 1) (e := 3) w1 #[.int .i64 v] 1 (Nat.zero_le _) (by simp [maxLen]) rfl))
       have q5 : Hid (w.heap.size ≤ (w1.alloc (.cells #[.int .i64 v] 3)).heap.size) := Lib.hid (by have h := q2.out.size; simp; omega)
       clear hown1 hg1 hat1)
    | (at_builtin
       refine wpList_append_any _ rfl (.tmp 20) (.tmp 22) _ rfl w.heap.size 3 i0 _ 1 8 Try.underlying28 hi0 hz0 hz1 hz2 rfl (by omega) (.slice A2 n c2) n (iv L) rfl q3.out _ _ 1 1 (iv [v]) rfl q4.out iv_one (by simp only [maxLen]; omega) (by omega) q5.out ?_
       intro v2 w2 hown2 hg2 hat2
       rw [iv_append] at hown2
       have q6 : Hid (Only (fun i => w.heap.size ≤ i) w w2) := Lib.hid ((q2.out.alloc _).trans (Only.of_grown (S := fun i => w.heap.size ≤ i) hg2 (fun i hi => (q3.out.lt i hi.symm).1)) (fun _ _ h => h))
       have q7 := Lib.hid hown2
       clear hown2 hg2 hat2)
    | fail)
  go_ret2
  refine ⟨v2, rfl, ?_, q6.out.mono (fun i hi h => by omega)⟩
  unfold Fresh
  have e : (L ++ [v]).length = n + 1 := by have := HL.out; simp; omega
  rw [e]
  exact q7.out
set_option maxRecDepth 100000 in
set_option maxHeartbeats 4000000 in
theorem rdrop_no (A : Option Addr) (n c B : Nat) (L : List Int) (v : Int) (w : World) (hr : Reads w B 1 A n (iv L)) (hn : n ≤ maxLen) (hv : idx L v < 0) :
    Calls Try.prog 14 #[.slice A n c, .int .i64 v] w fun e w' => e = .returned (.slice A n c) ∧ w = w' := by
  have C := at_any A n c B L v w hr hn
  generalize idx L v = i at *
  have HC := Lib.hid C
  clear C hr
  go_enter Try.func14, Try.ntmps14
  go_wp2_with (go_at_call 13; refine (HC.out).mono ?_; rintro e w' ⟨rfl, rfl⟩)
  go_ret
  exact ⟨rfl, rfl⟩
end Go.Proofs.Ytmomafhpbbmiaaa
