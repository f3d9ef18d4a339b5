/- A session (layer 32): Start. -/
import Derived.Test.YtencgokpbfkeiaaI1
set_option linter.unusedVariables false
namespace Go.Proofs.Ytencgokpbfkeiaa
open Go.ChangeShapes Go.WideShapes Go.ChangeAt Go.RowKit
/-- whether a session is in one of these phases, asked with a list that is made for it -/
theorem in_made (s : Nat) (ph : Int) (r : Rq) (tr bu : Int) (w : World) (hs : Se w s ph r tr bu) (zs : List Int) (res : Bool) (hz : decide (0 ≤ idx zs ph) = res) (hn : zs.length ≤ 100) : ∀ W b n cs, b = W.heap.size → n = zs.length → cs = (iv zs).toArray → Only (fun _ => False) w W → Calls Try.prog 77 #[.pointer (some ⟨s, 0, none⟩), .slice (some ⟨b, 0, none⟩) n n] (W.alloc (.cells cs 82)) fun e w' => e = .returned (.bool res) ∧ (W.alloc (.cells cs 82)) = w' := fun W b n cs hbW hn' hcs hW => by
  subst hbW hn' hcs
  exact in_any s ph r tr bu _ zs.length zs.length _ zs res _ ((hs.blk_ hW).blk_ (only_new W _)) (reads_of_blk (Blk.new W 82 _) rfl) (by simp only [maxLen]; omega) hz
theorem Only.of_below0 {w w' : World} (h : Below w.heap.size w w') : Only (fun _ => False) w w' := Only.of_below h
set_option maxRecDepth 100000 in
set_option maxHeartbeats 8000000 in
theorem start_form (s : Nat) (ph : Int) (r r' : Rq) (tr bu : Int) (w : World) (hs : Se w s ph r tr bu) (hp : ph ≠ 4) (hg : r'.good = false) : Calls Try.prog 50 #[.pointer (some ⟨s, 0, none⟩), r'.v] w fun e w' => e = .returned (.int .i64 8) ∧ Only (fun _ => False) w w' := by
  have H1 := Lib.hid (in_made s ph r tr bu w hs [4] false (by rw [idx_one]; exact decide_eq_false (fun e => hp (by omega))) (by decide))
  have G := fun W => good_r r' W
  rw [hg] at G
  have HG := Lib.hid G
  have B0 : Hid (Blk (w.alloc (.cells #[.int .i64 r'.k, .int .i64 r'.ck, .int .i64 r'.pi, .int .i64 r'.px, .int .i64 r'.py, .int .i64 r'.si, .int .i64 r'.sl, .int .i64 r'.sh, .int .i64 r'.q.qk, .int .i64 r'.q.b1, .int .i64 r'.q.b2, .int .i64 r'.q.b3, .int .i64 r'.q.b4, .int .i64 r'.q.w1, .int .i64 r'.q.w2, .int .i64 r'.q.w3, .int .i64 r'.q.x, .int .i64 r'.q.h] 57)) w.heap.size 57 #[.int .i64 r'.k, .int .i64 r'.ck, .int .i64 r'.pi, .int .i64 r'.px, .int .i64 r'.py, .int .i64 r'.si, .int .i64 r'.sl, .int .i64 r'.sh, .int .i64 r'.q.qk, .int .i64 r'.q.b1, .int .i64 r'.q.b2, .int .i64 r'.q.b3, .int .i64 r'.q.b4, .int .i64 r'.q.w1, .int .i64 r'.q.w2, .int .i64 r'.q.w3, .int .i64 r'.q.x, .int .i64 r'.q.h]) := Lib.hid (Blk.new w _ _)
  have HS := Lib.hid hs
  have hsl := Blk.lt hs
  clear G hs hp hg
  unfold Rq.v
  go_enter Try.func50, Try.ntmps50
  go_wp2_with fail
  ((with_reducible refine (H1.out _ (w.heap.size + 1) 1 #[.int .i64 4] (by simp) rfl rfl (only_new w _)).mono ?_))
  rintro e w' ⟨rfl, rfl⟩
  have B1 : Hid (Blk ((w.alloc (.cells #[.int .i64 r'.k, .int .i64 r'.ck, .int .i64 r'.pi, .int .i64 r'.px, .int .i64 r'.py, .int .i64 r'.si, .int .i64 r'.sl, .int .i64 r'.sh, .int .i64 r'.q.qk, .int .i64 r'.q.b1, .int .i64 r'.q.b2, .int .i64 r'.q.b3, .int .i64 r'.q.b4, .int .i64 r'.q.w1, .int .i64 r'.q.w2, .int .i64 r'.q.w3, .int .i64 r'.q.x, .int .i64 r'.q.h] 57)).alloc (.cells #[.int .i64 4] 82)) w.heap.size 57 #[.int .i64 r'.k, .int .i64 r'.ck, .int .i64 r'.pi, .int .i64 r'.px, .int .i64 r'.py, .int .i64 r'.si, .int .i64 r'.sl, .int .i64 r'.sh, .int .i64 r'.q.qk, .int .i64 r'.q.b1, .int .i64 r'.q.b2, .int .i64 r'.q.b3, .int .i64 r'.q.b4, .int .i64 r'.q.w1, .int .i64 r'.q.w2, .int .i64 r'.q.w3, .int .i64 r'.q.x, .int .i64 r'.q.h]) := Lib.hid (B0.out.alloc _)
  go_wp2_with (first | (refine wpList_load_blk rfl 57 (.tmp 3) rfl 0 rfl B1.out 18 [.int .i64 r'.k, .int .i64 r'.ck, .int .i64 r'.pi, .int .i64 r'.px, .int .i64 r'.py, .int .i64 r'.si, .int .i64 r'.sl, .int .i64 r'.sh, .int .i64 r'.q.qk, .int .i64 r'.q.b1, .int .i64 r'.q.b2, .int .i64 r'.q.b3, .int .i64 r'.q.b4, .int .i64 r'.q.w1, .int .i64 r'.q.w2, .int .i64 r'.q.w3, .int .i64 r'.q.x, .int .i64 r'.q.h] rfl _ Try.underlying57 rfl (by kernel_rfl) ?_) | fail)
  refine (HG.out _).mono ?_
  rintro e w2 ⟨rfl, hb2⟩
  have O2 : Hid (Only (fun _ => False) w w2) := Lib.hid ((((Only.refl _ w).alloc _).alloc _).trans (Only.of_below0 hb2) (fun _ _ h => h))
  have B2 : Hid (Blk w2 w.heap.size 57 #[.int .i64 r'.k, .int .i64 r'.ck, .int .i64 r'.pi, .int .i64 r'.px, .int .i64 r'.py, .int .i64 r'.si, .int .i64 r'.sl, .int .i64 r'.sh, .int .i64 r'.q.qk, .int .i64 r'.q.b1, .int .i64 r'.q.b2, .int .i64 r'.q.b3, .int .i64 r'.q.b4, .int .i64 r'.q.w1, .int .i64 r'.q.w2, .int .i64 r'.q.w3, .int .i64 r'.q.x, .int .i64 r'.q.h]) := Lib.hid (B1.out.below hb2 B1.out.lt)
  have hz2 : w.heap.size < w2.heap.size := B2.out.lt
  clear hb2
  go_wp2_with fail
  go_ret
  exact ⟨rfl, O2.out⟩
set_option maxRecDepth 100000 in
set_option maxHeartbeats 8000000 in
theorem start_busy (s : Nat) (ph : Int) (r r' : Rq) (tr bu : Int) (w : World) (hs : Se w s ph r tr bu) (hp : ph ≠ 4) (hg : r'.good = true) (hp0 : ph ≠ 0) : Calls Try.prog 50 #[.pointer (some ⟨s, 0, none⟩), r'.v] w fun e w' => e = .returned (.int .i64 7) ∧ Only (fun _ => False) w w' := by
  have H1 := Lib.hid (in_made s ph r tr bu w hs [4] false (by rw [idx_one]; exact decide_eq_false (fun e => hp (by omega))) (by decide))
  have G := fun W => good_r r' W
  rw [hg] at G
  have HG := Lib.hid G
  have B0 : Hid (Blk (w.alloc (.cells #[.int .i64 r'.k, .int .i64 r'.ck, .int .i64 r'.pi, .int .i64 r'.px, .int .i64 r'.py, .int .i64 r'.si, .int .i64 r'.sl, .int .i64 r'.sh, .int .i64 r'.q.qk, .int .i64 r'.q.b1, .int .i64 r'.q.b2, .int .i64 r'.q.b3, .int .i64 r'.q.b4, .int .i64 r'.q.w1, .int .i64 r'.q.w2, .int .i64 r'.q.w3, .int .i64 r'.q.x, .int .i64 r'.q.h] 57)) w.heap.size 57 #[.int .i64 r'.k, .int .i64 r'.ck, .int .i64 r'.pi, .int .i64 r'.px, .int .i64 r'.py, .int .i64 r'.si, .int .i64 r'.sl, .int .i64 r'.sh, .int .i64 r'.q.qk, .int .i64 r'.q.b1, .int .i64 r'.q.b2, .int .i64 r'.q.b3, .int .i64 r'.q.b4, .int .i64 r'.q.w1, .int .i64 r'.q.w2, .int .i64 r'.q.w3, .int .i64 r'.q.x, .int .i64 r'.q.h]) := Lib.hid (Blk.new w _ _)
  have HS := Lib.hid hs
  have hsl := Blk.lt hs
  have H2 := Lib.hid (in_made s ph r tr bu w hs [0] false (by rw [idx_one]; exact decide_eq_false (fun e => hp0 (by omega))) (by decide))
  clear G hs hp hg hp0
  unfold Rq.v
  go_enter Try.func50, Try.ntmps50
  go_wp2_with fail
  ((with_reducible refine (H1.out _ (w.heap.size + 1) 1 #[.int .i64 4] (by simp) rfl rfl (only_new w _)).mono ?_))
  rintro e w' ⟨rfl, rfl⟩
  have B1 : Hid (Blk ((w.alloc (.cells #[.int .i64 r'.k, .int .i64 r'.ck, .int .i64 r'.pi, .int .i64 r'.px, .int .i64 r'.py, .int .i64 r'.si, .int .i64 r'.sl, .int .i64 r'.sh, .int .i64 r'.q.qk, .int .i64 r'.q.b1, .int .i64 r'.q.b2, .int .i64 r'.q.b3, .int .i64 r'.q.b4, .int .i64 r'.q.w1, .int .i64 r'.q.w2, .int .i64 r'.q.w3, .int .i64 r'.q.x, .int .i64 r'.q.h] 57)).alloc (.cells #[.int .i64 4] 82)) w.heap.size 57 #[.int .i64 r'.k, .int .i64 r'.ck, .int .i64 r'.pi, .int .i64 r'.px, .int .i64 r'.py, .int .i64 r'.si, .int .i64 r'.sl, .int .i64 r'.sh, .int .i64 r'.q.qk, .int .i64 r'.q.b1, .int .i64 r'.q.b2, .int .i64 r'.q.b3, .int .i64 r'.q.b4, .int .i64 r'.q.w1, .int .i64 r'.q.w2, .int .i64 r'.q.w3, .int .i64 r'.q.x, .int .i64 r'.q.h]) := Lib.hid (B0.out.alloc _)
  go_wp2_with (first | (refine wpList_load_blk rfl 57 (.tmp 3) rfl 0 rfl B1.out 18 [.int .i64 r'.k, .int .i64 r'.ck, .int .i64 r'.pi, .int .i64 r'.px, .int .i64 r'.py, .int .i64 r'.si, .int .i64 r'.sl, .int .i64 r'.sh, .int .i64 r'.q.qk, .int .i64 r'.q.b1, .int .i64 r'.q.b2, .int .i64 r'.q.b3, .int .i64 r'.q.b4, .int .i64 r'.q.w1, .int .i64 r'.q.w2, .int .i64 r'.q.w3, .int .i64 r'.q.x, .int .i64 r'.q.h] rfl _ Try.underlying57 rfl (by kernel_rfl) ?_) | fail)
  refine (HG.out _).mono ?_
  rintro e w2 ⟨rfl, hb2⟩
  have O2 : Hid (Only (fun _ => False) w w2) := Lib.hid ((((Only.refl _ w).alloc _).alloc _).trans (Only.of_below0 hb2) (fun _ _ h => h))
  have B2 : Hid (Blk w2 w.heap.size 57 #[.int .i64 r'.k, .int .i64 r'.ck, .int .i64 r'.pi, .int .i64 r'.px, .int .i64 r'.py, .int .i64 r'.si, .int .i64 r'.sl, .int .i64 r'.sh, .int .i64 r'.q.qk, .int .i64 r'.q.b1, .int .i64 r'.q.b2, .int .i64 r'.q.b3, .int .i64 r'.q.b4, .int .i64 r'.q.w1, .int .i64 r'.q.w2, .int .i64 r'.q.w3, .int .i64 r'.q.x, .int .i64 r'.q.h]) := Lib.hid (B1.out.below hb2 B1.out.lt)
  have hz2 : w.heap.size < w2.heap.size := B2.out.lt
  clear hb2
  go_wp2_with fail
  ((with_reducible refine (H2.out _ w2.heap.size 1 #[.int .i64 0] rfl rfl rfl O2.out).mono ?_))
  rintro e w' ⟨rfl, rfl⟩
  go_wp2_with fail
  go_ret
  exact ⟨rfl, O2.out.alloc _⟩
set_option maxRecDepth 100000 in
set_option maxHeartbeats 8000000 in
theorem start_reads (s : Nat) (ph : Int) (r r' : Rq) (tr bu : Int) (w : World) (hs : Se w s ph r tr bu) (hp0 : ph = 0) (hg : r'.good = true) (hk : r'.k = 2) (hbu : 0 < bu) : Calls Try.prog 50 #[.pointer (some ⟨s, 0, none⟩), r'.v] w fun e w' => e = .returned (.int .i64 0) ∧ Se w' s 1 r'.only 0 bu ∧ Only (fun i => i = s) w w' := by
  have H1 := Lib.hid (in_made s ph r tr bu w hs [4] false (by rw [idx_one]; exact decide_eq_false (fun e => by omega)) (by decide))
  have G := fun W => good_r r' W
  rw [hg] at G
  have HG := Lib.hid G
  have B0 : Hid (Blk (w.alloc (.cells #[.int .i64 r'.k, .int .i64 r'.ck, .int .i64 r'.pi, .int .i64 r'.px, .int .i64 r'.py, .int .i64 r'.si, .int .i64 r'.sl, .int .i64 r'.sh, .int .i64 r'.q.qk, .int .i64 r'.q.b1, .int .i64 r'.q.b2, .int .i64 r'.q.b3, .int .i64 r'.q.b4, .int .i64 r'.q.w1, .int .i64 r'.q.w2, .int .i64 r'.q.w3, .int .i64 r'.q.x, .int .i64 r'.q.h] 57)) w.heap.size 57 #[.int .i64 r'.k, .int .i64 r'.ck, .int .i64 r'.pi, .int .i64 r'.px, .int .i64 r'.py, .int .i64 r'.si, .int .i64 r'.sl, .int .i64 r'.sh, .int .i64 r'.q.qk, .int .i64 r'.q.b1, .int .i64 r'.q.b2, .int .i64 r'.q.b3, .int .i64 r'.q.b4, .int .i64 r'.q.w1, .int .i64 r'.q.w2, .int .i64 r'.q.w3, .int .i64 r'.q.x, .int .i64 r'.q.h]) := Lib.hid (Blk.new w _ _)
  have HS := Lib.hid hs
  have hsl := Blk.lt hs
  have H2 := Lib.hid (in_made s ph r tr bu w hs [0] true (by rw [idx_one]; exact decide_eq_true (by omega)) (by decide))
  have ON := Lib.hid (only_any r')
  clear G hs hg
  have d1 : (r'.k == 2) = true := by simp [hk]
  have d2 : decide (0 < bu) = true := decide_eq_true hbu
  clear hk hbu hp0
  unfold Rq.v
  go_enter Try.func50, Try.ntmps50
  go_wp2_with fail
  ((with_reducible refine (H1.out _ (w.heap.size + 1) 1 #[.int .i64 4] (by simp) rfl rfl (only_new w _)).mono ?_))
  rintro e w' ⟨rfl, rfl⟩
  have B1 : Hid (Blk ((w.alloc (.cells #[.int .i64 r'.k, .int .i64 r'.ck, .int .i64 r'.pi, .int .i64 r'.px, .int .i64 r'.py, .int .i64 r'.si, .int .i64 r'.sl, .int .i64 r'.sh, .int .i64 r'.q.qk, .int .i64 r'.q.b1, .int .i64 r'.q.b2, .int .i64 r'.q.b3, .int .i64 r'.q.b4, .int .i64 r'.q.w1, .int .i64 r'.q.w2, .int .i64 r'.q.w3, .int .i64 r'.q.x, .int .i64 r'.q.h] 57)).alloc (.cells #[.int .i64 4] 82)) w.heap.size 57 #[.int .i64 r'.k, .int .i64 r'.ck, .int .i64 r'.pi, .int .i64 r'.px, .int .i64 r'.py, .int .i64 r'.si, .int .i64 r'.sl, .int .i64 r'.sh, .int .i64 r'.q.qk, .int .i64 r'.q.b1, .int .i64 r'.q.b2, .int .i64 r'.q.b3, .int .i64 r'.q.b4, .int .i64 r'.q.w1, .int .i64 r'.q.w2, .int .i64 r'.q.w3, .int .i64 r'.q.x, .int .i64 r'.q.h]) := Lib.hid (B0.out.alloc _)
  go_wp2_with (first | (refine wpList_load_blk rfl 57 (.tmp 3) rfl 0 rfl B1.out 18 [.int .i64 r'.k, .int .i64 r'.ck, .int .i64 r'.pi, .int .i64 r'.px, .int .i64 r'.py, .int .i64 r'.si, .int .i64 r'.sl, .int .i64 r'.sh, .int .i64 r'.q.qk, .int .i64 r'.q.b1, .int .i64 r'.q.b2, .int .i64 r'.q.b3, .int .i64 r'.q.b4, .int .i64 r'.q.w1, .int .i64 r'.q.w2, .int .i64 r'.q.w3, .int .i64 r'.q.x, .int .i64 r'.q.h] rfl _ Try.underlying57 rfl (by kernel_rfl) ?_) | fail)
  refine (HG.out _).mono ?_
  rintro e w2 ⟨rfl, hb2⟩
  have O2 : Hid (Only (fun _ => False) w w2) := Lib.hid ((((Only.refl _ w).alloc _).alloc _).trans (Only.of_below0 hb2) (fun _ _ h => h))
  have B2 : Hid (Blk w2 w.heap.size 57 #[.int .i64 r'.k, .int .i64 r'.ck, .int .i64 r'.pi, .int .i64 r'.px, .int .i64 r'.py, .int .i64 r'.si, .int .i64 r'.sl, .int .i64 r'.sh, .int .i64 r'.q.qk, .int .i64 r'.q.b1, .int .i64 r'.q.b2, .int .i64 r'.q.b3, .int .i64 r'.q.b4, .int .i64 r'.q.w1, .int .i64 r'.q.w2, .int .i64 r'.q.w3, .int .i64 r'.q.x, .int .i64 r'.q.h]) := Lib.hid (B1.out.below hb2 B1.out.lt)
  have hz2 : w.heap.size < w2.heap.size := B2.out.lt
  clear hb2
  go_wp2_with fail
  ((with_reducible refine (H2.out _ w2.heap.size 1 #[.int .i64 0] rfl rfl rfl O2.out).mono ?_))
  rintro e w' ⟨rfl, rfl⟩
  have B3 : Hid (Blk (w2.alloc (.cells #[.int .i64 0] 82)) w.heap.size 57 #[.int .i64 r'.k, .int .i64 r'.ck, .int .i64 r'.pi, .int .i64 r'.px, .int .i64 r'.py, .int .i64 r'.si, .int .i64 r'.sl, .int .i64 r'.sh, .int .i64 r'.q.qk, .int .i64 r'.q.b1, .int .i64 r'.q.b2, .int .i64 r'.q.b3, .int .i64 r'.q.b4, .int .i64 r'.q.w1, .int .i64 r'.q.w2, .int .i64 r'.q.w3, .int .i64 r'.q.x, .int .i64 r'.q.h]) := Lib.hid (B2.out.alloc _)
  go_wp2_with (first | (refine wpList_load_blk rfl 57 (.tmp 3) rfl 0 rfl B3.out 18 [.int .i64 r'.k, .int .i64 r'.ck, .int .i64 r'.pi, .int .i64 r'.px, .int .i64 r'.py, .int .i64 r'.si, .int .i64 r'.sl, .int .i64 r'.sh, .int .i64 r'.q.qk, .int .i64 r'.q.b1, .int .i64 r'.q.b2, .int .i64 r'.q.b3, .int .i64 r'.q.b4, .int .i64 r'.q.w1, .int .i64 r'.q.w2, .int .i64 r'.q.w3, .int .i64 r'.q.x, .int .i64 r'.q.h] rfl _ Try.underlying57 rfl (by kernel_rfl) ?_) | fail)
  refine (ON.out _).mono ?_
  rintro e w4 ⟨rfl, hb4⟩
  have O4 : Hid (Only (fun _ => False) w w4) := Lib.hid ((O2.out.alloc _).trans (Only.of_below0 hb4) (fun _ _ h => h))
  have B4 : Hid (Blk w4 w.heap.size 57 #[.int .i64 r'.k, .int .i64 r'.ck, .int .i64 r'.pi, .int .i64 r'.px, .int .i64 r'.py, .int .i64 r'.si, .int .i64 r'.sl, .int .i64 r'.sh, .int .i64 r'.q.qk, .int .i64 r'.q.b1, .int .i64 r'.q.b2, .int .i64 r'.q.b3, .int .i64 r'.q.b4, .int .i64 r'.q.w1, .int .i64 r'.q.w2, .int .i64 r'.q.w3, .int .i64 r'.q.x, .int .i64 r'.q.h]) := Lib.hid (B3.out.below hb4 B3.out.lt)
  have S4 : Hid (Blk w4 s 115 #[.int .i64 ph, .int .i64 r.k, .int .i64 r.ck, .int .i64 r.pi, .int .i64 r.px, .int .i64 r.py, .int .i64 r.si, .int .i64 r.sl, .int .i64 r.sh, .int .i64 r.q.qk, .int .i64 r.q.b1, .int .i64 r.q.b2, .int .i64 r.q.b3, .int .i64 r.q.b4, .int .i64 r.q.w1, .int .i64 r.q.w2, .int .i64 r.q.w3, .int .i64 r.q.x, .int .i64 r.q.h, .int .i64 tr, .int .i64 bu]) := Lib.hid (HS.out.blk_ O4.out)
  clear hb4
  unfold Rq.v
  go_wp2_with (first
    | (refine wpList_store_blk rfl 57 (.tmp 26) (.tmp 24) rfl 1 [.int .i64 r'.only.k, .int .i64 r'.only.ck, .int .i64 r'.only.pi, .int .i64 r'.only.px, .int .i64 r'.only.py, .int .i64 r'.only.si, .int .i64 r'.only.sl, .int .i64 r'.only.sh, .int .i64 r'.only.q.qk, .int .i64 r'.only.q.b1, .int .i64 r'.only.q.b2, .int .i64 r'.only.q.b3, .int .i64 r'.only.q.b4, .int .i64 r'.only.q.w1, .int .i64 r'.only.q.w2, .int .i64 r'.only.q.w3, .int .i64 r'.only.q.x, .int .i64 r'.only.q.h] rfl rfl S4.out (Nat.le_of_ble_eq_true rfl) #[.int .i64 ph, .int .i64 r'.only.k, .int .i64 r'.only.ck, .int .i64 r'.only.pi, .int .i64 r'.only.px, .int .i64 r'.only.py, .int .i64 r'.only.si, .int .i64 r'.only.sl, .int .i64 r'.only.sh, .int .i64 r'.only.q.qk, .int .i64 r'.only.q.b1, .int .i64 r'.only.q.b2, .int .i64 r'.only.q.b3, .int .i64 r'.only.q.b4, .int .i64 r'.only.q.w1, .int .i64 r'.only.q.w2, .int .i64 r'.only.q.w3, .int .i64 r'.only.q.x, .int .i64 r'.only.q.h, .int .i64 tr, .int .i64 bu] rfl (by kernel_rfl) rfl ?_
       intro w5 hb5 ho5
       have S5 := Lib.hid hb5
       have O5 : Hid (Only (fun i => i = s) w w5) := Lib.hid ((O4.out.mono (fun _ _ h => h.elim)).trans ho5 (fun _ _ h => h))
       have B5 : Hid (Blk w5 w.heap.size 57 #[.int .i64 r'.k, .int .i64 r'.ck, .int .i64 r'.pi, .int .i64 r'.px, .int .i64 r'.py, .int .i64 r'.si, .int .i64 r'.sl, .int .i64 r'.sh, .int .i64 r'.q.qk, .int .i64 r'.q.b1, .int .i64 r'.q.b2, .int .i64 r'.q.b3, .int .i64 r'.q.b4, .int .i64 r'.q.w1, .int .i64 r'.q.w2, .int .i64 r'.q.w3, .int .i64 r'.q.x, .int .i64 r'.q.h]) := Lib.hid (ho5.blk B4.out (fun e => by omega))
       have c0 : w5.cell? ⟨s, 0, none⟩ = some (.int .i64 ph) := by rw [S5.out.cell]; rfl
       have c19 : w5.cell? ⟨s, 19, none⟩ = some (.int .i64 tr) := by rw [S5.out.cell]; rfl
       have c20 : w5.cell? ⟨s, 20, none⟩ = some (.int .i64 bu) := by rw [S5.out.cell]; rfl
       have f0 : w5.frozen? ⟨s, 0, none⟩ = false := S5.out.frozen 0
       have f19 : w5.frozen? ⟨s, 19, none⟩ = false := S5.out.frozen 19
       have k0 : w5.cell? ⟨w.heap.size, 0, none⟩ = some (.int .i64 r'.k) := by rw [B5.out.cell]; rfl
       have n1 : ¬ w.heap.size = s := by omega
       clear hb5 ho5)
    | fail)
  go_ret
  refine ⟨rfl, ((S5.out.set_ 19 _).set_ 0 (.int .i64 2)).set_ 0 (.int .i64 1), ((O5.out.setCell (p := ⟨s, 19, none⟩) (.inr rfl) _).setCell (p := ⟨s, 0, none⟩) (.inr rfl) _).setCell (p := ⟨s, 0, none⟩) (.inr rfl) _⟩
set_option maxRecDepth 100000 in
set_option maxHeartbeats 8000000 in
theorem start_none (s : Nat) (ph : Int) (r r' : Rq) (tr bu : Int) (w : World) (hs : Se w s ph r tr bu) (hp0 : ph = 0) (hg : r'.good = true) (hk : r'.k = 2) (hbu : ¬ 0 < bu) : Calls Try.prog 50 #[.pointer (some ⟨s, 0, none⟩), r'.v] w fun e w' => e = .returned (.int .i64 0) ∧ Se w' s 2 r'.only 0 bu ∧ Only (fun i => i = s) w w' := by
  have H1 := Lib.hid (in_made s ph r tr bu w hs [4] false (by rw [idx_one]; exact decide_eq_false (fun e => by omega)) (by decide))
  have G := fun W => good_r r' W
  rw [hg] at G
  have HG := Lib.hid G
  have B0 : Hid (Blk (w.alloc (.cells #[.int .i64 r'.k, .int .i64 r'.ck, .int .i64 r'.pi, .int .i64 r'.px, .int .i64 r'.py, .int .i64 r'.si, .int .i64 r'.sl, .int .i64 r'.sh, .int .i64 r'.q.qk, .int .i64 r'.q.b1, .int .i64 r'.q.b2, .int .i64 r'.q.b3, .int .i64 r'.q.b4, .int .i64 r'.q.w1, .int .i64 r'.q.w2, .int .i64 r'.q.w3, .int .i64 r'.q.x, .int .i64 r'.q.h] 57)) w.heap.size 57 #[.int .i64 r'.k, .int .i64 r'.ck, .int .i64 r'.pi, .int .i64 r'.px, .int .i64 r'.py, .int .i64 r'.si, .int .i64 r'.sl, .int .i64 r'.sh, .int .i64 r'.q.qk, .int .i64 r'.q.b1, .int .i64 r'.q.b2, .int .i64 r'.q.b3, .int .i64 r'.q.b4, .int .i64 r'.q.w1, .int .i64 r'.q.w2, .int .i64 r'.q.w3, .int .i64 r'.q.x, .int .i64 r'.q.h]) := Lib.hid (Blk.new w _ _)
  have HS := Lib.hid hs
  have hsl := Blk.lt hs
  have H2 := Lib.hid (in_made s ph r tr bu w hs [0] true (by rw [idx_one]; exact decide_eq_true (by omega)) (by decide))
  have ON := Lib.hid (only_any r')
  clear G hs hg
  have d1 : (r'.k == 2) = true := by simp [hk]
  have d2 : decide (0 < bu) = false := decide_eq_false hbu
  clear hk hbu hp0
  unfold Rq.v
  go_enter Try.func50, Try.ntmps50
  go_wp2_with fail
  ((with_reducible refine (H1.out _ (w.heap.size + 1) 1 #[.int .i64 4] (by simp) rfl rfl (only_new w _)).mono ?_))
  rintro e w' ⟨rfl, rfl⟩
  have B1 : Hid (Blk ((w.alloc (.cells #[.int .i64 r'.k, .int .i64 r'.ck, .int .i64 r'.pi, .int .i64 r'.px, .int .i64 r'.py, .int .i64 r'.si, .int .i64 r'.sl, .int .i64 r'.sh, .int .i64 r'.q.qk, .int .i64 r'.q.b1, .int .i64 r'.q.b2, .int .i64 r'.q.b3, .int .i64 r'.q.b4, .int .i64 r'.q.w1, .int .i64 r'.q.w2, .int .i64 r'.q.w3, .int .i64 r'.q.x, .int .i64 r'.q.h] 57)).alloc (.cells #[.int .i64 4] 82)) w.heap.size 57 #[.int .i64 r'.k, .int .i64 r'.ck, .int .i64 r'.pi, .int .i64 r'.px, .int .i64 r'.py, .int .i64 r'.si, .int .i64 r'.sl, .int .i64 r'.sh, .int .i64 r'.q.qk, .int .i64 r'.q.b1, .int .i64 r'.q.b2, .int .i64 r'.q.b3, .int .i64 r'.q.b4, .int .i64 r'.q.w1, .int .i64 r'.q.w2, .int .i64 r'.q.w3, .int .i64 r'.q.x, .int .i64 r'.q.h]) := Lib.hid (B0.out.alloc _)
  go_wp2_with (first | (refine wpList_load_blk rfl 57 (.tmp 3) rfl 0 rfl B1.out 18 [.int .i64 r'.k, .int .i64 r'.ck, .int .i64 r'.pi, .int .i64 r'.px, .int .i64 r'.py, .int .i64 r'.si, .int .i64 r'.sl, .int .i64 r'.sh, .int .i64 r'.q.qk, .int .i64 r'.q.b1, .int .i64 r'.q.b2, .int .i64 r'.q.b3, .int .i64 r'.q.b4, .int .i64 r'.q.w1, .int .i64 r'.q.w2, .int .i64 r'.q.w3, .int .i64 r'.q.x, .int .i64 r'.q.h] rfl _ Try.underlying57 rfl (by kernel_rfl) ?_) | fail)
  refine (HG.out _).mono ?_
  rintro e w2 ⟨rfl, hb2⟩
  have O2 : Hid (Only (fun _ => False) w w2) := Lib.hid ((((Only.refl _ w).alloc _).alloc _).trans (Only.of_below0 hb2) (fun _ _ h => h))
  have B2 : Hid (Blk w2 w.heap.size 57 #[.int .i64 r'.k, .int .i64 r'.ck, .int .i64 r'.pi, .int .i64 r'.px, .int .i64 r'.py, .int .i64 r'.si, .int .i64 r'.sl, .int .i64 r'.sh, .int .i64 r'.q.qk, .int .i64 r'.q.b1, .int .i64 r'.q.b2, .int .i64 r'.q.b3, .int .i64 r'.q.b4, .int .i64 r'.q.w1, .int .i64 r'.q.w2, .int .i64 r'.q.w3, .int .i64 r'.q.x, .int .i64 r'.q.h]) := Lib.hid (B1.out.below hb2 B1.out.lt)
  have hz2 : w.heap.size < w2.heap.size := B2.out.lt
  clear hb2
  go_wp2_with fail
  ((with_reducible refine (H2.out _ w2.heap.size 1 #[.int .i64 0] rfl rfl rfl O2.out).mono ?_))
  rintro e w' ⟨rfl, rfl⟩
  have B3 : Hid (Blk (w2.alloc (.cells #[.int .i64 0] 82)) w.heap.size 57 #[.int .i64 r'.k, .int .i64 r'.ck, .int .i64 r'.pi, .int .i64 r'.px, .int .i64 r'.py, .int .i64 r'.si, .int .i64 r'.sl, .int .i64 r'.sh, .int .i64 r'.q.qk, .int .i64 r'.q.b1, .int .i64 r'.q.b2, .int .i64 r'.q.b3, .int .i64 r'.q.b4, .int .i64 r'.q.w1, .int .i64 r'.q.w2, .int .i64 r'.q.w3, .int .i64 r'.q.x, .int .i64 r'.q.h]) := Lib.hid (B2.out.alloc _)
  go_wp2_with (first | (refine wpList_load_blk rfl 57 (.tmp 3) rfl 0 rfl B3.out 18 [.int .i64 r'.k, .int .i64 r'.ck, .int .i64 r'.pi, .int .i64 r'.px, .int .i64 r'.py, .int .i64 r'.si, .int .i64 r'.sl, .int .i64 r'.sh, .int .i64 r'.q.qk, .int .i64 r'.q.b1, .int .i64 r'.q.b2, .int .i64 r'.q.b3, .int .i64 r'.q.b4, .int .i64 r'.q.w1, .int .i64 r'.q.w2, .int .i64 r'.q.w3, .int .i64 r'.q.x, .int .i64 r'.q.h] rfl _ Try.underlying57 rfl (by kernel_rfl) ?_) | fail)
  refine (ON.out _).mono ?_
  rintro e w4 ⟨rfl, hb4⟩
  have O4 : Hid (Only (fun _ => False) w w4) := Lib.hid ((O2.out.alloc _).trans (Only.of_below0 hb4) (fun _ _ h => h))
  have B4 : Hid (Blk w4 w.heap.size 57 #[.int .i64 r'.k, .int .i64 r'.ck, .int .i64 r'.pi, .int .i64 r'.px, .int .i64 r'.py, .int .i64 r'.si, .int .i64 r'.sl, .int .i64 r'.sh, .int .i64 r'.q.qk, .int .i64 r'.q.b1, .int .i64 r'.q.b2, .int .i64 r'.q.b3, .int .i64 r'.q.b4, .int .i64 r'.q.w1, .int .i64 r'.q.w2, .int .i64 r'.q.w3, .int .i64 r'.q.x, .int .i64 r'.q.h]) := Lib.hid (B3.out.below hb4 B3.out.lt)
  have S4 : Hid (Blk w4 s 115 #[.int .i64 ph, .int .i64 r.k, .int .i64 r.ck, .int .i64 r.pi, .int .i64 r.px, .int .i64 r.py, .int .i64 r.si, .int .i64 r.sl, .int .i64 r.sh, .int .i64 r.q.qk, .int .i64 r.q.b1, .int .i64 r.q.b2, .int .i64 r.q.b3, .int .i64 r.q.b4, .int .i64 r.q.w1, .int .i64 r.q.w2, .int .i64 r.q.w3, .int .i64 r.q.x, .int .i64 r.q.h, .int .i64 tr, .int .i64 bu]) := Lib.hid (HS.out.blk_ O4.out)
  clear hb4
  unfold Rq.v
  go_wp2_with (first
    | (refine wpList_store_blk rfl 57 (.tmp 26) (.tmp 24) rfl 1 [.int .i64 r'.only.k, .int .i64 r'.only.ck, .int .i64 r'.only.pi, .int .i64 r'.only.px, .int .i64 r'.only.py, .int .i64 r'.only.si, .int .i64 r'.only.sl, .int .i64 r'.only.sh, .int .i64 r'.only.q.qk, .int .i64 r'.only.q.b1, .int .i64 r'.only.q.b2, .int .i64 r'.only.q.b3, .int .i64 r'.only.q.b4, .int .i64 r'.only.q.w1, .int .i64 r'.only.q.w2, .int .i64 r'.only.q.w3, .int .i64 r'.only.q.x, .int .i64 r'.only.q.h] rfl rfl S4.out (Nat.le_of_ble_eq_true rfl) #[.int .i64 ph, .int .i64 r'.only.k, .int .i64 r'.only.ck, .int .i64 r'.only.pi, .int .i64 r'.only.px, .int .i64 r'.only.py, .int .i64 r'.only.si, .int .i64 r'.only.sl, .int .i64 r'.only.sh, .int .i64 r'.only.q.qk, .int .i64 r'.only.q.b1, .int .i64 r'.only.q.b2, .int .i64 r'.only.q.b3, .int .i64 r'.only.q.b4, .int .i64 r'.only.q.w1, .int .i64 r'.only.q.w2, .int .i64 r'.only.q.w3, .int .i64 r'.only.q.x, .int .i64 r'.only.q.h, .int .i64 tr, .int .i64 bu] rfl (by kernel_rfl) rfl ?_
       intro w5 hb5 ho5
       have S5 := Lib.hid hb5
       have O5 : Hid (Only (fun i => i = s) w w5) := Lib.hid ((O4.out.mono (fun _ _ h => h.elim)).trans ho5 (fun _ _ h => h))
       have B5 : Hid (Blk w5 w.heap.size 57 #[.int .i64 r'.k, .int .i64 r'.ck, .int .i64 r'.pi, .int .i64 r'.px, .int .i64 r'.py, .int .i64 r'.si, .int .i64 r'.sl, .int .i64 r'.sh, .int .i64 r'.q.qk, .int .i64 r'.q.b1, .int .i64 r'.q.b2, .int .i64 r'.q.b3, .int .i64 r'.q.b4, .int .i64 r'.q.w1, .int .i64 r'.q.w2, .int .i64 r'.q.w3, .int .i64 r'.q.x, .int .i64 r'.q.h]) := Lib.hid (ho5.blk B4.out (fun e => by omega))
       have c0 : w5.cell? ⟨s, 0, none⟩ = some (.int .i64 ph) := by rw [S5.out.cell]; rfl
       have c19 : w5.cell? ⟨s, 19, none⟩ = some (.int .i64 tr) := by rw [S5.out.cell]; rfl
       have c20 : w5.cell? ⟨s, 20, none⟩ = some (.int .i64 bu) := by rw [S5.out.cell]; rfl
       have f0 : w5.frozen? ⟨s, 0, none⟩ = false := S5.out.frozen 0
       have f19 : w5.frozen? ⟨s, 19, none⟩ = false := S5.out.frozen 19
       have k0 : w5.cell? ⟨w.heap.size, 0, none⟩ = some (.int .i64 r'.k) := by rw [B5.out.cell]; rfl
       have n1 : ¬ w.heap.size = s := by omega
       clear hb5 ho5)
    | fail)
  go_ret
  refine ⟨rfl, (S5.out.set_ 19 _).set_ 0 (.int .i64 2), (O5.out.setCell (p := ⟨s, 19, none⟩) (.inr rfl) _).setCell (p := ⟨s, 0, none⟩) (.inr rfl) _⟩
set_option maxRecDepth 100000 in
set_option maxHeartbeats 8000000 in
theorem start_change (s : Nat) (ph : Int) (r r' : Rq) (tr bu : Int) (w : World) (hs : Se w s ph r tr bu) (hp0 : ph = 0) (hg : r'.good = true) (hk : ¬ r'.k = 2) : Calls Try.prog 50 #[.pointer (some ⟨s, 0, none⟩), r'.v] w fun e w' => e = .returned (.int .i64 0) ∧ Se w' s 2 r'.only 0 bu ∧ Only (fun i => i = s) w w' := by
  have H1 := Lib.hid (in_made s ph r tr bu w hs [4] false (by rw [idx_one]; exact decide_eq_false (fun e => by omega)) (by decide))
  have G := fun W => good_r r' W
  rw [hg] at G
  have HG := Lib.hid G
  have B0 : Hid (Blk (w.alloc (.cells #[.int .i64 r'.k, .int .i64 r'.ck, .int .i64 r'.pi, .int .i64 r'.px, .int .i64 r'.py, .int .i64 r'.si, .int .i64 r'.sl, .int .i64 r'.sh, .int .i64 r'.q.qk, .int .i64 r'.q.b1, .int .i64 r'.q.b2, .int .i64 r'.q.b3, .int .i64 r'.q.b4, .int .i64 r'.q.w1, .int .i64 r'.q.w2, .int .i64 r'.q.w3, .int .i64 r'.q.x, .int .i64 r'.q.h] 57)) w.heap.size 57 #[.int .i64 r'.k, .int .i64 r'.ck, .int .i64 r'.pi, .int .i64 r'.px, .int .i64 r'.py, .int .i64 r'.si, .int .i64 r'.sl, .int .i64 r'.sh, .int .i64 r'.q.qk, .int .i64 r'.q.b1, .int .i64 r'.q.b2, .int .i64 r'.q.b3, .int .i64 r'.q.b4, .int .i64 r'.q.w1, .int .i64 r'.q.w2, .int .i64 r'.q.w3, .int .i64 r'.q.x, .int .i64 r'.q.h]) := Lib.hid (Blk.new w _ _)
  have HS := Lib.hid hs
  have hsl := Blk.lt hs
  have H2 := Lib.hid (in_made s ph r tr bu w hs [0] true (by rw [idx_one]; exact decide_eq_true (by omega)) (by decide))
  have ON := Lib.hid (only_any r')
  clear G hs hg
  have d1 : (r'.k == 2) = false := by simp [hk]
  clear hk hp0
  unfold Rq.v
  go_enter Try.func50, Try.ntmps50
  go_wp2_with fail
  ((with_reducible refine (H1.out _ (w.heap.size + 1) 1 #[.int .i64 4] (by simp) rfl rfl (only_new w _)).mono ?_))
  rintro e w' ⟨rfl, rfl⟩
  have B1 : Hid (Blk ((w.alloc (.cells #[.int .i64 r'.k, .int .i64 r'.ck, .int .i64 r'.pi, .int .i64 r'.px, .int .i64 r'.py, .int .i64 r'.si, .int .i64 r'.sl, .int .i64 r'.sh, .int .i64 r'.q.qk, .int .i64 r'.q.b1, .int .i64 r'.q.b2, .int .i64 r'.q.b3, .int .i64 r'.q.b4, .int .i64 r'.q.w1, .int .i64 r'.q.w2, .int .i64 r'.q.w3, .int .i64 r'.q.x, .int .i64 r'.q.h] 57)).alloc (.cells #[.int .i64 4] 82)) w.heap.size 57 #[.int .i64 r'.k, .int .i64 r'.ck, .int .i64 r'.pi, .int .i64 r'.px, .int .i64 r'.py, .int .i64 r'.si, .int .i64 r'.sl, .int .i64 r'.sh, .int .i64 r'.q.qk, .int .i64 r'.q.b1, .int .i64 r'.q.b2, .int .i64 r'.q.b3, .int .i64 r'.q.b4, .int .i64 r'.q.w1, .int .i64 r'.q.w2, .int .i64 r'.q.w3, .int .i64 r'.q.x, .int .i64 r'.q.h]) := Lib.hid (B0.out.alloc _)
  go_wp2_with (first | (refine wpList_load_blk rfl 57 (.tmp 3) rfl 0 rfl B1.out 18 [.int .i64 r'.k, .int .i64 r'.ck, .int .i64 r'.pi, .int .i64 r'.px, .int .i64 r'.py, .int .i64 r'.si, .int .i64 r'.sl, .int .i64 r'.sh, .int .i64 r'.q.qk, .int .i64 r'.q.b1, .int .i64 r'.q.b2, .int .i64 r'.q.b3, .int .i64 r'.q.b4, .int .i64 r'.q.w1, .int .i64 r'.q.w2, .int .i64 r'.q.w3, .int .i64 r'.q.x, .int .i64 r'.q.h] rfl _ Try.underlying57 rfl (by kernel_rfl) ?_) | fail)
  refine (HG.out _).mono ?_
  rintro e w2 ⟨rfl, hb2⟩
  have O2 : Hid (Only (fun _ => False) w w2) := Lib.hid ((((Only.refl _ w).alloc _).alloc _).trans (Only.of_below0 hb2) (fun _ _ h => h))
  have B2 : Hid (Blk w2 w.heap.size 57 #[.int .i64 r'.k, .int .i64 r'.ck, .int .i64 r'.pi, .int .i64 r'.px, .int .i64 r'.py, .int .i64 r'.si, .int .i64 r'.sl, .int .i64 r'.sh, .int .i64 r'.q.qk, .int .i64 r'.q.b1, .int .i64 r'.q.b2, .int .i64 r'.q.b3, .int .i64 r'.q.b4, .int .i64 r'.q.w1, .int .i64 r'.q.w2, .int .i64 r'.q.w3, .int .i64 r'.q.x, .int .i64 r'.q.h]) := Lib.hid (B1.out.below hb2 B1.out.lt)
  have hz2 : w.heap.size < w2.heap.size := B2.out.lt
  clear hb2
  go_wp2_with fail
  ((with_reducible refine (H2.out _ w2.heap.size 1 #[.int .i64 0] rfl rfl rfl O2.out).mono ?_))
  rintro e w' ⟨rfl, rfl⟩
  have B3 : Hid (Blk (w2.alloc (.cells #[.int .i64 0] 82)) w.heap.size 57 #[.int .i64 r'.k, .int .i64 r'.ck, .int .i64 r'.pi, .int .i64 r'.px, .int .i64 r'.py, .int .i64 r'.si, .int .i64 r'.sl, .int .i64 r'.sh, .int .i64 r'.q.qk, .int .i64 r'.q.b1, .int .i64 r'.q.b2, .int .i64 r'.q.b3, .int .i64 r'.q.b4, .int .i64 r'.q.w1, .int .i64 r'.q.w2, .int .i64 r'.q.w3, .int .i64 r'.q.x, .int .i64 r'.q.h]) := Lib.hid (B2.out.alloc _)
  go_wp2_with (first | (refine wpList_load_blk rfl 57 (.tmp 3) rfl 0 rfl B3.out 18 [.int .i64 r'.k, .int .i64 r'.ck, .int .i64 r'.pi, .int .i64 r'.px, .int .i64 r'.py, .int .i64 r'.si, .int .i64 r'.sl, .int .i64 r'.sh, .int .i64 r'.q.qk, .int .i64 r'.q.b1, .int .i64 r'.q.b2, .int .i64 r'.q.b3, .int .i64 r'.q.b4, .int .i64 r'.q.w1, .int .i64 r'.q.w2, .int .i64 r'.q.w3, .int .i64 r'.q.x, .int .i64 r'.q.h] rfl _ Try.underlying57 rfl (by kernel_rfl) ?_) | fail)
  refine (ON.out _).mono ?_
  rintro e w4 ⟨rfl, hb4⟩
  have O4 : Hid (Only (fun _ => False) w w4) := Lib.hid ((O2.out.alloc _).trans (Only.of_below0 hb4) (fun _ _ h => h))
  have B4 : Hid (Blk w4 w.heap.size 57 #[.int .i64 r'.k, .int .i64 r'.ck, .int .i64 r'.pi, .int .i64 r'.px, .int .i64 r'.py, .int .i64 r'.si, .int .i64 r'.sl, .int .i64 r'.sh, .int .i64 r'.q.qk, .int .i64 r'.q.b1, .int .i64 r'.q.b2, .int .i64 r'.q.b3, .int .i64 r'.q.b4, .int .i64 r'.q.w1, .int .i64 r'.q.w2, .int .i64 r'.q.w3, .int .i64 r'.q.x, .int .i64 r'.q.h]) := Lib.hid (B3.out.below hb4 B3.out.lt)
  have S4 : Hid (Blk w4 s 115 #[.int .i64 ph, .int .i64 r.k, .int .i64 r.ck, .int .i64 r.pi, .int .i64 r.px, .int .i64 r.py, .int .i64 r.si, .int .i64 r.sl, .int .i64 r.sh, .int .i64 r.q.qk, .int .i64 r.q.b1, .int .i64 r.q.b2, .int .i64 r.q.b3, .int .i64 r.q.b4, .int .i64 r.q.w1, .int .i64 r.q.w2, .int .i64 r.q.w3, .int .i64 r.q.x, .int .i64 r.q.h, .int .i64 tr, .int .i64 bu]) := Lib.hid (HS.out.blk_ O4.out)
  clear hb4
  unfold Rq.v
  go_wp2_with (first
    | (refine wpList_store_blk rfl 57 (.tmp 26) (.tmp 24) rfl 1 [.int .i64 r'.only.k, .int .i64 r'.only.ck, .int .i64 r'.only.pi, .int .i64 r'.only.px, .int .i64 r'.only.py, .int .i64 r'.only.si, .int .i64 r'.only.sl, .int .i64 r'.only.sh, .int .i64 r'.only.q.qk, .int .i64 r'.only.q.b1, .int .i64 r'.only.q.b2, .int .i64 r'.only.q.b3, .int .i64 r'.only.q.b4, .int .i64 r'.only.q.w1, .int .i64 r'.only.q.w2, .int .i64 r'.only.q.w3, .int .i64 r'.only.q.x, .int .i64 r'.only.q.h] rfl rfl S4.out (Nat.le_of_ble_eq_true rfl) #[.int .i64 ph, .int .i64 r'.only.k, .int .i64 r'.only.ck, .int .i64 r'.only.pi, .int .i64 r'.only.px, .int .i64 r'.only.py, .int .i64 r'.only.si, .int .i64 r'.only.sl, .int .i64 r'.only.sh, .int .i64 r'.only.q.qk, .int .i64 r'.only.q.b1, .int .i64 r'.only.q.b2, .int .i64 r'.only.q.b3, .int .i64 r'.only.q.b4, .int .i64 r'.only.q.w1, .int .i64 r'.only.q.w2, .int .i64 r'.only.q.w3, .int .i64 r'.only.q.x, .int .i64 r'.only.q.h, .int .i64 tr, .int .i64 bu] rfl (by kernel_rfl) rfl ?_
       intro w5 hb5 ho5
       have S5 := Lib.hid hb5
       have O5 : Hid (Only (fun i => i = s) w w5) := Lib.hid ((O4.out.mono (fun _ _ h => h.elim)).trans ho5 (fun _ _ h => h))
       have B5 : Hid (Blk w5 w.heap.size 57 #[.int .i64 r'.k, .int .i64 r'.ck, .int .i64 r'.pi, .int .i64 r'.px, .int .i64 r'.py, .int .i64 r'.si, .int .i64 r'.sl, .int .i64 r'.sh, .int .i64 r'.q.qk, .int .i64 r'.q.b1, .int .i64 r'.q.b2, .int .i64 r'.q.b3, .int .i64 r'.q.b4, .int .i64 r'.q.w1, .int .i64 r'.q.w2, .int .i64 r'.q.w3, .int .i64 r'.q.x, .int .i64 r'.q.h]) := Lib.hid (ho5.blk B4.out (fun e => by omega))
       have c0 : w5.cell? ⟨s, 0, none⟩ = some (.int .i64 ph) := by rw [S5.out.cell]; rfl
       have c19 : w5.cell? ⟨s, 19, none⟩ = some (.int .i64 tr) := by rw [S5.out.cell]; rfl
       have c20 : w5.cell? ⟨s, 20, none⟩ = some (.int .i64 bu) := by rw [S5.out.cell]; rfl
       have f0 : w5.frozen? ⟨s, 0, none⟩ = false := S5.out.frozen 0
       have f19 : w5.frozen? ⟨s, 19, none⟩ = false := S5.out.frozen 19
       have k0 : w5.cell? ⟨w.heap.size, 0, none⟩ = some (.int .i64 r'.k) := by rw [B5.out.cell]; rfl
       have n1 : ¬ w.heap.size = s := by omega
       clear hb5 ho5)
    | fail)
  go_ret
  refine ⟨rfl, (S5.out.set_ 19 _).set_ 0 (.int .i64 2), (O5.out.setCell (p := ⟨s, 19, none⟩) (.inr rfl) _).setCell (p := ⟨s, 0, none⟩) (.inr rfl) _⟩
end Go.Proofs.Ytencgokpbfkeiaa
