/- An act done to both queues; turns come (layer 33). -/
import Derived.Test.YtmomafhpbbmiaaaU3
set_option linter.unusedVariables false
namespace Go.Proofs.Ytmomafhpbbmiaaa
open Go.ChangeShapes Go.WideShapes Go.ChangeAt Go.RowKit
def DoesP (base : Nat) (w : World) (most : Int) (q r : Nat) (tn : Int) (e : Ending) (w' : World) : Prop :=
  e = .returned (.bool true) ∧ (∃ hl hd L tn', QX base w' most q r hl hd L tn' ∧ tn ≤ tn' ∧ tn' ≤ tn + 1) ∧ Below base w w'
section
variable (base : Nat) (w : World) (most : Int) (q r : Nat) (hl : Bool) (hd : Int) (L : List Int) (tn k id : Int)
set_option maxHeartbeats 4000000 in
theorem does_grant (h : QX base w most q r hl hd L tn) (hb : base ≤ w.heap.size) (ht : 0 ≤ tn ∧ tn ≤ 1000000) (hk : k = 1) :
    Calls Try.prog 24 #[.pointer (some ⟨q, 0, none⟩), .pointer (some ⟨r, 0, none⟩), .agg #[.int .i64 k, .int .i64 id]] w (DoesP base w most q r tn) := by
  have QW : QX base (w.alloc (.cells #[.int .i64 k, .int .i64 id] 54)) most q r hl hd L tn := h.still (only_new (S := fun _ => False) _ _)
  have hbW : base ≤ (w.alloc (.cells #[.int .i64 k, .int .i64 id] 54)).heap.size := Nat.le_trans hb (by simp)
  have bW : Below base w (w.alloc (.cells #[.int .i64 k, .int .i64 id] 54)) := (Below.refl _ _).alloc hb _
  obtain ⟨v, b, M, P1, P2⟩ := pair_grant base (w.alloc (.cells #[.int .i64 k, .int .i64 id] 54)) most q r hl hd L tn QW hbW ht
  have H1 := Lib.hid P1
  have H2 := Lib.hid P2
  have BW := Lib.hid bW
  clear P1 P2 bW hbW QW h hb ht
  subst hk
  go_enter Try.func24, Try.ntmps24
  go_wp2_with fail
  refine (H1.out).mono ?_
  rintro e w1 ⟨rfl, hM⟩
  have HM := Lib.hid hM
  clear hM
  go_wp2_with fail
  refine (H2.out w1 HM.out).mono ?_
  rintro e w2 ⟨rfl, hX, hB⟩
  have HX := Lib.hid hX
  have HB := Lib.hid hB
  clear hX hB
  go_wp2_with fail
  go_ret
  exact ⟨rfl, HX.out, BW.out.trans HB.out⟩
set_option maxHeartbeats 4000000 in
theorem does_leave (h : QX base w most q r hl hd L tn) (hb : base ≤ w.heap.size) (hk : k = 3) :
    Calls Try.prog 24 #[.pointer (some ⟨q, 0, none⟩), .pointer (some ⟨r, 0, none⟩), .agg #[.int .i64 k, .int .i64 id]] w (DoesP base w most q r tn) := by
  have QW : QX base (w.alloc (.cells #[.int .i64 k, .int .i64 id] 54)) most q r hl hd L tn := h.still (only_new (S := fun _ => False) _ _)
  have hbW : base ≤ (w.alloc (.cells #[.int .i64 k, .int .i64 id] 54)).heap.size := Nat.le_trans hb (by simp)
  have bW : Below base w (w.alloc (.cells #[.int .i64 k, .int .i64 id] 54)) := (Below.refl _ _).alloc hb _
  obtain ⟨cc, M, P1, P2⟩ := pair_leave base (w.alloc (.cells #[.int .i64 k, .int .i64 id] 54)) most q r hl hd L tn id QW hbW
  have H1 := Lib.hid P1
  have H2 := Lib.hid P2
  have BW := Lib.hid bW
  clear P1 P2 bW hbW QW h hb
  subst hk
  go_enter Try.func24, Try.ntmps24
  go_wp2_with fail
  refine (H1.out).mono ?_
  rintro e w1 ⟨rfl, hM⟩
  have HM := Lib.hid hM
  clear hM
  go_wp2_with fail
  refine (H2.out w1 HM.out).mono ?_
  rintro e w2 ⟨rfl, hX, hB⟩
  have HX := Lib.hid hX
  have HB := Lib.hid hB
  clear hX hB
  go_wp2_with fail
  go_ret
  exact ⟨rfl, HX.out, BW.out.trans HB.out⟩
set_option maxHeartbeats 4000000 in
theorem does_want (h : QX base w most q r hl hd L tn) (hb : base ≤ w.heap.size) (hk1 : (k == 1) = false) (hk2 : (k == 2) = false) (hk3 : (k == 3) = false) (hk4 : (k == 4) = false) :
    Calls Try.prog 24 #[.pointer (some ⟨q, 0, none⟩), .pointer (some ⟨r, 0, none⟩), .agg #[.int .i64 k, .int .i64 id]] w (DoesP base w most q r tn) := by
  have QW : QX base (w.alloc (.cells #[.int .i64 k, .int .i64 id] 54)) most q r hl hd L tn := h.still (only_new (S := fun _ => False) _ _)
  have hbW : base ≤ (w.alloc (.cells #[.int .i64 k, .int .i64 id] 54)).heap.size := Nat.le_trans hb (by simp)
  have bW : Below base w (w.alloc (.cells #[.int .i64 k, .int .i64 id] 54)) := (Below.refl _ _).alloc hb _
  obtain ⟨cc, M, P1, P2⟩ := pair_want base (w.alloc (.cells #[.int .i64 k, .int .i64 id] 54)) most q r hl hd L tn id QW hbW
  have H1 := Lib.hid P1
  have H2 := Lib.hid P2
  have BW := Lib.hid bW
  clear P1 P2 bW hbW QW h hb
  
  go_enter Try.func24, Try.ntmps24
  go_wp2_with fail
  refine (H1.out).mono ?_
  rintro e w1 ⟨rfl, hM⟩
  have HM := Lib.hid hM
  clear hM
  go_wp2_with fail
  refine (H2.out w1 HM.out).mono ?_
  rintro e w2 ⟨rfl, hX, hB⟩
  have HX := Lib.hid hX
  have HB := Lib.hid hB
  clear hX hB
  go_wp2_with fail
  go_ret
  exact ⟨rfl, HX.out, BW.out.trans HB.out⟩
set_option maxHeartbeats 4000000 in
theorem does_release (h : QX base w most q r hl hd L tn) (hb : base ≤ w.heap.size) (hk : k = 2) :
    Calls Try.prog 24 #[.pointer (some ⟨q, 0, none⟩), .pointer (some ⟨r, 0, none⟩), .agg #[.int .i64 k, .int .i64 id]] w (DoesP base w most q r tn) := by
  have QW : QX base (w.alloc (.cells #[.int .i64 k, .int .i64 id] 54)) most q r hl hd L tn := h.still (only_new (S := fun _ => False) _ _)
  have hbW : base ≤ (w.alloc (.cells #[.int .i64 k, .int .i64 id] 54)).heap.size := Nat.le_trans hb (by simp)
  have bW : Below base w (w.alloc (.cells #[.int .i64 k, .int .i64 id] 54)) := (Below.refl _ _).alloc hb _
  obtain ⟨cc, M, P1, P2⟩ := pair_release base (w.alloc (.cells #[.int .i64 k, .int .i64 id] 54)) most q r hl hd L tn id QW hbW
  have H1 := Lib.hid P1
  have H2 := Lib.hid P2
  have BW := Lib.hid bW
  clear P1 P2 bW hbW QW h hb
  subst hk
  go_enter Try.func24, Try.ntmps24
  go_wp2_with fail
  refine (H1.out).mono ?_
  rintro e w1 ⟨rfl, hM⟩
  have HM := Lib.hid hM
  clear hM
  go_wp2_with fail
  refine (H2.out w1 HM.out).mono ?_
  rintro e w2 ⟨rfl, hX, hB⟩
  have HX := Lib.hid hX
  have HB := Lib.hid hB
  clear hX hB
  go_wp2_with fail
  go_ret
  exact ⟨rfl, HX.out, BW.out.trans HB.out⟩
set_option maxHeartbeats 4000000 in
theorem does_end_held (h : QX base w most q r true hd L tn) (hb : base ≤ w.heap.size) (hk : k = 4) :
    Calls Try.prog 24 #[.pointer (some ⟨q, 0, none⟩), .pointer (some ⟨r, 0, none⟩), .agg #[.int .i64 k, .int .i64 id]] w (DoesP base w most q r tn) := by
  have QW : QX base (w.alloc (.cells #[.int .i64 k, .int .i64 id] 54)) most q r true hd L tn := h.still (only_new (S := fun _ => False) _ _)
  have hbW : base ≤ (w.alloc (.cells #[.int .i64 k, .int .i64 id] 54)).heap.size := Nat.le_trans hb (by simp)
  have bW : Below base w (w.alloc (.cells #[.int .i64 k, .int .i64 id] 54)) := (Below.refl _ _).alloc hb _
  obtain ⟨g, x, A, n, c, h1, h2, h3, h4, h5⟩ := QW
  have QW := (⟨g, x, A, n, c, h1, h2, h3, h4, h5⟩ : QX base (w.alloc (.cells #[.int .i64 k, .int .i64 id] 54)) most q r true hd L tn)
  have d1 : (w.alloc (.cells #[.int .i64 k, .int .i64 id] 54)).cell? ⟨r, 1, none⟩ = some (.bool true) := by rw [Blk.cell h2]; rfl
  obtain ⟨b0, off, m, rfl, rfl, hm_, hbl, d2⟩ := Lq.head (a := hd) (K := L) h4
  clear hm_
  have d0 : (w.alloc (.cells #[.int .i64 k, .int .i64 id] 54)).cell? ⟨r, 0, none⟩ = some (.slice (some ⟨b0, off, none⟩) (m + 1) c) := by rw [Blk.cell h2]; rfl
  obtain ⟨cc, M, P1, P2⟩ := pair_release base (w.alloc (.cells #[.int .i64 k, .int .i64 id] 54)) most q r true hd L tn hd QW hbW
  have H1 := Lib.hid P1
  have H2 := Lib.hid P2
  have BW := Lib.hid bW
  clear P1 P2 bW hbW QW h hb h1 h2 h3 h4 h5
  subst hk
  go_enter Try.func24, Try.ntmps24
  go_wp2_with fail
  refine (H1.out).mono ?_
  rintro e w1 ⟨rfl, hM⟩
  have HM := Lib.hid hM
  clear hM
  go_wp2_with fail
  refine (H2.out w1 HM.out).mono ?_
  rintro e w2 ⟨rfl, hX, hB⟩
  have HX := Lib.hid hX
  have HB := Lib.hid hB
  clear hX hB
  go_wp2_with fail
  go_ret
  exact ⟨rfl, HX.out, BW.out.trans HB.out⟩
set_option maxHeartbeats 4000000 in
theorem does_end_free (h : QX base w most q r false hd L tn) (hb : base ≤ w.heap.size) (hk : k = 4) :
    Calls Try.prog 24 #[.pointer (some ⟨q, 0, none⟩), .pointer (some ⟨r, 0, none⟩), .agg #[.int .i64 k, .int .i64 id]] w (DoesP base w most q r tn) := by
  have QW : QX base (w.alloc (.cells #[.int .i64 k, .int .i64 id] 54)) most q r false hd L tn := h.still (only_new (S := fun _ => False) _ _)
  have hbW : base ≤ (w.alloc (.cells #[.int .i64 k, .int .i64 id] 54)).heap.size := Nat.le_trans hb (by simp)
  have bW : Below base w (w.alloc (.cells #[.int .i64 k, .int .i64 id] 54)) := (Below.refl _ _).alloc hb _
  obtain ⟨g, x, A, n, c, h1, h2, h3, h4, h5⟩ := QW
  have QW := (⟨g, x, A, n, c, h1, h2, h3, h4, h5⟩ : QX base (w.alloc (.cells #[.int .i64 k, .int .i64 id] 54)) most q r false hd L tn)
  have d1 : (w.alloc (.cells #[.int .i64 k, .int .i64 id] 54)).cell? ⟨r, 1, none⟩ = some (.bool false) := by rw [Blk.cell h2]; rfl
  obtain ⟨cc, M, P1, P2⟩ := pair_release base (w.alloc (.cells #[.int .i64 k, .int .i64 id] 54)) most q r false hd L tn id QW hbW
  have H1 := Lib.hid P1
  have H2 := Lib.hid P2
  have BW := Lib.hid bW
  clear P1 P2 bW hbW QW h hb h1 h2 h3 h4 h5
  subst hk
  go_enter Try.func24, Try.ntmps24
  go_wp2_with fail
  refine (H1.out).mono ?_
  rintro e w1 ⟨rfl, hM⟩
  have HM := Lib.hid hM
  clear hM
  go_wp2_with fail
  refine (H2.out w1 HM.out).mono ?_
  rintro e w2 ⟨rfl, hX, hB⟩
  have HX := Lib.hid hX
  have HB := Lib.hid hB
  clear hX hB
  go_wp2_with fail
  go_ret
  exact ⟨rfl, HX.out, BW.out.trans HB.out⟩
theorem does_any (h : QX base w most q r hl hd L tn) (hb : base ≤ w.heap.size) (ht : 0 ≤ tn ∧ tn ≤ 1000000) :
    Calls Try.prog 24 #[.pointer (some ⟨q, 0, none⟩), .pointer (some ⟨r, 0, none⟩), .agg #[.int .i64 k, .int .i64 id]] w (DoesP base w most q r tn) := by
  by_cases k1 : k = 1
  · exact does_grant base w most q r hl hd L tn k id h hb ht k1
  by_cases k2 : k = 2
  · exact does_release base w most q r hl hd L tn k id h hb k2
  by_cases k3 : k = 3
  · exact does_leave base w most q r hl hd L tn k id h hb k3
  by_cases k4 : k = 4
  · cases hl with
    | true => exact does_end_held base w most q r hd L tn k id h hb k4
    | false => exact does_end_free base w most q r hd L tn k id h hb k4
  exact does_want base w most q r hl hd L tn k id h hb (by simpa using k1) (by simpa using k2) (by simpa using k3) (by simpa using k4)
end
set_option maxHeartbeats 4000000 in
theorem lives33 (w : World) : Calls Try.prog 23 #[] w fun e w' => e = .returned (.bool true) ∧ Below w.heap.size w w' := by
  have i1 : idx [] 5 < 0 := by decide
  have i2 : idx ([] ++ [5]) 7 < 0 := by decide
  have H1 := Lib.hid i1
  have H2 := Lib.hid i2
  clear i1 i2
  go_enter Try.func23, Try.ntmps23
  go_wp2_with fail
  refine (q_new 3 (by omega) _).mono ?_
  rintro e w1 ⟨rfl, q1, k1⟩
  have HQ1 := Lib.hid q1
  have HK1 := Lib.hid k1
  clear q1 k1
  go_wp2_with fail
  refine (q_want_via _ _ _ _ _ _ _ _ _ 5 0 _ w1 HQ1.out rfl (ring_push _ _ _ _ _ 5 w1 HQ1.out.2.2 H1.out (by simp) HK1.out.size)).mono ?_
  rintro e w2 ⟨rfl, x2, g2, o2, hx2⟩
  have q2 : Qu w2 w.heap.size (w.heap.size + 1) w.heap.size 3 x2 ([] ++ [5]) 0 false 0 := ⟨o2.blk HQ1.out.1 (fun e => e.elim HQ1.out.ne.1 (fun e => HQ1.out.ne.2 e)), HQ1.out.2.1, g2⟩
  have k2 := HK1.out.trans (HQ1.out.below (o2.mono (fun i _ h => h.elim (fun h => .inr (.inl h)) (fun h => .inr (.inr h)))))
  have HQ2 := Lib.hid q2
  have HK2 := Lib.hid k2
  clear g2 o2 hx2 q2 k2
  go_wp2_with fail
  refine (q_want_via _ _ _ _ _ _ _ _ _ 7 0 _ w2 HQ2.out rfl (ring_push _ _ _ _ _ 7 w2 HQ2.out.2.2 H2.out (by simp) HK2.out.size)).mono ?_
  rintro e w3 ⟨rfl, x3, g3, o3, hx3⟩
  have q3 : Qu w3 w.heap.size (w.heap.size + 1) w.heap.size 3 x3 ([5, 7]) 0 false 0 := ⟨o3.blk HQ2.out.1 (fun e => e.elim HQ2.out.ne.1 (fun e => HQ2.out.ne.2 e)), HQ2.out.2.1, g3⟩
  have k3 := HK2.out.trans (HQ2.out.below (o3.mono (fun i _ h => h.elim (fun h => .inr (.inl h)) (fun h => .inr (.inr h)))))
  have HQ3 := Lib.hid q3
  have HK3 := Lib.hid k3
  clear g3 o3 hx3 q3 k3
  go_wp2_with fail
  refine (q_grant _ _ _ _ _ 5 [7] _ _ w3 HQ3.out (by omega)).mono ?_
  rintro e w4 ⟨rfl, q4, o4⟩
  have HQ4 := Lib.hid q4
  have HK4 := Lib.hid (HK3.out.trans (HQ3.out.below o4))
  clear q4 o4
  go_wp2_with fail
  refine (q_release _ _ _ _ _ _ _ _ _ 5 w4 HQ4.out rfl).mono ?_
  rintro e w5 ⟨rfl, q5, o5⟩
  have HQ5 := Lib.hid q5
  have HK5 := Lib.hid (HK4.out.trans (HQ4.out.below (o5.mono (fun i _ h => .inl h))))
  clear q5 o5
  go_wp2_with fail
  refine (q_grant _ _ _ _ _ 7 [] _ _ w5 HQ5.out (by omega)).mono ?_
  rintro e w6 ⟨rfl, q6, o6⟩
  have HK6 := Lib.hid (HK5.out.trans (HQ5.out.below o6))
  clear q6 o6
  go_wp2_with fail
  go_ret
  exact ⟨rfl, HK6.out⟩
end Go.Proofs.Ytmomafhpbbmiaaa
