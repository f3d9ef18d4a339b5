/- Whose turn it is (layer 33): what its functions leave. -/
import Derived.Test.YtmomafhpbbmiaaaR12
set_option linter.unusedVariables false
namespace Go.Proofs.Ytmomafhpbbmiaaa
open Go.ChangeShapes Go.WideShapes Go.ChangeAt Go.RowKit
/-- a queue of turns at block q, who waits in a ring at block g: who has the turn, if anybody, how many had it -/
def Qu (w : World) (base q g : Nat) (most : Int) (x : Value) (L : List Int) (hd : Int) (hl : Bool) (tn : Int) : Prop :=
  Blk w q 62 #[.pointer (some ⟨g, 0, none⟩), .int .i64 hd, .bool hl, .int .i64 tn] ∧ base ≤ q ∧ Rg w base g most x L
theorem Qu.ne {w : World} {base q g : Nat} {most : Int} {x : Value} {L : List Int} {hd : Int} {hl : Bool} {tn : Int} (h : Qu w base q g most x L hd hl tn) : q ≠ g ∧ x.ownBlock ≠ some q := by
  obtain ⟨h1, h2, h3⟩ := h
  obtain ⟨k, h4⟩ := h3.blk
  refine ⟨Blk.ne_ h1 h4 (by decide), ?_⟩
  rcases h3.2.2.2 with ⟨rfl, _⟩ | ⟨b, S, h, sl, rfl, _, ho, _⟩
  · simp [Value.ownBlock]
  · exact own_ne ho h1 (by decide)
theorem Qu.keep {w w' : World} {base q g : Nat} {most : Int} {x : Value} {L : List Int} {hd : Int} {hl : Bool} {tn : Int} {P : Nat → Prop} (h : Qu w base q g most x L hd hl tn) (ho : Only P w w') (hq : ¬ P q) (h0 : ¬ P g) (h1 : ∀ b, x.ownBlock = some b → ¬ P b) : Qu w' base q g most x L hd hl tn :=
  ⟨ho.blk h.1 hq, h.2.1, h.2.2.keep ho h0 h1⟩
theorem Qu.still {w w' : World} {base q g : Nat} {most : Int} {x : Value} {L : List Int} {hd : Int} {hl : Bool} {tn : Int} (h : Qu w base q g most x L hd hl tn) (ho : Only (fun _ => False) w w') : Qu w' base q g most x L hd hl tn :=
  h.keep ho (fun h => h) (fun h => h) (fun _ _ h => h)
/-- the blocks of a queue of turns -/
def QB (q g : Nat) (x : Value) (i : Nat) : Prop := i = q ∨ i = g ∨ x.ownBlock = some i
theorem Qu.below {w w' : World} {base q g : Nat} {most : Int} {x : Value} {L : List Int} {hd : Int} {hl : Bool} {tn : Int} (h : Qu w base q g most x L hd hl tn) (ho : Only (QB q g x) w w') : Below base w w' :=
  ho.below (by have := h.2.1; have := h.1.lt; omega) (fun i hi hs => by
    rcases hs with e | e | e
    · have := h.2.1; omega
    · have := h.2.2.1; omega
    · have := h.2.2.own i e; omega)
set_option maxHeartbeats 2000000 in
theorem q_new (most : Int) (h : 1 ≤ most ∧ most ≤ 65536) (w : World) :
    Calls Try.prog 22 #[.int .i64 most] w fun e w' => e = .returned (.tuple #[.pointer (some ⟨w.heap.size + 1, 0, none⟩), .int .i64 0]) ∧ Qu w' w.heap.size (w.heap.size + 1) w.heap.size most (.slice none 0 0) [] 0 false 0 ∧ Below w.heap.size w w' := by
  go_enter Try.func22, Try.ntmps22
  go_wp2_with fail
  refine (ring_new most h _).mono ?_
  rintro e w1 ⟨rfl, hw1⟩
  have hz : w1.heap.size = w.heap.size + 1 := by rw [hw1]; simp
  have HZ := Lib.hid hz
  have HG : Hid (Rg w1 w.heap.size w.heap.size most (.slice none 0 0) []) := Lib.hid (by rw [hw1]; exact rg_new most h w)
  have HB : Hid (Below w.heap.size w w1) := Lib.hid (by rw [hw1]; exact (Below.refl _ _).alloc (Nat.le_refl _) _)
  clear hw1 hz
  go_wp2_with fail
  go_ret2
  refine ⟨by rw [← HZ.out]; rfl, ⟨?_, by omega, HG.out.keep (only_new (S := fun _ => False) _ _) (fun h => h) (fun _ _ h => h)⟩, HB.out.alloc HB.out.size _⟩
  rw [← HZ.out]
  exact Blk.new w1 _ _
set_option maxHeartbeats 2000000 in
theorem q_new_no (most : Int) (h : most < 1 ∨ 65536 < most) (w : World) :
    Calls Try.prog 22 #[.int .i64 most] w fun e w' => e = .returned (.tuple #[.pointer none, .int .i64 1]) ∧ w = w' := by
  have H := Lib.hid (ring_new_no most h w)
  clear h
  go_enter Try.func22, Try.ntmps22
  go_wp2_with fail
  refine (H.out).mono ?_
  rintro e w' ⟨rfl, rfl⟩
  go_wp2_with fail
  go_ret2
  exact ⟨rfl, rfl⟩
set_option maxHeartbeats 2000000 in
theorem q_holds_free (q : Nat) (p : Value) (hd tn id : Int) (w : World) (hb : Blk w q 62 #[p, .int .i64 hd, .bool false, .int .i64 tn]) :
    Calls Try.prog 41 #[.pointer (some ⟨q, 0, none⟩), .int .i64 id] w fun e w' => e = .returned (.bool false) ∧ w = w' := by
  have c2 : w.cell? ⟨q, 2, none⟩ = some (.bool false) := by rw [hb.cell]; rfl
  clear hb
  go_enter Try.func41, Try.ntmps41
  go_wp2_with fail
  go_ret
  exact ⟨rfl, rfl⟩
set_option maxHeartbeats 2000000 in
theorem q_holds_held (q : Nat) (p : Value) (hd tn id : Int) (b : Bool) (he : (hd == id) = b) (w : World) (hb : Blk w q 62 #[p, .int .i64 hd, .bool true, .int .i64 tn]) :
    Calls Try.prog 41 #[.pointer (some ⟨q, 0, none⟩), .int .i64 id] w fun e w' => e = .returned (.bool b) ∧ w = w' := by
  have c2 : w.cell? ⟨q, 2, none⟩ = some (.bool true) := by rw [hb.cell]; rfl
  have c1 : w.cell? ⟨q, 1, none⟩ = some (.int .i64 hd) := by rw [hb.cell]; rfl
  clear hb
  go_enter Try.func41, Try.ntmps41
  go_wp2_with fail
  go_ret
  exact ⟨rfl, rfl⟩
/-- it is id's turn -/
def Turn (hd : Int) (hl : Bool) (id : Int) : Bool := hl && (hd == id)
theorem q_holds (q : Nat) (p : Value) (hd tn id : Int) (hl : Bool) (w : World) (hb : Blk w q 62 #[p, .int .i64 hd, .bool hl, .int .i64 tn]) :
    Calls Try.prog 41 #[.pointer (some ⟨q, 0, none⟩), .int .i64 id] w fun e w' => e = .returned (.bool (Turn hd hl id)) ∧ w = w' := by
  cases hl with
  | false => exact q_holds_free q p hd tn id w hb
  | true => exact q_holds_held q p hd tn id (hd == id) rfl w hb
set_option maxHeartbeats 2000000 in
theorem q_want_nil (id : Int) (w : World) : Calls Try.prog 30 #[.pointer none, .int .i64 id] w fun e w' => e = .returned (.int .i64 1) ∧ w = w' := by
  go_enter Try.func30, Try.ntmps30
  go_wp2_with fail
  go_ret
  exact ⟨rfl, rfl⟩
set_option maxHeartbeats 2000000 in
theorem q_grant_nil  (w : World) : Calls Try.prog 32 #[.pointer none] w fun e w' => e = .returned (.tuple #[.int .i64 0, .bool false]) ∧ w = w' := by
  go_enter Try.func32, Try.ntmps32
  go_wp2_with fail
  go_ret2
  exact ⟨rfl, rfl⟩
set_option maxHeartbeats 2000000 in
theorem q_release_nil (id : Int) (w : World) : Calls Try.prog 33 #[.pointer none, .int .i64 id] w fun e w' => e = .returned (.int .i64 1) ∧ w = w' := by
  go_enter Try.func33, Try.ntmps33
  go_wp2_with fail
  go_ret
  exact ⟨rfl, rfl⟩
set_option maxHeartbeats 2000000 in
theorem q_leave_nil (id : Int) (w : World) : Calls Try.prog 31 #[.pointer none, .int .i64 id] w fun e w' => e = .returned (.int .i64 1) ∧ w = w' := by
  go_enter Try.func31, Try.ntmps31
  go_wp2_with fail
  go_ret
  exact ⟨rfl, rfl⟩
set_option maxHeartbeats 2000000 in
theorem q_holder_nil  (w : World) : Calls Try.prog 28 #[.pointer none] w fun e w' => e = .returned (.tuple #[.int .i64 0, .bool false]) ∧ w = w' := by
  go_enter Try.func28, Try.ntmps28
  go_wp2_with fail
  go_ret2
  exact ⟨rfl, rfl⟩
set_option maxHeartbeats 2000000 in
theorem q_waits_nil  (w : World) : Calls Try.prog 25 #[.pointer none] w fun e w' => e = .returned (.slice none 0 0) ∧ w = w' := by
  go_enter Try.func25, Try.ntmps25
  go_wp2_with fail
  go_ret
  exact ⟨rfl, rfl⟩
set_option maxHeartbeats 2000000 in
theorem q_ahead_nil (id : Int) (w : World) : Calls Try.prog 29 #[.pointer none, .int .i64 id] w fun e w' => e = .returned (.tuple #[.int .i64 0, .bool false]) ∧ w = w' := by
  go_enter Try.func29, Try.ntmps29
  go_wp2_with fail
  go_ret2
  exact ⟨rfl, rfl⟩
set_option maxHeartbeats 2000000 in
theorem q_turns_nil  (w : World) : Calls Try.prog 27 #[.pointer none] w fun e w' => e = .returned (.int .i64 0) ∧ w = w' := by
  go_enter Try.func27, Try.ntmps27
  go_wp2_with fail
  go_ret
  exact ⟨rfl, rfl⟩
set_option maxHeartbeats 2000000 in
theorem q_want_held (base q g : Nat) (most : Int) (x : Value) (L : List Int) (hd : Int) (hl : Bool) (tn : Int) (id : Int) (w : World) (hq : Qu w base q g most x L hd hl tn) (ht : Turn hd hl id = true) :
    Calls Try.prog 30 #[.pointer (some ⟨q, 0, none⟩), .int .i64 id] w fun e w' => e = .returned (.int .i64 5) ∧ w = w' := by
  have H1 := q_holds q _ hd tn id hl w hq.1
  rw [ht] at H1
  have HH1 := Lib.hid H1
  have c0 : w.cell? ⟨q, 0, none⟩ = some (.pointer (some ⟨g, 0, none⟩)) := by rw [hq.1.cell]; rfl
  clear H1 ht hq
  go_enter Try.func30, Try.ntmps30
  go_wp2_with fail
  refine (HH1.out).mono ?_
  rintro e w' ⟨rfl, rfl⟩
  go_wp2_with fail
  go_ret
  exact ⟨rfl, rfl⟩
set_option maxHeartbeats 2000000 in
theorem q_leave_held (base q g : Nat) (most : Int) (x : Value) (L : List Int) (hd : Int) (hl : Bool) (tn : Int) (id : Int) (w : World) (hq : Qu w base q g most x L hd hl tn) (ht : Turn hd hl id = true) :
    Calls Try.prog 31 #[.pointer (some ⟨q, 0, none⟩), .int .i64 id] w fun e w' => e = .returned (.int .i64 10) ∧ w = w' := by
  have H1 := q_holds q _ hd tn id hl w hq.1
  rw [ht] at H1
  have HH1 := Lib.hid H1
  have c0 : w.cell? ⟨q, 0, none⟩ = some (.pointer (some ⟨g, 0, none⟩)) := by rw [hq.1.cell]; rfl
  clear H1 ht hq
  go_enter Try.func31, Try.ntmps31
  go_wp2_with fail
  refine (HH1.out).mono ?_
  rintro e w' ⟨rfl, rfl⟩
  go_wp2_with fail
  go_ret
  exact ⟨rfl, rfl⟩
set_option maxHeartbeats 2000000 in
theorem q_ahead_held (base q g : Nat) (most : Int) (x : Value) (L : List Int) (hd : Int) (hl : Bool) (tn : Int) (id : Int) (w : World) (hq : Qu w base q g most x L hd hl tn) (ht : Turn hd hl id = true) :
    Calls Try.prog 29 #[.pointer (some ⟨q, 0, none⟩), .int .i64 id] w fun e w' => e = .returned (.tuple #[.int .i64 0, .bool true]) ∧ w = w' := by
  have H1 := q_holds q _ hd tn id hl w hq.1
  rw [ht] at H1
  have HH1 := Lib.hid H1
  have c0 : w.cell? ⟨q, 0, none⟩ = some (.pointer (some ⟨g, 0, none⟩)) := by rw [hq.1.cell]; rfl
  clear H1 ht hq
  go_enter Try.func29, Try.ntmps29
  go_wp2_with fail
  refine (HH1.out).mono ?_
  rintro e w' ⟨rfl, rfl⟩
  go_wp2_with fail
  go_ret2
  exact ⟨rfl, rfl⟩
set_option maxHeartbeats 2000000 in
theorem q_release_no (base q g : Nat) (most : Int) (x : Value) (L : List Int) (hd : Int) (hl : Bool) (tn : Int) (id : Int) (w : World) (hq : Qu w base q g most x L hd hl tn) (ht : Turn hd hl id = false) :
    Calls Try.prog 33 #[.pointer (some ⟨q, 0, none⟩), .int .i64 id] w fun e w' => e = .returned (.int .i64 10) ∧ w = w' := by
  have H1 := q_holds q _ hd tn id hl w hq.1
  rw [ht] at H1
  have HH1 := Lib.hid H1
  have c0 : w.cell? ⟨q, 0, none⟩ = some (.pointer (some ⟨g, 0, none⟩)) := by rw [hq.1.cell]; rfl
  clear H1 ht hq
  go_enter Try.func33, Try.ntmps33
  go_wp2_with fail
  refine (HH1.out).mono ?_
  rintro e w' ⟨rfl, rfl⟩
  go_wp2_with fail
  go_ret
  exact ⟨rfl, rfl⟩
set_option maxHeartbeats 2000000 in
theorem q_release (base q g : Nat) (most : Int) (x : Value) (L : List Int) (hd : Int) (hl : Bool) (tn : Int) (id : Int) (w : World) (hq : Qu w base q g most x L hd hl tn) (ht : Turn hd hl id = true) :
    Calls Try.prog 33 #[.pointer (some ⟨q, 0, none⟩), .int .i64 id] w fun e w' => e = .returned (.int .i64 0) ∧ Qu w' base q g most x L 0 false tn ∧ Only (fun i => i = q) w w' := by
  have H1 := q_holds q _ hd tn id hl w hq.1
  rw [ht] at H1
  have HH1 := Lib.hid H1
  have c0 : w.cell? ⟨q, 0, none⟩ = some (.pointer (some ⟨g, 0, none⟩)) := by rw [hq.1.cell]; rfl
  clear H1 ht
  have c1 : w.cell? ⟨q, 1, none⟩ = some (.int .i64 hd) := by rw [hq.1.cell]; rfl
  have c2 : w.cell? ⟨q, 2, none⟩ = some (.bool hl) := by rw [hq.1.cell]; rfl
  have f1 := hq.1.frozen 1
  have f2 := hq.1.frozen 2
  have HQ := Lib.hid hq
  clear hq
  go_enter Try.func33, Try.ntmps33
  go_wp2_with fail
  refine (HH1.out).mono ?_
  rintro e w' ⟨rfl, rfl⟩
  go_wp2_with fail
  go_ret
  obtain ⟨n1, n2⟩ := HQ.out.ne
  have hO : Only (fun i => i = q) w ((w.setCell ⟨q, 1, none⟩ (.int .i64 0)).setCell ⟨q, 2, none⟩ (.bool false)) := ((Only.refl (fun i => i = q) w).setCell (p := ⟨q, 1, none⟩) (.inr rfl) _).setCell (p := ⟨q, 2, none⟩) (.inr rfl) _
  exact ⟨rfl, ⟨(HQ.out.1.set_ 1 _).set_ 2 _, HQ.out.2.1, HQ.out.2.2.keep hO (fun e => n1 e.symm) (fun b hb e => n2 (by rw [hb, e]))⟩, hO⟩
set_option maxHeartbeats 2000000 in
theorem q_want_via (base q g : Nat) (most : Int) (x : Value) (L : List Int) (hd : Int) (hl : Bool) (tn : Int) (id c : Int) (R : World → Prop) (w : World) (hq : Qu w base q g most x L hd hl tn) (ht : Turn hd hl id = false) (H : Calls Try.prog 16 #[.pointer (some ⟨g, 0, none⟩), .int .i64 id] w fun e w' => e = .returned (.int .i64 c) ∧ R w') :
    Calls Try.prog 30 #[.pointer (some ⟨q, 0, none⟩), .int .i64 id] w fun e w' => e = .returned (.int .i64 c) ∧ R w' := by
  have H1 := q_holds q _ hd tn id hl w hq.1
  rw [ht] at H1
  have HH1 := Lib.hid H1
  have c0 : w.cell? ⟨q, 0, none⟩ = some (.pointer (some ⟨g, 0, none⟩)) := by rw [hq.1.cell]; rfl
  clear H1 ht hq
  have HH := Lib.hid H
  clear H
  go_enter Try.func30, Try.ntmps30
  go_wp2_with fail
  refine (HH1.out).mono ?_
  rintro e w' ⟨rfl, rfl⟩
  go_wp2_with fail
  refine (HH.out).mono ?_
  rintro e w1 ⟨rfl, hr⟩
  go_wp2_with fail
  go_ret
  exact ⟨rfl, hr⟩
set_option maxHeartbeats 2000000 in
theorem q_leave_yes (base q g : Nat) (most : Int) (x : Value) (L : List Int) (hd : Int) (hl : Bool) (tn : Int) (id : Int) (R : World → Prop) (w : World) (hq : Qu w base q g most x L hd hl tn) (ht : Turn hd hl id = false) (H : Calls Try.prog 12 #[.pointer (some ⟨g, 0, none⟩), .int .i64 id] w fun e w' => e = .returned (.bool true) ∧ R w') :
    Calls Try.prog 31 #[.pointer (some ⟨q, 0, none⟩), .int .i64 id] w fun e w' => e = .returned (.int .i64 0) ∧ R w' := by
  have H1 := q_holds q _ hd tn id hl w hq.1
  rw [ht] at H1
  have HH1 := Lib.hid H1
  have c0 : w.cell? ⟨q, 0, none⟩ = some (.pointer (some ⟨g, 0, none⟩)) := by rw [hq.1.cell]; rfl
  clear H1 ht hq
  have HH := Lib.hid H
  clear H
  go_enter Try.func31, Try.ntmps31
  go_wp2_with fail
  refine (HH1.out).mono ?_
  rintro e w' ⟨rfl, rfl⟩
  go_wp2_with fail
  refine (HH.out).mono ?_
  rintro e w1 ⟨rfl, hr⟩
  go_wp2_with fail
  go_ret
  exact ⟨rfl, hr⟩
set_option maxHeartbeats 2000000 in
theorem q_leave_no (base q g : Nat) (most : Int) (x : Value) (L : List Int) (hd : Int) (hl : Bool) (tn : Int) (id : Int) (R : World → Prop) (w : World) (hq : Qu w base q g most x L hd hl tn) (ht : Turn hd hl id = false) (H : Calls Try.prog 12 #[.pointer (some ⟨g, 0, none⟩), .int .i64 id] w fun e w' => e = .returned (.bool false) ∧ R w') :
    Calls Try.prog 31 #[.pointer (some ⟨q, 0, none⟩), .int .i64 id] w fun e w' => e = .returned (.int .i64 6) ∧ R w' := by
  have H1 := q_holds q _ hd tn id hl w hq.1
  rw [ht] at H1
  have HH1 := Lib.hid H1
  have c0 : w.cell? ⟨q, 0, none⟩ = some (.pointer (some ⟨g, 0, none⟩)) := by rw [hq.1.cell]; rfl
  clear H1 ht hq
  have HH := Lib.hid H
  clear H
  go_enter Try.func31, Try.ntmps31
  go_wp2_with fail
  refine (HH1.out).mono ?_
  rintro e w' ⟨rfl, rfl⟩
  go_wp2_with fail
  refine (HH.out).mono ?_
  rintro e w1 ⟨rfl, hr⟩
  go_wp2_with fail
  go_ret
  exact ⟨rfl, hr⟩
set_option maxHeartbeats 2000000 in
theorem q_grant_held (base q g : Nat) (most : Int) (x : Value) (L : List Int) (hd tn : Int) (w : World) (hq : Qu w base q g most x L hd true tn) :
    Calls Try.prog 32 #[.pointer (some ⟨q, 0, none⟩)] w fun e w' => e = .returned (.tuple #[.int .i64 0, .bool false]) ∧ w = w' := by
  have c2 : w.cell? ⟨q, 2, none⟩ = some (.bool true) := by rw [hq.1.cell]; rfl
  clear hq
  go_enter Try.func32, Try.ntmps32
  go_wp2_with fail
  go_ret2
  exact ⟨rfl, rfl⟩
set_option maxHeartbeats 2000000 in
theorem q_grant_none (base q g : Nat) (most : Int) (x : Value) (hd tn : Int) (w : World) (hq : Qu w base q g most x [] hd false tn) :
    Calls Try.prog 32 #[.pointer (some ⟨q, 0, none⟩)] w fun e w' => e = .returned (.tuple #[.int .i64 0, .bool false]) ∧ w = w' := by
  have c2 : w.cell? ⟨q, 2, none⟩ = some (.bool false) := by rw [hq.1.cell]; rfl
  have c0 : w.cell? ⟨q, 0, none⟩ = some (.pointer (some ⟨g, 0, none⟩)) := by rw [hq.1.cell]; rfl
  have HP := Lib.hid (ring_pop_empty _ _ _ _ w hq.2.2)
  clear hq
  go_enter Try.func32, Try.ntmps32
  go_wp2_with fail
  refine (HP.out).mono ?_
  rintro e w' ⟨rfl, rfl⟩
  go_wp2_with fail
  go_ret2
  exact ⟨rfl, rfl⟩
set_option maxHeartbeats 4000000 in
theorem q_grant (base q g : Nat) (most : Int) (x : Value) (a : Int) (L : List Int) (hd tn : Int) (w : World) (hq : Qu w base q g most x (a :: L) hd false tn) (ht : 0 ≤ tn ∧ tn ≤ 1000000) :
    Calls Try.prog 32 #[.pointer (some ⟨q, 0, none⟩)] w fun e w' => e = .returned (.tuple #[.int .i64 a, .bool true]) ∧ Qu w' base q g most x L a true (tn + 1) ∧ Only (QB q g x) w w' := by
  obtain ⟨t1, t2⟩ := ht
  have c2 : w.cell? ⟨q, 2, none⟩ = some (.bool false) := by rw [hq.1.cell]; rfl
  have c0 : w.cell? ⟨q, 0, none⟩ = some (.pointer (some ⟨g, 0, none⟩)) := by rw [hq.1.cell]; rfl
  have HP := Lib.hid (ring_pop _ _ _ _ a L w hq.2.2)
  have HQ := Lib.hid hq
  clear hq
  go_enter Try.func32, Try.ntmps32
  go_wp2_with fail
  refine (HP.out).mono ?_
  rintro e w1 ⟨rfl, G1, O1⟩
  obtain ⟨n1, n2⟩ := HQ.out.ne
  have b1 := O1.blk HQ.out.1 (fun h => h.elim n1 (fun h => n2 h))
  have d1 : w1.cell? ⟨q, 1, none⟩ = some (.int .i64 hd) := by rw [b1.cell]; rfl
  have d2 : w1.cell? ⟨q, 2, none⟩ = some (.bool false) := by rw [b1.cell]; rfl
  have d3 : w1.cell? ⟨q, 3, none⟩ = some (.int .i64 tn) := by rw [b1.cell]; rfl
  have f1 := b1.frozen 1
  have f2 := b1.frozen 2
  have f3 := b1.frozen 3
  have HB1 := Lib.hid b1
  have HG1 := Lib.hid G1
  have HO1 := Lib.hid O1
  have N1 := Lib.hid n1
  have N2 := Lib.hid n2
  clear b1 G1 O1 n1 n2
  go_wp2_with fail
  go_ret2
  have hO : Only (fun i => i = q) w1 (((w1.setCell ⟨q, 1, none⟩ (.int .i64 a)).setCell ⟨q, 2, none⟩ (.bool true)).setCell ⟨q, 3, none⟩ (.int .i64 (tn + 1))) := (((Only.refl (fun i => i = q) w1).setCell (p := ⟨q, 1, none⟩) (.inr rfl) _).setCell (p := ⟨q, 2, none⟩) (.inr rfl) _).setCell (p := ⟨q, 3, none⟩) (.inr rfl) _
  refine ⟨rfl, ⟨((HB1.out.set_ 1 _).set_ 2 _).set_ 3 _, HQ.out.2.1, HG1.out.keep hO (fun e => N1.out e.symm) (fun b hb e => N2.out (by rw [hb, e]))⟩, ?_⟩
  exact (HO1.out.mono (S' := QB q g x) (fun i _ h => h.elim (fun h => .inr (.inl h)) (fun h => .inr (.inr h)))).trans hO (fun i _ h => .inl h)
set_option maxHeartbeats 2000000 in
theorem q_holder (base q g : Nat) (most : Int) (x : Value) (L : List Int) (hd : Int) (hl : Bool) (tn : Int) (w : World) (hq : Qu w base q g most x L hd hl tn) :
    Calls Try.prog 28 #[.pointer (some ⟨q, 0, none⟩)] w fun e w' => e = .returned (.tuple #[.int .i64 hd, .bool hl]) ∧ ∃ k, w' = w.drewN k := by
  have c1 : w.cell? ⟨q, 1, none⟩ = some (.int .i64 hd) := by rw [hq.1.cell]; rfl
  have c2 : w.cell? ⟨q, 2, none⟩ = some (.bool hl) := by rw [hq.1.cell]; rfl
  clear hq
  go_enter Try.func28, Try.ntmps28
  go_wp2_with fail
  go_quiet (fail)
  go_wp2_with fail
  go_ret2
  exact ⟨rfl, _, rfl⟩
set_option maxHeartbeats 2000000 in
theorem q_turns (base q g : Nat) (most : Int) (x : Value) (L : List Int) (hd : Int) (hl : Bool) (tn : Int) (w : World) (hq : Qu w base q g most x L hd hl tn) :
    Calls Try.prog 27 #[.pointer (some ⟨q, 0, none⟩)] w fun e w' => e = .returned (.int .i64 tn) ∧ w = w' := by
  have c3 : w.cell? ⟨q, 3, none⟩ = some (.int .i64 tn) := by rw [hq.1.cell]; rfl
  clear hq
  go_enter Try.func27, Try.ntmps27
  go_wp2_with fail
  go_ret
  exact ⟨rfl, rfl⟩
set_option maxHeartbeats 2000000 in
theorem q_waits (base q g : Nat) (most : Int) (x : Value) (L : List Int) (hd : Int) (hl : Bool) (tn : Int) (w : World) (hq : Qu w base q g most x L hd hl tn) :
    Calls Try.prog 25 #[.pointer (some ⟨q, 0, none⟩)] w fun e w' => ∃ v, e = .returned v ∧ Fresh w w' v L ∧ Only (fun _ => False) w w' := by
  have c0 : w.cell? ⟨q, 0, none⟩ = some (.pointer (some ⟨g, 0, none⟩)) := by rw [hq.1.cell]; rfl
  have HA := Lib.hid (ring_all _ _ _ _ _ w hq.2.2)
  clear hq
  go_enter Try.func25, Try.ntmps25
  go_wp2_with fail
  refine (HA.out).mono ?_
  rintro e w1 ⟨v, rfl, fr, ho⟩
  go_wp2_with fail
  go_ret
  exact ⟨v, rfl, fr, ho⟩
set_option maxHeartbeats 2000000 in
theorem q_ahead_no (base q g : Nat) (most : Int) (x : Value) (L : List Int) (hd : Int) (hl : Bool) (tn : Int) (id : Int) (w : World) (hq : Qu w base q g most x L hd hl tn) (ht : Turn hd hl id = false) (hi : idx L id < 0) :
    Calls Try.prog 29 #[.pointer (some ⟨q, 0, none⟩), .int .i64 id] w fun e w' => e = .returned (.tuple #[.int .i64 0, .bool false]) ∧ Below w.heap.size w w' := by
  have P := ring_place _ _ _ _ L id w hq.2.2
  rw [if_pos hi, decide_eq_false (by omega : ¬ 0 ≤ idx L id)] at P
  have HP := Lib.hid P
  clear P hi
  have H1 := q_holds q _ hd tn id hl w hq.1
  rw [ht] at H1
  have HH1 := Lib.hid H1
  have c0 : w.cell? ⟨q, 0, none⟩ = some (.pointer (some ⟨g, 0, none⟩)) := by rw [hq.1.cell]; rfl
  clear H1 ht hq
  go_enter Try.func29, Try.ntmps29
  go_wp2_with fail
  refine (HH1.out).mono ?_
  rintro e w' ⟨rfl, rfl⟩
  go_wp2_with fail
  refine (HP.out).mono ?_
  rintro e w1 ⟨rfl, hb⟩
  go_wp2_with fail
  go_ret2
  exact ⟨rfl, hb⟩
set_option maxHeartbeats 2000000 in
theorem q_ahead_yes (base q g : Nat) (most : Int) (x : Value) (L : List Int) (hd : Int) (hl : Bool) (tn : Int) (id : Int) (w : World) (hq : Qu w base q g most x L hd hl tn) (ht : Turn hd hl id = false) (hi : 0 ≤ idx L id) :
    Calls Try.prog 29 #[.pointer (some ⟨q, 0, none⟩), .int .i64 id] w fun e w' => e = .returned (.tuple #[.int .i64 (if hl then idx L id + 1 else idx L id), .bool true]) ∧ Below w.heap.size w w' := by
  have P := ring_place _ _ _ _ L id w hq.2.2
  rw [if_neg (by omega : ¬ idx L id < 0), decide_eq_true hi] at P
  have hbd := idx_bd L id
  have hln := hq.2.2.len
  have hm := hq.2.2.2.2.1
  have hin : idx L id ≤ 65536 := by omega
  generalize idx L id = ix at *
  have HP := Lib.hid P
  have hb0 := hq.1
  have HB := Lib.hid hb0
  clear P hbd hln hm hb0
  have H1 := q_holds q _ hd tn id hl w hq.1
  rw [ht] at H1
  have HH1 := Lib.hid H1
  have c0 : w.cell? ⟨q, 0, none⟩ = some (.pointer (some ⟨g, 0, none⟩)) := by rw [hq.1.cell]; rfl
  clear H1 ht hq
  cases hl with
  | true =>
    go_enter Try.func29, Try.ntmps29
    go_wp2_with fail
    refine (HH1.out).mono ?_
    rintro e w' ⟨rfl, rfl⟩
    go_wp2_with fail
    refine (HP.out).mono ?_
    rintro e w1 ⟨rfl, hb⟩
    have d2 : w1.cell? ⟨q, 2, none⟩ = some (.bool true) := by rw [(HB.out.below hb HB.out.lt).cell]; rfl
    go_wp2_with fail
    go_ret2
    exact ⟨rfl, hb⟩
  | false =>
    go_enter Try.func29, Try.ntmps29
    go_wp2_with fail
    refine (HH1.out).mono ?_
    rintro e w' ⟨rfl, rfl⟩
    go_wp2_with fail
    refine (HP.out).mono ?_
    rintro e w1 ⟨rfl, hb⟩
    have d2 : w1.cell? ⟨q, 2, none⟩ = some (.bool false) := by rw [(HB.out.below hb HB.out.lt).cell]; rfl
    go_wp2_with fail
    go_ret2
    exact ⟨rfl, hb⟩
end Go.Proofs.Ytmomafhpbbmiaaa
