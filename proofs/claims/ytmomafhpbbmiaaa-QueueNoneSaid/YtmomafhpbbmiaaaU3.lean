/- A queue of turns beside the document's (layer 33). -/
import Derived.Test.YtmomafhpbbmiaaaU2
set_option linter.unusedVariables false
namespace Go.Proofs.Ytmomafhpbbmiaaa
open Go.ChangeShapes Go.WideShapes Go.ChangeAt Go.RowKit
/-- both queues, in one state -/
def QX (base : Nat) (wr : World) (most : Int) (q r : Nat) (hl : Bool) (hd : Int) (L : List Int) (tn : Int) : Prop :=
  ∃ g x A n c, Qu wr base q g most x L hd hl tn ∧ Rf wr r A n c hl most tn ∧ base ≤ r ∧ Lq wr A n c (all hl hd L) (fun i => QB q g x i ∨ i = r) ∧ (hl = false → hd = 0)
theorem qr_ne {w : World} {base q g r n c : Nat} {most hd tn tn' m' : Int} {x : Value} {L : List Int} {hl hl' : Bool} {A : Option Addr} (h : Qu w base q g most x L hd hl tn) (hr : Rf w r A n c hl' m' tn') : q ≠ r ∧ g ≠ r ∧ x.ownBlock ≠ some r := by
  obtain ⟨h1, h2, h3⟩ := h
  obtain ⟨k, h4⟩ := h3.blk
  refine ⟨Blk.ne_ h1 hr (by decide), Blk.ne_ h4 hr (by decide), ?_⟩
  rcases h3.2.2.2 with ⟨rfl, _⟩ | ⟨b, S, h, sl, rfl, _, ho, _⟩
  · simp [Value.ownBlock]
  · exact own_ne ho hr (by decide)
theorem QX.still {base : Nat} {w w' : World} {most : Int} {q r : Nat} {hl : Bool} {hd : Int} {L : List Int} {tn : Int} (h : QX base w most q r hl hd L tn) (ho : Only (fun _ => False) w w') : QX base w' most q r hl hd L tn := by
  obtain ⟨g, x, A, n, c, h1, h2, h3, h4, h5⟩ := h
  exact ⟨g, x, A, n, c, h1.still ho, ho.blk h2 (fun h => h), h3, h4.still ho, h5⟩
/-- what a call on the queue leaves of the document's -/
theorem q_side {w w' : World} {base q g r n c : Nat} {most hd tn : Int} {x x' : Value} {L K : List Int} {hl : Bool} {A : Option Addr} (h : Qu w base q g most x L hd hl tn) (hr : Rf w r A n c hl most tn) (hk : Lq w A n c K (fun i => QB q g x i ∨ i = r)) (ho : Only (QB q g x) w w') (hx : x'.ownBlock = x.ownBlock ∨ ∀ b, x'.ownBlock = some b → w.heap.size ≤ b) :
    Rf w' r A n c hl most tn ∧ Lq w' A n c K (fun i => QB q g x' i ∨ i = r) := by
  obtain ⟨n1, n2, n3⟩ := qr_ne h hr
  refine ⟨ho.blk hr (fun e => ?_), hk.step ho (fun i _ h => .inl h) (fun i hi h => ?_)⟩
  · rcases e with e | e | e
    · exact n1 e.symm
    · exact n2 e.symm
    · exact n3 e
  · rcases h with (h | h | h) | h
    · exact .inl (.inl h)
    · exact .inl (.inr (.inl h))
    · rcases hx with e | e
      · exact .inl (.inr (.inr (by rw [← e, h])))
      · have := e i h; omega
    · exact .inr h
/-- what a call on the document's queue leaves of the queue -/
theorem r_side {w w' : World} {base q g r n c : Nat} {most hd tn tn' m' : Int} {x : Value} {L : List Int} {hl hl' : Bool} {A : Option Addr} (h : Qu w base q g most x L hd hl tn) (hr : Rf w r A n c hl' m' tn') (ho : Only (fun i => i = r) w w') : Qu w' base q g most x L hd hl tn := by
  obtain ⟨n1, n2, n3⟩ := qr_ne h hr
  exact h.keep ho (fun e => n1 e) (fun e => n2 e) (fun b hb e => n3 (by rw [hb, e]))
theorem r_below {w w' : World} {base r : Nat} (hb : base ≤ r) (hr : r < w.heap.size) (ho : Only (fun i => i = r) w w') : Below base w w' := ho.below (by omega) (fun i hi e => by omega)
/-- a new list of the document's -/
theorem r_fresh {w1 wb w2 : World} {base q g r n c : Nat} {most hd tn : Int} {x : Value} {L K : List Int} {hl : Bool} {A A2 : Option Addr} {n2 c2 : Nat} (h : Qu w1 base q g most x L hd hl tn) (hr : r < w1.heap.size) (hf : Fresh w1 wb (.slice A2 n2 c2) K) (ho : Only (fun i => i = r) wb w2) : Lq w2 A2 n2 c2 K (fun i => QB q g x i ∨ i = r) := by
  obtain ⟨A3, n3, c3, he, hk⟩ := Lq.fresh (P := fun i => QB q g x i ∨ i = r) hf (fun i h1 h2 h3 => by
    rcases h3 with (e | e | e) | e
    · have := h.1.lt; omega
    · have := h.2.2.lt; omega
    · have := (h.2.2.own _ e).2.1; omega
    · omega)
  cases he
  exact hk.step ho (fun i _ e => .inr e) (fun _ _ h => h)
theorem idx_all (hd : Int) (hl : Bool) (L : List Int) (id : Int) (h : Turn hd hl id = false) : (idx L id < 0 → idx (all hl hd L) id < 0) ∧ (0 ≤ idx L id → idx (all hl hd L) id = if hl then idx L id + 1 else idx L id) := by
  cases hl with
  | false => exact ⟨fun h => h, fun h => rfl⟩
  | true =>
    have hne : ¬ hd = id := by intro e; subst e; simp [Turn] at h
    simp only [all, if_true, idx, if_neg hne]
    constructor
    · intro k; rw [if_pos k]; omega
    · intro k; rw [if_neg (by omega)]
theorem all_erase (hd : Int) (hl : Bool) (L : List Int) (id : Int) (h : Turn hd hl id = false) (hi : 0 ≤ idx L id) : (all hl hd L).eraseIdx (idx (all hl hd L) id).toNat = all hl hd (L.eraseIdx (idx L id).toNat) := by
  rw [(idx_all hd hl L id h).2 hi]
  cases hl with
  | false => rfl
  | true =>
    simp only [all, if_true]
    rw [show (idx L id + 1).toNat = (idx L id).toNat + 1 by omega, List.eraseIdx_cons_succ]
theorem all_len (hl : Bool) (hd : Int) (L : List Int) : (all hl hd L).length ≤ L.length + 1 := by cases hl <;> simp [all]
/-- what two calls come to that answer alike -/
def Both (f g' : FuncId) (q r : Nat) (more : Array Value) (base : Nat) (w : World) (most : Int) (tn : Int) : Prop :=
  ∃ (v : Value) (M : World → Prop), Calls Try.prog f (#[.pointer (some ⟨q, 0, none⟩)] ++ more) w (fun e w1 => e = .returned v ∧ M w1) ∧
    ∀ w1, M w1 → Calls Try.prog g' (#[.pointer (some ⟨r, 0, none⟩)] ++ more) w1 (fun e w2 => e = .returned v ∧ (∃ hl hd L tn', QX base w2 most q r hl hd L tn' ∧ tn ≤ tn' ∧ tn' ≤ tn + 1) ∧ Below base w w2)
section
variable (base : Nat) (w : World) (most : Int) (q r : Nat) (hl : Bool) (hd : Int) (L : List Int) (tn id : Int)
theorem pair_want (h : QX base w most q r hl hd L tn) (hb : base ≤ w.heap.size) : ∃ (cc : Int) (M : World → Prop), Calls Try.prog 30 #[.pointer (some ⟨q, 0, none⟩), .int .i64 id] w (fun e w1 => e = .returned (.int .i64 cc) ∧ M w1) ∧
    ∀ w1, M w1 → Calls Try.prog 40 #[.pointer (some ⟨r, 0, none⟩), .int .i64 id] w1 (fun e w2 => e = .returned (.int .i64 cc) ∧ (∃ hl hd L tn', QX base w2 most q r hl hd L tn' ∧ tn ≤ tn' ∧ tn' ≤ tn + 1) ∧ Below base w w2) := by
  have hQ := h
  obtain ⟨g, x, A, n, c, h1, h2, h3, h4, h5⟩ := h
  have hrl := Blk.lt h2
  have hln := h1.2.2.len
  have hms := h1.2.2.2.2.1
  have hal := all_len hl hd L
  have hn : n ≤ 100000 := by have := h4.1; omega
  cases ht : Turn hd hl id with
  | true =>
    refine ⟨5, fun w1 => w = w1, q_want_held base q g most x L hd hl tn id w h1 ht, fun w1 e => ?_⟩
    subst e
    obtain ⟨rfl, rfl⟩ := turn_head id hd hl L ht
    refine (rf_want_dup r A n c _ _ most tn hd w true h2 h4 (by simp [all, idx])).mono fun e w2 k => ?_
    obtain ⟨rfl, rfl⟩ := k
    exact ⟨rfl, ⟨_, _, _, _, hQ, by omega, by omega⟩, Below.refl _ _⟩
  | false =>
    obtain ⟨i1, i2⟩ := idx_all hd hl L id ht
    by_cases hi : idx L id < 0
    · by_cases hm : (L.length : Int) < most
      · refine ⟨0, fun w' => ∃ x', Rg w' base g most x' (L ++ [id]) ∧ Only (fun i => i = g ∨ x.ownBlock = some i) w w' ∧ (x'.ownBlock = x.ownBlock ∨ ∀ b, x'.ownBlock = some b → w.heap.size ≤ b), q_want_via base q g most x L hd hl tn id 0 _ w h1 ht (ring_push base g most x L id w h1.2.2 hi hm hb), fun w1 e => ?_⟩
        obtain ⟨x', g1, o1, hx⟩ := e
        have o1' : Only (QB q g x) w w1 := o1.mono (fun i _ h => h.elim (fun h => .inr (.inl h)) (fun h => .inr (.inr h)))
        obtain ⟨s1, s2⟩ := q_side h1 h2 h4 o1' hx
        obtain ⟨m1, m2⟩ := h1.ne
        have q1 : Qu w1 base q g most x' (L ++ [id]) hd hl tn := ⟨o1.blk h1.1 (fun e => e.elim m1 (fun e => m2 e)), h1.2.1, g1⟩
        have b1 := h1.below o1'
        refine (rf_want_ok r A n c (fun i => QB q g x' i ∨ i = r) most tn id w1 hd hl L s1 s2 (i1 hi) hm hn (.inr rfl)).mono fun e w2 k => ?_
        obtain ⟨rfl, ⟨A2, n2, c2, r2, wb, hf, hob⟩, o2⟩ := k
        refine ⟨rfl, ⟨hl, hd, L ++ [id], tn, ⟨g, x', A2, n2, c2, r_side q1 s1 o2, r2, h3, ?_, h5⟩, by omega, by omega⟩, b1.trans (r_below h3 (Blk.lt s1) o2)⟩
        have e : all hl hd (L ++ [id]) = all hl hd L ++ [id] := by cases hl <;> simp [all]
        rw [e]
        exact r_fresh (c := c) (n := n) (A := A) q1 (Blk.lt s1) hf hob
      · refine ⟨4, fun w' => Below w.heap.size w w', q_want_via base q g most x L hd hl tn id 4 _ w h1 ht (ring_push_full base g most x L id w h1.2.2 hi (by omega)), fun w1 e => ?_⟩
        have o1 := Only.of_below0 e
        refine (rf_want_full r A n c _ most tn id w1 hd hl L (o1.blk h2 (fun h => h)) (h4.still o1) (i1 hi) (by omega)).mono fun e' w2 k => ?_
        obtain ⟨rfl, kk, rfl⟩ := k
        exact ⟨rfl, ⟨_, _, _, _, (hQ.still o1).still ((Only.refl _ _).drewN _), by omega, by omega⟩, below_drewN (e.mono hb) _⟩
    · refine ⟨5, fun w' => Below w.heap.size w w', q_want_via base q g most x L hd hl tn id 5 _ w h1 ht (ring_push_dup base g most x L id w h1.2.2 (by omega)), fun w1 e => ?_⟩
      have o1 := Only.of_below0 e
      refine (rf_want_dup r A n c _ _ most tn id w1 hl (o1.blk h2 (fun h => h)) (h4.still o1) (by rw [i2 (by omega)]; split <;> omega)).mono fun e' w2 k => ?_
      obtain ⟨rfl, rfl⟩ := k
      exact ⟨rfl, ⟨_, _, _, _, hQ.still o1, by omega, by omega⟩, e.mono hb⟩
theorem pair_leave (h : QX base w most q r hl hd L tn) (hb : base ≤ w.heap.size) : ∃ (cc : Int) (M : World → Prop), Calls Try.prog 31 #[.pointer (some ⟨q, 0, none⟩), .int .i64 id] w (fun e w1 => e = .returned (.int .i64 cc) ∧ M w1) ∧
    ∀ w1, M w1 → Calls Try.prog 39 #[.pointer (some ⟨r, 0, none⟩), .int .i64 id] w1 (fun e w2 => e = .returned (.int .i64 cc) ∧ (∃ hl hd L tn', QX base w2 most q r hl hd L tn' ∧ tn ≤ tn' ∧ tn' ≤ tn + 1) ∧ Below base w w2) := by
  have hQ := h
  obtain ⟨g, x, A, n, c, h1, h2, h3, h4, h5⟩ := h
  have hln := h1.2.2.len
  have hms := h1.2.2.2.2.1
  have hal := all_len hl hd L
  have hn : n ≤ 100000 := by have := h4.1; omega
  cases ht : Turn hd hl id with
  | true =>
    refine ⟨10, fun w1 => w = w1, q_leave_held base q g most x L hd hl tn id w h1 ht, fun w1 e => ?_⟩
    subst e
    refine (rf_leave_has r A n c _ most tn id w hd hl L h2 h4 ht).mono fun e w2 k => ?_
    obtain ⟨rfl, rfl⟩ := k
    exact ⟨rfl, ⟨_, _, _, _, hQ, by omega, by omega⟩, Below.refl _ _⟩
  | false =>
    obtain ⟨i1, i2⟩ := idx_all hd hl L id ht
    by_cases hi : idx L id < 0
    · refine ⟨6, fun w' => Below w.heap.size w w', q_leave_no base q g most x L hd hl tn id _ w h1 ht (ring_drop_no base g most x L id w h1.2.2 hi), fun w1 e => ?_⟩
      have o1 := Only.of_below0 e
      refine (rf_leave_no r A n c _ most tn id w1 hd hl L (o1.blk h2 (fun h => h)) (h4.still o1) ht (i1 hi)).mono fun e' w2 k => ?_
      obtain ⟨rfl, rfl⟩ := k
      exact ⟨rfl, ⟨_, _, _, _, hQ.still o1, by omega, by omega⟩, e.mono hb⟩
    · refine ⟨0, fun w' => Rg w' base g most x (L.eraseIdx (idx L id).toNat) ∧ Only (fun i => i = g ∨ x.ownBlock = some i) w w', q_leave_yes base q g most x L hd hl tn id _ w h1 ht (ring_drop base g most x L id w h1.2.2 (by omega)), fun w1 e => ?_⟩
      obtain ⟨g1, o1⟩ := e
      have o1' : Only (QB q g x) w w1 := o1.mono (fun i _ h => h.elim (fun h => .inr (.inl h)) (fun h => .inr (.inr h)))
      obtain ⟨s1, s2⟩ := q_side h1 h2 h4 o1' (.inl rfl)
      obtain ⟨m1, m2⟩ := h1.ne
      have q1 : Qu w1 base q g most x (L.eraseIdx (idx L id).toNat) hd hl tn := ⟨o1.blk h1.1 (fun e => e.elim m1 (fun e => m2 e)), h1.2.1, g1⟩
      have b1 := h1.below o1'
      refine (rf_leave_yes r A n c _ most tn id w1 hd hl L s1 s2 hn ht (by rw [i2 (by omega)]; split <;> omega)).mono fun e w2 k => ?_
      obtain ⟨rfl, ⟨A2, n2, c2, r2, wb, hf, hn2, hob⟩, o2⟩ := k
      refine ⟨rfl, ⟨hl, hd, L.eraseIdx (idx L id).toNat, tn, ⟨g, x, A2, n2, c2, r_side q1 s1 o2, r2, h3, ?_, h5⟩, by omega, by omega⟩, b1.trans (r_below h3 (Blk.lt s1) o2)⟩
      rw [← all_erase hd hl L id ht (by omega)]
      exact r_fresh (c := c) (n := n) (A := A) q1 (Blk.lt s1) hf hob
theorem pair_release (h : QX base w most q r hl hd L tn) (hb : base ≤ w.heap.size) : ∃ (cc : Int) (M : World → Prop), Calls Try.prog 33 #[.pointer (some ⟨q, 0, none⟩), .int .i64 id] w (fun e w1 => e = .returned (.int .i64 cc) ∧ M w1) ∧
    ∀ w1, M w1 → Calls Try.prog 38 #[.pointer (some ⟨r, 0, none⟩), .int .i64 id] w1 (fun e w2 => e = .returned (.int .i64 cc) ∧ (∃ hl hd L tn', QX base w2 most q r hl hd L tn' ∧ tn ≤ tn' ∧ tn' ≤ tn + 1) ∧ Below base w w2) := by
  have hQ := h
  obtain ⟨g, x, A, n, c, h1, h2, h3, h4, h5⟩ := h
  cases ht : Turn hd hl id with
  | false =>
    refine ⟨10, fun w1 => w = w1, q_release_no base q g most x L hd hl tn id w h1 ht, fun w1 e => ?_⟩
    subst e
    refine (rf_release_no r A n c _ most tn id w hd hl L h2 h4 ht).mono fun e w2 k => ?_
    obtain ⟨rfl, rfl⟩ := k
    exact ⟨rfl, ⟨_, _, _, _, hQ, by omega, by omega⟩, Below.refl _ _⟩
  | true =>
    refine ⟨0, fun w1 => Qu w1 base q g most x L 0 false tn ∧ Only (fun i => i = q) w w1, q_release base q g most x L hd hl tn id w h1 ht, fun w1 e => ?_⟩
    obtain ⟨q1, o1⟩ := e
    have o1' : Only (QB q g x) w w1 := o1.mono (fun i _ h => .inl h)
    obtain ⟨s1, s2⟩ := q_side h1 h2 h4 o1' (.inl rfl)
    have b1 := h1.below o1'
    obtain ⟨rfl, rfl⟩ := turn_head id hd hl L ht
    refine (rf_release r A n c (fun i => QB q g x i ∨ i = r) most tn hd w1 hd L s1 s2 (.inr rfl) ht).mono fun e w2 k => ?_
    obtain ⟨rfl, ⟨A2, n2, c2, r2, k2⟩, o2⟩ := k
    refine ⟨rfl, ⟨false, 0, L, tn, ⟨g, x, A2, n2, c2, r_side q1 s1 o2, r2, h3, ?_, fun _ => rfl⟩, by omega, by omega⟩, b1.trans (r_below h3 (Blk.lt s1) o2)⟩
    exact k2.step o2 (fun i _ e => .inr e) (fun _ _ h => h)
theorem pair_grant (h : QX base w most q r hl hd L tn) (hb : base ≤ w.heap.size) (ht : 0 ≤ tn ∧ tn ≤ 1000000) : ∃ (v : Int) (b : Bool) (M : World → Prop), Calls Try.prog 32 #[.pointer (some ⟨q, 0, none⟩)] w (fun e w1 => e = .returned (.tuple #[.int .i64 v, .bool b]) ∧ M w1) ∧
    ∀ w1, M w1 → Calls Try.prog 37 #[.pointer (some ⟨r, 0, none⟩)] w1 (fun e w2 => e = .returned (.tuple #[.int .i64 v, .bool b]) ∧ (∃ hl hd L tn', QX base w2 most q r hl hd L tn' ∧ tn ≤ tn' ∧ tn' ≤ tn + 1) ∧ Below base w w2) := by
  have hQ := h
  obtain ⟨g, x, A, n, c, h1, h2, h3, h4, h5⟩ := h
  cases hl with
  | true =>
    refine ⟨0, false, fun w1 => w = w1, q_grant_held base q g most x L hd tn w h1, fun w1 e => ?_⟩
    subst e
    refine (rf_grant_held r A n c most tn w h2).mono fun e w2 k => ?_
    obtain ⟨rfl, rfl⟩ := k
    exact ⟨rfl, ⟨_, _, _, _, hQ, by omega, by omega⟩, Below.refl _ _⟩
  | false =>
    cases L with
    | nil =>
      have hn0 : n = 0 := h4.1
      subst hn0
      refine ⟨0, false, fun w1 => w = w1, q_grant_none base q g most x hd tn w h1, fun w1 e => ?_⟩
      subst e
      refine (rf_grant_none r A c most tn w h2).mono fun e w2 k => ?_
      obtain ⟨rfl, rfl⟩ := k
      exact ⟨rfl, ⟨_, _, _, _, hQ, by omega, by omega⟩, Below.refl _ _⟩
    | cons a L =>
      refine ⟨a, true, fun w1 => Qu w1 base q g most x L a true (tn + 1) ∧ Only (QB q g x) w w1, q_grant base q g most x a L hd tn w h1 ht, fun w1 e => ?_⟩
      obtain ⟨q1, o1⟩ := e
      obtain ⟨s1, s2⟩ := q_side h1 h2 h4 o1 (.inl rfl)
      have b1 := h1.below o1
      refine (rf_grant r A n c L (fun i => QB q g x i ∨ i = r) most tn w1 a s1 s2 (.inr rfl) ht).mono fun e w2 k => ?_
      obtain ⟨rfl, r2, o2⟩ := k
      refine ⟨rfl, ⟨true, a, L, tn + 1, ⟨g, x, A, n, c, r_side q1 s1 o2, r2, h3, s2.step o2 (fun i _ e => .inr e) (fun _ _ h => h), fun e => by cases e⟩, by omega, by omega⟩, b1.trans (r_below h3 (Blk.lt s1) o2)⟩
end
end Go.Proofs.Ytmomafhpbbmiaaa
