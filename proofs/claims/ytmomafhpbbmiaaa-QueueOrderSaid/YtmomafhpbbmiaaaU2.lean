/- The document's queue of turns (layer 33). -/
import Derived.Test.YtmomafhpbbmiaaaU1
set_option linter.unusedVariables false
namespace Go.Proofs.Ytmomafhpbbmiaaa
open Go.ChangeShapes Go.WideShapes Go.ChangeAt Go.RowKit
/-- a slice that reads as a list, apart from certain blocks -/
def Lq (w : World) (A : Option Addr) (n c : Nat) (K : List Int) (P : Nat → Prop) : Prop :=
  n = K.length ∧ n ≤ c ∧ c ≤ maxLen ∧ Reads w w.heap.size 1 A n (iv K) ∧ ∀ ad, A = some ad → ad.block < w.heap.size ∧ ¬ P ad.block
theorem Lq.step {w w' : World} {A : Option Addr} {n c : Nat} {K : List Int} {P P' S : Nat → Prop} (h : Lq w A n c K P) (ho : Only S w w') (hS : ∀ i, i < w.heap.size → S i → P i) (hP : ∀ i, i < w.heap.size → P' i → P i) : Lq w' A n c K P' := by
  obtain ⟨h1, h2, h3, h4, h5⟩ := h
  refine ⟨h1, h2, h3, ⟨h4.1, fun hn => ?_⟩, fun ad hA => ?_⟩
  · obtain ⟨ad, hA, hb, hc⟩ := h4.2 hn
    refine ⟨ad, hA, Nat.lt_of_lt_of_le hb ho.size, fun j u hu => ?_⟩
    rw [← hc j u hu]
    refine World.cell?_of_block (ho.block _ (by rw [block_of_add]; exact hb) (fun hs => ?_))
    rw [block_of_add] at hs
    exact (h5 ad hA).2 (hS _ hb hs)
  · obtain ⟨k0, k1⟩ := h5 ad hA
    exact ⟨Nat.lt_of_lt_of_le k0 ho.size, fun e => k1 (hP _ k0 e)⟩
theorem Lq.still {w w' : World} {A : Option Addr} {n c : Nat} {K : List Int} {P : Nat → Prop} (h : Lq w A n c K P) (ho : Only (fun _ => False) w w') : Lq w' A n c K P :=
  h.step ho (fun _ _ h => h.elim) (fun _ _ h => h)
theorem Lq.fresh {w w' : World} {v : Value} {K : List Int} {P : Nat → Prop} (h : Fresh w w' v K) (hP : ∀ i, w.heap.size ≤ i → i < w'.heap.size → ¬ P i) : ∃ A n c, v = .slice A n c ∧ Lq w' A n c K P := by
  unfold Fresh at h
  obtain ⟨A, c, rfl, hr⟩ := own_slice h
  refine ⟨A, K.length, c, rfl, rfl, ?_⟩
  rcases h.2 with ⟨h1, h2⟩ | ⟨b, cap, cur, hv, hb, hh, hn, hcap, h4⟩
  · obtain rfl : K = [] := by simpa [iv] using h2
    cases h1
    exact ⟨Nat.zero_le _, by simp [maxLen], hr, fun ad hA => by cases hA⟩
  · cases hv
    refine ⟨hn, hcap, hr, fun ad hA => ?_⟩
    cases hA
    exact ⟨(h.lt b rfl).2, hP b hb (h.lt b rfl).2⟩
theorem Lq.tail {w : World} {b off n c : Nat} {a : Int} {K : List Int} {P : Nat → Prop} (h : Lq w (some ⟨b, off, none⟩) (n + 1) c (a :: K) P) : Lq w (if c = 1 then some ⟨b, off, none⟩ else some ⟨b, off + 1, none⟩) n (c - 1) K P := by
  obtain ⟨h1, h2, h3, h4, h5⟩ := h
  have hn : n = K.length := by simpa using h1
  refine ⟨hn, by omega, by omega, ?_, fun ad hA => ?_⟩
  · have k := h4.cut (k := 1) (cap := c) (by omega) h2
    have e1 : (iv (a :: K)).drop (1 * 1) = iv K := by simp [iv]
    have e2 : (some (⟨b, off, none⟩ : Addr)).map (·.add (1 * 1)) = some ⟨b, off + 1, none⟩ := by
      simp only [Option.map_some, Option.some.injEq]
      rfl
    rw [e1, e2, Nat.add_sub_cancel] at k
    exact k
  · have := h5 _ rfl
    split at hA <;> cases hA <;> exact this
theorem Lq.head {w : World} {A : Option Addr} {n c : Nat} {a : Int} {K : List Int} {P : Nat → Prop} (h : Lq w A n c (a :: K) P) : ∃ b off m, A = some ⟨b, off, none⟩ ∧ n = m + 1 ∧ m = K.length ∧ b < w.heap.size ∧ w.cell? ⟨b, off, none⟩ = some (.int .i64 a) := by
  have h1 := h.1
  simp only [List.length_cons] at h1
  obtain ⟨b, off, hA, hb, hc⟩ := reads_cell (k := 0) h.2.2.2.1 (by omega)
  exact ⟨b, off, K.length, hA, h1, rfl, hb, by simpa using hc⟩
/-- the document's queue at block r: its list, whether the first one has the turn -/
def Rf (w : World) (r : Nat) (A : Option Addr) (n c : Nat) (hl : Bool) (most tn : Int) : Prop := Blk w r 51 #[.slice A n c, .bool hl, .int .i64 most, .int .i64 tn]
section
variable (r : Nat) (A : Option Addr) (n c : Nat) (K : List Int) (P : Nat → Prop) (most tn id : Int) (w : World)
set_option maxHeartbeats 2000000 in
theorem rf_has_free (hb : Rf w r A n c false most tn) : Calls Try.prog 44 #[.pointer (some ⟨r, 0, none⟩), .int .i64 id] w fun e w' => e = .returned (.bool false) ∧ w = w' := by
  have c1 : w.cell? ⟨r, 1, none⟩ = some (.bool false) := by rw [Blk.cell hb]; rfl
  clear hb
  go_enter Try.func44, Try.ntmps44
  go_wp2_with fail
  go_ret
  exact ⟨rfl, rfl⟩
set_option maxHeartbeats 2000000 in
theorem rf_has_held (a : Int) (hb : Rf w r A n c true most tn) (hk : Lq w A n c (a :: K) P) (b : Bool) (he : (a == id) = b) : Calls Try.prog 44 #[.pointer (some ⟨r, 0, none⟩), .int .i64 id] w fun e w' => e = .returned (.bool b) ∧ w = w' := by
  obtain ⟨b0, off, m, rfl, rfl, hm_, _, d0⟩ := hk.head
  clear hm_
  have c1 : w.cell? ⟨r, 1, none⟩ = some (.bool true) := by rw [Blk.cell hb]; rfl
  have c0 : w.cell? ⟨r, 0, none⟩ = some (.slice (some ⟨b0, off, none⟩) (m + 1) c) := by rw [Blk.cell hb]; rfl
  clear hb hk
  go_enter Try.func44, Try.ntmps44
  go_wp2_with fail
  go_ret
  exact ⟨rfl, rfl⟩
/-- the list of the document: who has the turn, then who waits -/
def all (hl : Bool) (hd : Int) (L : List Int) : List Int := if hl then hd :: L else L
theorem rf_has (hd : Int) (hl : Bool) (L : List Int) (hb : Rf w r A n c hl most tn) (hk : Lq w A n c (all hl hd L) P) : Calls Try.prog 44 #[.pointer (some ⟨r, 0, none⟩), .int .i64 id] w fun e w' => e = .returned (.bool (Turn hd hl id)) ∧ w = w' := by
  cases hl with
  | false => exact rf_has_free r A n c most tn id w hb
  | true => exact rf_has_held r A n c L P most tn id w hd hb hk _ rfl
set_option maxHeartbeats 2000000 in
theorem rf_wait_free (hb : Rf w r A n c false most tn) : Calls Try.prog 26 #[.pointer (some ⟨r, 0, none⟩)] w fun e w' => e = .returned (.slice A n c) ∧ w = w' := by
  have c1 : w.cell? ⟨r, 1, none⟩ = some (.bool false) := by rw [Blk.cell hb]; rfl
  have c0 : w.cell? ⟨r, 0, none⟩ = some (.slice A n c) := by rw [Blk.cell hb]; rfl
  clear hb
  go_enter Try.func26, Try.ntmps26
  go_wp2_with fail
  go_ret
  exact ⟨rfl, rfl⟩
set_option maxHeartbeats 4000000 in
theorem rf_wait_held (b off m : Nat) (hb : Rf w r (some ⟨b, off, none⟩) (m + 1) c true most tn) : Calls Try.prog 26 #[.pointer (some ⟨r, 0, none⟩)] w fun e w' => e = .returned (.slice (if c = 1 then some ⟨b, off, none⟩ else some ⟨b, off + 1, none⟩) m (c - 1)) ∧ w = w' := by
  have c1 : w.cell? ⟨r, 1, none⟩ = some (.bool true) := by rw [Blk.cell hb]; rfl
  have c0 : w.cell? ⟨r, 0, none⟩ = some (.slice (some ⟨b, off, none⟩) (m + 1) c) := by rw [Blk.cell hb]; rfl
  have j1 : (1 : Int) ≤ ((m + 1 : Nat) : Int) := by omega
  have j2 : (1 : Int) ≤ (m : Int) + 1 := by omega
  clear hb
  by_cases hc : c = 1
  · subst hc
    rw [if_pos rfl]
    go_enter Try.func26, Try.ntmps26
    go_wp2_with fail
    go_ret
    exact ⟨rfl, rfl⟩
  · rw [if_neg hc]
    go_enter Try.func26, Try.ntmps26
    go_wp2_with fail
    go_ret
    exact ⟨rfl, rfl⟩
/-- who waits, by the document -/
theorem rf_wait (hd : Int) (hl : Bool) (L : List Int) (hb : Rf w r A n c hl most tn) (hk : Lq w A n c (all hl hd L) P) : ∃ A' n' c', Lq w A' n' c' L P ∧ ∀ V, Only (fun _ => False) w V → Calls Try.prog 26 #[.pointer (some ⟨r, 0, none⟩)] V fun e w' => e = .returned (.slice A' n' c') ∧ V = w' := by
  cases hl with
  | false => exact ⟨A, n, c, hk, fun V hV => rf_wait_free r A n c most tn V (hV.blk hb (fun h => h))⟩
  | true =>
    have hk' : Lq w A n c (hd :: L) P := hk
    obtain ⟨b0, off, m, rfl, rfl, hm_, _, d0⟩ := hk'.head
    clear hm_
    exact ⟨_, _, _, hk'.tail, fun V hV => rf_wait_held r c most tn V b0 off m (hV.blk hb (fun h => h))⟩
set_option maxHeartbeats 2000000 in
theorem rf_want_dup (hl : Bool) (hb : Rf w r A n c hl most tn) (hk : Lq w A n c K P) (hi : 0 ≤ idx K id) : Calls Try.prog 40 #[.pointer (some ⟨r, 0, none⟩), .int .i64 id] w fun e w' => e = .returned (.int .i64 5) ∧ w = w' := by
  have c0 : w.cell? ⟨r, 0, none⟩ = some (.slice A n c) := by rw [Blk.cell hb]; rfl
  have C := at_any A n c _ K id w hk.2.2.2.1 (Nat.le_trans hk.2.1 hk.2.2.1)
  generalize idx K id = i at *
  have HC := Lib.hid C
  clear hb hk C
  go_enter Try.func40, Try.ntmps40
  go_wp2_with fail
  refine (HC.out).mono ?_
  rintro e w' ⟨rfl, rfl⟩
  go_wp2_with fail
  go_ret
  exact ⟨rfl, rfl⟩
set_option maxHeartbeats 4000000 in
theorem rf_want_full (hd : Int) (hl : Bool) (L : List Int) (hb : Rf w r A n c hl most tn) (hk : Lq w A n c (all hl hd L) P) (hi : idx (all hl hd L) id < 0) (hm : most ≤ (L.length : Int)) : Calls Try.prog 40 #[.pointer (some ⟨r, 0, none⟩), .int .i64 id] w fun e w' => e = .returned (.int .i64 4) ∧ ∃ k, w' = w.drewN k := by
  have c0 : w.cell? ⟨r, 0, none⟩ = some (.slice A n c) := by rw [Blk.cell hb]; rfl
  have c2 : w.cell? ⟨r, 2, none⟩ = some (.int .i64 most) := by rw [Blk.cell hb]; rfl
  have C := at_any A n c _ (all hl hd L) id w hk.2.2.2.1 (Nat.le_trans hk.2.1 hk.2.2.1)
  obtain ⟨A', n', c', k', W⟩ := rf_wait r A n c P most tn w hd hl L hb hk
  have hm' : most ≤ (n' : Int) := by rw [k'.1]; exact hm
  generalize idx (all hl hd L) id = i at *
  have HC := Lib.hid C
  have HW := Lib.hid W
  clear hb hk C W k' hm
  go_enter Try.func40, Try.ntmps40
  go_wp2_with fail
  refine (HC.out).mono ?_
  rintro e w' ⟨rfl, rfl⟩
  go_wp2_with fail
  go_quiet ((go_at_call 26; exact qSame (HW.out _ ((Only.refl _ _).drewN _))))
  go_wp2_with fail
  go_ret
  exact ⟨rfl, _, rfl⟩
set_option maxRecDepth 100000 in
set_option maxHeartbeats 4000000 in
theorem rf_want_ok (hd : Int) (hl : Bool) (L : List Int) (hb : Rf w r A n c hl most tn) (hk : Lq w A n c (all hl hd L) P) (hi : idx (all hl hd L) id < 0) (hm : (L.length : Int) < most) (hn : n ≤ 100000) (hP : P r) : Calls Try.prog 40 #[.pointer (some ⟨r, 0, none⟩), .int .i64 id] w fun e w' => e = .returned (.int .i64 0) ∧ (∃ A2 n2 c2, Rf w' r A2 n2 c2 hl most tn ∧ ∃ w1, Fresh w w1 (.slice A2 n2 c2) (all hl hd L ++ [id]) ∧ Only (fun i => i = r) w1 w') ∧ Only (fun i => i = r) w w' := by
  obtain ⟨i0, hi0, hz0, hz1, hz2⟩ := info_parts int_info
  have c0 : w.cell? ⟨r, 0, none⟩ = some (.slice A n c) := by rw [Blk.cell hb]; rfl
  have c2 : w.cell? ⟨r, 2, none⟩ = some (.int .i64 most) := by rw [Blk.cell hb]; rfl
  have C := at_any A n c _ (all hl hd L) id w hk.2.2.2.1 (Nat.le_trans hk.2.1 hk.2.2.1)
  obtain ⟨A', n', c', k', W⟩ := rf_wait r A n c P most tn w hd hl L hb hk
  have hm' : (n' : Int) < most := by rw [k'.1]; exact hm
  have hrl := Blk.lt hb
  have HK1 := Lib.hid hk.1
  have HRD := Lib.hid hk.2.2.2.1
  generalize all hl hd L = K at *
  generalize idx K id = i at *
  have HC := Lib.hid C
  have HW := Lib.hid W
  have HB := Lib.hid hb
  clear hb hk C W k' hm
  go_enter Try.func40, Try.ntmps40
  go_wp2_with fail
  refine (HC.out).mono ?_
  rintro e w' ⟨rfl, rfl⟩
  go_wp2_with fail
  go_quiet ((go_at_call 26; exact qSame (HW.out _ ((Only.refl _ _).drewN _))))
  obtain ⟨V, hV⟩ : ∃ V, V = w.drewN nq := ⟨_, rfl⟩
  rw [← hV]
  have O1 : Only (fun _ => False) w V := by rw [hV]; exact (Only.refl _ _).drewN _
  have hz : V.heap.size = w.heap.size := by rw [hV]; rfl
  have HZ := Lib.hid hz
  have hrV : r < V.heap.size := by omega
  have d0 : V.cell? ⟨r, 0, none⟩ = some (.slice A n c) := (World.cell?_of_block (O1.block r hrl (fun h => h))).trans c0
  have HO1 := Lib.hid O1
  have HO : Hid ((V.alloc (.cells #[] 3)).ownsRow w.heap.size 3 1 (.slice (some ⟨V.heap.size, 0, none⟩) 0 0) 0 (iv [])) := Lib.hid (by rw [← hz]; exact own_new V 3 1)
  have HRR : Hid (Reads (V.alloc (.cells #[] 3)) w.heap.size 1 A n (iv K)) := Lib.hid ((O1.alloc _).reads HRD.out (Nat.le_refl _) (fun _ _ h => h))
  clear hV c0 c2 O1 hz
  go_wp2_with (first
    | (at_builtin
       refine wpList_append_any _ rfl (.tmp 21) (.tmp 25) _ rfl w.heap.size 3 i0 _ 1 8 Try.underlying28 hi0 hz0 hz1 hz2 rfl (by omega) (.slice (some ⟨V.heap.size, 0, none⟩) 0 0) 0 (iv []) rfl HO.out w.heap.size A n c (iv K) rfl HRR.out iv_one (by simp only [maxLen]; omega) (by omega) (by have := HZ.out; simp; omega) ?_
       intro v1 w1 hown1 hg1 hat1
       rw [Nat.zero_add, iv_append, List.nil_append] at hown1
       obtain ⟨A2, c2, rfl, hr2⟩ := own_slice hown1
       clear hr2
       have q2 : Hid (Only (fun i => w.heap.size ≤ i) w w1) := Lib.hid (((HO1.out.mono (S' := fun i => w.heap.size ≤ i) (fun _ _ h => h.elim)).alloc _).trans (Only.of_grown (S := fun i => w.heap.size ≤ i) hg1 (fun i hi => by cases hi; exact Nat.le_of_eq HZ.out.symm)) (fun _ _ h => h))
       have q3 : Hid ((w1.alloc (.cells #[.int .i64 id] 3)).ownsRow w.heap.size 3 1 (.slice A2 n c2) n (iv K)) := Lib.hid (((Only.refl (fun _ => False) w1).alloc _).own hown1 (fun _ _ h => h))
       have q4 : Hid (Reads (w1.alloc (.cells #[.int .i64 id] 3)) (w1.alloc (.cells #[.int .i64 id] 3)).heap.size 1 (some ⟨w1.heap.size, 0, none⟩) 1 (iv [id])) := Lib.hid (Reads.of_own (base := 0) (e := 3) (c := 1) (World.ownsRow_lit (size := 1) (e := 3) w1 #[.int .i64 id] 1 (Nat.zero_le _) (by simp [maxLen]) rfl))
       have q5 : Hid (w.heap.size ≤ (w1.alloc (.cells #[.int .i64 id] 3)).heap.size) := Lib.hid (by have h := q2.out.size; simp; omega)
       clear hown1 hg1 hat1)
    | (at_builtin
       refine wpList_append_any _ rfl (.tmp 26) (.tmp 28) _ rfl w.heap.size 3 i0 _ 1 8 Try.underlying28 hi0 hz0 hz1 hz2 rfl (by omega) (.slice A2 n c2) n (iv K) rfl q3.out _ _ 1 1 (iv [id]) rfl q4.out iv_one (by simp only [maxLen]; omega) (by omega) q5.out ?_
       intro v2 w2 hown2 hg2 hat2
       rw [iv_append] at hown2
       obtain ⟨A3, c3, rfl, hr3⟩ := own_slice hown2
       clear hr3
       have q6 : Hid (Only (fun i => w.heap.size ≤ i) w w2) := Lib.hid ((q2.out.alloc _).trans (Only.of_grown (S := fun i => w.heap.size ≤ i) hg2 (fun i hi => (q3.out.lt i hi.symm).1)) (fun _ _ h => h))
       have q7 := Lib.hid hown2
       have q8 : Hid (Blk w2 r 51 #[.slice A n c, .bool hl, .int .i64 most, .int .i64 tn]) := Lib.hid (q6.out.blk HB.out (fun h => by omega))
       have q9 : w2.cell? ⟨r, 0, none⟩ = some (.slice A n c) := by rw [q8.out.cell]; rfl
       have q10 : w2.frozen? ⟨r, 0, none⟩ = false := q8.out.frozen 0
       clear hown2 hg2 hat2)
    | fail)
  go_ret
  have hl' : (K ++ [id]).length = n + 1 := by have := HK1.out; simp; omega
  have hO : Only (fun i => i = r) w2 (w2.setCell ⟨r, 0, none⟩ (.slice A3 (n + 1) c3)) := (Only.refl (fun i => i = r) w2).setCell (p := ⟨r, 0, none⟩) (.inr rfl) _
  refine ⟨rfl, ⟨A3, n + 1, c3, q8.out.set_ 0 _, w2, ?_, hO⟩, (q6.out.mono (S' := fun i => i = r) (fun i hi h => by omega)).trans hO (fun _ _ h => h)⟩
  unfold Fresh
  rw [hl']
  exact q7.out
set_option maxHeartbeats 2000000 in
theorem rf_grant_held (hb : Rf w r A n c true most tn) : Calls Try.prog 37 #[.pointer (some ⟨r, 0, none⟩)] w fun e w' => e = .returned (.tuple #[.int .i64 0, .bool false]) ∧ w = w' := by
  have c1 : w.cell? ⟨r, 1, none⟩ = some (.bool true) := by rw [Blk.cell hb]; rfl
  clear hb
  go_enter Try.func37, Try.ntmps37
  go_wp2_with fail
  go_ret2
  exact ⟨rfl, rfl⟩
set_option maxHeartbeats 2000000 in
theorem rf_grant_none (hb : Rf w r A 0 c false most tn) : Calls Try.prog 37 #[.pointer (some ⟨r, 0, none⟩)] w fun e w' => e = .returned (.tuple #[.int .i64 0, .bool false]) ∧ w = w' := by
  have c1 : w.cell? ⟨r, 1, none⟩ = some (.bool false) := by rw [Blk.cell hb]; rfl
  have c0 : w.cell? ⟨r, 0, none⟩ = some (.slice A 0 c) := by rw [Blk.cell hb]; rfl
  clear hb
  go_enter Try.func37, Try.ntmps37
  go_wp2_with fail
  go_ret2
  exact ⟨rfl, rfl⟩
set_option maxHeartbeats 4000000 in
theorem rf_grant (a : Int) (hb : Rf w r A n c false most tn) (hk : Lq w A n c (a :: K) P) (hP : P r) (ht : 0 ≤ tn ∧ tn ≤ 1000000) : Calls Try.prog 37 #[.pointer (some ⟨r, 0, none⟩)] w fun e w' => e = .returned (.tuple #[.int .i64 a, .bool true]) ∧ Rf w' r A n c true most (tn + 1) ∧ Only (fun i => i = r) w w' := by
  obtain ⟨t1, t2⟩ := ht
  have hne : ∀ ad, A = some ad → ad.block ≠ r := fun ad hA e => (hk.2.2.2.2 ad hA).2 (by rw [e]; exact hP)
  obtain ⟨b0, off, m, rfl, rfl, hm_, hbl, d0⟩ := hk.head
  clear hm_
  have n1 : ¬ b0 = r := hne _ rfl
  have n2 : ¬ r = b0 := fun e => n1 e.symm
  have c1 : w.cell? ⟨r, 1, none⟩ = some (.bool false) := by rw [Blk.cell hb]; rfl
  have c0 : w.cell? ⟨r, 0, none⟩ = some (.slice (some ⟨b0, off, none⟩) (m + 1) c) := by rw [Blk.cell hb]; rfl
  have c3 : w.cell? ⟨r, 3, none⟩ = some (.int .i64 tn) := by rw [Blk.cell hb]; rfl
  have f1 := Blk.frozen hb 1
  have f3 := Blk.frozen hb 3
  have hz1 : (((m + 1 : Nat) : Int) == 0) = false := by simp; omega
  have hz2 : ((m : Int) + 1 == 0) = false := by simp; omega
  have s1 : IntKind.i64.wrap (tn + 1) = tn + 1 := IntWalk.i64_in _ (by omega)
  have HB := Lib.hid hb
  clear hb hk hne
  go_enter Try.func37, Try.ntmps37
  go_wp2_with fail
  go_ret2
  refine ⟨rfl, (Blk.set_ (Blk.set_ HB.out 1 _) 3 _), ((Only.refl (fun i => i = r) w).setCell (p := ⟨r, 1, none⟩) (.inr rfl) _).setCell (p := ⟨r, 3, none⟩) (.inr rfl) _⟩
theorem turn_head (hd : Int) (hl : Bool) (L : List Int) (h : Turn hd hl id = true) : hl = true ∧ hd = id := by
  unfold Turn at h
  simpa using h
set_option maxHeartbeats 2000000 in
theorem rf_release_no (hd : Int) (hl : Bool) (L : List Int) (hb : Rf w r A n c hl most tn) (hk : Lq w A n c (all hl hd L) P) (ht : Turn hd hl id = false) : Calls Try.prog 38 #[.pointer (some ⟨r, 0, none⟩), .int .i64 id] w fun e w' => e = .returned (.int .i64 10) ∧ w = w' := by
  have H := rf_has r A n c P most tn id w hd hl L hb hk
  rw [ht] at H
  have HH := Lib.hid H
  clear hb hk H ht
  go_enter Try.func38, Try.ntmps38
  go_wp2_with fail
  refine (HH.out).mono ?_
  rintro e w' ⟨rfl, rfl⟩
  go_wp2_with fail
  go_ret
  exact ⟨rfl, rfl⟩
set_option maxHeartbeats 4000000 in
theorem rf_release (hd : Int) (L : List Int) (hb : Rf w r A n c true most tn) (hk : Lq w A n c (hd :: L) P) (hP : P r) (ht : Turn hd true id = true) : Calls Try.prog 38 #[.pointer (some ⟨r, 0, none⟩), .int .i64 id] w fun e w' => e = .returned (.int .i64 0) ∧ (∃ A2 n2 c2, Rf w' r A2 n2 c2 false most tn ∧ Lq w A2 n2 c2 L P) ∧ Only (fun i => i = r) w w' := by
  have H := rf_has r A n c P most tn id w hd true L hb hk
  rw [ht] at H
  have HH := Lib.hid H
  obtain ⟨b0, off, m, rfl, rfl, hm_, hbl, d0⟩ := hk.head
  clear hm_
  have c0 : w.cell? ⟨r, 0, none⟩ = some (.slice (some ⟨b0, off, none⟩) (m + 1) c) := by rw [Blk.cell hb]; rfl
  have c1 : w.cell? ⟨r, 1, none⟩ = some (.bool true) := by rw [Blk.cell hb]; rfl
  have f0 := Blk.frozen hb 0
  have f1 := Blk.frozen hb 1
  have j1 : (1 : Int) ≤ ((m + 1 : Nat) : Int) := by omega
  have j2 : (1 : Int) ≤ (m : Int) + 1 := by omega
  have HB := Lib.hid hb
  have HK := Lib.hid hk
  clear hb hk H ht d0
  by_cases hc : c = 1
  · subst hc
    have HT := HK.out.tail
    rw [if_pos rfl, Nat.sub_self] at HT
    have HTT := Lib.hid HT
    clear HT
    go_enter Try.func38, Try.ntmps38
    go_wp2_with fail
    refine (HH.out).mono ?_
    rintro e w' ⟨rfl, rfl⟩
    go_wp2_with fail
    go_ret
    exact ⟨rfl, ⟨_, _, _, Blk.set_ (Blk.set_ HB.out 0 _) 1 _, HTT.out⟩, ((Only.refl (fun i => i = r) w).setCell (p := ⟨r, 0, none⟩) (.inr rfl) _).setCell (p := ⟨r, 1, none⟩) (.inr rfl) _⟩
  · have HT := HK.out.tail
    rw [if_neg hc] at HT
    have HTT := Lib.hid HT
    clear HT
    go_enter Try.func38, Try.ntmps38
    go_wp2_with fail
    refine (HH.out).mono ?_
    rintro e w' ⟨rfl, rfl⟩
    go_wp2_with fail
    go_ret
    exact ⟨rfl, ⟨_, _, _, Blk.set_ (Blk.set_ HB.out 0 _) 1 _, HTT.out⟩, ((Only.refl (fun i => i = r) w).setCell (p := ⟨r, 0, none⟩) (.inr rfl) _).setCell (p := ⟨r, 1, none⟩) (.inr rfl) _⟩
set_option maxHeartbeats 2000000 in
theorem rf_leave_has (hd : Int) (hl : Bool) (L : List Int) (hb : Rf w r A n c hl most tn) (hk : Lq w A n c (all hl hd L) P) (ht : Turn hd hl id = true) : Calls Try.prog 39 #[.pointer (some ⟨r, 0, none⟩), .int .i64 id] w fun e w' => e = .returned (.int .i64 10) ∧ w = w' := by
  have H := rf_has r A n c P most tn id w hd hl L hb hk
  rw [ht] at H
  have HH := Lib.hid H
  clear hb hk H ht
  go_enter Try.func39, Try.ntmps39
  go_wp2_with fail
  refine (HH.out).mono ?_
  rintro e w' ⟨rfl, rfl⟩
  go_wp2_with fail
  go_ret
  exact ⟨rfl, rfl⟩
set_option maxHeartbeats 2000000 in
theorem rf_leave_no (hd : Int) (hl : Bool) (L : List Int) (hb : Rf w r A n c hl most tn) (hk : Lq w A n c (all hl hd L) P) (ht : Turn hd hl id = false) (hi : idx (all hl hd L) id < 0) : Calls Try.prog 39 #[.pointer (some ⟨r, 0, none⟩), .int .i64 id] w fun e w' => e = .returned (.int .i64 6) ∧ w = w' := by
  have H := rf_has r A n c P most tn id w hd hl L hb hk
  rw [ht] at H
  have HH := Lib.hid H
  have c0 : w.cell? ⟨r, 0, none⟩ = some (.slice A n c) := by rw [Blk.cell hb]; rfl
  have C := at_any A n c _ (all hl hd L) id w hk.2.2.2.1 (Nat.le_trans hk.2.1 hk.2.2.1)
  generalize idx (all hl hd L) id = i at *
  have HC := Lib.hid C
  clear hb hk H ht C
  go_enter Try.func39, Try.ntmps39
  go_wp2_with fail
  refine (HH.out).mono ?_
  rintro e w' ⟨rfl, rfl⟩
  go_wp2_with fail
  refine (HC.out).mono ?_
  rintro e w' ⟨rfl, rfl⟩
  go_wp2_with fail
  go_ret
  exact ⟨rfl, rfl⟩
set_option maxHeartbeats 4000000 in
theorem rf_leave_yes (hd : Int) (hl : Bool) (L : List Int) (hb : Rf w r A n c hl most tn) (hk : Lq w A n c (all hl hd L) P) (hn : n ≤ 100000) (ht : Turn hd hl id = false) (hi : 0 ≤ idx (all hl hd L) id) : Calls Try.prog 39 #[.pointer (some ⟨r, 0, none⟩), .int .i64 id] w fun e w' => e = .returned (.int .i64 0) ∧ (∃ A2 n2 c2, Rf w' r A2 n2 c2 hl most tn ∧ ∃ w1, Fresh w w1 (.slice A2 n2 c2) ((all hl hd L).eraseIdx (idx (all hl hd L) id).toNat) ∧ n2 = ((all hl hd L).eraseIdx (idx (all hl hd L) id).toNat).length ∧ Only (fun i => i = r) w1 w') ∧ Only (fun i => i = r) w w' := by
  have H := rf_has r A n c P most tn id w hd hl L hb hk
  rw [ht] at H
  have HH := Lib.hid H
  have c0 : w.cell? ⟨r, 0, none⟩ = some (.slice A n c) := by rw [Blk.cell hb]; rfl
  have C := at_any A n c _ (all hl hd L) id w hk.2.2.2.1 (Nat.le_trans hk.2.1 hk.2.2.1)
  have D := rdrop_yes A n c _ (idx (all hl hd L) id).toNat (all hl hd L) id w hk.2.2.2.1 (Nat.le_refl _) hn hk.2.1 hk.2.2.1 (by omega)
  generalize (all hl hd L).eraseIdx (idx (all hl hd L) id).toNat = K' at *
  generalize idx (all hl hd L) id = i at *
  have HC := Lib.hid C
  have HD := Lib.hid D
  have HB := Lib.hid hb
  have hrl := Blk.lt hb
  clear hb hk H ht C D
  go_enter Try.func39, Try.ntmps39
  go_wp2_with fail
  refine (HH.out).mono ?_
  rintro e w' ⟨rfl, rfl⟩
  go_wp2_with fail
  refine (HC.out).mono ?_
  rintro e w' ⟨rfl, rfl⟩
  go_wp2_with fail
  refine (HD.out).mono ?_
  rintro e w1 ⟨u, rfl, fr, ho⟩
  obtain ⟨A2, c2, rfl, hr2⟩ := own_slice (show w1.ownsRow w.heap.size 3 1 u K'.length (iv K') from fr)
  clear hr2
  obtain ⟨n2, hn2⟩ : ∃ n2, n2 = K'.length := ⟨_, rfl⟩
  rw [← hn2] at fr ⊢
  have b1 : Blk w1 r 51 #[.slice A n c, .bool hl, .int .i64 most, .int .i64 tn] := ho.blk HB.out (fun h => h)
  have d0 : w1.cell? ⟨r, 0, none⟩ = some (.slice A n c) := by rw [b1.cell]; rfl
  have f0 : w1.frozen? ⟨r, 0, none⟩ = false := b1.frozen 0
  have HB1 := Lib.hid b1
  have HF := Lib.hid fr
  have HO := Lib.hid ho
  have HN2 := Lib.hid hn2
  clear b1 fr ho hn2 c0
  go_wp2_with fail
  go_ret
  have hO : Only (fun i => i = r) w1 (w1.setCell ⟨r, 0, none⟩ (.slice A2 n2 c2)) := (Only.refl (fun i => i = r) w1).setCell (p := ⟨r, 0, none⟩) (.inr rfl) _
  exact ⟨rfl, ⟨A2, n2, c2, HB1.out.set_ 0 _, w1, HF.out, HN2.out, hO⟩, (HO.out.mono (fun _ _ h => h.elim)).trans hO (fun _ _ h => h)⟩
end
end Go.Proofs.Ytmomafhpbbmiaaa
