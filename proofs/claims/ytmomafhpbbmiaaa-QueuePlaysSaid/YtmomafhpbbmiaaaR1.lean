/- A queue that is bounded (layer 11): its words; New, Len, Head, slot; where a number stands in a list. -/
import Derived.Test.YtmomafhpbbmiaaaO
import Derived.Test.YtmomafhpbbmiaaaRows
import Derived.WalkKit
import Derived.Outline
import Derived.Deep.RegionHeld3
import Derived.Deep.DeepCutAuto
import Derived.Deep.QuietTactic
import Derived.BigQuiet
import Derived.Deep.AppendLies
import Derived.Laws.OwnMore
set_option linter.unusedVariables false
namespace Go.Proofs.Ytmomafhpbbmiaaa
open Go.ChangeShapes Go.WideShapes Go.ChangeAt Go.RowKit
theorem int_info : (Try.prog.info? 3).map (fun i => (i.zero, i.size, i.bytes)) = some (some (.int .i64 0), 1, 8) := by kernel_rfl
/-- where a number stands in a list; -1: nowhere -/
def idx : List Int → Int → Int
  | [], _ => -1
  | a :: l, v => if a = v then 0 else if idx l v < 0 then -1 else idx l v + 1
theorem idx_bd : ∀ (l : List Int) (v : Int), -1 ≤ idx l v ∧ idx l v < l.length
  | [], v => by simp [idx]
  | a :: l, v => by
    have h := idx_bd l v
    simp only [idx, List.length_cons]
    split
    · omega
    · split <;> omega
theorem idx_hit : ∀ (l : List Int) (k : Nat) (v : Int), k < l.length → l.getD k 0 = v → (∀ j, j < k → l.getD j 0 ≠ v) → idx l v = k
  | [], k, v, h, _, _ => by simp at h
  | a :: l, 0, v, _, h, _ => by simp at h; simp [idx, h]
  | a :: l, k + 1, v, hk, h, hn => by
    have h0 := hn 0 (by omega)
    simp only [List.getD_cons_zero] at h0
    have := idx_hit l k v (by simpa using hk) (by simpa using h) (fun j hj => by simpa using hn (j + 1) (by omega))
    simp only [idx, if_neg h0, this]
    rw [if_neg (by omega)]; omega
theorem idx_miss : ∀ (l : List Int) (v : Int), (∀ j, j < l.length → l.getD j 0 ≠ v) → idx l v = -1
  | [], v, _ => rfl
  | a :: l, v, hn => by
    have h0 := hn 0 (by simp)
    simp only [List.getD_cons_zero] at h0
    have := idx_miss l v (fun j hj => by simpa using hn (j + 1) (by simpa using hj))
    simp [idx, h0, this]
theorem idx_at : ∀ (l : List Int) (v : Int), 0 ≤ idx l v → l.getD (idx l v).toNat 0 = v
  | [], v, h => by simp [idx] at h
  | a :: l, v, h => by
    simp only [idx] at h ⊢
    split
    · rename_i e; simpa using e
    · rename_i e
      rw [if_neg e] at h
      split
      · rename_i q; rw [if_pos q] at h; omega
      · rename_i q
        have := idx_at l v (by omega)
        rw [show (idx l v + 1).toNat = (idx l v).toNat + 1 by omega, List.getD_cons_succ, this]
theorem idx_first : ∀ (l : List Int) (v : Int) (j : Nat), l.getD j 0 = v → j < l.length → 0 ≤ idx l v ∧ idx l v ≤ j
  | [], v, j, _, h => by simp at h
  | a :: l, v, 0, h, _ => by simp at h; simp [idx, h]
  | a :: l, v, j + 1, h, hj => by
    have := idx_first l v j (by simpa using h) (by simpa using hj)
    simp only [idx]
    split
    · omega
    · split <;> omega
set_option maxHeartbeats 1000000 in
theorem index_any (A : Option Addr) (n c B : Nat) (zs : List Int) (v : Int) (w : World) (hr : Reads w B 1 A n (iv zs)) (hn : n ≤ maxLen) :
    Calls Try.prog 43 #[.slice A n c, .int .i64 v] w fun e w' => e = .returned (.int .i64 (idx zs v)) ∧ w = w' := by
  have hl := hr.len
  unfold maxLen at hn
  have HR := Lib.hid hr
  clear hr
  go_enter Try.func43, Try.ntmps43
  go_wp2_with fail
  go_loop [5, 8] (fun _ i => ∃ k : Nat, k ≤ n ∧ i = .int .i64 k ∧ Hid (∀ j, j < k → zs.getD j 0 ≠ v)) (fun _ i => n - (intOf i).toNat)
  case atStart => exact ⟨0, by omega, rfl, Lib.hid (fun j hj => by omega)⟩
  case round =>
    obtain ⟨k, hk, rfl, hno⟩ := hrel
    by_cases hlt : k < n
    · obtain ⟨b, off, rfl, hbB, q0⟩ := reads_cell HR.out hlt
      generalize hz : zs.getD k 0 = z at *
      have HZ := Lib.hid hz
      clear hz
      by_cases hv : v = z
      · subst hv
        go_wp2_with fail
        go_ret
        exact ⟨by rw [idx_hit zs k v (by omega) HZ.out hno.out]; rfl, rfl⟩
      · have hv' : (v == z) = false := by simpa using hv
        have HV := Lib.hid hv
        clear hv
        go_wp2_with fail
        go_round
        case rel => exact ⟨k + 1, by omega, by go_num, Lib.hid (fun j hj => by
          rcases Nat.lt_or_ge j k with h | h
          · exact hno.out j h
          · rw [show j = k by omega, HZ.out]; exact fun h => HV.out h.symm)⟩
        case measure => simp [intOf]; omega
    · obtain rfl : k = n := by omega
      go_wp2_with fail
      go_ret
      exact ⟨by rw [idx_miss zs v (fun j hj => hno.out j (by omega))]; rfl, rfl⟩
set_option maxHeartbeats 1000000 in
theorem at_any (A : Option Addr) (n c B : Nat) (zs : List Int) (v : Int) (w : World) (hr : Reads w B 1 A n (iv zs)) (hn : n ≤ maxLen) :
    Calls Try.prog 13 #[.slice A n c, .int .i64 v] w fun e w' => e = .returned (.int .i64 (idx zs v)) ∧ w = w' := by
  have hl := hr.len
  unfold maxLen at hn
  have HR := Lib.hid hr
  clear hr
  go_enter Try.func13, Try.ntmps13
  go_wp2_with fail
  go_loop [5] (fun i => ∃ k : Nat, k ≤ n ∧ i = .int .i64 k ∧ Hid (∀ j, j < k → zs.getD j 0 ≠ v)) (fun i => n - (intOf i).toNat)
  case atStart => exact ⟨0, by omega, rfl, Lib.hid (fun j hj => by omega)⟩
  case round =>
    obtain ⟨k, hk, rfl, hno⟩ := hrel
    by_cases hlt : k < n
    · obtain ⟨b, off, rfl, hbB, q0⟩ := reads_cell HR.out hlt
      generalize hz : zs.getD k 0 = z at *
      have HZ := Lib.hid hz
      clear hz
      by_cases hv : z = v
      · subst hv
        go_wp2_with fail
        go_ret
        exact ⟨by rw [idx_hit zs k z (by omega) HZ.out hno.out]; rfl, rfl⟩
      · have hv' : (z == v) = false := by simpa using hv
        have HV := Lib.hid hv
        clear hv
        go_wp2_with fail
        go_round
        case rel => exact ⟨k + 1, by omega, by go_num, Lib.hid (fun j hj => by
          rcases Nat.lt_or_ge j k with h | h
          · exact hno.out j h
          · rw [show j = k by omega, HZ.out]; exact HV.out)⟩
        case measure => simp [intOf]; omega
    · obtain rfl : k = n := by omega
      go_wp2_with fail
      go_ret
      exact ⟨by rw [idx_miss zs v (fun j hj => hno.out j (by omega))]; rfl, rfl⟩
/-- two lists are one -/
theorem list_ext_getD {a b : List Int} (hl : a.length = b.length) (h : ∀ j, j < a.length → a.getD j 0 = b.getD j 0) : a = b := by
  apply List.ext_getElem hl
  intro i h1 h2
  have := h i h1
  rw [List.getD_eq_getElem?_getD, List.getD_eq_getElem?_getD, List.getElem?_eq_getElem h1, List.getElem?_eq_getElem h2] at this
  exact this
set_option maxHeartbeats 2000000 in
theorem same_any (A A' : Option Addr) (n m c c' B B' : Nat) (zs ys : List Int) (w : World) (hr : Reads w B 1 A n (iv zs)) (hr' : Reads w B' 1 A' m (iv ys)) (hn : n ≤ maxLen) (hm : m ≤ maxLen) :
    Calls Try.prog 19 #[.slice A n c, .slice A' m c'] w fun e w' => e = .returned (.bool (decide (zs = ys))) ∧ ∃ q, w' = w.drewN q := by
  have hl := hr.len
  have hl' := hr'.len
  unfold maxLen at hn hm
  have HR := Lib.hid hr
  have HR' := Lib.hid hr'
  clear hr hr'
  by_cases hnm : n = m
  · subst hnm
    go_enter Try.func19, Try.ntmps19
    go_wp2_with fail
    go_loopg [5] n (fun g i wr => ∃ k q : Nat, g = n - k ∧ k ≤ n ∧ i = .int .i64 k ∧ wr = w.drewN q ∧ Hid (∀ j, j < k → zs.getD j 0 = ys.getD j 0))
    case atStart => exact ⟨0, 0, rfl, by omega, rfl, rfl, Lib.hid (fun j hj => by omega)⟩
    case round =>
      obtain ⟨k, q, rfl, hk, rfl, rfl, hno⟩ := hrel
      by_cases hlt : k < n
      · obtain ⟨b, off, rfl, hbB, q0⟩ := reads_cell HR.out hlt
        obtain ⟨b', off', rfl, hbB', q0'⟩ := reads_cell HR'.out hlt
        generalize hz : zs.getD k 0 = z at *
        generalize hz' : ys.getD k 0 = y at *
        have HZ := Lib.hid hz
        have HZ' := Lib.hid hz'
        clear hz hz'
        by_cases hv : z = y
        · subst hv
          go_wp2_with fail
          go_quiet (fail)
          go_wp2_with fail
          go_roundg (n - (k + 1))
          case measure => omega
          case rel => exact ⟨k + 1, _, rfl, by omega, by go_num, by first | rfl | exact World.drewN_drewN _ _ _, Lib.hid (fun j hj => by
            rcases Nat.lt_or_ge j k with h | h
            · exact hno.out j h
            · rw [show j = k by omega, HZ.out, HZ'.out])⟩
        · have hv' : (z == y) = false := by simpa using hv
          have hv2 : (z != y) = true := by simpa using hv
          have HV := Lib.hid hv
          clear hv
          go_wp2_with fail
          go_quiet (fail)
          go_wp2_with fail
          go_ret
          refine ⟨?_, _, by first | rfl | exact World.drewN_drewN _ _ _⟩
          have hne : ¬ zs = ys := fun h => HV.out (by rw [← HZ.out, ← HZ'.out, h])
          simp [hne]
      · obtain rfl : k = n := by omega
        go_wp2_with fail
        go_ret
        refine ⟨?_, _, rfl⟩
        have he : zs = ys := list_ext_getD (by omega) (fun j hj => hno.out j (by omega))
        simp [he]
  · have hd : ((n : Int) != (m : Int)) = true := by simp; omega
    have hd2 : ((n : Int) == (m : Int)) = false := by simp; omega
    have hne : ¬ zs = ys := fun h => by subst h; omega
    have HN := Lib.hid hne
    clear hne
    go_enter Try.func19, Try.ntmps19
    go_wp2_with fail
    go_ret
    exact ⟨by simp [HN.out], 0, rfl⟩
/-- a queue at block g: how many at most, its slots, the first one's, who waits -/
def Rg (w : World) (base g : Nat) (most : Int) (x : Value) (L : List Int) : Prop :=
  base ≤ g ∧ 1 ≤ most ∧ most ≤ 65536 ∧
  ((x = .slice none 0 0 ∧ L = [] ∧ Blk w g 59 #[.int .i64 most, x, .int .i64 0, .int .i64 0]) ∨
   ∃ (b S h : Nat) (sl : List Int), x = .slice (some ⟨b, 0, none⟩) S S ∧ Blk w g 59 #[.int .i64 most, x, .int .i64 h, .int .i64 (L.length : Nat)] ∧ w.ownsRow base 3 1 x S (iv sl) ∧ h < S ∧ L.length ≤ S ∧ (S : Int) ≤ most ∧ ∀ i, i < L.length → sl.getD ((h + i) % S) 0 = L.getD i 0)
theorem Rg.keep {w w' : World} {base g : Nat} {most : Int} {x : Value} {L : List Int} {P : Nat → Prop} (h : Rg w base g most x L) (ho : Only P w w') (h0 : ¬ P g) (h1 : ∀ b, x.ownBlock = some b → ¬ P b) : Rg w' base g most x L := by
  obtain ⟨a, b, c, h⟩ := h
  refine ⟨a, b, c, ?_⟩
  rcases h with ⟨h2, h3, h4⟩ | ⟨b', S, hd, sl, h2, h3, h4, h5⟩
  · exact .inl ⟨h2, h3, ho.blk h4 h0⟩
  · exact .inr ⟨b', S, hd, sl, h2, ho.blk h3 h0, ho.own h4 h1, h5⟩
theorem Rg.lt {w : World} {base g : Nat} {most : Int} {x : Value} {L : List Int} (h : Rg w base g most x L) : g < w.heap.size := by
  rcases h.2.2.2 with ⟨_, _, h4⟩ | ⟨b', S, hd, sl, h2, h3, _⟩
  · exact h4.lt
  · exact h3.lt
theorem Rg.own {w : World} {base g : Nat} {most : Int} {x : Value} {L : List Int} (h : Rg w base g most x L) : ∀ b, x.ownBlock = some b → base ≤ b ∧ b < w.heap.size ∧ b ≠ g := by
  intro b hb
  rcases h.2.2.2 with ⟨h2, _, h4⟩ | ⟨b', S, hd, sl, h2, h3, h4, _⟩
  · subst h2; cases hb
  · have := h4.lt b hb
    exact ⟨this.1, this.2, fun e => own_ne h4 h3 (by decide) (by rw [hb, e])⟩
theorem Rg.len {w : World} {base g : Nat} {most : Int} {x : Value} {L : List Int} (h : Rg w base g most x L) : (L.length : Int) ≤ most := by
  rcases h.2.2.2 with ⟨_, h2, _⟩ | ⟨b', S, hd, sl, h2, h3, h4, h5, h6, h7, _⟩
  · subst h2; have := h.2.1; simp; omega
  · omega
theorem Rg.blk {w : World} {base g : Nat} {most : Int} {x : Value} {L : List Int} (h : Rg w base g most x L) : ∃ hd : Nat, Blk w g 59 #[.int .i64 most, x, .int .i64 hd, .int .i64 (L.length : Nat)] := by
  rcases h.2.2.2 with ⟨_, h2, h4⟩ | ⟨b', S, hd, sl, h2, h3, _⟩
  · subst h2; exact ⟨0, h4⟩
  · exact ⟨hd, h3⟩
set_option maxHeartbeats 1000000 in
theorem ring_new (most : Int) (h : 1 ≤ most ∧ most ≤ 65536) (w : World) :
    Calls Try.prog 9 #[.int .i64 most] w fun e w' => e = .returned (.tuple #[.pointer (some ⟨w.heap.size, 0, none⟩), .int .i64 0]) ∧ w' = w.alloc (.cells #[.int .i64 most, .slice none 0 0, .int .i64 0, .int .i64 0] 59) := by
  obtain ⟨h1, h2⟩ := h
  go_enter Try.func9, Try.ntmps9
  go_wp2
  go_ret2
  exact ⟨rfl, rfl⟩
theorem rg_new (most : Int) (h : 1 ≤ most ∧ most ≤ 65536) (w : World) : Rg (w.alloc (.cells #[.int .i64 most, .slice none 0 0, .int .i64 0, .int .i64 0] 59)) w.heap.size w.heap.size most (.slice none 0 0) [] :=
  ⟨Nat.le_refl _, h.1, h.2, .inl ⟨rfl, rfl, Blk.new w _ _⟩⟩
set_option maxHeartbeats 1000000 in
theorem ring_new_no (most : Int) (h : most < 1 ∨ 65536 < most) (w : World) :
    Calls Try.prog 9 #[.int .i64 most] w fun e w' => e = .returned (.tuple #[.pointer none, .int .i64 1]) ∧ w = w' := by
  rcases h with h | h
  · go_enter Try.func9, Try.ntmps9
    go_wp2
    go_ret2
    exact ⟨rfl, rfl⟩
  · have h' : ¬ most < 1 := by omega
    go_enter Try.func9, Try.ntmps9
    go_wp2
    go_ret2
    exact ⟨rfl, rfl⟩
set_option maxHeartbeats 1000000 in
theorem ring_len_nil (w : World) : Calls Try.prog 21 #[.pointer none] w fun e w' => e = .returned (.int .i64 0) ∧ w = w' := by
  go_enter Try.func21, Try.ntmps21
  go_wp2
  go_ret
  exact ⟨rfl, rfl⟩
set_option maxHeartbeats 1000000 in
theorem ring_len (base g : Nat) (most : Int) (x : Value) (L : List Int) (w : World) (hg : Rg w base g most x L) :
    Calls Try.prog 21 #[.pointer (some ⟨g, 0, none⟩)] w fun e w' => e = .returned (.int .i64 (L.length : Nat)) ∧ w = w' := by
  obtain ⟨hd, hb⟩ := hg.blk
  have h3 : w.cell? ⟨g, 3, none⟩ = some (.int .i64 (L.length : Nat)) := by rw [hb.cell]; rfl
  clear hb hg
  go_enter Try.func21, Try.ntmps21
  go_wp2
  go_ret
  exact ⟨rfl, rfl⟩
set_option maxHeartbeats 2000000 in
theorem ring_slot (g b S h i : Nat) (u v : Value) (w : World) (hb : Blk w g 59 #[u, .slice (some ⟨b, 0, none⟩) S S, .int .i64 h, v]) (hh : h < S) (hi : i ≤ S) (hS : S ≤ 65536) :
    Calls Try.prog 34 #[.pointer (some ⟨g, 0, none⟩), .int .i64 i] w fun e w' => e = .returned (.int .i64 (((h + i) % S : Nat) : Int)) ∧ ∃ q, w' = w.drewN q := by
  have h1 : w.cell? ⟨g, 1, none⟩ = some (.slice (some ⟨b, 0, none⟩) S S) := by rw [hb.cell]; rfl
  have h2 : w.cell? ⟨g, 2, none⟩ = some (.int .i64 h) := by rw [hb.cell]; rfl
  clear hb
  have s1 : IntKind.i64.wrap ((h : Int) + (i : Int)) = ((h + i : Nat) : Int) := by rw [IntWalk.i64_in _ (by omega)]; omega
  have s2 : (((h + i : Nat) : Int).tmod (S : Int)) = (((h + i) % S : Nat) : Int) := by rw [Int.tmod_eq_emod_of_nonneg (by omega)]; omega
  have s3 : ((S : Int) == 0) = false := by simp; omega
  have s4 : IntKind.i64.wrap (((h + i) % S : Nat) : Int) = (((h + i) % S : Nat) : Int) := IntWalk.i64_in _ (by have := Nat.mod_lt (h + i) (show 0 < S by omega); omega)
  have hS0 : ¬ ((S : Int) = 0) := by omega
  go_enter Try.func34, Try.ntmps34
  go_wp2_with fail
  go_quiet (fail)
  go_wp2_with fail
  go_ret
  exact ⟨rfl, _, rfl⟩
set_option maxHeartbeats 2000000 in
theorem ring_head_nil (w : World) : Calls Try.prog 17 #[.pointer none] w fun e w' => e = .returned (.tuple #[.int .i64 0, .bool false]) ∧ w = w' := by
  go_enter Try.func17, Try.ntmps17
  go_wp2_with (go_at_call 21; refine (ring_len_nil _).mono ?_; rintro e w' ⟨rfl, rfl⟩)
  go_ret2
  exact ⟨rfl, rfl⟩
set_option maxHeartbeats 2000000 in
theorem ring_head_empty (base g : Nat) (most : Int) (x : Value) (w : World) (hg : Rg w base g most x []) :
    Calls Try.prog 17 #[.pointer (some ⟨g, 0, none⟩)] w fun e w' => e = .returned (.tuple #[.int .i64 0, .bool false]) ∧ w = w' := by
  have HG := Lib.hid hg
  clear hg
  go_enter Try.func17, Try.ntmps17
  go_wp2_with (go_at_call 21; refine (ring_len base g most x [] _ HG.out).mono ?_; rintro e w' ⟨rfl, rfl⟩)
  go_ret2
  exact ⟨rfl, rfl⟩
set_option maxHeartbeats 2000000 in
theorem ring_head (base g : Nat) (most : Int) (x : Value) (a : Int) (L : List Int) (w : World) (hg : Rg w base g most x (a :: L)) :
    Calls Try.prog 17 #[.pointer (some ⟨g, 0, none⟩)] w fun e w' => e = .returned (.tuple #[.int .i64 a, .bool true]) ∧ ∃ q, w' = w.drewN q := by
  have HG := Lib.hid hg
  obtain ⟨_, _, _, hg⟩ := hg
  rcases hg with ⟨_, h2, _⟩ | ⟨b, S, h, sl, rfl, hb, ho, hh, hl, hS, hw⟩
  · cases h2
  have h0 := hw 0 (by simp)
  rw [Nat.add_zero, Nat.mod_eq_of_lt hh] at h0
  simp only [List.getD_cons_zero] at h0
  have hsl : sl.length = S := by have := ho.1; simpa [iv] using this
  have h1 : w.cell? ⟨g, 1, none⟩ = some (.slice (some ⟨b, 0, none⟩) S S) := by rw [hb.cell]; rfl
  have h2 : w.cell? ⟨g, 2, none⟩ = some (.int .i64 h) := by rw [hb.cell]; rfl
  have hx : w.cell? ⟨b, h, none⟩ = some (.int .i64 a) := by rw [ho.cellAt h (by omega), iv_get (by omega), h0]
  have i0 : (0 : Int) ≤ (h : Int) := by omega
  have i1 : (h : Int) < (S : Int) := by omega
  have hL : (((L.length + 1 : Nat) : Int) == 0) = false := by simp; omega
  have h65 : S ≤ 65536 := by omega
  have hll : L.length + 1 ≤ 65536 := by simp at hl; omega
  clear hb ho hw h0 hsl hl hS
  go_enter Try.func17, Try.ntmps17
  go_wp2_with (go_at_call 21; refine (ring_len base g most _ (a :: L) _ HG.out).mono ?_; rintro e w' ⟨rfl, rfl⟩)
  go_quiet (fail)
  go_wp2_with fail
  go_ret2
  exact ⟨rfl, _, rfl⟩
end Go.Proofs.Ytmomafhpbbmiaaa
