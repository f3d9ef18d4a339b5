/- A queue that is bounded (layer 11): Place, Pop. -/
import Derived.Test.YtmomafhpbbmiaaaR2
set_option linter.unusedVariables false
namespace Go.Proofs.Ytmomafhpbbmiaaa
open Go.ChangeShapes Go.WideShapes Go.ChangeAt Go.RowKit
set_option maxHeartbeats 2000000 in
theorem place_of (p : Value) (v i : Int) (w : World) (H : Calls Try.prog 35 #[p, .int .i64 v] w fun e w' => e = .returned (.int .i64 i) ∧ Below w.heap.size w w') :
    Calls Try.prog 18 #[p, .int .i64 v] w fun e w' => e = .returned (.tuple #[.int .i64 (if i < 0 then 0 else i), .bool (decide (0 ≤ i))]) ∧ Below w.heap.size w w' := by
  have HH := Lib.hid H
  clear H
  by_cases hi : i < 0
  · rw [if_pos hi, decide_eq_false (by omega : ¬ 0 ≤ i)]
    go_enter Try.func18, Try.ntmps18
    go_wp2_with fail
    refine (HH.out).mono ?_
    rintro e w1 ⟨rfl, hb⟩
    go_wp2_with fail
    go_ret2
    exact ⟨rfl, hb⟩
  · rw [if_neg hi, decide_eq_true (by omega : 0 ≤ i)]
    go_enter Try.func18, Try.ntmps18
    go_wp2_with fail
    refine (HH.out).mono ?_
    rintro e w1 ⟨rfl, hb⟩
    go_wp2_with fail
    go_ret2
    exact ⟨rfl, hb⟩
theorem ring_place (base g : Nat) (most : Int) (x : Value) (L : List Int) (v : Int) (w : World) (hg : Rg w base g most x L) :
    Calls Try.prog 18 #[.pointer (some ⟨g, 0, none⟩), .int .i64 v] w fun e w' => e = .returned (.tuple #[.int .i64 (if idx L v < 0 then 0 else idx L v), .bool (decide (0 ≤ idx L v))]) ∧ Below w.heap.size w w' :=
  place_of _ v _ w (ring_find base g most x L v w hg)
theorem ring_place_nil (v : Int) (w : World) : Calls Try.prog 18 #[.pointer none, .int .i64 v] w fun e w' => e = .returned (.tuple #[.int .i64 0, .bool false]) ∧ Below w.heap.size w w' := by
  have := place_of (.pointer none) v (-1) w (find_nil v w)
  simpa using this
set_option maxHeartbeats 2000000 in
theorem ring_pop_nil (w : World) : Calls Try.prog 11 #[.pointer none] w fun e w' => e = .returned (.tuple #[.int .i64 0, .bool false]) ∧ w = w' := by
  go_enter Try.func11, Try.ntmps11
  go_wp2_with (go_at_call 17; refine (ring_head_nil _).mono ?_; rintro e w' ⟨rfl, rfl⟩)
  go_ret2
  exact ⟨rfl, rfl⟩
set_option maxHeartbeats 2000000 in
theorem ring_pop_empty (base g : Nat) (most : Int) (x : Value) (w : World) (hg : Rg w base g most x []) :
    Calls Try.prog 11 #[.pointer (some ⟨g, 0, none⟩)] w fun e w' => e = .returned (.tuple #[.int .i64 0, .bool false]) ∧ w = w' := by
  have HG := Lib.hid hg
  clear hg
  go_enter Try.func11, Try.ntmps11
  go_wp2_with (go_at_call 17; refine (ring_head_empty base g most x _ HG.out).mono ?_; rintro e w' ⟨rfl, rfl⟩)
  go_ret2
  exact ⟨rfl, rfl⟩
theorem mod_ne {h S i j : Nat} (hh : h < S) (hi : i < S) (hj : j < S) (hij : i ≠ j) : (h + i) % S ≠ (h + j) % S := by
  intro e
  rcases Nat.lt_or_ge (h + i) S with a | a <;> rcases Nat.lt_or_ge (h + j) S with b | b
  · rw [Nat.mod_eq_of_lt a, Nat.mod_eq_of_lt b] at e; omega
  · rw [Nat.mod_eq_of_lt a, Nat.mod_eq_sub_mod b, Nat.mod_eq_of_lt (by omega)] at e; omega
  · rw [Nat.mod_eq_of_lt b, Nat.mod_eq_sub_mod a, Nat.mod_eq_of_lt (by omega)] at e; omega
  · rw [Nat.mod_eq_sub_mod a, Nat.mod_eq_sub_mod b, Nat.mod_eq_of_lt (by omega), Nat.mod_eq_of_lt (by omega)] at e; omega
theorem getD_set (l : List Int) (i j : Nat) (a : Int) : (l.set i a).getD j 0 = if i = j ∧ i < l.length then a else l.getD j 0 := by
  rw [List.getD_eq_getElem?_getD, List.getD_eq_getElem?_getD, List.getElem?_set]
  by_cases h : i = j
  · subst h
    by_cases k : i < l.length
    · simp [k]
    · simp [k, List.getElem?_eq_none (by omega : l.length ≤ i)]
  · simp [h]
set_option maxRecDepth 100000 in
set_option maxHeartbeats 4000000 in
theorem ring_pop (base g : Nat) (most : Int) (x : Value) (a : Int) (L : List Int) (w : World) (hg : Rg w base g most x (a :: L)) :
    Calls Try.prog 11 #[.pointer (some ⟨g, 0, none⟩)] w fun e w' => e = .returned (.tuple #[.int .i64 a, .bool true]) ∧ Rg w' base g most x L ∧ Only (fun q => q = g ∨ x.ownBlock = some q) w w' := by
  have HG := Lib.hid hg
  obtain ⟨y1, y2, y3, hg⟩ := hg
  rcases hg with ⟨_, h2, _⟩ | ⟨b, S, h, sl, rfl, hb, ho, hh, hl, hS, hw⟩
  · cases h2
  have hsl : sl.length = S := by have := ho.1; simpa [iv] using this
  have ngb : ¬ b = g := fun e => own_ne ho hb (by decide) (by rw [e]; rfl)
  have hL : (((a :: L).length : Nat) : Int) = (L.length : Int) + 1 := by simp
  rw [hL] at hb
  have hl' : L.length + 1 ≤ S := by simpa using hl
  have HB := Lib.hid hb
  have HO := Lib.hid ho
  have HW := Lib.hid hw
  have HSL := Lib.hid hsl
  have i0 : (0 : Int) ≤ (h : Int) := by omega
  have i1 : (h : Int) < (S : Int) := by omega
  have i2 : S ≤ 65536 := by omega
  have i3 : IntKind.i64.wrap ((L.length : Int) + 1 - 1) = (L.length : Int) := by rw [IntWalk.i64_in _ (by omega)]; omega
  clear hb ho hw hsl hL
  go_enter Try.func11, Try.ntmps11
  go_wp2_with fail
  refine (ring_head base g most _ a L _ HG.out).mono ?_
  rintro e w1 ⟨rfl, q1, rfl⟩
  obtain ⟨W1, hW1⟩ : ∃ W1, W1 = w.drewN q1 := ⟨_, rfl⟩
  rw [← hW1]
  have O1 : Only (fun _ => False) w W1 := by rw [hW1]; exact (Only.refl _ w).drewN _
  have HB1 := Lib.hid (O1.blk HB.out (fun h => h))
  have HO1 := Lib.hid (O1.own HO.out (fun _ _ h => h))
  have c1 : W1.cell? ⟨g, 1, none⟩ = some (.slice (some ⟨b, 0, none⟩) S S) := by rw [HB1.out.cell]; rfl
  have c2 : W1.cell? ⟨g, 2, none⟩ = some (.int .i64 h) := by rw [HB1.out.cell]; rfl
  obtain ⟨u, c3⟩ : ∃ u, W1.cell? ⟨b, h, none⟩ = some u := by rw [HO1.out.cellAt h (by omega)]; exact ⟨_, iv_get (by have := HSL.out; omega)⟩
  have f3 : W1.frozen? ⟨b, h, none⟩ = false := HO1.out.frozenAt h
  have HO1' := Lib.hid O1
  clear hW1 O1
  go_upto_region 5 with fail
  go_region
  obtain ⟨W2, hW2⟩ : ∃ W2, W2 = (W1.setCell ⟨b, h, none⟩ (.int .i64 0)).drew := ⟨_, rfl⟩
  rw [← hW2]
  have HB2 : Hid (Blk W2 g 59 #[.int .i64 most, .slice (some ⟨b, 0, none⟩) S S, .int .i64 h, .int .i64 ((L.length : Int) + 1)]) := Lib.hid (by rw [hW2]; exact (HB1.out.far (fun e => ngb e.symm) _).drew)
  have HO2 : Hid (W2.ownsRow base 3 1 (.slice (some ⟨b, 0, none⟩) S S) S (iv (sl.set h 0))) := Lib.hid (by
    have e : (iv sl).set h (.int .i64 0) = iv (sl.set h 0) := by simp [iv, List.map_set]
    obtain ⟨o1, -⟩ := HO1.out.stored h (.int .i64 0)
    rw [e] at o1
    rw [hW2]; exact (Only.refl (fun _ => False) _).drew.own o1 (fun _ _ h => h))
  have HK2 : Hid (Only (fun q => q = g ∨ (Value.slice (some ⟨b, 0, none⟩) S S).ownBlock = some q) w W2) := Lib.hid (by
    rw [hW2]; exact ((HO1'.out.mono (fun _ _ h => h.elim)).setCell (p := ⟨b, h, none⟩) (.inr (.inr rfl)) _).drew)
  clear c1 c2 c3 f3 hW2
  go_wp2_with fail
  refine (ring_slot g b S h 1 _ _ _ HB2.out hh (by omega) i2).mono ?_
  rintro e w3 ⟨rfl, q3, rfl⟩
  obtain ⟨W3, hW3⟩ : ∃ W3, W3 = W2.drewN q3 := ⟨_, rfl⟩
  rw [← hW3]
  have O3 : Only (fun _ => False) W2 W3 := by rw [hW3]; exact (Only.refl _ _).drewN _
  have HB3 := Lib.hid (O3.blk HB2.out (fun h => h))
  have HO3 := Lib.hid (O3.own HO2.out (fun _ _ h => h))
  have HK3 := Lib.hid (HK2.out.trans O3 (fun _ _ h => h.elim))
  have c2 : W3.cell? ⟨g, 2, none⟩ = some (.int .i64 h) := by rw [HB3.out.cell]; rfl
  have f2 : W3.frozen? ⟨g, 2, none⟩ = false := HB3.out.frozen 2
  have c3 : W3.cell? ⟨g, 3, none⟩ = some (.int .i64 ((L.length : Int) + 1)) := by rw [HB3.out.cell]; rfl
  have f3 : W3.frozen? ⟨g, 3, none⟩ = false := HB3.out.frozen 3
  clear hW3 O3
  generalize hh' : (h + 1) % S = h' at *
  have HH' := Lib.hid hh'
  clear hh'
  go_wp2_with fail
  go_ret2
  have hO : Only (fun q => q = g) W3 ((W3.setCell ⟨g, 2, none⟩ (.int .i64 h')).setCell ⟨g, 3, none⟩ (.int .i64 (L.length : Int))) := ((Only.refl (fun q => q = g) W3).setCell (p := ⟨g, 2, none⟩) (.inr rfl) _).setCell (p := ⟨g, 3, none⟩) (.inr rfl) _
  have hlt' : h' < S := by rw [← HH'.out]; exact Nat.mod_lt _ (by omega)
  have hsl := HSL.out
  refine ⟨rfl, ⟨y1, y2, y3, .inr ⟨b, S, h', sl.set h 0, rfl, (HB3.out.set_ 2 _).set_ 3 _, hO.own HO3.out (fun q hq e => ngb (by cases hq; exact e)), hlt', by omega, hS, fun i hi => ?_⟩⟩, HK3.out.trans hO (fun _ _ h => .inl h)⟩
  have e1 : (h' + i) % S = (h + (i + 1)) % S := by rw [← HH'.out, Nat.mod_add_mod]; congr 1; omega
  have e2 := HW.out (i + 1) (by simp; omega)
  rw [e1, getD_set, if_neg, e2, List.getD_cons_succ]
  rintro ⟨e, -⟩
  have := mod_ne hh (show 0 < S by omega) (show i + 1 < S by omega) (by omega)
  rw [Nat.add_zero, Nat.mod_eq_of_lt hh] at this
  exact this e
end Go.Proofs.Ytmomafhpbbmiaaa
