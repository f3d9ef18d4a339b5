/- A queue that is bounded (layer 11): Push. -/
import Derived.Test.YtmomafhpbbmiaaaR4
set_option linter.unusedVariables false
namespace Go.Proofs.Ytmomafhpbbmiaaa
open Go.ChangeShapes Go.WideShapes Go.ChangeAt Go.RowKit
set_option maxHeartbeats 2000000 in
theorem ring_push_nil (v : Int) (w : World) : Calls Try.prog 16 #[.pointer none, .int .i64 v] w fun e w' => e = .returned (.int .i64 1) ∧ w = w' := by
  go_enter Try.func16, Try.ntmps16
  go_wp2_with fail
  go_ret
  exact ⟨rfl, rfl⟩
set_option maxHeartbeats 2000000 in
theorem ring_push_dup (base g : Nat) (most : Int) (x : Value) (L : List Int) (v : Int) (w : World) (hg : Rg w base g most x L) (hv : 0 ≤ idx L v) :
    Calls Try.prog 16 #[.pointer (some ⟨g, 0, none⟩), .int .i64 v] w fun e w' => e = .returned (.int .i64 5) ∧ Below w.heap.size w w' := by
  have F := ring_find base g most x L v w hg
  generalize idx L v = i at *
  have HF := Lib.hid F
  clear F hg
  go_enter Try.func16, Try.ntmps16
  go_wp2_with fail
  refine (HF.out).mono ?_
  rintro e w1 ⟨rfl, hb⟩
  go_wp2_with fail
  go_ret
  exact ⟨rfl, hb⟩
set_option maxHeartbeats 2000000 in
theorem ring_push_full (base g : Nat) (most : Int) (x : Value) (L : List Int) (v : Int) (w : World) (hg : Rg w base g most x L) (hv : idx L v < 0) (hm : (L.length : Int) = most) :
    Calls Try.prog 16 #[.pointer (some ⟨g, 0, none⟩), .int .i64 v] w fun e w' => e = .returned (.int .i64 4) ∧ Below w.heap.size w w' := by
  have F := ring_find base g most x L v w hg
  generalize idx L v = i at *
  have HF := Lib.hid F
  have HG := Lib.hid hg
  obtain ⟨m, hm'⟩ : ∃ m : Int, (L.length : Int) = m := ⟨_, rfl⟩
  have HM := Lib.hid hm
  clear F hg hm'
  go_enter Try.func16, Try.ntmps16
  go_wp2_with fail
  refine (HF.out).mono ?_
  rintro e w1 ⟨rfl, hb⟩
  have hg1 := HG.out.keep (Only.of_below (S := fun _ => False) hb) (fun h => h) (fun _ _ h => h)
  obtain ⟨hd, hbl⟩ := hg1.blk
  have c0 : w1.cell? ⟨g, 0, none⟩ = some (.int .i64 most) := by rw [hbl.cell]; rfl
  have c3 : w1.cell? ⟨g, 3, none⟩ = some (.int .i64 most) := by rw [hbl.cell, ← HM.out]; rfl
  clear hg1 hbl
  go_wp2_with fail
  go_quiet (fail)
  go_wp2_with fail
  go_ret
  exact ⟨rfl, by repeat (first | assumption | refine below_drewN ?_ _)⟩
theorem win_push (sl L : List Int) (h S m : Nat) (v : Int) (hsl : sl.length = S) (hL : L.length = m) (hh : h < S) (hm : m < S) (hw : ∀ i, i < m → sl.getD ((h + i) % S) 0 = L.getD i 0) :
    ∀ i, i < (L ++ [v]).length → (sl.set ((h + m) % S) v).getD ((h + i) % S) 0 = (L ++ [v]).getD i 0 := by
  intro i hi
  have hi' : i < m + 1 := by simpa [hL] using hi
  rw [getD_set]
  by_cases e : i = m
  · subst e
    rw [if_pos ⟨rfl, by rw [hsl]; exact Nat.mod_lt _ (by omega)⟩]
    rw [List.getD_eq_getElem?_getD, List.getElem?_append_right (by omega), hL, Nat.sub_self]
    rfl
  · rw [if_neg, hw i (by omega)]
    · rw [List.getD_eq_getElem?_getD, List.getD_eq_getElem?_getD, List.getElem?_append_left (by omega)]
    · rintro ⟨h1, -⟩
      exact mod_ne hh hm (by omega) (by omega) h1
def PushP (w : World) (base g : Nat) (most : Int) (x : Value) (L : List Int) (v : Int) (e : Ending) (w' : World) : Prop :=
  e = .returned (.int .i64 0) ∧ ∃ x', Rg w' base g most x' (L ++ [v]) ∧ Only (fun q => q = g ∨ x.ownBlock = some q) w w' ∧ (x'.ownBlock = x.ownBlock ∨ ∀ b, x'.ownBlock = some b → w.heap.size ≤ b)
set_option maxRecDepth 100000 in
set_option maxHeartbeats 4000000 in
theorem push_a (base g h m M : Nat) (x : Value) (L : List Int) (v : Int) (w : World) (hg : Rg w base g (M : Int) x L) (hb : Blk w g 59 #[.int .i64 (M : Int), x, .int .i64 h, .int .i64 (m : Nat)]) (S b : Nat) (sl : List Int) (hx : x = .slice (some ⟨b, 0, none⟩) S S) (ho : w.ownsRow base 3 1 x S (iv sl)) (hh : h < S) (hmS : m < S) (hSM : S ≤ M) (hw : ∀ i, i < m → sl.getD ((h + i) % S) 0 = L.getD i 0) (hL : L.length = m) (hM : m < M) (hM2 : M ≤ 65536) (hbase : base ≤ w.heap.size) (hbg : base ≤ g) (hv : idx L v < 0) :
    Calls Try.prog 16 #[.pointer (some ⟨g, 0, none⟩), .int .i64 v] w (PushP w base g (M : Int) x L v) := by
  have F := ring_find base g (M : Int) x L v w hg
  generalize idx L v = iv_ at *
  have HF := Lib.hid F
  have HG := Lib.hid hg
  have HB := Lib.hid hb
  have HL := Lib.hid hL
  have hgl := hb.lt
  have HX := Lib.hid hx
  subst hx
  have HO := Lib.hid ho
  have HWIN := Lib.hid hw
  have hsl : sl.length = S := by have := ho.1; simpa [iv] using this
  have HSL := Lib.hid hsl
  clear F hg hb hL ho hw hsl HX
  go_enter Try.func16, Try.ntmps16
  go_wp2_with fail
  refine (HF.out).mono ?_
  rintro e w1 ⟨rfl, hbel⟩
  have O1 : Only (fun _ => False) w w1 := Only.of_below hbel
  have HB1 := Lib.hid (O1.blk HB.out (fun h => h))
  have c0 : w1.cell? ⟨g, 0, none⟩ = some (.int .i64 (M : Int)) := by rw [HB1.out.cell]; rfl
  have c3 : w1.cell? ⟨g, 3, none⟩ = some (.int .i64 (m : Nat)) := by rw [HB1.out.cell]; rfl
  have hne : ((m : Int) == (M : Int)) = false := by simp; omega
  have c1 : w1.cell? ⟨g, 1, none⟩ = some (.slice (some ⟨b, 0, none⟩) S S) := by rw [HB1.out.cell]; rfl
  have hne2 : ((m : Int) == (S : Int)) = false := by simp; omega
  have HO1 := Lib.hid O1
  clear hbel O1
  go_wp2_with fail
  go_quiet (fail)
  revert nq
  intro n1
  go_wp2_with fail
  go_quiet (fail)
  obtain ⟨W, hW⟩ : ∃ W, W = (w1.drewN n1).drewN nq := ⟨_, rfl⟩
  rw [← hW]
  have O2 : Only (fun _ => False) w W := by rw [hW]; exact (HO1.out.drewN _).drewN _
  have HW := Lib.hid (O2.blk HB.out (fun h => h))
  have HOW := Lib.hid (O2.own HO.out (fun _ _ h => h))
  have HSLW := Lib.hid HSL.out
  have HOO : Hid (Only (fun q => q = g ∨ (Value.slice (some ⟨b, 0, none⟩) S S).ownBlock = some q) w W) := Lib.hid (O2.mono (fun _ _ h => h.elim))
  have HAT : Hid ((Value.slice (some ⟨b, 0, none⟩) S S).ownBlock = (Value.slice (some ⟨b, 0, none⟩) S S).ownBlock ∨ ∀ k, (Value.slice (some ⟨b, 0, none⟩) S S).ownBlock = some k → w.heap.size ≤ k) := Lib.hid (.inl rfl)
  have HSUB : Hid (∀ i, i < w.heap.size → i = g ∨ i = b → i = g ∨ (Value.slice (some ⟨b, 0, none⟩) S S).ownBlock = some i) := Lib.hid (fun i _ h => h.imp id (fun h => by rw [h]; rfl))
  clear O2 hW c0 c1 c3 hne hne2
  have hbW := HW.out
  have hoW := HOW.out
  have hslW := HSLW.out
  have ngb : ¬ b = g := fun e => own_ne hoW hbW (by decide) (by rw [e]; rfl)
  obtain ⟨j, hj⟩ : ∃ j, j = (h + m) % S := ⟨_, rfl⟩
  have hjS : j < S := by rw [hj]; exact Nat.mod_lt _ (by omega)
  have e1 : W.cell? ⟨g, 1, none⟩ = some (.slice (some ⟨b, 0, none⟩) S S) := by rw [hbW.cell]; rfl
  have e3 : W.cell? ⟨g, 3, none⟩ = some (.int .i64 (m : Nat)) := by rw [hbW.cell]; rfl
  have f3 : W.frozen? ⟨g, 3, none⟩ = false := hbW.frozen 3
  have e4 : W.cell? ⟨b, j, none⟩ = some (.int .i64 (sl.getD j 0)) := by rw [hoW.cellAt j (by omega), iv_get (by omega)]
  generalize sl.getD j 0 = u at *
  have f4 : W.frozen? ⟨b, j, none⟩ = false := hoW.frozenAt j
  have SL : Hid (∀ V, Only (fun _ => False) W V → Calls Try.prog 34 #[.pointer (some ⟨g, 0, none⟩), .int .i64 m] V fun e w' => e = .returned (.int .i64 (j : Int)) ∧ ∃ q, w' = V.drewN q) := Lib.hid (fun V hV => by rw [hj]; exact ring_slot g b S h m _ _ V (hV.blk hbW (fun h => h)) hh (by omega) (by omega))
  have HJ := Lib.hid hj
  clear hj hbW hoW hslW
  go_upto_region 10 with fail
  go_region_held3 (fun w' => w'.cell? ⟨g, 1, none⟩ = some (.slice (some ⟨b, 0, none⟩) S S) ∧ w'.cell? ⟨g, 3, none⟩ = some (.int .i64 (m : Nat))) (first | exact ⟨e1, e3⟩ | ((repeat' apply And.intro) <;> first | (go_keep; done) | (go_simp; done))) (first | (go_at_call 34; ((with_reducible refine (SL.out _ ((Only.refl _ _).drew)).mono ?_); rintro e wx ⟨rfl, q, rfl⟩)))
  have s1 : IntKind.i64.wrap ((m : Int) + 1) = (m : Int) + 1 := IntWalk.i64_in _ (by omega)
  go_wp2_with fail
  go_ret
  have e5 : (iv sl).set j (.int .i64 v) = iv (sl.set j v) := by simp [iv, List.map_set]
  obtain ⟨o1, -⟩ := ((Only.refl (fun _ => False) W).drewN (1 + q)).own HOW.out (fun _ _ h => h) |>.stored j (.int .i64 v)
  rw [e5] at o1
  have b1 : Blk ((W.drewN (1 + q)).setCell ⟨b, j, none⟩ (.int .i64 v)) g 59 #[.int .i64 (M : Int), .slice (some ⟨b, 0, none⟩) S S, .int .i64 h, .int .i64 (m : Nat)] := (HW.out.drewN _).far (fun e => ngb e.symm) _
  have hO : Only (fun q => q = g) ((W.drewN (1 + q)).setCell ⟨b, j, none⟩ (.int .i64 v)) (((W.drewN (1 + q)).setCell ⟨b, j, none⟩ (.int .i64 v)).setCell ⟨g, 3, none⟩ (.int .i64 ((m : Int) + 1))) := (Only.refl (fun q => q = g) _).setCell (p := ⟨g, 3, none⟩) (.inr rfl) _
  have hLm := HL.out
  have b2 := b1.set_ 3 (.int .i64 ((m : Int) + 1))
  have e6 : ((m : Int) + 1) = (((L ++ [v]).length : Nat) : Int) := by simp; omega
  have hwin := win_push sl L h S m v HSLW.out hLm hh (by omega) HWIN.out
  rw [← HJ.out] at hwin
  refine ⟨rfl, _, ⟨hbg, by omega, by omega, .inr ⟨b, S, h, sl.set j v, rfl, ?_, hO.own o1 (fun k hk e => ngb (by cases hk; exact e)), hh, by simp; omega, by omega, hwin⟩⟩, ?_, by first | exact HAT.out | exact .inl rfl⟩
  · rw [← e6]; exact b2
  · exact (HOO.out.trans ((((Only.refl (fun i => i = g ∨ i = b) W).drewN (1 + q)).setCell (p := ⟨b, j, none⟩) (.inr (.inr rfl)) _).setCell (p := ⟨g, 3, none⟩) (.inr (.inl rfl)) _) HSUB.out)
set_option maxRecDepth 100000 in
set_option maxHeartbeats 4000000 in
theorem push_b (base g h m M : Nat) (x : Value) (L : List Int) (v : Int) (w : World) (hg : Rg w base g (M : Int) x L) (hb : Blk w g 59 #[.int .i64 (M : Int), x, .int .i64 h, .int .i64 (m : Nat)]) (hx : Old w base g h m x L) (hfull : True) (hL : L.length = m) (hM : m < M) (hM2 : M ≤ 65536) (hbase : base ≤ w.heap.size) (hbg : base ≤ g) (hv : idx L v < 0) :
    Calls Try.prog 16 #[.pointer (some ⟨g, 0, none⟩), .int .i64 v] w (PushP w base g (M : Int) x L v) := by
  have F := ring_find base g (M : Int) x L v w hg
  generalize idx L v = iv_ at *
  have HF := Lib.hid F
  have HG := Lib.hid hg
  have HB := Lib.hid hb
  have HL := Lib.hid hL
  have hgl := hb.lt
  have HX := Lib.hid hx
  clear F hg hb hL hx
  go_enter Try.func16, Try.ntmps16
  go_wp2_with fail
  refine (HF.out).mono ?_
  rintro e w1 ⟨rfl, hbel⟩
  have O1 : Only (fun _ => False) w w1 := Only.of_below hbel
  have HB1 := Lib.hid (O1.blk HB.out (fun h => h))
  have c0 : w1.cell? ⟨g, 0, none⟩ = some (.int .i64 (M : Int)) := by rw [HB1.out.cell]; rfl
  have c3 : w1.cell? ⟨g, 3, none⟩ = some (.int .i64 (m : Nat)) := by rw [HB1.out.cell]; rfl
  have hne : ((m : Int) == (M : Int)) = false := by simp; omega
  have HO1 := Lib.hid O1
  obtain ⟨xa, xn, xc, hxs, hxm⟩ : ∃ xa xn xc, x = .slice xa xn xc ∧ xn = m := by
    rcases HX.out with ⟨h0, -, rfl⟩ | ⟨b, sl, rfl, -, -, -⟩
    · exact ⟨none, 0, 0, rfl, h0.symm⟩
    · exact ⟨_, m, _, rfl, rfl⟩
  subst hxm
  subst hxs
  have c1 : w1.cell? ⟨g, 1, none⟩ = some (.slice xa xn xc) := by rw [HB1.out.cell]; rfl
  clear hbel O1
  go_wp2_with fail
  go_quiet (fail)
  revert nq
  intro n1
  go_wp2_with fail
  go_quiet (fail)
  obtain ⟨V, hV⟩ : ∃ V, V = (w1.drewN n1).drewN nq := ⟨_, rfl⟩
  rw [← hV]
  have O2 : Only (fun _ => False) w V := by rw [hV]; exact (HO1.out.drewN _).drewN _
  obtain ⟨s', hs1, hs2, GR⟩ := ring_grow base g h xn M _ L V (O2.blk HB.out (fun h => h)) (by
    rcases HX.out with h | ⟨b, sl, h1, h2, h3, h4⟩
    · exact .inl h
    · exact .inr ⟨b, sl, h1, O2.own h2 (fun _ _ h => h), h3, h4⟩) HL.out hM hM2 (Nat.le_trans hbase O2.size)
  have HO2 := Lib.hid O2
  have HGR := Lib.hid GR
  clear hV O2 GR c0 c1 c3 hne
  go_wp2_with fail
  refine (HGR.out).mono ?_
  rintro e W ⟨rfl, b, hB, hO, hbV, hON⟩
  have HW := Lib.hid hB
  have HOW := Lib.hid hO
  have HSLW : Hid ((L ++ List.replicate (s' - xn) 0).length = s') := Lib.hid (by have := HL.out; rw [List.length_append, List.length_replicate]; omega)
  have HOO : Hid (Only (fun q => q = g ∨ (Value.slice xa xn xc).ownBlock = some q) w W) := Lib.hid ((HO2.out.mono (fun _ _ h => h.elim)).trans hON (fun i _ h => .inl h))
  have HAT : Hid ((Value.slice (some ⟨b, 0, none⟩) s' s').ownBlock = (Value.slice xa xn xc).ownBlock ∨ ∀ k, (Value.slice (some ⟨b, 0, none⟩) s' s').ownBlock = some k → w.heap.size ≤ k) := Lib.hid (.inr (fun k hk => by cases hk; exact Nat.le_trans HO2.out.size hbV))
  have HSUB : Hid (∀ i, i < w.heap.size → i = g ∨ i = b → i = g ∨ (Value.slice xa xn xc).ownBlock = some i) := Lib.hid (fun i hi h => h.elim .inl (fun h => by have := HO2.out.size; omega))
  have HWIN : Hid (∀ i, i < xn → (L ++ List.replicate (s' - xn) 0).getD ((0 + i) % s') 0 = L.getD i 0) := Lib.hid (fun i hi => by
    have := HL.out
    rw [Nat.zero_add, Nat.mod_eq_of_lt (by omega), List.getD_eq_getElem?_getD, List.getD_eq_getElem?_getD, List.getElem?_append_left (by omega)])
  clear hB hO hON
  have hbW := HW.out
  have hoW := HOW.out
  have hslW := HSLW.out
  have ngb : ¬ b = g := fun e => own_ne hoW hbW (by decide) (by rw [e]; rfl)
  obtain ⟨j, hj⟩ : ∃ j, j = (0 + xn) % s' := ⟨_, rfl⟩
  have hjS : j < s' := by rw [hj]; exact Nat.mod_lt _ (by omega)
  have e1 : W.cell? ⟨g, 1, none⟩ = some (.slice (some ⟨b, 0, none⟩) s' s') := by rw [hbW.cell]; rfl
  have e3 : W.cell? ⟨g, 3, none⟩ = some (.int .i64 (xn : Nat)) := by rw [hbW.cell]; rfl
  have f3 : W.frozen? ⟨g, 3, none⟩ = false := hbW.frozen 3
  have e4 : W.cell? ⟨b, j, none⟩ = some (.int .i64 ((L ++ List.replicate (s' - xn) 0).getD j 0)) := by rw [hoW.cellAt j (by omega), iv_get (by omega)]
  generalize (L ++ List.replicate (s' - xn) 0).getD j 0 = u at *
  have f4 : W.frozen? ⟨b, j, none⟩ = false := hoW.frozenAt j
  have SL : Hid (∀ V, Only (fun _ => False) W V → Calls Try.prog 34 #[.pointer (some ⟨g, 0, none⟩), .int .i64 xn] V fun e w' => e = .returned (.int .i64 (j : Int)) ∧ ∃ q, w' = V.drewN q) := Lib.hid (fun V hV => by rw [hj]; exact ring_slot g b s' 0 xn _ _ V (hV.blk hbW (fun h => h)) (by omega) (by omega) (by omega))
  have HJ := Lib.hid hj
  clear hj hbW hoW hslW
  go_upto_region 10 with fail
  go_region_held3 (fun w' => w'.cell? ⟨g, 1, none⟩ = some (.slice (some ⟨b, 0, none⟩) s' s') ∧ w'.cell? ⟨g, 3, none⟩ = some (.int .i64 (xn : Nat))) (first | exact ⟨e1, e3⟩ | ((repeat' apply And.intro) <;> first | (go_keep; done) | (go_simp; done))) (first | (go_at_call 34; ((with_reducible refine (SL.out _ ((Only.refl _ _).drew)).mono ?_); rintro e wx ⟨rfl, q, rfl⟩)))
  have s1 : IntKind.i64.wrap ((xn : Int) + 1) = (xn : Int) + 1 := IntWalk.i64_in _ (by omega)
  go_wp2_with fail
  go_ret
  have e5 : (iv (L ++ List.replicate (s' - xn) 0)).set j (.int .i64 v) = iv ((L ++ List.replicate (s' - xn) 0).set j v) := by simp [iv, List.map_set]
  obtain ⟨o1, -⟩ := ((Only.refl (fun _ => False) W).drewN (1 + q)).own HOW.out (fun _ _ h => h) |>.stored j (.int .i64 v)
  rw [e5] at o1
  have b1 : Blk ((W.drewN (1 + q)).setCell ⟨b, j, none⟩ (.int .i64 v)) g 59 #[.int .i64 (M : Int), .slice (some ⟨b, 0, none⟩) s' s', .int .i64 0, .int .i64 (xn : Nat)] := (HW.out.drewN _).far (fun e => ngb e.symm) _
  have hO : Only (fun q => q = g) ((W.drewN (1 + q)).setCell ⟨b, j, none⟩ (.int .i64 v)) (((W.drewN (1 + q)).setCell ⟨b, j, none⟩ (.int .i64 v)).setCell ⟨g, 3, none⟩ (.int .i64 ((xn : Int) + 1))) := (Only.refl (fun q => q = g) _).setCell (p := ⟨g, 3, none⟩) (.inr rfl) _
  have hLm := HL.out
  have b2 := b1.set_ 3 (.int .i64 ((xn : Int) + 1))
  have e6 : ((xn : Int) + 1) = (((L ++ [v]).length : Nat) : Int) := by simp; omega
  have hwin := win_push (L ++ List.replicate (s' - xn) 0) L 0 s' xn v HSLW.out hLm (by omega) (by omega) HWIN.out
  rw [← HJ.out] at hwin
  refine ⟨rfl, _, ⟨hbg, by omega, by omega, .inr ⟨b, s', 0, (L ++ List.replicate (s' - xn) 0).set j v, rfl, ?_, hO.own o1 (fun k hk e => ngb (by cases hk; exact e)), by omega, by simp; omega, by omega, hwin⟩⟩, ?_, by first | exact HAT.out | exact .inl rfl⟩
  · rw [← e6]; exact b2
  · exact (HOO.out.trans ((((Only.refl (fun i => i = g ∨ i = b) W).drewN (1 + q)).setCell (p := ⟨b, j, none⟩) (.inr (.inr rfl)) _).setCell (p := ⟨g, 3, none⟩) (.inr (.inl rfl)) _) HSUB.out)
theorem ring_push (base g : Nat) (most : Int) (x : Value) (L : List Int) (v : Int) (w : World) (hg : Rg w base g most x L) (hv : idx L v < 0) (hm : (L.length : Int) < most) (hbase : base ≤ w.heap.size) :
    Calls Try.prog 16 #[.pointer (some ⟨g, 0, none⟩), .int .i64 v] w (PushP w base g most x L v) := by
  have hg0 := hg
  obtain ⟨y1, y2, y3, hg⟩ := hg
  obtain ⟨M, rfl⟩ : ∃ M : Nat, most = (M : Int) := ⟨most.toNat, by omega⟩
  rcases hg with ⟨h1, rfl, h2⟩ | ⟨b, S, h, sl, h1, hb, ho, hh, hl, hS, hw⟩
  · exact push_b base g 0 0 M x [] v w hg0 h2 (.inl ⟨rfl, rfl, h1⟩) trivial rfl (by omega) (by omega) hbase y1 hv
  · by_cases hlt : L.length < S
    · exact push_a base g h L.length M x L v w hg0 hb S b sl h1 ho hh hlt (by omega) hw rfl (by omega) (by omega) hbase y1 hv
    · obtain rfl : S = L.length := by omega
      exact push_b base g h L.length M x L v w hg0 hb (.inr ⟨b, sl, h1, ho, hh, hw⟩) trivial rfl (by omega) (by omega) hbase y1 hv
end Go.Proofs.Ytmomafhpbbmiaaa
