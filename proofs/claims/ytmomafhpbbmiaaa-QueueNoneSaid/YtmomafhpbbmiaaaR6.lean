/- A queue that is bounded (layer 11): Drop. -/
import Derived.Test.YtmomafhpbbmiaaaR5
set_option linter.unusedVariables false
namespace Go.Proofs.Ytmomafhpbbmiaaa
open Go.ChangeShapes Go.WideShapes Go.ChangeAt Go.RowKit
set_option maxHeartbeats 2000000 in
theorem drop_no (p : Value) (v i : Int) (hi : i < 0) (w : World) (H : Calls Try.prog 35 #[p, .int .i64 v] w fun e w' => e = .returned (.int .i64 i) ∧ Below w.heap.size w w') :
    Calls Try.prog 12 #[p, .int .i64 v] w fun e w' => e = .returned (.bool false) ∧ Below w.heap.size w w' := by
  have HH := Lib.hid H
  clear H
  go_enter Try.func12, Try.ntmps12
  go_wp2_with fail
  refine (HH.out).mono ?_
  rintro e w1 ⟨rfl, hb⟩
  go_wp2_with fail
  go_ret
  exact ⟨rfl, hb⟩
theorem ring_drop_nil (v : Int) (w : World) : Calls Try.prog 12 #[.pointer none, .int .i64 v] w fun e w' => e = .returned (.bool false) ∧ Below w.heap.size w w' :=
  drop_no (.pointer none) v (-1) (by omega) w (find_nil v w)
theorem ring_drop_no (base g : Nat) (most : Int) (x : Value) (L : List Int) (v : Int) (w : World) (hg : Rg w base g most x L) (hv : idx L v < 0) :
    Calls Try.prog 12 #[.pointer (some ⟨g, 0, none⟩), .int .i64 v] w fun e w' => e = .returned (.bool false) ∧ Below w.heap.size w w' :=
  drop_no _ v _ hv w (ring_find base g most x L v w hg)
theorem erase_getD (L : List Int) (a j : Nat) : (L.eraseIdx a).getD j 0 = if j < a then L.getD j 0 else L.getD (j + 1) 0 := by
  rw [List.getD_eq_getElem?_getD, List.getElem?_eraseIdx]
  split <;> rw [List.getD_eq_getElem?_getD]
set_option maxRecDepth 100000 in
set_option maxHeartbeats 4000000 in
theorem drop_yes (base g b S h m a : Nat) (M : Int) (sl L : List Int) (v : Int) (w : World) (hg : Rg w base g M (.slice (some ⟨b, 0, none⟩) S S) L) (hb : Blk w g 59 #[.int .i64 M, .slice (some ⟨b, 0, none⟩) S S, .int .i64 h, .int .i64 (m : Nat)]) (ho : w.ownsRow base 3 1 (.slice (some ⟨b, 0, none⟩) S S) S (iv sl)) (hh : h < S) (hmS : m ≤ S) (hSM : S ≤ 65536)
    (hw : ∀ i, i < m → sl.getD ((h + i) % S) 0 = L.getD i 0) (hL : L.length = m) (ha : a < m) (hv : idx L v = (a : Nat)) :
    Calls Try.prog 12 #[.pointer (some ⟨g, 0, none⟩), .int .i64 v] w fun e w' => e = .returned (.bool true) ∧ (∃ sl', Blk w' g 59 #[.int .i64 M, .slice (some ⟨b, 0, none⟩) S S, .int .i64 h, .int .i64 (m - 1 : Nat)] ∧ w'.ownsRow base 3 1 (.slice (some ⟨b, 0, none⟩) S S) S (iv sl') ∧ ∀ i, i < m - 1 → sl'.getD ((h + i) % S) 0 = (L.eraseIdx a).getD i 0) ∧ Only (fun q => q = g ∨ q = b) w w' := by
  have F := ring_find base g M _ L v w hg
  rw [hv] at F
  have ngb : ¬ b = g := fun e => own_ne ho hb (by decide) (by rw [e]; rfl)
  have HF := Lib.hid F
  have HB := Lib.hid hb
  have HO := Lib.hid ho
  have HW := Lib.hid hw
  have HL := Lib.hid hL
  clear F hg hb ho hw hL hv
  go_enter Try.func12, Try.ntmps12
  go_wp2_with fail
  refine (HF.out).mono ?_
  rintro e w1 ⟨rfl, hbel⟩
  have O1 : Only (fun _ => False) w w1 := Only.of_below hbel
  have HB1 := Lib.hid (O1.blk HB.out (fun h => h))
  have HR1 := Lib.hid (O1.own HO.out (fun _ _ h => h))
  have HO1 := Lib.hid (O1.mono (S' := fun q => q = g ∨ q = b) (fun _ _ h => h.elim))
  clear hbel O1
  go_wp2_with fail
  go_loopg [6] (m - 1 - a) (fun q i6 wr => ∃ i : Nat, q = m - 1 - i ∧ a ≤ i ∧ i + 1 ≤ m ∧ i6 = .int .i64 i ∧ Hid (Blk wr g 59 #[.int .i64 M, .slice (some ⟨b, 0, none⟩) S S, .int .i64 h, .int .i64 (m : Nat)]) ∧ Hid (∃ sl' : List Int, wr.ownsRow base 3 1 (.slice (some ⟨b, 0, none⟩) S S) S (iv sl') ∧ ∀ j, j < m → sl'.getD ((h + j) % S) 0 = if a ≤ j ∧ j < i then L.getD (j + 1) 0 else L.getD j 0) ∧ Hid (Only (fun q => q = g ∨ q = b) w wr))
  case atStart => exact ⟨a, rfl, Nat.le_refl _, by omega, rfl, HB1, Lib.hid ⟨sl, HR1.out, fun j hj => by rw [if_neg (by omega)]; exact HW.out j hj⟩, HO1⟩
  case round =>
    obtain ⟨i, rfl, hai, him, rfl, hbr, hrow, hor⟩ := hrel
    obtain ⟨sl', hown, hwin⟩ := hrow.out
    have hsl : sl'.length = S := by have := hown.1; simpa [iv] using this
    have e1 : wr.cell? ⟨g, 1, none⟩ = some (.slice (some ⟨b, 0, none⟩) S S) := by rw [hbr.out.cell]; rfl
    have e3 : wr.cell? ⟨g, 3, none⟩ = some (.int .i64 (m : Nat)) := by rw [hbr.out.cell]; rfl
    have s1 : IntKind.i64.wrap ((i : Int) + 1) = (i : Int) + 1 := IntWalk.i64_in _ (by omega)
    by_cases hlt : i + 1 < m
    · obtain ⟨ja, hja⟩ : ∃ j, j = (h + i) % S := ⟨_, rfl⟩
      obtain ⟨jb, hjb⟩ : ∃ j, j = (h + (i + 1)) % S := ⟨_, rfl⟩
      have ha1 : ja < S := by rw [hja]; exact Nat.mod_lt _ (by omega)
      have hb1 : jb < S := by rw [hjb]; exact Nat.mod_lt _ (by omega)
      have hne : ¬ jb = ja := by rw [hja, hjb]; exact mod_ne hh (by omega) (by omega) (by omega)
      have SLa : Hid (∀ V, Only (fun _ => False) wr V → Calls Try.prog 34 #[.pointer (some ⟨g, 0, none⟩), .int .i64 (i : Int)] V fun e w' => e = .returned (.int .i64 (ja : Int)) ∧ ∃ q, w' = V.drewN q) := Lib.hid (fun V hV => by rw [hja]; exact ring_slot g b S h i _ _ V (hV.blk hbr.out (fun h => h)) hh (by omega) (by omega))
      have SLb : Hid (∀ V, Only (fun _ => False) wr V → Calls Try.prog 34 #[.pointer (some ⟨g, 0, none⟩), .int .i64 ((i : Int) + 1)] V fun e w' => e = .returned (.int .i64 (jb : Int)) ∧ ∃ q, w' = V.drewN q) := Lib.hid (fun V hV => by rw [hjb]; exact ring_slot g b S h (i + 1) _ _ V (hV.blk hbr.out (fun h => h)) hh (by omega) (by omega))
      have d1 : wr.cell? ⟨b, jb, none⟩ = some (.int .i64 (sl'.getD jb 0)) := by rw [hown.cellAt jb (by omega), iv_get (by omega)]
      have d2 : wr.cell? ⟨b, ja, none⟩ = some (.int .i64 (sl'.getD ja 0)) := by rw [hown.cellAt ja (by omega), iv_get (by omega)]
      have d3 : wr.frozen? ⟨b, ja, none⟩ = false := hown.frozenAt ja
      have hlv : sl'.getD jb 0 = L.getD (i + 1) 0 := by rw [hjb, hwin (i + 1) hlt, if_neg (by omega)]
      generalize sl'.getD ja 0 = u at *
      generalize hlb : sl'.getD jb 0 = lv at *
      have HLV := Lib.hid hlv
      have HJA := Lib.hid hja
      have HOWN := Lib.hid hown
      have HWIN := Lib.hid hwin
      have HSL := Lib.hid hsl
      have hd : decide ((i : Int) + 1 < (m : Int)) = true := by simp; omega
      clear hja hjb hown hwin hsl hlb hlv hrow
      go_wp2_with fail
      go_upto_region 6 with fail
      go_region_held3 (fun w' => w'.cell? ⟨g, 1, none⟩ = some (.slice (some ⟨b, 0, none⟩) S S) ∧ w'.cell? ⟨b, jb, none⟩ = some (.int .i64 lv)) (first | exact ⟨e1, d1⟩ | ((repeat' apply And.intro) <;> first | (go_keep; done) | (go_simp; done))) (first | (go_at_call 34; ((with_reducible refine (SLa.out _ (by first | exact (Only.refl _ _).drew | exact (Only.refl _ _).drewN _)).mono ?_); rintro e wx ⟨rfl, q, rfl⟩)) | (go_at_call 34; ((with_reducible refine (SLb.out _ (by first | exact (Only.refl _ _).drew | exact (Only.refl _ _).drewN _)).mono ?_); rintro e wx ⟨rfl, q2, rfl⟩)))
      go_wp2_with fail
      go_roundg (m - 1 - (i + 1))
      case measure => omega
      case rel =>
        have e5 : (iv sl').set ja (.int .i64 lv) = iv (sl'.set ja lv) := by simp [iv, List.map_set]
        obtain ⟨o1, -⟩ := ((Only.refl (fun _ => False) wr).drewN (1 + q + q2)).own HOWN.out (fun _ _ h => h) |>.stored ja (.int .i64 lv)
        rw [e5] at o1
        refine ⟨i + 1, rfl, by omega, by omega, by go_num, Lib.hid ((hbr.out.drewN _).far (fun e => ngb e.symm) _), Lib.hid ⟨sl'.set ja lv, o1, fun j hj => ?_⟩, Lib.hid ((hor.out.drewN _).setCell (p := ⟨b, ja, none⟩) (.inr (.inr rfl)) _)⟩
        have hsl := HSL.out
        rw [getD_set]
        by_cases e : j = i
        · subst e
          rw [if_pos ⟨HJA.out, by omega⟩, if_pos (by omega), HLV.out]
        · rw [if_neg, HWIN.out j hj]
          · by_cases h1 : a ≤ j ∧ j < i
            · rw [if_pos h1, if_pos (by omega)]
            · rw [if_neg h1, if_neg (by omega)]
          · rintro ⟨h1, -⟩
            rw [HJA.out] at h1
            exact mod_ne hh (by omega) (by omega) (fun h => e h.symm) h1
    · obtain rfl : m = i + 1 := by omega
      obtain ⟨j, hj⟩ : ∃ j, j = (h + i) % S := ⟨_, rfl⟩
      have hjS : j < S := by rw [hj]; exact Nat.mod_lt _ (by omega)
      have SL : Hid (∀ V, Only (fun _ => False) wr V → Calls Try.prog 34 #[.pointer (some ⟨g, 0, none⟩), .int .i64 (i : Int)] V fun e w' => e = .returned (.int .i64 (j : Int)) ∧ ∃ q, w' = V.drewN q) := Lib.hid (fun V hV => by rw [hj]; exact ring_slot g b S h i _ _ V (hV.blk hbr.out (fun h => h)) hh (by omega) (by omega))
      have d2 : wr.cell? ⟨b, j, none⟩ = some (.int .i64 (sl'.getD j 0)) := by rw [hown.cellAt j (by omega), iv_get (by omega)]
      have d3 : wr.frozen? ⟨b, j, none⟩ = false := hown.frozenAt j
      have f3 : wr.frozen? ⟨g, 3, none⟩ = false := hbr.out.frozen 3
      generalize sl'.getD j 0 = u at *
      have s2 : IntKind.i64.wrap (((i + 1 : Nat) : Int) - 1) = (i : Int) := by rw [IntWalk.i64_in _ (by omega)]; omega
      have s4 : IntKind.i64.wrap (i : Int) = (i : Int) := IntWalk.i64_in _ (by omega)
      have s3 : IntKind.i64.wrap ((i : Int) + 1 - 1) = (i : Int) := by rw [IntWalk.i64_in _ (by omega)]; omega
      have HJ := Lib.hid hj
      have HOWN := Lib.hid hown
      have HWIN := Lib.hid hwin
      have HSL := Lib.hid hsl
      clear hj hown hwin hsl hrow
      go_wp2_with fail
      go_upto_region 10 with fail
      go_region_held3 (fun w' => w'.cell? ⟨g, 1, none⟩ = some (.slice (some ⟨b, 0, none⟩) S S) ∧ w'.cell? ⟨g, 3, none⟩ = some (.int .i64 (i + 1 : Nat))) (first | exact ⟨e1, e3⟩ | ((repeat' apply And.intro) <;> first | (go_keep; done) | (go_simp; done))) (first | (go_at_call 34; ((with_reducible refine (SL.out _ (by first | exact (Only.refl _ _).drew | exact (Only.refl _ _).drewN _)).mono ?_); rintro e wx ⟨rfl, q, rfl⟩)))
      go_wp2_with fail
      go_ret
      have e5 : (iv sl').set j (.int .i64 0) = iv (sl'.set j 0) := by simp [iv, List.map_set]
      obtain ⟨o1, -⟩ := ((Only.refl (fun _ => False) wr).drewN (1 + q)).own HOWN.out (fun _ _ h => h) |>.stored j (.int .i64 0)
      rw [e5] at o1
      have b1 := (hbr.out.drewN (1 + q)).far (p := ⟨b, j, none⟩) (fun e => ngb e.symm) (.int .i64 0)
      have b2 := b1.set_ 3 (.int .i64 (i : Int))
      refine ⟨rfl, ⟨sl'.set j 0, b2, ((Only.refl (fun k => k = g) _).setCell (p := ⟨g, 3, none⟩) (.inr rfl) _).own o1 (fun k hk e => ngb (by cases hk; exact e)), fun k hk => ?_⟩, (((hor.out.drewN _).setCell (p := ⟨b, j, none⟩) (.inr (.inr rfl)) _).setCell (p := ⟨g, 3, none⟩) (.inr (.inl rfl)) _)⟩
      have hsl := HSL.out
      have hk' : k < i := by omega
      rw [getD_set, if_neg, HWIN.out k (by omega), erase_getD]
      · by_cases h1 : k < a
        · rw [if_neg (by omega), if_pos h1]
        · rw [if_pos (by omega), if_neg h1]
      · rintro ⟨h1, -⟩
        rw [HJ.out] at h1
        exact mod_ne hh (by omega) (by omega) (by omega) h1
theorem ring_drop (base g : Nat) (most : Int) (x : Value) (L : List Int) (v : Int) (w : World) (hg : Rg w base g most x L) (hv : 0 ≤ idx L v) :
    Calls Try.prog 12 #[.pointer (some ⟨g, 0, none⟩), .int .i64 v] w fun e w' => e = .returned (.bool true) ∧ Rg w' base g most x (L.eraseIdx (idx L v).toNat) ∧ Only (fun q => q = g ∨ x.ownBlock = some q) w w' := by
  have hbd := idx_bd L v
  have hg0 := hg
  obtain ⟨y1, y2, y3, hg⟩ := hg
  rcases hg with ⟨h1, rfl, h2⟩ | ⟨b, S, h, sl, rfl, hb, ho, hh, hl, hS, hw⟩
  · simp at hbd; omega
  have hlt : (idx L v).toNat < L.length := by omega
  have hlen : (L.eraseIdx (idx L v).toNat).length = L.length - 1 := by rw [List.length_eraseIdx, if_pos hlt]
  refine (drop_yes base g b S h L.length (idx L v).toNat most sl L v w hg0 hb ho hh hl (by omega) hw rfl hlt (by omega)).mono fun e w' H => ?_
  obtain ⟨he, ⟨sl', b', o', w''⟩, ho'⟩ := H
  refine ⟨he, ⟨y1, y2, y3, .inr ⟨b, S, h, sl', rfl, ?_, o', hh, by omega, hS, ?_⟩⟩, ho'.mono (fun i _ h => h.imp id (fun h => by rw [h]; rfl))⟩
  · rw [hlen]; exact b'
  · rw [hlen]; exact w''
end Go.Proofs.Ytmomafhpbbmiaaa
