/- A queue that is bounded (layer 11): All. -/
import Derived.Test.YtmomafhpbbmiaaaR6
set_option linter.unusedVariables false
namespace Go.Proofs.Ytmomafhpbbmiaaa
open Go.ChangeShapes Go.WideShapes Go.ChangeAt Go.RowKit
/-- a slice that reads as a list, in memory that is new -/
def Fresh (w w' : World) (v : Value) (L : List Int) : Prop := w'.ownsRow w.heap.size 3 1 v L.length (iv L)
set_option maxHeartbeats 2000000 in
theorem ring_all_nil (w : World) : Calls Try.prog 20 #[.pointer none] w fun e w' => e = .returned (.slice none 0 0) ∧ w = w' := by
  go_enter Try.func20, Try.ntmps20
  go_wp2_with fail
  refine (ring_len_nil _).mono ?_
  rintro e w' ⟨rfl, rfl⟩
  go_wp2_with fail
  go_loop [3, 7] (fun v i => v = .slice none 0 0 ∧ i = .int .i64 0) (fun _ _ => 0)
  case atStart => exact ⟨rfl, rfl⟩
  case round =>
    obtain ⟨rfl, rfl⟩ := hrel
    go_wp2_with fail
    go_ret
    exact ⟨rfl, rfl⟩
set_option maxRecDepth 100000 in
set_option maxHeartbeats 4000000 in
theorem all_walk (base g b S h m : Nat) (M : Int) (sl L : List Int) (w : World) (hg : Rg w base g M (.slice (some ⟨b, 0, none⟩) S S) L) (hb : Blk w g 59 #[.int .i64 M, .slice (some ⟨b, 0, none⟩) S S, .int .i64 h, .int .i64 (m : Nat)]) (ho : w.ownsRow base 3 1 (.slice (some ⟨b, 0, none⟩) S S) S (iv sl)) (hh : h < S) (hmS : m ≤ S) (hSM : S ≤ 65536)
    (hw : ∀ i, i < m → sl.getD ((h + i) % S) 0 = L.getD i 0) (hL : L.length = m) :
    Calls Try.prog 20 #[.pointer (some ⟨g, 0, none⟩)] w fun e w' => ∃ v, e = .returned v ∧ Fresh w w' v L ∧ Only (fun _ => False) w w' := by
  obtain ⟨i0, hi0, hz0, hz1, hz2⟩ := info_parts int_info
  have hgl := hb.lt
  have hbl := (ho.lt b rfl).2
  have hsl : sl.length = S := by have := ho.1; simpa [iv] using this
  have HG := Lib.hid hg
  have HB := Lib.hid hb
  have HO := Lib.hid ho
  have HW := Lib.hid hw
  have HL := Lib.hid hL
  have HSL := Lib.hid hsl
  have hLm : ((L.length : Nat) : Int) = (m : Int) := by omega
  have HLM := Lib.hid hLm
  clear hg hb ho hw hL hsl hLm
  go_enter Try.func20, Try.ntmps20
  go_wp2_with fail
  refine (ring_len base g M _ L _ HG.out).mono ?_
  rintro e w' ⟨rfl, rfl⟩
  rw [HLM.out]
  go_wp2_with fail
  go_loopg [3, 4, 7] m (fun q v i4 i7 wr => ∃ k : Nat, q = m - k ∧ k ≤ m ∧ i7 = .int .i64 k ∧ ∃ A c, v = .slice A k c ∧ Hid (wr.ownsRow w.heap.size 3 1 (.slice A k c) k (iv (L.take k))) ∧ Hid (Only (fun _ => False) w wr))
  case atStart => exact ⟨0, rfl, by omega, rfl, none, 0, rfl, Lib.hid (by rw [List.take_zero]; exact World.ownsRow_nil _ _ _ _), Lib.hid (Only.refl _ _)⟩
  case round =>
    obtain ⟨k, rfl, hk, rfl, A, c, rfl, hown, hor⟩ := hrel
    by_cases hlt : k < m
    · have hbr := hor.out.blk HB.out (fun h => h)
      have hor1 := hor.out.own HO.out (fun _ _ h => h)
      obtain ⟨j, hj⟩ : ∃ j, j = (h + k) % S := ⟨_, rfl⟩
      have hjS : j < S := by rw [hj]; exact Nat.mod_lt _ (by omega)
      have e1 : wr.cell? ⟨g, 1, none⟩ = some (.slice (some ⟨b, 0, none⟩) S S) := by rw [hbr.cell]; rfl
      have d1 : wr.cell? ⟨b, j, none⟩ = some (.int .i64 (L.getD k 0)) := by rw [hor1.cellAt j (by have := HSL.out; omega), iv_get (by have := HSL.out; omega), hj, HW.out k hlt]
      have SL : Hid (∀ V, Only (fun _ => False) wr V → Calls Try.prog 34 #[.pointer (some ⟨g, 0, none⟩), .int .i64 (k : Int)] V fun e w' => e = .returned (.int .i64 (j : Int)) ∧ ∃ q, w' = V.drewN q) := Lib.hid (fun V hV => by rw [hj]; exact ring_slot g b S h k _ _ V (hV.blk hbr (fun h => h)) hh (by omega) (by omega))
      generalize hlv : L.getD k 0 = lv at *
      have HLV := Lib.hid hlv
      have hsz := hor.out.size
      have KO : ∀ q, Hid (((wr.drewN q).alloc (.cells #[.int .i64 lv] 3)).ownsRow w.heap.size 3 1 (.slice A k c) k (iv (L.take k))) := fun q => Lib.hid ((((Only.refl (fun _ => False) wr).drewN q).alloc _).own hown.out (fun _ _ h => h))
      have KR : ∀ q, Hid (Reads ((wr.drewN q).alloc (.cells #[.int .i64 lv] 3)) ((wr.drewN q).alloc (.cells #[.int .i64 lv] 3)).heap.size 1 (some ⟨wr.heap.size, 0, none⟩) 1 (iv [lv])) := fun q => Lib.hid (Reads.of_own (base := 0) (e := 3) (c := 1) (World.ownsRow_lit (size := 1) (e := 3) (wr.drewN q) #[.int .i64 lv] 1 (Nat.zero_le _) (by simp [maxLen]) rfl))
      have KZ : ∀ q, Hid (w.heap.size ≤ ((wr.drewN q).alloc (.cells #[.int .i64 lv] 3)).heap.size) := fun q => Lib.hid (by have h := (((Only.refl (fun _ => False) wr).drewN q).alloc (.cells #[.int .i64 lv] 3)).size; omega)
      have HKO := Lib.hid KO
      have HKR := Lib.hid KR
      have HKZ := Lib.hid KZ
      have HE1 := Lib.hid e1
      have HD1 := Lib.hid d1
      clear hj hbr hor1 hlv KO KR KZ
      go_wp2_with fail
      go_upto_region 6 with fail
      go_region_held3 (fun w' => w'.cell? ⟨g, 1, none⟩ = some (.slice (some ⟨b, 0, none⟩) S S) ∧ w'.cell? ⟨b, j, none⟩ = some (.int .i64 lv)) (first | exact ⟨e1, d1⟩ | exact ⟨q1, q2⟩ | ((repeat' apply And.intro) <;> first | (go_keep; done) | (go_simp; done))) (first
        | (go_at_call 34; ((with_reducible refine (SL.out _ (by first | exact (Only.refl _ _).drew | exact (Only.refl _ _).drewN _)).mono ?_); rintro e wx ⟨rfl, q, rfl⟩))
        | (refine step_append_any _ rfl (.tmp 10) (.tmp 20) _ rfl w.heap.size 3 i0 _ 1 8 Try.underlying28 hi0 hz0 hz1 hz2 rfl (by omega) (.slice A k c) k (iv (L.take k)) rfl (HKO.out _).out _ _ 1 1 (iv [lv]) rfl (HKR.out _).out iv_one (by simp only [maxLen]; omega) (by omega) (HKZ.out _).out ?_
           intro v1 w1 hown1 hg1 hat1
           obtain ⟨A2, c2, rfl, hr2⟩ := own_slice hown1
           clear hr2
           have hO2 := (((Only.refl (fun i => w.heap.size ≤ i) wr).drewN _).alloc _).trans (Only.of_grown (S := fun i => w.heap.size ≤ i) hg1 (fun i hi => (hown.out.lt i hi.symm).1)) (fun _ _ h => h)
           have hB2 : Below w.heap.size wr w1 := hO2.below hsz (fun i hi h => by omega)
           have q1 := (hB2.cell (p := ⟨g, 1, none⟩) hgl).trans HE1.out
           have q2 := (hB2.cell (p := ⟨b, j, none⟩) hbl).trans HD1.out
           have q3 := Lib.hid hown1
           have q4 := Lib.hid hB2
           clear hown1 hg1 hat1 hO2 hB2))
      go_wp2_with fail
      go_roundg (m - (k + 1))
      case measure => omega
      case rel =>
        refine ⟨k + 1, rfl, by omega, by go_num, A2, c2, rfl, Lib.hid ?_, Lib.hid ?_⟩
        · have e : L.take (k + 1) = L.take k ++ [lv] := by
            have := HL.out
            rw [List.take_succ_eq_append_getElem (by omega), ← HLV.out, List.getD_eq_getElem?_getD, List.getElem?_eq_getElem (by omega)]
            rfl
          rw [e, ← iv_append]
          exact q3.out
        · exact ⟨q4.out.os.trans hor.out.os, q4.out.tape.trans hor.out.tape, q4.out.output.trans hor.out.output, Nat.le_trans hor.out.size q4.out.size, fun i hi hn => (q4.out.block i hi).trans (hor.out.block i hi hn)⟩
    · obtain rfl : k = m := by omega
      go_wp2_with fail
      go_ret
      refine ⟨.slice A k c, rfl, ?_, hor.out⟩
      unfold Fresh
      have h := hown.out
      have e := HL.out
      rw [List.take_of_length_le (by omega)] at h
      rw [e]
      exact h
set_option maxHeartbeats 2000000 in
theorem all_empty (base g : Nat) (most : Int) (x : Value) (w : World) (hg : Rg w base g most x []) :
    Calls Try.prog 20 #[.pointer (some ⟨g, 0, none⟩)] w fun e w' => e = .returned (.slice none 0 0) ∧ w = w' := by
  have HG := Lib.hid hg
  clear hg
  go_enter Try.func20, Try.ntmps20
  go_wp2_with fail
  refine (ring_len base g most x [] _ HG.out).mono ?_
  rintro e w' ⟨rfl, rfl⟩
  go_wp2_with fail
  go_loop [3, 7] (fun v i => v = .slice none 0 0 ∧ i = .int .i64 0) (fun _ _ => 0)
  case atStart => exact ⟨rfl, rfl⟩
  case round =>
    obtain ⟨rfl, rfl⟩ := hrel
    go_wp2_with fail
    go_ret
    exact ⟨rfl, rfl⟩
theorem ring_all (base g : Nat) (most : Int) (x : Value) (L : List Int) (w : World) (hg : Rg w base g most x L) :
    Calls Try.prog 20 #[.pointer (some ⟨g, 0, none⟩)] w fun e w' => ∃ v, e = .returned v ∧ Fresh w w' v L ∧ Only (fun _ => False) w w' := by
  have hg0 := hg
  obtain ⟨y1, y2, y3, hg⟩ := hg
  rcases hg with ⟨_, rfl, h2⟩ | ⟨b, S, h, sl, rfl, hb, ho, hh, hl, hS, hw⟩
  · refine (all_empty base g most x w hg0).mono fun e w' H => ?_
    obtain ⟨rfl, rfl⟩ := H
    exact ⟨_, rfl, World.ownsRow_nil _ _ _ _, Only.refl _ _⟩
  · exact all_walk base g b S h L.length most sl L w hg0 hb ho hh hl (by omega) hw rfl
end Go.Proofs.Ytmomafhpbbmiaaa
