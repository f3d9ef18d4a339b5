/- A queue that is bounded (layer 11): grow. -/
import Derived.Test.YtmomafhpbbmiaaaR3
set_option linter.unusedVariables false
namespace Go.Proofs.Ytmomafhpbbmiaaa
open Go.ChangeShapes Go.WideShapes Go.ChangeAt Go.RowKit
theorem make_ints (M : Nat) (h : M ≤ 1000000) (W : World) : (Instr.makeSlice 28 (.int .i64 (M : Int)) (.int .i64 (M : Int))).run Try.prog W = .ok (.slice (some ⟨W.heap.size, 0, none⟩) M M) (W.alloc (.cells (madeCells #[.int .i64 0] M) 3)) :=
  run_make_row' 28 3 (.int .i64 0) 8 Try.underlying28 int_info rfl .i64 .i64 M (by omega) (by omega) W
theorem own_made (W : World) (base M : Nat) (h : M ≤ 1000000) (hb : base ≤ W.heap.size) : (W.alloc (.cells (madeCells #[.int .i64 0] M) 3)).ownsRow base 3 1 (.slice (some ⟨W.heap.size, 0, none⟩) M M) M (iv (List.replicate M 0)) := by
  have h1 := World.ownsRow_lit (size := 1) (e := 3) W (madeCells #[.int .i64 0] M) M hb (by simp only [maxLen]; omega) (by simp [madeCells])
  have h2 : (madeCells #[Value.int .i64 0] M).toList = iv (List.replicate M 0) := by rw [toList_madeCells_one]; simp [iv]
  rw [h2] at h1
  exact h1
theorem take_set (L : List Int) (k s : Nat) (hk : k < L.length) (hs : L.length ≤ s) : (L.take k ++ List.replicate (s - k) 0).set k (L.getD k 0) = L.take (k + 1) ++ List.replicate (s - (k + 1)) 0 := by
  have l1 : (L.take k).length = k := by rw [List.length_take]; omega
  rw [List.set_append_right _ _ (by omega), l1, Nat.sub_self]
  have e1 : s - k = (s - (k + 1)) + 1 := by omega
  rw [e1, List.replicate_succ, List.set_cons_zero, List.take_add_one, List.append_assoc]
  congr 1
  rw [List.getElem?_eq_getElem hk, List.getD_eq_getElem?_getD, List.getElem?_eq_getElem hk]
  rfl
/-- the slots that a queue had -/
def Old (w : World) (base g h m : Nat) (x : Value) (L : List Int) : Prop :=
  (m = 0 ∧ h = 0 ∧ x = .slice none 0 0) ∨ ∃ b sl, x = .slice (some ⟨b, 0, none⟩) m m ∧ w.ownsRow base 3 1 x m (iv sl) ∧ h < m ∧ ∀ i, i < m → sl.getD ((h + i) % m) 0 = L.getD i 0
def GrowP (w : World) (base g m M s' : Nat) (L : List Int) (e : Ending) (w' : World) : Prop :=
  e = .returned (.tuple #[]) ∧ ∃ b', Blk w' g 59 #[.int .i64 (M : Int), .slice (some ⟨b', 0, none⟩) s' s', .int .i64 0, .int .i64 (m : Nat)] ∧ w'.ownsRow base 3 1 (.slice (some ⟨b', 0, none⟩) s' s') s' (iv (L ++ List.replicate (s' - m) 0)) ∧ w.heap.size ≤ b' ∧ Only (fun q => q = g) w w'
set_option maxRecDepth 100000 in
set_option maxHeartbeats 4000000 in
theorem grow_a (base g h m M s' : Nat) (x : Value) (L : List Int) (w : World) (hb : Blk w g 59 #[.int .i64 (M : Int), x, .int .i64 h, .int .i64 (m : Nat)]) (hx : Old w base g h m x L) (hL : L.length = m) (hM : m < M) (hM2 : M ≤ 65536) (hbase : base ≤ w.heap.size) (hs1 : 2 * m + 1 < M) (hs2 : s' = 2 * m + 1) :
    Calls Try.prog 36 #[.pointer (some ⟨g, 0, none⟩)] w (GrowP w base g m M s' L) := by
  have c0 : w.cell? ⟨g, 0, none⟩ = some (.int .i64 (M : Int)) := by rw [hb.cell]; rfl
  have c1 : w.cell? ⟨g, 1, none⟩ = some x := by rw [hb.cell]; rfl
  have c3 : w.cell? ⟨g, 3, none⟩ = some (.int .i64 (m : Nat)) := by rw [hb.cell]; rfl
  have hgl := hb.lt
  have hss : m < s' ∧ s' ≤ 65536 := by omega
  have t1 : IntKind.i64.wrap (2 * (m : Int)) = 2 * (m : Int) := IntWalk.i64_in _ (by omega)
  have t2 : IntKind.i64.wrap (2 * (m : Int) + 1) = ((s' : Nat) : Int) := by rw [IntWalk.i64_in _ (by omega)]; omega
  have t3 : decide (((s' : Nat) : Int) < (M : Int)) = true := by simp; omega
  have t4 : s' < M := by omega
  have hmk := make_ints s' (by omega)
  have hsz : ((w.alloc (.cells (madeCells #[.int .i64 0] s') 3)).drew).heap.size = w.heap.size + 1 := by simp
  have N0 : Hid (((w.alloc (.cells (madeCells #[.int .i64 0] s') 3)).drew).ownsRow base 3 1 (.slice (some ⟨w.heap.size, 0, none⟩) s' s') s' (iv (L.take 0 ++ List.replicate (s' - 0) 0))) := Lib.hid (by
    rw [List.take_zero, List.nil_append, Nat.sub_zero]
    exact (Only.refl (fun _ => False) _).drew.own (own_made w base s' (by omega) hbase) (fun _ _ h => h))
  have O0 : Hid (Only (fun _ => False) w ((w.alloc (.cells (madeCells #[.int .i64 0] s') 3)).drew)) := Lib.hid (((Only.refl _ w).alloc _).drew)
  have HB := Lib.hid hb
  have HX := Lib.hid hx
  have HL := Lib.hid hL
  clear hb hx hL hs2 hs1
  go_enter Try.func36, Try.ntmps36
  go_upto_region 1 with fail
  go_region
  obtain ⟨W1, hW1⟩ : ∃ W1, W1 = (w.alloc (.cells (madeCells #[.int .i64 0] s') 3)).drew := ⟨_, rfl⟩
  rw [← hW1] at N0 O0 hsz ⊢
  have HZ := Lib.hid hsz
  clear hW1 hsz
  have d3 : W1.cell? ⟨g, 3, none⟩ = some (.int .i64 (m : Nat)) := by rw [(O0.out.blk HB.out (fun h => h)).cell]; rfl
  clear c0 c1 c3 hmk t1 t2 t3 t4
  go_wp2_with fail
  go_loopg [3, 20] m (fun q i3 i20 wr => ∃ k : Nat, q = m - k ∧ k ≤ m ∧ i20 = .int .i64 k ∧ Hid (wr.ownsRow base 3 1 (.slice (some ⟨w.heap.size, 0, none⟩) s' s') s' (iv (L.take k ++ List.replicate (s' - k) 0))) ∧ Hid (Only (fun _ => False) w wr) ∧ Hid (w.heap.size < wr.heap.size))
  case atStart => exact ⟨0, rfl, by omega, rfl, N0, O0, Lib.hid (by have := HZ.out; omega)⟩
  case round =>
    obtain ⟨k, rfl, hk, rfl, hn, ho, hz⟩ := hrel
    have HBr := Lib.hid (ho.out.blk HB.out (fun h => h))
    have e1 : wr.cell? ⟨g, 1, none⟩ = some x := by rw [HBr.out.cell]; rfl
    have e2 : wr.frozen? ⟨g, 1, none⟩ = false := HBr.out.frozen 1
    have e3 : wr.cell? ⟨g, 2, none⟩ = some (.int .i64 h) := by rw [HBr.out.cell]; rfl
    have e4 : wr.frozen? ⟨g, 2, none⟩ = false := HBr.out.frozen 2
    by_cases hlt : k < m
    · rcases HX.out with ⟨h0, -, -⟩ | ⟨b, sl, rfl, ho1, hh, hw⟩
      · omega
      have hlen : (L.take k ++ List.replicate (s' - k) 0).length = s' := by have := HL.out; rw [List.length_append, List.length_take, List.length_replicate]; omega
      have hsl : sl.length = m := by have := ho1.1; simpa [iv] using this
      have hbl := (ho1.lt b rfl).2
      have ho2 := ho.out.own ho1 (fun _ _ h => h)
      obtain ⟨j, hj⟩ : ∃ j, j = (h + k) % m := ⟨_, rfl⟩
      have hjm : j < m := by rw [hj]; exact Nat.mod_lt _ (by omega)
      have d1 : wr.cell? ⟨b, j, none⟩ = some (.int .i64 (L.getD k 0)) := by rw [ho2.cellAt j (by omega), iv_get (by omega), hj, hw k hlt]
      have d2 : wr.cell? ⟨w.heap.size, k, none⟩ = some (.int .i64 ((L.take k ++ List.replicate (s' - k) 0).getD k 0)) := by rw [hn.out.cellAt k (by omega), iv_get (by omega)]
      generalize (L.take k ++ List.replicate (s' - k) 0).getD k 0 = u at *
      have d3 : wr.frozen? ⟨w.heap.size, k, none⟩ = false := hn.out.frozenAt k
      have n1 : ¬ b = w.heap.size := by omega
      have n2 : ¬ g = w.heap.size := by omega
      have i1 : k < s' := by omega
      have SL : Hid (∀ W, Only (fun _ => False) wr W → Calls Try.prog 34 #[.pointer (some ⟨g, 0, none⟩), .int .i64 k] W fun e w' => e = .returned (.int .i64 (j : Int)) ∧ ∃ q, w' = W.drewN q) := Lib.hid (fun W hW => by rw [hj]; exact ring_slot g b m h k _ _ W (hW.blk HBr.out (fun h => h)) hh (by omega) (by omega))
      have HLk := Lib.hid hlen
      have HJ := Lib.hid hj
      have hLk : L.getD k 0 = L.getD k 0 := rfl
      generalize hLv : L.getD k 0 = lv at *
      have HLv := Lib.hid hLv
      clear hLv hLk hlen hj ho1 ho2 hw hsl e2 e3 e4
      go_upto_region 5 with fail
      go_region_held3 (fun w' => w'.cell? ⟨g, 1, none⟩ = some (.slice (some ⟨b, 0, none⟩) m m) ∧ w'.cell? ⟨b, j, none⟩ = some (.int .i64 lv)) (first | exact ⟨e1, d1⟩ | ((repeat' apply And.intro) <;> first | (go_keep; done) | (go_simp; done))) (first | (go_at_call 34; ((with_reducible refine (SL.out _ ((Only.refl _ _).drew)).mono ?_); rintro e wx ⟨rfl, q, rfl⟩)))
      go_wp2_with fail
      go_roundg (m - (k + 1))
      case measure => omega
      case rel =>
        refine ⟨k + 1, rfl, by omega, by go_num, Lib.hid ?_, Lib.hid ((ho.out.drewN _).setCell (p := ⟨w.heap.size, k, none⟩) (.inl (Nat.le_refl _)) _), Lib.hid (by have := hz.out; simpa [World.setCell] using this)⟩
        obtain ⟨o1, -⟩ := ((Only.refl (fun _ => False) wr).drewN (1 + q)).own hn.out (fun _ _ h => h) |>.stored k (.int .i64 lv)
        have e : (iv (L.take k ++ List.replicate (s' - k) 0)).set k (.int .i64 lv) = iv (L.take (k + 1) ++ List.replicate (s' - (k + 1)) 0) := by
          rw [← take_set L k s' (by have := HL.out; omega) (by have := HL.out; omega), HLv.out]
          simp [iv, List.map_set]
        rw [e] at o1
        exact o1
    · obtain rfl : k = m := by omega
      clear e1
      have e1 : wr.cell? ⟨g, 1, none⟩ = some x := by rw [HBr.out.cell]; rfl
      have HBm := HBr
      go_wp2_with fail
      go_end0
      have hG : Only (fun q => q = g) wr ((wr.setCell ⟨g, 1, none⟩ (.slice (some ⟨w.heap.size, 0, none⟩) s' s')).setCell ⟨g, 2, none⟩ (.int .i64 0)) := ((Only.refl (fun q => q = g) wr).setCell (p := ⟨g, 1, none⟩) (.inr rfl) _).setCell (p := ⟨g, 2, none⟩) (.inr rfl) _
      have hn' := hn.out
      rw [← HL.out, List.take_length] at hn'
      refine ⟨rfl, w.heap.size, (HBr.out.set_ 1 _).set_ 2 _, ?_, Nat.le_refl _, (ho.out.mono (fun _ _ h => h.elim)).trans hG (fun _ _ h => h)⟩
      rw [← HL.out]
      exact hG.own hn' (fun q hq e => by cases hq; exact absurd (show w.heap.size = g from e) (by omega))
set_option maxRecDepth 100000 in
set_option maxHeartbeats 4000000 in
theorem grow_b (base g h m M : Nat) (x : Value) (L : List Int) (w : World) (hb : Blk w g 59 #[.int .i64 (M : Int), x, .int .i64 h, .int .i64 (m : Nat)]) (hx : Old w base g h m x L) (hL : L.length = m) (hM : m < M) (hM2 : M ≤ 65536) (hbase : base ≤ w.heap.size) (hs1 : M ≤ 2 * m + 1) :
    Calls Try.prog 36 #[.pointer (some ⟨g, 0, none⟩)] w (GrowP w base g m M M L) := by
  have c0 : w.cell? ⟨g, 0, none⟩ = some (.int .i64 (M : Int)) := by rw [hb.cell]; rfl
  have c1 : w.cell? ⟨g, 1, none⟩ = some x := by rw [hb.cell]; rfl
  have c3 : w.cell? ⟨g, 3, none⟩ = some (.int .i64 (m : Nat)) := by rw [hb.cell]; rfl
  have hgl := hb.lt
  have hss : m < M ∧ M ≤ 65536 := by omega
  have t1 : IntKind.i64.wrap (2 * (m : Int)) = 2 * (m : Int) := IntWalk.i64_in _ (by omega)
  have t2 : IntKind.i64.wrap (2 * (m : Int) + 1) = 2 * (m : Int) + 1 := by rw [IntWalk.i64_in _ (by omega)]
  have t3 : decide (2 * (m : Int) + 1 < (M : Int)) = false := by simp; omega
  have t4 : ¬ (2 * (m : Int) + 1 < (M : Int)) := by omega
  have hmk := make_ints M (by omega)
  have hsz : ((w.alloc (.cells (madeCells #[.int .i64 0] M) 3)).drew).heap.size = w.heap.size + 1 := by simp
  have N0 : Hid (((w.alloc (.cells (madeCells #[.int .i64 0] M) 3)).drew).ownsRow base 3 1 (.slice (some ⟨w.heap.size, 0, none⟩) M M) M (iv (L.take 0 ++ List.replicate (M - 0) 0))) := Lib.hid (by
    rw [List.take_zero, List.nil_append, Nat.sub_zero]
    exact (Only.refl (fun _ => False) _).drew.own (own_made w base M (by omega) hbase) (fun _ _ h => h))
  have O0 : Hid (Only (fun _ => False) w ((w.alloc (.cells (madeCells #[.int .i64 0] M) 3)).drew)) := Lib.hid (((Only.refl _ w).alloc _).drew)
  have HB := Lib.hid hb
  have HX := Lib.hid hx
  have HL := Lib.hid hL
  clear hb hx hL hs1
  go_enter Try.func36, Try.ntmps36
  go_upto_region 1 with fail
  go_region
  obtain ⟨W1, hW1⟩ : ∃ W1, W1 = (w.alloc (.cells (madeCells #[.int .i64 0] M) 3)).drew := ⟨_, rfl⟩
  rw [← hW1] at N0 O0 hsz ⊢
  have HZ := Lib.hid hsz
  clear hW1 hsz
  have d3 : W1.cell? ⟨g, 3, none⟩ = some (.int .i64 (m : Nat)) := by rw [(O0.out.blk HB.out (fun h => h)).cell]; rfl
  clear c0 c1 c3 hmk t1 t2 t3 t4
  go_wp2_with fail
  go_loopg [3, 20] m (fun q i3 i20 wr => ∃ k : Nat, q = m - k ∧ k ≤ m ∧ i20 = .int .i64 k ∧ Hid (wr.ownsRow base 3 1 (.slice (some ⟨w.heap.size, 0, none⟩) M M) M (iv (L.take k ++ List.replicate (M - k) 0))) ∧ Hid (Only (fun _ => False) w wr) ∧ Hid (w.heap.size < wr.heap.size))
  case atStart => exact ⟨0, rfl, by omega, rfl, N0, O0, Lib.hid (by have := HZ.out; omega)⟩
  case round =>
    obtain ⟨k, rfl, hk, rfl, hn, ho, hz⟩ := hrel
    have HBr := Lib.hid (ho.out.blk HB.out (fun h => h))
    have e1 : wr.cell? ⟨g, 1, none⟩ = some x := by rw [HBr.out.cell]; rfl
    have e2 : wr.frozen? ⟨g, 1, none⟩ = false := HBr.out.frozen 1
    have e3 : wr.cell? ⟨g, 2, none⟩ = some (.int .i64 h) := by rw [HBr.out.cell]; rfl
    have e4 : wr.frozen? ⟨g, 2, none⟩ = false := HBr.out.frozen 2
    by_cases hlt : k < m
    · rcases HX.out with ⟨h0, -, -⟩ | ⟨b, sl, rfl, ho1, hh, hw⟩
      · omega
      have hlen : (L.take k ++ List.replicate (M - k) 0).length = M := by have := HL.out; rw [List.length_append, List.length_take, List.length_replicate]; omega
      have hsl : sl.length = m := by have := ho1.1; simpa [iv] using this
      have hbl := (ho1.lt b rfl).2
      have ho2 := ho.out.own ho1 (fun _ _ h => h)
      obtain ⟨j, hj⟩ : ∃ j, j = (h + k) % m := ⟨_, rfl⟩
      have hjm : j < m := by rw [hj]; exact Nat.mod_lt _ (by omega)
      have d1 : wr.cell? ⟨b, j, none⟩ = some (.int .i64 (L.getD k 0)) := by rw [ho2.cellAt j (by omega), iv_get (by omega), hj, hw k hlt]
      have d2 : wr.cell? ⟨w.heap.size, k, none⟩ = some (.int .i64 ((L.take k ++ List.replicate (M - k) 0).getD k 0)) := by rw [hn.out.cellAt k (by omega), iv_get (by omega)]
      generalize (L.take k ++ List.replicate (M - k) 0).getD k 0 = u at *
      have d3 : wr.frozen? ⟨w.heap.size, k, none⟩ = false := hn.out.frozenAt k
      have n1 : ¬ b = w.heap.size := by omega
      have n2 : ¬ g = w.heap.size := by omega
      have i1 : k < M := by omega
      have SL : Hid (∀ W, Only (fun _ => False) wr W → Calls Try.prog 34 #[.pointer (some ⟨g, 0, none⟩), .int .i64 k] W fun e w' => e = .returned (.int .i64 (j : Int)) ∧ ∃ q, w' = W.drewN q) := Lib.hid (fun W hW => by rw [hj]; exact ring_slot g b m h k _ _ W (hW.blk HBr.out (fun h => h)) hh (by omega) (by omega))
      have HLk := Lib.hid hlen
      have HJ := Lib.hid hj
      have hLk : L.getD k 0 = L.getD k 0 := rfl
      generalize hLv : L.getD k 0 = lv at *
      have HLv := Lib.hid hLv
      clear hLv hLk hlen hj ho1 ho2 hw hsl e2 e3 e4
      go_upto_region 5 with fail
      go_region_held3 (fun w' => w'.cell? ⟨g, 1, none⟩ = some (.slice (some ⟨b, 0, none⟩) m m) ∧ w'.cell? ⟨b, j, none⟩ = some (.int .i64 lv)) (first | exact ⟨e1, d1⟩ | ((repeat' apply And.intro) <;> first | (go_keep; done) | (go_simp; done))) (first | (go_at_call 34; ((with_reducible refine (SL.out _ ((Only.refl _ _).drew)).mono ?_); rintro e wx ⟨rfl, q, rfl⟩)))
      go_wp2_with fail
      go_roundg (m - (k + 1))
      case measure => omega
      case rel =>
        refine ⟨k + 1, rfl, by omega, by go_num, Lib.hid ?_, Lib.hid ((ho.out.drewN _).setCell (p := ⟨w.heap.size, k, none⟩) (.inl (Nat.le_refl _)) _), Lib.hid (by have := hz.out; simpa [World.setCell] using this)⟩
        obtain ⟨o1, -⟩ := ((Only.refl (fun _ => False) wr).drewN (1 + q)).own hn.out (fun _ _ h => h) |>.stored k (.int .i64 lv)
        have e : (iv (L.take k ++ List.replicate (M - k) 0)).set k (.int .i64 lv) = iv (L.take (k + 1) ++ List.replicate (M - (k + 1)) 0) := by
          rw [← take_set L k M (by have := HL.out; omega) (by have := HL.out; omega), HLv.out]
          simp [iv, List.map_set]
        rw [e] at o1
        exact o1
    · obtain rfl : k = m := by omega
      clear e1
      have e1 : wr.cell? ⟨g, 1, none⟩ = some x := by rw [HBr.out.cell]; rfl
      have HBm := HBr
      go_wp2_with fail
      go_end0
      have hG : Only (fun q => q = g) wr ((wr.setCell ⟨g, 1, none⟩ (.slice (some ⟨w.heap.size, 0, none⟩) M M)).setCell ⟨g, 2, none⟩ (.int .i64 0)) := ((Only.refl (fun q => q = g) wr).setCell (p := ⟨g, 1, none⟩) (.inr rfl) _).setCell (p := ⟨g, 2, none⟩) (.inr rfl) _
      have hn' := hn.out
      rw [← HL.out, List.take_length] at hn'
      refine ⟨rfl, w.heap.size, (HBr.out.set_ 1 _).set_ 2 _, ?_, Nat.le_refl _, (ho.out.mono (fun _ _ h => h.elim)).trans hG (fun _ _ h => h)⟩
      rw [← HL.out]
      exact hG.own hn' (fun q hq e => by cases hq; exact absurd (show w.heap.size = g from e) (by omega))
theorem ring_grow (base g h m M : Nat) (x : Value) (L : List Int) (w : World) (hb : Blk w g 59 #[.int .i64 (M : Int), x, .int .i64 h, .int .i64 (m : Nat)]) (hx : Old w base g h m x L) (hL : L.length = m) (hM : m < M) (hM2 : M ≤ 65536) (hbase : base ≤ w.heap.size) :
    ∃ s', m < s' ∧ s' ≤ M ∧ Calls Try.prog 36 #[.pointer (some ⟨g, 0, none⟩)] w (GrowP w base g m M s' L) := by
  by_cases hs : 2 * m + 1 < M
  · exact ⟨2 * m + 1, by omega, by omega, grow_a base g h m M (2 * m + 1) x L w hb hx hL hM hM2 hbase hs rfl⟩
  · exact ⟨M, by omega, by omega, grow_b base g h m M x L w hb hx hL hM hM2 hbase (by omega)⟩
end Go.Proofs.Ytmomafhpbbmiaaa
